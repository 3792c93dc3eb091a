import PyProof.Rows.All
import Wide.All
import OpenK.AllK
import Wide.FinOn
import Open.SpecLaws
import KE.OsGo
import HandS.ForSpec
import HandS.Comp
import HandS.Dict
import HandS.Iter
import HandS.Zip
import HandS.Evl
import HandS.Rev
import HandS.RevTup
import KE.KDictList
import HandS.Text
import PyProof.MaxThree
import PySem.Challenge.RW_sureline_s01_answers
/-! ## Hd -/
set_option Elab.async false
set_option linter.all false
set_option maxRecDepth 100000
set_option maxHeartbeats 4000000
namespace Sl
open PySem PySem.Spec PyProof.Rows L2
def topS (i : Nat) : Stmt := PySem.Challenge.pw_sureline_s01_answers.main.body.getD i (.Pass ⟨0, 0, 0, 0⟩)
abbrev s_doubled : Stmt := topS 3
theorem sc_doubled : FnScope ["octet", "twice"] ["octet"] (defScope s_doubled) := ⟨rfl, rfl, rfl, by decide +kernel, rfl, by decide +kernel, by decide +kernel⟩
abbrev s_product_of : Stmt := topS 4
theorem sc_product_of : FnScope ["a", "b", "total", "shifted", "rest"] ["a", "b"] (defScope s_product_of) := ⟨rfl, rfl, rfl, by decide +kernel, rfl, by decide +kernel, by decide +kernel⟩
abbrev s_Field_init : Stmt := inClass (topS 5) 0
theorem sc_Field_init : FnScope ["self", "octet", "exponent"] ["self"] (defScope s_Field_init) := ⟨rfl, rfl, rfl, by decide +kernel, rfl, by decide +kernel, by decide +kernel⟩
abbrev s_Field_power : Stmt := inClass (topS 5) 1
theorem sc_Field_power : FnScope ["self", "exponent"] ["self", "exponent"] (defScope s_Field_power) := ⟨rfl, rfl, rfl, by decide +kernel, rfl, by decide +kernel, by decide +kernel⟩
abbrev s_Field_product : Stmt := inClass (topS 5) 2
theorem sc_Field_product : FnScope ["self", "a", "b"] ["self", "a", "b"] (defScope s_Field_product) := ⟨rfl, rfl, rfl, by decide +kernel, rfl, by decide +kernel, by decide +kernel⟩
abbrev s_Field_quotient : Stmt := inClass (topS 5) 3
theorem sc_Field_quotient : FnScope ["self", "a", "b"] ["self", "a", "b"] (defScope s_Field_quotient) := ⟨rfl, rfl, rfl, by decide +kernel, rfl, by decide +kernel, by decide +kernel⟩
abbrev s_Field_scaled : Stmt := inClass (topS 5) 4
theorem sc_Field_scaled : FnScope ["self", "row", "factor", "exponent", "octet"] ["self", "row", "factor"] (defScope s_Field_scaled) := ⟨rfl, rfl, rfl, by decide +kernel, rfl, by decide +kernel, by decide +kernel⟩
abbrev s_Field_value_at : Stmt := inClass (topS 5) 5
theorem sc_Field_value_at : FnScope ["self", "row", "point", "value", "octet"] ["self", "row", "point"] (defScope s_Field_value_at) := ⟨rfl, rfl, rfl, by decide +kernel, rfl, by decide +kernel, by decide +kernel⟩
abbrev s_added : Stmt := topS 10
theorem sc_added : FnScope ["a", "b", "x", "y"] ["a", "b"] (defScope s_added) := ⟨rfl, rfl, rfl, by decide +kernel, rfl, by decide +kernel, by decide +kernel⟩
abbrev s_padded : Stmt := topS 11
theorem sc_padded : FnScope ["row", "size"] ["row", "size"] (defScope s_padded) := ⟨rfl, rfl, rfl, by decide +kernel, rfl, by decide +kernel, by decide +kernel⟩
abbrev s_divisor_of : Stmt := topS 12
theorem sc_divisor_of : FnScope ["field", "divisor", "exponent"] ["field"] (defScope s_divisor_of) := ⟨rfl, rfl, rfl, by decide +kernel, rfl, by decide +kernel, by decide +kernel⟩
abbrev s_lack_at : Stmt := topS 13
theorem sc_lack_at : FnScope ["field", "locator", "syndromes", "at", "lack", "i"] ["field", "locator", "syndromes", "at"] (defScope s_lack_at) := ⟨rfl, rfl, rfl, by decide +kernel, rfl, by decide +kernel, by decide +kernel⟩
abbrev s_locator_of : Stmt := topS 14
theorem sc_locator_of : FnScope ["field", "syndromes", "locator", "length", "earlier", "earlier_lack", "gap", "at", "lack", "change", "size", "better"] ["field", "syndromes"] (defScope s_locator_of) := ⟨rfl, rfl, rfl, by decide +kernel, rfl, by decide +kernel, by decide +kernel⟩
abbrev s_places_of : Stmt := topS 15
theorem sc_places_of : FnScope ["field", "locator", "size", "highest_first", "place"] ["field", "locator", "size"] (defScope s_places_of) := ⟨rfl, rfl, rfl, by decide +kernel, rfl, by decide +kernel, by decide +kernel⟩
abbrev s_errors_of : Stmt := topS 16
theorem sc_errors_of : FnScope ["field", "locator", "syndromes", "places", "evaluator", "derivative", "errors", "place", "point", "ratio", "at", "i"] ["field", "locator", "syndromes", "places"] (defScope s_errors_of) := ⟨rfl, rfl, rfl, by decide +kernel, rfl, by decide +kernel, by decide +kernel⟩
abbrev s_Code_init : Stmt := inClass (topS 17) 0
theorem sc_Code_init : FnScope ["self"] ["self"] (defScope s_Code_init) := ⟨rfl, rfl, rfl, by decide +kernel, rfl, by decide +kernel, by decide +kernel⟩
abbrev s_Code_parity_of : Stmt := inClass (topS 17) 1
theorem sc_Code_parity_of : FnScope ["self", "row", "rest", "octet"] ["self", "row"] (defScope s_Code_parity_of) := ⟨rfl, rfl, rfl, by decide +kernel, rfl, by decide +kernel, by decide +kernel⟩
abbrev s_Code_syndromes_of : Stmt := inClass (topS 17) 2
theorem sc_Code_syndromes_of : FnScope ["self", "row", "front", "difference", "exponent"] ["self", "row"] (defScope s_Code_syndromes_of) := ⟨rfl, rfl, rfl, by decide +kernel, rfl, by decide +kernel, by decide +kernel⟩
abbrev s_Code_mend_row : Stmt := inClass (topS 17) 3
theorem sc_Code_mend_row : FnScope ["self", "row", "syndromes", "found", "length", "locator", "places", "right", "errors", "place", "error"] ["self", "row"] (defScope s_Code_mend_row) := ⟨rfl, rfl, rfl, by decide +kernel, rfl, by decide +kernel, by decide +kernel⟩
abbrev s_crc_of : Stmt := topS 21
theorem sc_crc_of : FnScope ["octets", "crc", "octet", "bit"] ["octets"] (defScope s_crc_of) := ⟨rfl, rfl, rfl, by decide +kernel, rfl, by decide +kernel, by decide +kernel⟩
abbrev s_Packet_init : Stmt := inClass (topS 33) 0
theorem sc_Packet_init : FnScope ["self", "name", "kind", "number", "wanted", "room", "octets"] ["self", "name", "kind", "number", "wanted", "room", "octets"] (defScope s_Packet_init) := ⟨rfl, rfl, rfl, by decide +kernel, rfl, by decide +kernel, by decide +kernel⟩
abbrev s_lowest_first : Stmt := topS 34
theorem sc_lowest_first : FnScope ["value", "size", "octets", "rest", "place"] ["value", "size"] (defScope s_lowest_first) := ⟨rfl, rfl, rfl, by decide +kernel, rfl, by decide +kernel, by decide +kernel⟩
abbrev s_value_of : Stmt := topS 35
theorem sc_value_of : FnScope ["octets", "value", "octet"] ["octets"] (defScope s_value_of) := ⟨rfl, rfl, rfl, by decide +kernel, rfl, by decide +kernel, by decide +kernel⟩
abbrev s_row_of : Stmt := topS 36
theorem sc_row_of : FnScope ["code", "packet", "row"] ["code", "packet"] (defScope s_row_of) := ⟨rfl, rfl, rfl, by decide +kernel, rfl, by decide +kernel, by decide +kernel⟩
abbrev s_parted : Stmt := topS 37
theorem sc_parted : FnScope ["body"] ["body"] (defScope s_parted) := ⟨rfl, rfl, rfl, by decide +kernel, rfl, by decide +kernel, by decide +kernel⟩
abbrev s_kind_fits : Stmt := topS 38
theorem sc_kind_fits : FnScope ["packet"] ["packet"] (defScope s_kind_fits) := ⟨rfl, rfl, rfl, by decide +kernel, rfl, by decide +kernel, by decide +kernel⟩
abbrev s_packet_of : Stmt := topS 39
theorem sc_packet_of : FnScope ["code", "row", "mended", "front", "body", "packet"] ["code", "row"] (defScope s_packet_of) := ⟨rfl, rfl, rfl, by decide +kernel, rfl, by decide +kernel, by decide +kernel⟩
abbrev s_Receiving_init : Stmt := inClass (topS 43) 0
theorem sc_Receiving_init : FnScope ["self"] ["self"] (defScope s_Receiving_init) := ⟨rfl, rfl, rfl, by decide +kernel, rfl, by decide +kernel, by decide +kernel⟩
abbrev s_Receiving_room_left : Stmt := inClass (topS 43) 1
theorem sc_Receiving_room_left : FnScope ["self"] ["self"] (defScope s_Receiving_room_left) := ⟨rfl, rfl, rfl, by decide +kernel, rfl, by decide +kernel, by decide +kernel⟩
abbrev s_Receiving_accept : Stmt := inClass (topS 43) 2
theorem sc_Receiving_accept : FnScope ["self", "packet"] ["self", "packet"] (defScope s_Receiving_accept) := ⟨rfl, rfl, rfl, by decide +kernel, rfl, by decide +kernel, by decide +kernel⟩
abbrev s_Receiving_keep : Stmt := inClass (topS 43) 3
theorem sc_Receiving_keep : FnScope ["self", "packet", "behind"] ["self", "packet"] (defScope s_Receiving_keep) := ⟨rfl, rfl, rfl, by decide +kernel, rfl, by decide +kernel, by decide +kernel⟩
abbrev s_Receiving_note_end : Stmt := inClass (topS 43) 4
theorem sc_Receiving_note_end : FnScope ["self", "number"] ["self", "number"] (defScope s_Receiving_note_end) := ⟨rfl, rfl, rfl, by decide +kernel, rfl, by decide +kernel, by decide +kernel⟩
abbrev s_Receiving_bring_to_turn : Stmt := inClass (topS 43) 5
theorem sc_Receiving_bring_to_turn : FnScope ["self", "turns", "octets"] ["self"] (defScope s_Receiving_bring_to_turn) := ⟨rfl, rfl, rfl, by decide +kernel, rfl, by decide +kernel, by decide +kernel⟩
abbrev s_Receiving_take : Stmt := inClass (topS 43) 6
theorem sc_Receiving_take : FnScope ["self", "most", "taken"] ["self", "most"] (defScope s_Receiving_take) := ⟨rfl, rfl, rfl, by decide +kernel, rfl, by decide +kernel, by decide +kernel⟩
abbrev s_Receiving_is_short : Stmt := inClass (topS 43) 7
theorem sc_Receiving_is_short : FnScope ["self"] ["self"] (defScope s_Receiving_is_short) := ⟨rfl, rfl, rfl, by decide +kernel, rfl, by decide +kernel, by decide +kernel⟩
abbrev s_Piece_init : Stmt := inClass (topS 51) 0
theorem sc_Piece_init : FnScope ["self", "kind", "number", "size", "due"] ["self", "kind", "number", "size", "due"] (defScope s_Piece_init) := ⟨rfl, rfl, rfl, by decide +kernel, rfl, by decide +kernel, by decide +kernel⟩
abbrev s_wait_after : Stmt := topS 52
theorem sc_wait_after : FnScope ["times_sent", "wait", "doubling"] ["times_sent"] (defScope s_wait_after) := ⟨rfl, rfl, rfl, by decide +kernel, rfl, by decide +kernel, by decide +kernel⟩
abbrev s_Part_init : Stmt := inClass (topS 53) 0
theorem sc_Part_init : FnScope ["self", "kind", "number", "octets"] ["self", "kind", "number", "octets"] (defScope s_Part_init) := ⟨rfl, rfl, rfl, by decide +kernel, rfl, by decide +kernel, by decide +kernel⟩
abbrev s_Sending_init : Stmt := inClass (topS 54) 0
theorem sc_Sending_init : FnScope ["self"] ["self"] (defScope s_Sending_init) := ⟨rfl, rfl, rfl, by decide +kernel, rfl, by decide +kernel, by decide +kernel⟩
abbrev s_Sending_put : Stmt := inClass (topS 54) 1
theorem sc_Sending_put : FnScope ["self", "octets"] ["self", "octets"] (defScope s_Sending_put) := ⟨rfl, rfl, rfl, by decide +kernel, rfl, by decide +kernel, by decide +kernel⟩
abbrev s_Sending_finish : Stmt := inClass (topS 54) 2
theorem sc_Sending_finish : FnScope ["self"] ["self"] (defScope s_Sending_finish) := ⟨rfl, rfl, rfl, by decide +kernel, rfl, by decide +kernel, by decide +kernel⟩
abbrev s_Sending_bytes_unsent : Stmt := inClass (topS 54) 3
theorem sc_Sending_bytes_unsent : FnScope ["self"] ["self"] (defScope s_Sending_bytes_unsent) := ⟨rfl, rfl, rfl, by decide +kernel, rfl, by decide +kernel, by decide +kernel⟩
abbrev s_Sending_parts_at : Stmt := inClass (topS 54) 4
theorem sc_Sending_parts_at : FnScope ["self", "time", "parts"] ["self", "time"] (defScope s_Sending_parts_at) := ⟨rfl, rfl, rfl, by decide +kernel, rfl, by decide +kernel, by decide +kernel⟩
abbrev s_Sending_answer_part : Stmt := inClass (topS 54) 5
theorem sc_Sending_answer_part : FnScope ["self"] ["self"] (defScope s_Sending_answer_part) := ⟨rfl, rfl, rfl, by decide +kernel, rfl, by decide +kernel, by decide +kernel⟩
abbrev s_Sending_parts_again : Stmt := inClass (topS 54) 6
theorem sc_Sending_parts_again : FnScope ["self", "time", "parts", "piece"] ["self", "time"] (defScope s_Sending_parts_again) := ⟨rfl, rfl, rfl, by decide +kernel, rfl, by decide +kernel, by decide +kernel⟩
abbrev s_Sending_part_of : Stmt := inClass (topS 54) 7
theorem sc_Sending_part_of : FnScope ["self", "piece", "start"] ["self", "piece"] (defScope s_Sending_part_of) := ⟨rfl, rfl, rfl, by decide +kernel, rfl, by decide +kernel, by decide +kernel⟩
abbrev s_Sending_new_parts : Stmt := inClass (topS 54) 8
theorem sc_Sending_new_parts : FnScope ["self", "time", "parts", "piece"] ["self", "time"] (defScope s_Sending_new_parts) := ⟨rfl, rfl, rfl, by decide +kernel, rfl, by decide +kernel, by decide +kernel⟩
abbrev s_Sending_new_piece : Stmt := inClass (topS 54) 9
theorem sc_Sending_new_piece : FnScope ["self", "due", "size"] ["self", "due"] (defScope s_Sending_new_piece) := ⟨rfl, rfl, rfl, by decide +kernel, rfl, by decide +kernel, by decide +kernel⟩
abbrev s_Sending_answered : Stmt := inClass (topS 54) 10
theorem sc_Sending_answered : FnScope ["self", "wanted", "room", "piece"] ["self", "wanted", "room"] (defScope s_Sending_answered) := ⟨rfl, rfl, rfl, by decide +kernel, rfl, by decide +kernel, by decide +kernel⟩
abbrev s_LinkEnd_init : Stmt := inClass (topS 56) 0
theorem sc_LinkEnd_init : FnScope ["self", "code", "name"] ["self", "code", "name"] (defScope s_LinkEnd_init) := ⟨rfl, rfl, rfl, by decide +kernel, rfl, by decide +kernel, by decide +kernel⟩
abbrev s_LinkEnd_put : Stmt := inClass (topS 56) 1
theorem sc_LinkEnd_put : FnScope ["self", "octets"] ["self", "octets"] (defScope s_LinkEnd_put) := ⟨rfl, rfl, rfl, by decide +kernel, rfl, by decide +kernel, by decide +kernel⟩
abbrev s_LinkEnd_finish : Stmt := inClass (topS 56) 2
theorem sc_LinkEnd_finish : FnScope ["self"] ["self"] (defScope s_LinkEnd_finish) := ⟨rfl, rfl, rfl, by decide +kernel, rfl, by decide +kernel, by decide +kernel⟩
abbrev s_LinkEnd_tick : Stmt := inClass (topS 56) 3
theorem sc_LinkEnd_tick : FnScope ["self", "parts", "answer", "part", "row"] ["self"] (defScope s_LinkEnd_tick) := ⟨rfl, rfl, rfl, by decide +kernel, rfl, by decide +kernel, by decide +kernel⟩
abbrev s_LinkEnd_sent_as : Stmt := inClass (topS 56) 4
theorem sc_LinkEnd_sent_as : FnScope ["self", "part", "packet"] ["self", "part"] (defScope s_LinkEnd_sent_as) := ⟨rfl, rfl, rfl, by decide +kernel, rfl, by decide +kernel, by decide +kernel⟩
abbrev s_LinkEnd_came : Stmt := inClass (topS 56) 5
theorem sc_LinkEnd_came : FnScope ["self", "octets", "found"] ["self", "octets"] (defScope s_LinkEnd_came) := ⟨rfl, rfl, rfl, by decide +kernel, rfl, by decide +kernel, by decide +kernel⟩
abbrev s_LinkEnd_accept_packet : Stmt := inClass (topS 56) 6
theorem sc_LinkEnd_accept_packet : FnScope ["self", "packet"] ["self", "packet"] (defScope s_LinkEnd_accept_packet) := ⟨rfl, rfl, rfl, by decide +kernel, rfl, by decide +kernel, by decide +kernel⟩
abbrev s_LinkEnd_take : Stmt := inClass (topS 56) 7
theorem sc_LinkEnd_take : FnScope ["self", "most", "was_short", "taken"] ["self", "most"] (defScope s_LinkEnd_take) := ⟨rfl, rfl, rfl, by decide +kernel, rfl, by decide +kernel, by decide +kernel⟩
abbrev s_LinkEnd_tell : Stmt := inClass (topS 56) 8
theorem sc_LinkEnd_tell : FnScope ["self", "told", "complete", "told_of"] ["self"] (defScope s_LinkEnd_tell) := ⟨rfl, rfl, rfl, by decide +kernel, rfl, by decide +kernel, by decide +kernel⟩
abbrev s_Link_init : Stmt := inClass (topS 64) 0
theorem sc_Link_init : FnScope ["self"] ["self"] (defScope s_Link_init) := ⟨rfl, rfl, rfl, by decide +kernel, rfl, by decide +kernel, by decide +kernel⟩
abbrev s_Link_begin : Stmt := inClass (topS 64) 1
theorem sc_Link_begin : FnScope ["self", "which", "name"] ["self", "which", "name"] (defScope s_Link_begin) := ⟨rfl, rfl, rfl, by decide +kernel, rfl, by decide +kernel, by decide +kernel⟩
abbrev s_Link_answer_to : Stmt := inClass (topS 64) 2
theorem sc_Link_answer_to : FnScope ["self", "call", "number", "end"] ["self", "call"] (defScope s_Link_answer_to) := ⟨rfl, rfl, rfl, by decide +kernel, rfl, by decide +kernel, by decide +kernel⟩
abbrev s_size_of : Stmt := topS 65
theorem sc_size_of : FnScope ["calls", "at", "number"] ["calls", "at"] (defScope s_size_of) := ⟨rfl, rfl, rfl, by decide +kernel, rfl, by decide +kernel, by decide +kernel⟩
abbrev s_answers : Stmt := topS 66
theorem sc_answers : FnScope ["calls", "link", "given", "at", "size", "answer"] ["calls"] (defScope s_answers) := ⟨rfl, rfl, rfl, by decide +kernel, rfl, by decide +kernel, by decide +kernel⟩
structure Adr where
  c_Field : Addr
  c_Code : Addr
  c_Packet : Addr
  c_Receiving : Addr
  c_Piece : Addr
  c_Part : Addr
  c_Sending : Addr
  c_LinkEnd : Addr
  c_Link : Addr
  f_doubled : Addr
  d_doubled : FuncData
  f_product_of : Addr
  d_product_of : FuncData
  f_Field_init : Addr
  d_Field_init : FuncData
  f_Field_power : Addr
  d_Field_power : FuncData
  f_Field_product : Addr
  d_Field_product : FuncData
  f_Field_quotient : Addr
  d_Field_quotient : FuncData
  f_Field_scaled : Addr
  d_Field_scaled : FuncData
  f_Field_value_at : Addr
  d_Field_value_at : FuncData
  f_added : Addr
  d_added : FuncData
  f_padded : Addr
  d_padded : FuncData
  f_divisor_of : Addr
  d_divisor_of : FuncData
  f_lack_at : Addr
  d_lack_at : FuncData
  f_locator_of : Addr
  d_locator_of : FuncData
  f_places_of : Addr
  d_places_of : FuncData
  f_errors_of : Addr
  d_errors_of : FuncData
  f_Code_init : Addr
  d_Code_init : FuncData
  f_Code_parity_of : Addr
  d_Code_parity_of : FuncData
  f_Code_syndromes_of : Addr
  d_Code_syndromes_of : FuncData
  f_Code_mend_row : Addr
  d_Code_mend_row : FuncData
  f_crc_of : Addr
  d_crc_of : FuncData
  f_Packet_init : Addr
  d_Packet_init : FuncData
  f_lowest_first : Addr
  d_lowest_first : FuncData
  f_value_of : Addr
  d_value_of : FuncData
  f_row_of : Addr
  d_row_of : FuncData
  f_parted : Addr
  d_parted : FuncData
  f_kind_fits : Addr
  d_kind_fits : FuncData
  f_packet_of : Addr
  d_packet_of : FuncData
  f_Receiving_init : Addr
  d_Receiving_init : FuncData
  f_Receiving_room_left : Addr
  d_Receiving_room_left : FuncData
  f_Receiving_accept : Addr
  d_Receiving_accept : FuncData
  f_Receiving_keep : Addr
  d_Receiving_keep : FuncData
  f_Receiving_note_end : Addr
  d_Receiving_note_end : FuncData
  f_Receiving_bring_to_turn : Addr
  d_Receiving_bring_to_turn : FuncData
  f_Receiving_take : Addr
  d_Receiving_take : FuncData
  f_Receiving_is_short : Addr
  d_Receiving_is_short : FuncData
  f_Piece_init : Addr
  d_Piece_init : FuncData
  f_wait_after : Addr
  d_wait_after : FuncData
  f_Part_init : Addr
  d_Part_init : FuncData
  f_Sending_init : Addr
  d_Sending_init : FuncData
  f_Sending_put : Addr
  d_Sending_put : FuncData
  f_Sending_finish : Addr
  d_Sending_finish : FuncData
  f_Sending_bytes_unsent : Addr
  d_Sending_bytes_unsent : FuncData
  f_Sending_parts_at : Addr
  d_Sending_parts_at : FuncData
  f_Sending_answer_part : Addr
  d_Sending_answer_part : FuncData
  f_Sending_parts_again : Addr
  d_Sending_parts_again : FuncData
  f_Sending_part_of : Addr
  d_Sending_part_of : FuncData
  f_Sending_new_parts : Addr
  d_Sending_new_parts : FuncData
  f_Sending_new_piece : Addr
  d_Sending_new_piece : FuncData
  f_Sending_answered : Addr
  d_Sending_answered : FuncData
  f_LinkEnd_init : Addr
  d_LinkEnd_init : FuncData
  f_LinkEnd_put : Addr
  d_LinkEnd_put : FuncData
  f_LinkEnd_finish : Addr
  d_LinkEnd_finish : FuncData
  f_LinkEnd_tick : Addr
  d_LinkEnd_tick : FuncData
  f_LinkEnd_sent_as : Addr
  d_LinkEnd_sent_as : FuncData
  f_LinkEnd_came : Addr
  d_LinkEnd_came : FuncData
  f_LinkEnd_accept_packet : Addr
  d_LinkEnd_accept_packet : FuncData
  f_LinkEnd_take : Addr
  d_LinkEnd_take : FuncData
  f_LinkEnd_tell : Addr
  d_LinkEnd_tell : FuncData
  f_Link_init : Addr
  d_Link_init : FuncData
  f_Link_begin : Addr
  d_Link_begin : FuncData
  f_Link_answer_to : Addr
  d_Link_answer_to : FuncData
  f_size_of : Addr
  d_size_of : FuncData
  f_answers : Addr
  d_answers : FuncData
  t_MODULUS : Tok
  t_ORDER : Tok
  t_LONGEST_ROW : Tok
  t_PARITY : Tok
  t_PLACES : Tok
  t_ONES : Tok
  t_FEEDBACK : Tok
  t_ANSWER : Tok
  t_BYTES : Tok
  t_END : Tok
  t_QUESTION : Tok
  t_NAMES : Tok
  t_PIECE : Tok
  t_HEAD : Tok
  t_SUM : Tok
  t_SHORTEST : Tok
  t_LONGEST : Tok
  t_ROOM : Tok
  t_TURNS : Tok
  t_UNANSWERED : Tok
  t_ON_THEIR_WAY : Tok
  t_FIRST_LIMIT : Tok
  t_FIRST_WAIT : Tok
  t_LONGEST_WAIT : Tok
  t_ASK_WAIT : Tok
  t_BEGIN : Tok
  t_PUT : Tok
  t_FINISH : Tok
  t_TICK : Tok
  t_CAME : Tok
  t_TAKE : Tok
/-- a def of the top, a method, a class that is made, a class's attributes -/
structure DefF (K : PySem.W.Frag) (mg : Str → Option Value) (x : Str) (st : Stmt) (ps : List Str) (f : Addr) (fd : FuncData) : Prop where
  F : Fun K x x st f fd
  g : mg x = some (.ref f)
  b : Binds K fd ps []
structure DefM (K : PySem.W.Frag) (C : Addr) (x qual : Str) (st : Stmt) (ps : List Str) (f : Addr) (fd : FuncData) : Prop where
  F : Fun K x qual st f fd
  m : Meth K C x f
  b : Binds K fd ps []
structure DefI (K : PySem.W.Frag) (mg : Str → Option Value) (C : Addr) (c qual : Str) (st : Stmt) (ps : List Str) (f : Addr) (fd : FuncData) : Prop where
  F : Fun K "__init__" qual st f fd
  M : Mk K C f
  g : mg c = some (.ref C)
  b : Binds K fd ps []
structure Cl_Field (K : PySem.W.Frag) (C : Addr) : Prop where
  cl : Cls K C
  n_powers : NoAttr K C "powers"
  n_logs : NoAttr K C "logs"
structure Cl_Code (K : PySem.W.Frag) (C : Addr) : Prop where
  cl : Cls K C
  n_field : NoAttr K C "field"
  n_divisor : NoAttr K C "divisor"
structure Cl_Packet (K : PySem.W.Frag) (C : Addr) : Prop where
  cl : Cls K C
  n_name : NoAttr K C "name"
  n_kind : NoAttr K C "kind"
  n_number : NoAttr K C "number"
  n_wanted : NoAttr K C "wanted"
  n_room : NoAttr K C "room"
  n_octets : NoAttr K C "octets"
structure Cl_Receiving (K : PySem.W.Frag) (C : Addr) : Prop where
  cl : Cls K C
  n_wanted : NoAttr K C "wanted"
  n_kept : NoAttr K C "kept"
  n_ready : NoAttr K C "ready"
  n_end_number : NoAttr K C "end_number"
  n_complete : NoAttr K C "complete"
structure Cl_Piece (K : PySem.W.Frag) (C : Addr) : Prop where
  cl : Cls K C
  n_kind : NoAttr K C "kind"
  n_number : NoAttr K C "number"
  n_size : NoAttr K C "size"
  n_due : NoAttr K C "due"
  n_times_sent : NoAttr K C "times_sent"
structure Cl_Part (K : PySem.W.Frag) (C : Addr) : Prop where
  cl : Cls K C
  n_kind : NoAttr K C "kind"
  n_number : NoAttr K C "number"
  n_octets : NoAttr K C "octets"
structure Cl_Sending (K : PySem.W.Frag) (C : Addr) : Prop where
  cl : Cls K C
  n_first : NoAttr K C "first"
  n_octets : NoAttr K C "octets"
  n_unsent : NoAttr K C "unsent"
  n_pieces : NoAttr K C "pieces"
  n_limit : NoAttr K C "limit"
  n_told : NoAttr K C "told"
  n_end_sent : NoAttr K C "end_sent"
  n_ask_time : NoAttr K C "ask_time"
structure Cl_LinkEnd (K : PySem.W.Frag) (C : Addr) : Prop where
  cl : Cls K C
  n_code : NoAttr K C "code"
  n_name : NoAttr K C "name"
  n_time : NoAttr K C "time"
  n_sending : NoAttr K C "sending"
  n_receiving : NoAttr K C "receiving"
  n_owes : NoAttr K C "owes"
  n_dropped : NoAttr K C "dropped"
  n_mended : NoAttr K C "mended"
structure Cl_Link (K : PySem.W.Frag) (C : Addr) : Prop where
  cl : Cls K C
  n_code : NoAttr K C "code"
  n_ends : NoAttr K C "ends"
structure Top (K : PySem.W.Frag) (mg : Str → Option Value) (A : Adr) : Prop where
  c_Field : Cl_Field K A.c_Field
  c_Code : Cl_Code K A.c_Code
  c_Packet : Cl_Packet K A.c_Packet
  c_Receiving : Cl_Receiving K A.c_Receiving
  c_Piece : Cl_Piece K A.c_Piece
  c_Part : Cl_Part K A.c_Part
  c_Sending : Cl_Sending K A.c_Sending
  c_LinkEnd : Cl_LinkEnd K A.c_LinkEnd
  c_Link : Cl_Link K A.c_Link
  f_doubled : DefF K mg "doubled" s_doubled ["octet"] A.f_doubled A.d_doubled
  f_product_of : DefF K mg "product_of" s_product_of ["a", "b"] A.f_product_of A.d_product_of
  k_Field : DefI K mg A.c_Field "Field" "Field.__init__" s_Field_init ["self"] A.f_Field_init A.d_Field_init
  f_Field_power : DefM K A.c_Field "power" "Field.power" s_Field_power ["self", "exponent"] A.f_Field_power A.d_Field_power
  f_Field_product : DefM K A.c_Field "product" "Field.product" s_Field_product ["self", "a", "b"] A.f_Field_product A.d_Field_product
  f_Field_quotient : DefM K A.c_Field "quotient" "Field.quotient" s_Field_quotient ["self", "a", "b"] A.f_Field_quotient A.d_Field_quotient
  f_Field_scaled : DefM K A.c_Field "scaled" "Field.scaled" s_Field_scaled ["self", "row", "factor"] A.f_Field_scaled A.d_Field_scaled
  f_Field_value_at : DefM K A.c_Field "value_at" "Field.value_at" s_Field_value_at ["self", "row", "point"] A.f_Field_value_at A.d_Field_value_at
  f_added : DefF K mg "added" s_added ["a", "b"] A.f_added A.d_added
  f_padded : DefF K mg "padded" s_padded ["row", "size"] A.f_padded A.d_padded
  f_divisor_of : DefF K mg "divisor_of" s_divisor_of ["field"] A.f_divisor_of A.d_divisor_of
  f_lack_at : DefF K mg "lack_at" s_lack_at ["field", "locator", "syndromes", "at"] A.f_lack_at A.d_lack_at
  f_locator_of : DefF K mg "locator_of" s_locator_of ["field", "syndromes"] A.f_locator_of A.d_locator_of
  f_places_of : DefF K mg "places_of" s_places_of ["field", "locator", "size"] A.f_places_of A.d_places_of
  f_errors_of : DefF K mg "errors_of" s_errors_of ["field", "locator", "syndromes", "places"] A.f_errors_of A.d_errors_of
  k_Code : DefI K mg A.c_Code "Code" "Code.__init__" s_Code_init ["self"] A.f_Code_init A.d_Code_init
  f_Code_parity_of : DefM K A.c_Code "parity_of" "Code.parity_of" s_Code_parity_of ["self", "row"] A.f_Code_parity_of A.d_Code_parity_of
  f_Code_syndromes_of : DefM K A.c_Code "syndromes_of" "Code.syndromes_of" s_Code_syndromes_of ["self", "row"] A.f_Code_syndromes_of A.d_Code_syndromes_of
  f_Code_mend_row : DefM K A.c_Code "mend_row" "Code.mend_row" s_Code_mend_row ["self", "row"] A.f_Code_mend_row A.d_Code_mend_row
  f_crc_of : DefF K mg "crc_of" s_crc_of ["octets"] A.f_crc_of A.d_crc_of
  k_Packet : DefI K mg A.c_Packet "Packet" "Packet.__init__" s_Packet_init ["self", "name", "kind", "number", "wanted", "room", "octets"] A.f_Packet_init A.d_Packet_init
  f_lowest_first : DefF K mg "lowest_first" s_lowest_first ["value", "size"] A.f_lowest_first A.d_lowest_first
  f_value_of : DefF K mg "value_of" s_value_of ["octets"] A.f_value_of A.d_value_of
  f_row_of : DefF K mg "row_of" s_row_of ["code", "packet"] A.f_row_of A.d_row_of
  f_parted : DefF K mg "parted" s_parted ["body"] A.f_parted A.d_parted
  f_kind_fits : DefF K mg "kind_fits" s_kind_fits ["packet"] A.f_kind_fits A.d_kind_fits
  f_packet_of : DefF K mg "packet_of" s_packet_of ["code", "row"] A.f_packet_of A.d_packet_of
  k_Receiving : DefI K mg A.c_Receiving "Receiving" "Receiving.__init__" s_Receiving_init ["self"] A.f_Receiving_init A.d_Receiving_init
  f_Receiving_room_left : DefM K A.c_Receiving "room_left" "Receiving.room_left" s_Receiving_room_left ["self"] A.f_Receiving_room_left A.d_Receiving_room_left
  f_Receiving_accept : DefM K A.c_Receiving "accept" "Receiving.accept" s_Receiving_accept ["self", "packet"] A.f_Receiving_accept A.d_Receiving_accept
  f_Receiving_keep : DefM K A.c_Receiving "keep" "Receiving.keep" s_Receiving_keep ["self", "packet"] A.f_Receiving_keep A.d_Receiving_keep
  f_Receiving_note_end : DefM K A.c_Receiving "note_end" "Receiving.note_end" s_Receiving_note_end ["self", "number"] A.f_Receiving_note_end A.d_Receiving_note_end
  f_Receiving_bring_to_turn : DefM K A.c_Receiving "bring_to_turn" "Receiving.bring_to_turn" s_Receiving_bring_to_turn ["self"] A.f_Receiving_bring_to_turn A.d_Receiving_bring_to_turn
  f_Receiving_take : DefM K A.c_Receiving "take" "Receiving.take" s_Receiving_take ["self", "most"] A.f_Receiving_take A.d_Receiving_take
  f_Receiving_is_short : DefM K A.c_Receiving "is_short" "Receiving.is_short" s_Receiving_is_short ["self"] A.f_Receiving_is_short A.d_Receiving_is_short
  k_Piece : DefI K mg A.c_Piece "Piece" "Piece.__init__" s_Piece_init ["self", "kind", "number", "size", "due"] A.f_Piece_init A.d_Piece_init
  f_wait_after : DefF K mg "wait_after" s_wait_after ["times_sent"] A.f_wait_after A.d_wait_after
  k_Part : DefI K mg A.c_Part "Part" "Part.__init__" s_Part_init ["self", "kind", "number", "octets"] A.f_Part_init A.d_Part_init
  k_Sending : DefI K mg A.c_Sending "Sending" "Sending.__init__" s_Sending_init ["self"] A.f_Sending_init A.d_Sending_init
  f_Sending_put : DefM K A.c_Sending "put" "Sending.put" s_Sending_put ["self", "octets"] A.f_Sending_put A.d_Sending_put
  f_Sending_finish : DefM K A.c_Sending "finish" "Sending.finish" s_Sending_finish ["self"] A.f_Sending_finish A.d_Sending_finish
  f_Sending_bytes_unsent : DefM K A.c_Sending "bytes_unsent" "Sending.bytes_unsent" s_Sending_bytes_unsent ["self"] A.f_Sending_bytes_unsent A.d_Sending_bytes_unsent
  f_Sending_parts_at : DefM K A.c_Sending "parts_at" "Sending.parts_at" s_Sending_parts_at ["self", "time"] A.f_Sending_parts_at A.d_Sending_parts_at
  f_Sending_answer_part : DefM K A.c_Sending "answer_part" "Sending.answer_part" s_Sending_answer_part ["self"] A.f_Sending_answer_part A.d_Sending_answer_part
  f_Sending_parts_again : DefM K A.c_Sending "parts_again" "Sending.parts_again" s_Sending_parts_again ["self", "time"] A.f_Sending_parts_again A.d_Sending_parts_again
  f_Sending_part_of : DefM K A.c_Sending "part_of" "Sending.part_of" s_Sending_part_of ["self", "piece"] A.f_Sending_part_of A.d_Sending_part_of
  f_Sending_new_parts : DefM K A.c_Sending "new_parts" "Sending.new_parts" s_Sending_new_parts ["self", "time"] A.f_Sending_new_parts A.d_Sending_new_parts
  f_Sending_new_piece : DefM K A.c_Sending "new_piece" "Sending.new_piece" s_Sending_new_piece ["self", "due"] A.f_Sending_new_piece A.d_Sending_new_piece
  f_Sending_answered : DefM K A.c_Sending "answered" "Sending.answered" s_Sending_answered ["self", "wanted", "room"] A.f_Sending_answered A.d_Sending_answered
  k_LinkEnd : DefI K mg A.c_LinkEnd "LinkEnd" "LinkEnd.__init__" s_LinkEnd_init ["self", "code", "name"] A.f_LinkEnd_init A.d_LinkEnd_init
  f_LinkEnd_put : DefM K A.c_LinkEnd "put" "LinkEnd.put" s_LinkEnd_put ["self", "octets"] A.f_LinkEnd_put A.d_LinkEnd_put
  f_LinkEnd_finish : DefM K A.c_LinkEnd "finish" "LinkEnd.finish" s_LinkEnd_finish ["self"] A.f_LinkEnd_finish A.d_LinkEnd_finish
  f_LinkEnd_tick : DefM K A.c_LinkEnd "tick" "LinkEnd.tick" s_LinkEnd_tick ["self"] A.f_LinkEnd_tick A.d_LinkEnd_tick
  f_LinkEnd_sent_as : DefM K A.c_LinkEnd "sent_as" "LinkEnd.sent_as" s_LinkEnd_sent_as ["self", "part"] A.f_LinkEnd_sent_as A.d_LinkEnd_sent_as
  f_LinkEnd_came : DefM K A.c_LinkEnd "came" "LinkEnd.came" s_LinkEnd_came ["self", "octets"] A.f_LinkEnd_came A.d_LinkEnd_came
  f_LinkEnd_accept_packet : DefM K A.c_LinkEnd "accept_packet" "LinkEnd.accept_packet" s_LinkEnd_accept_packet ["self", "packet"] A.f_LinkEnd_accept_packet A.d_LinkEnd_accept_packet
  f_LinkEnd_take : DefM K A.c_LinkEnd "take" "LinkEnd.take" s_LinkEnd_take ["self", "most"] A.f_LinkEnd_take A.d_LinkEnd_take
  f_LinkEnd_tell : DefM K A.c_LinkEnd "tell" "LinkEnd.tell" s_LinkEnd_tell ["self"] A.f_LinkEnd_tell A.d_LinkEnd_tell
  k_Link : DefI K mg A.c_Link "Link" "Link.__init__" s_Link_init ["self"] A.f_Link_init A.d_Link_init
  f_Link_begin : DefM K A.c_Link "begin" "Link.begin" s_Link_begin ["self", "which", "name"] A.f_Link_begin A.d_Link_begin
  f_Link_answer_to : DefM K A.c_Link "answer_to" "Link.answer_to" s_Link_answer_to ["self", "call"] A.f_Link_answer_to A.d_Link_answer_to
  f_size_of : DefF K mg "size_of" s_size_of ["calls", "at"] A.f_size_of A.d_size_of
  f_answers : DefF K mg "answers" s_answers ["calls"] A.f_answers A.d_answers
  g_MODULUS : mg "MODULUS" = some (.int 283 A.t_MODULUS)
  g_ORDER : mg "ORDER" = some (.int 255 A.t_ORDER)
  g_LONGEST_ROW : mg "LONGEST_ROW" = some (.int 255 A.t_LONGEST_ROW)
  g_PARITY : mg "PARITY" = some (.int 16 A.t_PARITY)
  g_PLACES : mg "PLACES" = some (.int 8 A.t_PLACES)
  g_ONES : mg "ONES" = some (.int 4294967295 A.t_ONES)
  g_FEEDBACK : mg "FEEDBACK" = some (.int 2197175160 A.t_FEEDBACK)
  g_ANSWER : mg "ANSWER" = some (.int 0 A.t_ANSWER)
  g_BYTES : mg "BYTES" = some (.int 1 A.t_BYTES)
  g_END : mg "END" = some (.int 2 A.t_END)
  g_QUESTION : mg "QUESTION" = some (.int 3 A.t_QUESTION)
  g_NAMES : mg "NAMES" = some (.int 4294967296 A.t_NAMES)
  g_PIECE : mg "PIECE" = some (.int 190 A.t_PIECE)
  g_HEAD : mg "HEAD" = some (.int 23 A.t_HEAD)
  g_SUM : mg "SUM" = some (.int 4 A.t_SUM)
  g_SHORTEST : mg "SHORTEST" = some (.int 43 A.t_SHORTEST)
  g_LONGEST : mg "LONGEST" = some (.int 233 A.t_LONGEST)
  g_ROOM : mg "ROOM" = some (.int 4096 A.t_ROOM)
  g_TURNS : mg "TURNS" = some (.int 65 A.t_TURNS)
  g_UNANSWERED : mg "UNANSWERED" = some (.int 65536 A.t_UNANSWERED)
  g_ON_THEIR_WAY : mg "ON_THEIR_WAY" = some (.int 8 A.t_ON_THEIR_WAY)
  g_FIRST_LIMIT : mg "FIRST_LIMIT" = some (.int 4096 A.t_FIRST_LIMIT)
  g_FIRST_WAIT : mg "FIRST_WAIT" = some (.int 4 A.t_FIRST_WAIT)
  g_LONGEST_WAIT : mg "LONGEST_WAIT" = some (.int 64 A.t_LONGEST_WAIT)
  g_ASK_WAIT : mg "ASK_WAIT" = some (.int 16 A.t_ASK_WAIT)
  g_BEGIN : mg "BEGIN" = some (.int 1 A.t_BEGIN)
  g_PUT : mg "PUT" = some (.int 2 A.t_PUT)
  g_FINISH : mg "FINISH" = some (.int 3 A.t_FINISH)
  g_TICK : mg "TICK" = some (.int 4 A.t_TICK)
  g_CAME : mg "CAME" = some (.int 5 A.t_CAME)
  g_TAKE : mg "TAKE" = some (.int 6 A.t_TAKE)
  b_len : mg "len" = none
  b_list : mg "list" = none
  b_max : mg "max" = none
  b_min : mg "min" = none
  b_range : mg "range" = none
  b_reversed : mg "reversed" = none
  b_zip : mg "zip" = none
theorem lk_here {k : Str} {v : V} {r : List (Str × V)} : List.lookup k ((k, v) :: r) = some v := by
  have e : (k == k) = true := beq_self_eq_true k
  simp only [List.lookup, e]
theorem lk_past {k g : Str} {v : V} {r : List (Str × V)} (h : (k == g) = false) : List.lookup k ((g, v) :: r) = List.lookup k r := by
  simp only [List.lookup, h]
theorem put_here {f : Str} {v x : V} {r : List (Str × V)} : putF f v ((f, x) :: r) = (f, v) :: r := if_pos rfl
theorem put_past {f g : Str} {v x : V} {r r' : List (Str × V)} (h : ¬ g = f) (e : putF f v r = r') : putF f v ((g, x) :: r) = (g, x) :: r' := by
  have : putF f v ((g, x) :: r) = (g, x) :: putF f v r := if_neg h
  rw [this, e]
theorem put_end {f : Str} {v : V} : putF f v [] = [(f, v)] := rfl
def fl_Field (v0 v1 : V) : List (Str × V) := [("powers", v0), ("logs", v1)]
theorem lk_Field_powers {v0 v1 : V} : (fl_Field v0 v1).lookup ("powers" : Str) = some v0 := lk_here
theorem pt_Field_powers {v0 v1 x : V} : putF "powers" x (fl_Field v0 v1) = fl_Field x v1 := put_here
theorem lk_Field_logs {v0 v1 : V} : (fl_Field v0 v1).lookup ("logs" : Str) = some v1 := (lk_past (by decide +kernel)).trans (lk_here)
theorem pt_Field_logs {v0 v1 x : V} : putF "logs" x (fl_Field v0 v1) = fl_Field v0 x := put_past (by decide +kernel) (put_here)
theorem no_Field_power {v0 v1 : V} : (fl_Field v0 v1).lookup ("power" : Str) = none := (lk_past (by decide +kernel)).trans ((lk_past (by decide +kernel)).trans (rfl))
theorem no_Field_product {v0 v1 : V} : (fl_Field v0 v1).lookup ("product" : Str) = none := (lk_past (by decide +kernel)).trans ((lk_past (by decide +kernel)).trans (rfl))
theorem no_Field_quotient {v0 v1 : V} : (fl_Field v0 v1).lookup ("quotient" : Str) = none := (lk_past (by decide +kernel)).trans ((lk_past (by decide +kernel)).trans (rfl))
theorem no_Field_scaled {v0 v1 : V} : (fl_Field v0 v1).lookup ("scaled" : Str) = none := (lk_past (by decide +kernel)).trans ((lk_past (by decide +kernel)).trans (rfl))
theorem no_Field_value_at {v0 v1 : V} : (fl_Field v0 v1).lookup ("value_at" : Str) = none := (lk_past (by decide +kernel)).trans ((lk_past (by decide +kernel)).trans (rfl))
def fl_Code (v0 v1 : V) : List (Str × V) := [("field", v0), ("divisor", v1)]
theorem lk_Code_field {v0 v1 : V} : (fl_Code v0 v1).lookup ("field" : Str) = some v0 := lk_here
theorem pt_Code_field {v0 v1 x : V} : putF "field" x (fl_Code v0 v1) = fl_Code x v1 := put_here
theorem lk_Code_divisor {v0 v1 : V} : (fl_Code v0 v1).lookup ("divisor" : Str) = some v1 := (lk_past (by decide +kernel)).trans (lk_here)
theorem pt_Code_divisor {v0 v1 x : V} : putF "divisor" x (fl_Code v0 v1) = fl_Code v0 x := put_past (by decide +kernel) (put_here)
theorem no_Code_parity_of {v0 v1 : V} : (fl_Code v0 v1).lookup ("parity_of" : Str) = none := (lk_past (by decide +kernel)).trans ((lk_past (by decide +kernel)).trans (rfl))
theorem no_Code_syndromes_of {v0 v1 : V} : (fl_Code v0 v1).lookup ("syndromes_of" : Str) = none := (lk_past (by decide +kernel)).trans ((lk_past (by decide +kernel)).trans (rfl))
theorem no_Code_mend_row {v0 v1 : V} : (fl_Code v0 v1).lookup ("mend_row" : Str) = none := (lk_past (by decide +kernel)).trans ((lk_past (by decide +kernel)).trans (rfl))
def fl_Packet (v0 v1 v2 v3 v4 v5 : V) : List (Str × V) := [("name", v0), ("kind", v1), ("number", v2), ("wanted", v3), ("room", v4), ("octets", v5)]
theorem lk_Packet_name {v0 v1 v2 v3 v4 v5 : V} : (fl_Packet v0 v1 v2 v3 v4 v5).lookup ("name" : Str) = some v0 := lk_here
theorem pt_Packet_name {v0 v1 v2 v3 v4 v5 x : V} : putF "name" x (fl_Packet v0 v1 v2 v3 v4 v5) = fl_Packet x v1 v2 v3 v4 v5 := put_here
theorem lk_Packet_kind {v0 v1 v2 v3 v4 v5 : V} : (fl_Packet v0 v1 v2 v3 v4 v5).lookup ("kind" : Str) = some v1 := (lk_past (by decide +kernel)).trans (lk_here)
theorem pt_Packet_kind {v0 v1 v2 v3 v4 v5 x : V} : putF "kind" x (fl_Packet v0 v1 v2 v3 v4 v5) = fl_Packet v0 x v2 v3 v4 v5 := put_past (by decide +kernel) (put_here)
theorem lk_Packet_number {v0 v1 v2 v3 v4 v5 : V} : (fl_Packet v0 v1 v2 v3 v4 v5).lookup ("number" : Str) = some v2 := (lk_past (by decide +kernel)).trans ((lk_past (by decide +kernel)).trans (lk_here))
theorem pt_Packet_number {v0 v1 v2 v3 v4 v5 x : V} : putF "number" x (fl_Packet v0 v1 v2 v3 v4 v5) = fl_Packet v0 v1 x v3 v4 v5 := put_past (by decide +kernel) (put_past (by decide +kernel) (put_here))
theorem lk_Packet_wanted {v0 v1 v2 v3 v4 v5 : V} : (fl_Packet v0 v1 v2 v3 v4 v5).lookup ("wanted" : Str) = some v3 := (lk_past (by decide +kernel)).trans ((lk_past (by decide +kernel)).trans ((lk_past (by decide +kernel)).trans (lk_here)))
theorem pt_Packet_wanted {v0 v1 v2 v3 v4 v5 x : V} : putF "wanted" x (fl_Packet v0 v1 v2 v3 v4 v5) = fl_Packet v0 v1 v2 x v4 v5 := put_past (by decide +kernel) (put_past (by decide +kernel) (put_past (by decide +kernel) (put_here)))
theorem lk_Packet_room {v0 v1 v2 v3 v4 v5 : V} : (fl_Packet v0 v1 v2 v3 v4 v5).lookup ("room" : Str) = some v4 := (lk_past (by decide +kernel)).trans ((lk_past (by decide +kernel)).trans ((lk_past (by decide +kernel)).trans ((lk_past (by decide +kernel)).trans (lk_here))))
theorem pt_Packet_room {v0 v1 v2 v3 v4 v5 x : V} : putF "room" x (fl_Packet v0 v1 v2 v3 v4 v5) = fl_Packet v0 v1 v2 v3 x v5 := put_past (by decide +kernel) (put_past (by decide +kernel) (put_past (by decide +kernel) (put_past (by decide +kernel) (put_here))))
theorem lk_Packet_octets {v0 v1 v2 v3 v4 v5 : V} : (fl_Packet v0 v1 v2 v3 v4 v5).lookup ("octets" : Str) = some v5 := (lk_past (by decide +kernel)).trans ((lk_past (by decide +kernel)).trans ((lk_past (by decide +kernel)).trans ((lk_past (by decide +kernel)).trans ((lk_past (by decide +kernel)).trans (lk_here)))))
theorem pt_Packet_octets {v0 v1 v2 v3 v4 v5 x : V} : putF "octets" x (fl_Packet v0 v1 v2 v3 v4 v5) = fl_Packet v0 v1 v2 v3 v4 x := put_past (by decide +kernel) (put_past (by decide +kernel) (put_past (by decide +kernel) (put_past (by decide +kernel) (put_past (by decide +kernel) (put_here)))))
def fl_Receiving (v0 v1 v2 v3 v4 : V) : List (Str × V) := [("wanted", v0), ("kept", v1), ("ready", v2), ("end_number", v3), ("complete", v4)]
theorem lk_Receiving_wanted {v0 v1 v2 v3 v4 : V} : (fl_Receiving v0 v1 v2 v3 v4).lookup ("wanted" : Str) = some v0 := lk_here
theorem pt_Receiving_wanted {v0 v1 v2 v3 v4 x : V} : putF "wanted" x (fl_Receiving v0 v1 v2 v3 v4) = fl_Receiving x v1 v2 v3 v4 := put_here
theorem lk_Receiving_kept {v0 v1 v2 v3 v4 : V} : (fl_Receiving v0 v1 v2 v3 v4).lookup ("kept" : Str) = some v1 := (lk_past (by decide +kernel)).trans (lk_here)
theorem pt_Receiving_kept {v0 v1 v2 v3 v4 x : V} : putF "kept" x (fl_Receiving v0 v1 v2 v3 v4) = fl_Receiving v0 x v2 v3 v4 := put_past (by decide +kernel) (put_here)
theorem lk_Receiving_ready {v0 v1 v2 v3 v4 : V} : (fl_Receiving v0 v1 v2 v3 v4).lookup ("ready" : Str) = some v2 := (lk_past (by decide +kernel)).trans ((lk_past (by decide +kernel)).trans (lk_here))
theorem pt_Receiving_ready {v0 v1 v2 v3 v4 x : V} : putF "ready" x (fl_Receiving v0 v1 v2 v3 v4) = fl_Receiving v0 v1 x v3 v4 := put_past (by decide +kernel) (put_past (by decide +kernel) (put_here))
theorem lk_Receiving_end_number {v0 v1 v2 v3 v4 : V} : (fl_Receiving v0 v1 v2 v3 v4).lookup ("end_number" : Str) = some v3 := (lk_past (by decide +kernel)).trans ((lk_past (by decide +kernel)).trans ((lk_past (by decide +kernel)).trans (lk_here)))
theorem pt_Receiving_end_number {v0 v1 v2 v3 v4 x : V} : putF "end_number" x (fl_Receiving v0 v1 v2 v3 v4) = fl_Receiving v0 v1 v2 x v4 := put_past (by decide +kernel) (put_past (by decide +kernel) (put_past (by decide +kernel) (put_here)))
theorem lk_Receiving_complete {v0 v1 v2 v3 v4 : V} : (fl_Receiving v0 v1 v2 v3 v4).lookup ("complete" : Str) = some v4 := (lk_past (by decide +kernel)).trans ((lk_past (by decide +kernel)).trans ((lk_past (by decide +kernel)).trans ((lk_past (by decide +kernel)).trans (lk_here))))
theorem pt_Receiving_complete {v0 v1 v2 v3 v4 x : V} : putF "complete" x (fl_Receiving v0 v1 v2 v3 v4) = fl_Receiving v0 v1 v2 v3 x := put_past (by decide +kernel) (put_past (by decide +kernel) (put_past (by decide +kernel) (put_past (by decide +kernel) (put_here))))
theorem no_Receiving_room_left {v0 v1 v2 v3 v4 : V} : (fl_Receiving v0 v1 v2 v3 v4).lookup ("room_left" : Str) = none := (lk_past (by decide +kernel)).trans ((lk_past (by decide +kernel)).trans ((lk_past (by decide +kernel)).trans ((lk_past (by decide +kernel)).trans ((lk_past (by decide +kernel)).trans (rfl)))))
theorem no_Receiving_accept {v0 v1 v2 v3 v4 : V} : (fl_Receiving v0 v1 v2 v3 v4).lookup ("accept" : Str) = none := (lk_past (by decide +kernel)).trans ((lk_past (by decide +kernel)).trans ((lk_past (by decide +kernel)).trans ((lk_past (by decide +kernel)).trans ((lk_past (by decide +kernel)).trans (rfl)))))
theorem no_Receiving_keep {v0 v1 v2 v3 v4 : V} : (fl_Receiving v0 v1 v2 v3 v4).lookup ("keep" : Str) = none := (lk_past (by decide +kernel)).trans ((lk_past (by decide +kernel)).trans ((lk_past (by decide +kernel)).trans ((lk_past (by decide +kernel)).trans ((lk_past (by decide +kernel)).trans (rfl)))))
theorem no_Receiving_note_end {v0 v1 v2 v3 v4 : V} : (fl_Receiving v0 v1 v2 v3 v4).lookup ("note_end" : Str) = none := (lk_past (by decide +kernel)).trans ((lk_past (by decide +kernel)).trans ((lk_past (by decide +kernel)).trans ((lk_past (by decide +kernel)).trans ((lk_past (by decide +kernel)).trans (rfl)))))
theorem no_Receiving_bring_to_turn {v0 v1 v2 v3 v4 : V} : (fl_Receiving v0 v1 v2 v3 v4).lookup ("bring_to_turn" : Str) = none := (lk_past (by decide +kernel)).trans ((lk_past (by decide +kernel)).trans ((lk_past (by decide +kernel)).trans ((lk_past (by decide +kernel)).trans ((lk_past (by decide +kernel)).trans (rfl)))))
theorem no_Receiving_take {v0 v1 v2 v3 v4 : V} : (fl_Receiving v0 v1 v2 v3 v4).lookup ("take" : Str) = none := (lk_past (by decide +kernel)).trans ((lk_past (by decide +kernel)).trans ((lk_past (by decide +kernel)).trans ((lk_past (by decide +kernel)).trans ((lk_past (by decide +kernel)).trans (rfl)))))
theorem no_Receiving_is_short {v0 v1 v2 v3 v4 : V} : (fl_Receiving v0 v1 v2 v3 v4).lookup ("is_short" : Str) = none := (lk_past (by decide +kernel)).trans ((lk_past (by decide +kernel)).trans ((lk_past (by decide +kernel)).trans ((lk_past (by decide +kernel)).trans ((lk_past (by decide +kernel)).trans (rfl)))))
def fl_Piece (v0 v1 v2 v3 v4 : V) : List (Str × V) := [("kind", v0), ("number", v1), ("size", v2), ("due", v3), ("times_sent", v4)]
theorem lk_Piece_kind {v0 v1 v2 v3 v4 : V} : (fl_Piece v0 v1 v2 v3 v4).lookup ("kind" : Str) = some v0 := lk_here
theorem pt_Piece_kind {v0 v1 v2 v3 v4 x : V} : putF "kind" x (fl_Piece v0 v1 v2 v3 v4) = fl_Piece x v1 v2 v3 v4 := put_here
theorem lk_Piece_number {v0 v1 v2 v3 v4 : V} : (fl_Piece v0 v1 v2 v3 v4).lookup ("number" : Str) = some v1 := (lk_past (by decide +kernel)).trans (lk_here)
theorem pt_Piece_number {v0 v1 v2 v3 v4 x : V} : putF "number" x (fl_Piece v0 v1 v2 v3 v4) = fl_Piece v0 x v2 v3 v4 := put_past (by decide +kernel) (put_here)
theorem lk_Piece_size {v0 v1 v2 v3 v4 : V} : (fl_Piece v0 v1 v2 v3 v4).lookup ("size" : Str) = some v2 := (lk_past (by decide +kernel)).trans ((lk_past (by decide +kernel)).trans (lk_here))
theorem pt_Piece_size {v0 v1 v2 v3 v4 x : V} : putF "size" x (fl_Piece v0 v1 v2 v3 v4) = fl_Piece v0 v1 x v3 v4 := put_past (by decide +kernel) (put_past (by decide +kernel) (put_here))
theorem lk_Piece_due {v0 v1 v2 v3 v4 : V} : (fl_Piece v0 v1 v2 v3 v4).lookup ("due" : Str) = some v3 := (lk_past (by decide +kernel)).trans ((lk_past (by decide +kernel)).trans ((lk_past (by decide +kernel)).trans (lk_here)))
theorem pt_Piece_due {v0 v1 v2 v3 v4 x : V} : putF "due" x (fl_Piece v0 v1 v2 v3 v4) = fl_Piece v0 v1 v2 x v4 := put_past (by decide +kernel) (put_past (by decide +kernel) (put_past (by decide +kernel) (put_here)))
theorem lk_Piece_times_sent {v0 v1 v2 v3 v4 : V} : (fl_Piece v0 v1 v2 v3 v4).lookup ("times_sent" : Str) = some v4 := (lk_past (by decide +kernel)).trans ((lk_past (by decide +kernel)).trans ((lk_past (by decide +kernel)).trans ((lk_past (by decide +kernel)).trans (lk_here))))
theorem pt_Piece_times_sent {v0 v1 v2 v3 v4 x : V} : putF "times_sent" x (fl_Piece v0 v1 v2 v3 v4) = fl_Piece v0 v1 v2 v3 x := put_past (by decide +kernel) (put_past (by decide +kernel) (put_past (by decide +kernel) (put_past (by decide +kernel) (put_here))))
def fl_Part (v0 v1 v2 : V) : List (Str × V) := [("kind", v0), ("number", v1), ("octets", v2)]
theorem lk_Part_kind {v0 v1 v2 : V} : (fl_Part v0 v1 v2).lookup ("kind" : Str) = some v0 := lk_here
theorem pt_Part_kind {v0 v1 v2 x : V} : putF "kind" x (fl_Part v0 v1 v2) = fl_Part x v1 v2 := put_here
theorem lk_Part_number {v0 v1 v2 : V} : (fl_Part v0 v1 v2).lookup ("number" : Str) = some v1 := (lk_past (by decide +kernel)).trans (lk_here)
theorem pt_Part_number {v0 v1 v2 x : V} : putF "number" x (fl_Part v0 v1 v2) = fl_Part v0 x v2 := put_past (by decide +kernel) (put_here)
theorem lk_Part_octets {v0 v1 v2 : V} : (fl_Part v0 v1 v2).lookup ("octets" : Str) = some v2 := (lk_past (by decide +kernel)).trans ((lk_past (by decide +kernel)).trans (lk_here))
theorem pt_Part_octets {v0 v1 v2 x : V} : putF "octets" x (fl_Part v0 v1 v2) = fl_Part v0 v1 x := put_past (by decide +kernel) (put_past (by decide +kernel) (put_here))
def fl_Sending (v0 v1 v2 v3 v4 v5 v6 v7 : V) : List (Str × V) := [("first", v0), ("octets", v1), ("unsent", v2), ("pieces", v3), ("limit", v4), ("told", v5), ("end_sent", v6), ("ask_time", v7)]
theorem lk_Sending_first {v0 v1 v2 v3 v4 v5 v6 v7 : V} : (fl_Sending v0 v1 v2 v3 v4 v5 v6 v7).lookup ("first" : Str) = some v0 := lk_here
theorem pt_Sending_first {v0 v1 v2 v3 v4 v5 v6 v7 x : V} : putF "first" x (fl_Sending v0 v1 v2 v3 v4 v5 v6 v7) = fl_Sending x v1 v2 v3 v4 v5 v6 v7 := put_here
theorem lk_Sending_octets {v0 v1 v2 v3 v4 v5 v6 v7 : V} : (fl_Sending v0 v1 v2 v3 v4 v5 v6 v7).lookup ("octets" : Str) = some v1 := (lk_past (by decide +kernel)).trans (lk_here)
theorem pt_Sending_octets {v0 v1 v2 v3 v4 v5 v6 v7 x : V} : putF "octets" x (fl_Sending v0 v1 v2 v3 v4 v5 v6 v7) = fl_Sending v0 x v2 v3 v4 v5 v6 v7 := put_past (by decide +kernel) (put_here)
theorem lk_Sending_unsent {v0 v1 v2 v3 v4 v5 v6 v7 : V} : (fl_Sending v0 v1 v2 v3 v4 v5 v6 v7).lookup ("unsent" : Str) = some v2 := (lk_past (by decide +kernel)).trans ((lk_past (by decide +kernel)).trans (lk_here))
theorem pt_Sending_unsent {v0 v1 v2 v3 v4 v5 v6 v7 x : V} : putF "unsent" x (fl_Sending v0 v1 v2 v3 v4 v5 v6 v7) = fl_Sending v0 v1 x v3 v4 v5 v6 v7 := put_past (by decide +kernel) (put_past (by decide +kernel) (put_here))
theorem lk_Sending_pieces {v0 v1 v2 v3 v4 v5 v6 v7 : V} : (fl_Sending v0 v1 v2 v3 v4 v5 v6 v7).lookup ("pieces" : Str) = some v3 := (lk_past (by decide +kernel)).trans ((lk_past (by decide +kernel)).trans ((lk_past (by decide +kernel)).trans (lk_here)))
theorem pt_Sending_pieces {v0 v1 v2 v3 v4 v5 v6 v7 x : V} : putF "pieces" x (fl_Sending v0 v1 v2 v3 v4 v5 v6 v7) = fl_Sending v0 v1 v2 x v4 v5 v6 v7 := put_past (by decide +kernel) (put_past (by decide +kernel) (put_past (by decide +kernel) (put_here)))
theorem lk_Sending_limit {v0 v1 v2 v3 v4 v5 v6 v7 : V} : (fl_Sending v0 v1 v2 v3 v4 v5 v6 v7).lookup ("limit" : Str) = some v4 := (lk_past (by decide +kernel)).trans ((lk_past (by decide +kernel)).trans ((lk_past (by decide +kernel)).trans ((lk_past (by decide +kernel)).trans (lk_here))))
theorem pt_Sending_limit {v0 v1 v2 v3 v4 v5 v6 v7 x : V} : putF "limit" x (fl_Sending v0 v1 v2 v3 v4 v5 v6 v7) = fl_Sending v0 v1 v2 v3 x v5 v6 v7 := put_past (by decide +kernel) (put_past (by decide +kernel) (put_past (by decide +kernel) (put_past (by decide +kernel) (put_here))))
theorem lk_Sending_told {v0 v1 v2 v3 v4 v5 v6 v7 : V} : (fl_Sending v0 v1 v2 v3 v4 v5 v6 v7).lookup ("told" : Str) = some v5 := (lk_past (by decide +kernel)).trans ((lk_past (by decide +kernel)).trans ((lk_past (by decide +kernel)).trans ((lk_past (by decide +kernel)).trans ((lk_past (by decide +kernel)).trans (lk_here)))))
theorem pt_Sending_told {v0 v1 v2 v3 v4 v5 v6 v7 x : V} : putF "told" x (fl_Sending v0 v1 v2 v3 v4 v5 v6 v7) = fl_Sending v0 v1 v2 v3 v4 x v6 v7 := put_past (by decide +kernel) (put_past (by decide +kernel) (put_past (by decide +kernel) (put_past (by decide +kernel) (put_past (by decide +kernel) (put_here)))))
theorem lk_Sending_end_sent {v0 v1 v2 v3 v4 v5 v6 v7 : V} : (fl_Sending v0 v1 v2 v3 v4 v5 v6 v7).lookup ("end_sent" : Str) = some v6 := (lk_past (by decide +kernel)).trans ((lk_past (by decide +kernel)).trans ((lk_past (by decide +kernel)).trans ((lk_past (by decide +kernel)).trans ((lk_past (by decide +kernel)).trans ((lk_past (by decide +kernel)).trans (lk_here))))))
theorem pt_Sending_end_sent {v0 v1 v2 v3 v4 v5 v6 v7 x : V} : putF "end_sent" x (fl_Sending v0 v1 v2 v3 v4 v5 v6 v7) = fl_Sending v0 v1 v2 v3 v4 v5 x v7 := put_past (by decide +kernel) (put_past (by decide +kernel) (put_past (by decide +kernel) (put_past (by decide +kernel) (put_past (by decide +kernel) (put_past (by decide +kernel) (put_here))))))
theorem lk_Sending_ask_time {v0 v1 v2 v3 v4 v5 v6 v7 : V} : (fl_Sending v0 v1 v2 v3 v4 v5 v6 v7).lookup ("ask_time" : Str) = some v7 := (lk_past (by decide +kernel)).trans ((lk_past (by decide +kernel)).trans ((lk_past (by decide +kernel)).trans ((lk_past (by decide +kernel)).trans ((lk_past (by decide +kernel)).trans ((lk_past (by decide +kernel)).trans ((lk_past (by decide +kernel)).trans (lk_here)))))))
theorem pt_Sending_ask_time {v0 v1 v2 v3 v4 v5 v6 v7 x : V} : putF "ask_time" x (fl_Sending v0 v1 v2 v3 v4 v5 v6 v7) = fl_Sending v0 v1 v2 v3 v4 v5 v6 x := put_past (by decide +kernel) (put_past (by decide +kernel) (put_past (by decide +kernel) (put_past (by decide +kernel) (put_past (by decide +kernel) (put_past (by decide +kernel) (put_past (by decide +kernel) (put_here)))))))
theorem no_Sending_put {v0 v1 v2 v3 v4 v5 v6 v7 : V} : (fl_Sending v0 v1 v2 v3 v4 v5 v6 v7).lookup ("put" : Str) = none := (lk_past (by decide +kernel)).trans ((lk_past (by decide +kernel)).trans ((lk_past (by decide +kernel)).trans ((lk_past (by decide +kernel)).trans ((lk_past (by decide +kernel)).trans ((lk_past (by decide +kernel)).trans ((lk_past (by decide +kernel)).trans ((lk_past (by decide +kernel)).trans (rfl))))))))
theorem no_Sending_finish {v0 v1 v2 v3 v4 v5 v6 v7 : V} : (fl_Sending v0 v1 v2 v3 v4 v5 v6 v7).lookup ("finish" : Str) = none := (lk_past (by decide +kernel)).trans ((lk_past (by decide +kernel)).trans ((lk_past (by decide +kernel)).trans ((lk_past (by decide +kernel)).trans ((lk_past (by decide +kernel)).trans ((lk_past (by decide +kernel)).trans ((lk_past (by decide +kernel)).trans ((lk_past (by decide +kernel)).trans (rfl))))))))
theorem no_Sending_bytes_unsent {v0 v1 v2 v3 v4 v5 v6 v7 : V} : (fl_Sending v0 v1 v2 v3 v4 v5 v6 v7).lookup ("bytes_unsent" : Str) = none := (lk_past (by decide +kernel)).trans ((lk_past (by decide +kernel)).trans ((lk_past (by decide +kernel)).trans ((lk_past (by decide +kernel)).trans ((lk_past (by decide +kernel)).trans ((lk_past (by decide +kernel)).trans ((lk_past (by decide +kernel)).trans ((lk_past (by decide +kernel)).trans (rfl))))))))
theorem no_Sending_parts_at {v0 v1 v2 v3 v4 v5 v6 v7 : V} : (fl_Sending v0 v1 v2 v3 v4 v5 v6 v7).lookup ("parts_at" : Str) = none := (lk_past (by decide +kernel)).trans ((lk_past (by decide +kernel)).trans ((lk_past (by decide +kernel)).trans ((lk_past (by decide +kernel)).trans ((lk_past (by decide +kernel)).trans ((lk_past (by decide +kernel)).trans ((lk_past (by decide +kernel)).trans ((lk_past (by decide +kernel)).trans (rfl))))))))
theorem no_Sending_answer_part {v0 v1 v2 v3 v4 v5 v6 v7 : V} : (fl_Sending v0 v1 v2 v3 v4 v5 v6 v7).lookup ("answer_part" : Str) = none := (lk_past (by decide +kernel)).trans ((lk_past (by decide +kernel)).trans ((lk_past (by decide +kernel)).trans ((lk_past (by decide +kernel)).trans ((lk_past (by decide +kernel)).trans ((lk_past (by decide +kernel)).trans ((lk_past (by decide +kernel)).trans ((lk_past (by decide +kernel)).trans (rfl))))))))
theorem no_Sending_parts_again {v0 v1 v2 v3 v4 v5 v6 v7 : V} : (fl_Sending v0 v1 v2 v3 v4 v5 v6 v7).lookup ("parts_again" : Str) = none := (lk_past (by decide +kernel)).trans ((lk_past (by decide +kernel)).trans ((lk_past (by decide +kernel)).trans ((lk_past (by decide +kernel)).trans ((lk_past (by decide +kernel)).trans ((lk_past (by decide +kernel)).trans ((lk_past (by decide +kernel)).trans ((lk_past (by decide +kernel)).trans (rfl))))))))
theorem no_Sending_part_of {v0 v1 v2 v3 v4 v5 v6 v7 : V} : (fl_Sending v0 v1 v2 v3 v4 v5 v6 v7).lookup ("part_of" : Str) = none := (lk_past (by decide +kernel)).trans ((lk_past (by decide +kernel)).trans ((lk_past (by decide +kernel)).trans ((lk_past (by decide +kernel)).trans ((lk_past (by decide +kernel)).trans ((lk_past (by decide +kernel)).trans ((lk_past (by decide +kernel)).trans ((lk_past (by decide +kernel)).trans (rfl))))))))
theorem no_Sending_new_parts {v0 v1 v2 v3 v4 v5 v6 v7 : V} : (fl_Sending v0 v1 v2 v3 v4 v5 v6 v7).lookup ("new_parts" : Str) = none := (lk_past (by decide +kernel)).trans ((lk_past (by decide +kernel)).trans ((lk_past (by decide +kernel)).trans ((lk_past (by decide +kernel)).trans ((lk_past (by decide +kernel)).trans ((lk_past (by decide +kernel)).trans ((lk_past (by decide +kernel)).trans ((lk_past (by decide +kernel)).trans (rfl))))))))
theorem no_Sending_new_piece {v0 v1 v2 v3 v4 v5 v6 v7 : V} : (fl_Sending v0 v1 v2 v3 v4 v5 v6 v7).lookup ("new_piece" : Str) = none := (lk_past (by decide +kernel)).trans ((lk_past (by decide +kernel)).trans ((lk_past (by decide +kernel)).trans ((lk_past (by decide +kernel)).trans ((lk_past (by decide +kernel)).trans ((lk_past (by decide +kernel)).trans ((lk_past (by decide +kernel)).trans ((lk_past (by decide +kernel)).trans (rfl))))))))
theorem no_Sending_answered {v0 v1 v2 v3 v4 v5 v6 v7 : V} : (fl_Sending v0 v1 v2 v3 v4 v5 v6 v7).lookup ("answered" : Str) = none := (lk_past (by decide +kernel)).trans ((lk_past (by decide +kernel)).trans ((lk_past (by decide +kernel)).trans ((lk_past (by decide +kernel)).trans ((lk_past (by decide +kernel)).trans ((lk_past (by decide +kernel)).trans ((lk_past (by decide +kernel)).trans ((lk_past (by decide +kernel)).trans (rfl))))))))
def fl_LinkEnd (v0 v1 v2 v3 v4 v5 v6 v7 : V) : List (Str × V) := [("code", v0), ("name", v1), ("time", v2), ("sending", v3), ("receiving", v4), ("owes", v5), ("dropped", v6), ("mended", v7)]
theorem lk_LinkEnd_code {v0 v1 v2 v3 v4 v5 v6 v7 : V} : (fl_LinkEnd v0 v1 v2 v3 v4 v5 v6 v7).lookup ("code" : Str) = some v0 := lk_here
theorem pt_LinkEnd_code {v0 v1 v2 v3 v4 v5 v6 v7 x : V} : putF "code" x (fl_LinkEnd v0 v1 v2 v3 v4 v5 v6 v7) = fl_LinkEnd x v1 v2 v3 v4 v5 v6 v7 := put_here
theorem lk_LinkEnd_name {v0 v1 v2 v3 v4 v5 v6 v7 : V} : (fl_LinkEnd v0 v1 v2 v3 v4 v5 v6 v7).lookup ("name" : Str) = some v1 := (lk_past (by decide +kernel)).trans (lk_here)
theorem pt_LinkEnd_name {v0 v1 v2 v3 v4 v5 v6 v7 x : V} : putF "name" x (fl_LinkEnd v0 v1 v2 v3 v4 v5 v6 v7) = fl_LinkEnd v0 x v2 v3 v4 v5 v6 v7 := put_past (by decide +kernel) (put_here)
theorem lk_LinkEnd_time {v0 v1 v2 v3 v4 v5 v6 v7 : V} : (fl_LinkEnd v0 v1 v2 v3 v4 v5 v6 v7).lookup ("time" : Str) = some v2 := (lk_past (by decide +kernel)).trans ((lk_past (by decide +kernel)).trans (lk_here))
theorem pt_LinkEnd_time {v0 v1 v2 v3 v4 v5 v6 v7 x : V} : putF "time" x (fl_LinkEnd v0 v1 v2 v3 v4 v5 v6 v7) = fl_LinkEnd v0 v1 x v3 v4 v5 v6 v7 := put_past (by decide +kernel) (put_past (by decide +kernel) (put_here))
theorem lk_LinkEnd_sending {v0 v1 v2 v3 v4 v5 v6 v7 : V} : (fl_LinkEnd v0 v1 v2 v3 v4 v5 v6 v7).lookup ("sending" : Str) = some v3 := (lk_past (by decide +kernel)).trans ((lk_past (by decide +kernel)).trans ((lk_past (by decide +kernel)).trans (lk_here)))
theorem pt_LinkEnd_sending {v0 v1 v2 v3 v4 v5 v6 v7 x : V} : putF "sending" x (fl_LinkEnd v0 v1 v2 v3 v4 v5 v6 v7) = fl_LinkEnd v0 v1 v2 x v4 v5 v6 v7 := put_past (by decide +kernel) (put_past (by decide +kernel) (put_past (by decide +kernel) (put_here)))
theorem lk_LinkEnd_receiving {v0 v1 v2 v3 v4 v5 v6 v7 : V} : (fl_LinkEnd v0 v1 v2 v3 v4 v5 v6 v7).lookup ("receiving" : Str) = some v4 := (lk_past (by decide +kernel)).trans ((lk_past (by decide +kernel)).trans ((lk_past (by decide +kernel)).trans ((lk_past (by decide +kernel)).trans (lk_here))))
theorem pt_LinkEnd_receiving {v0 v1 v2 v3 v4 v5 v6 v7 x : V} : putF "receiving" x (fl_LinkEnd v0 v1 v2 v3 v4 v5 v6 v7) = fl_LinkEnd v0 v1 v2 v3 x v5 v6 v7 := put_past (by decide +kernel) (put_past (by decide +kernel) (put_past (by decide +kernel) (put_past (by decide +kernel) (put_here))))
theorem lk_LinkEnd_owes {v0 v1 v2 v3 v4 v5 v6 v7 : V} : (fl_LinkEnd v0 v1 v2 v3 v4 v5 v6 v7).lookup ("owes" : Str) = some v5 := (lk_past (by decide +kernel)).trans ((lk_past (by decide +kernel)).trans ((lk_past (by decide +kernel)).trans ((lk_past (by decide +kernel)).trans ((lk_past (by decide +kernel)).trans (lk_here)))))
theorem pt_LinkEnd_owes {v0 v1 v2 v3 v4 v5 v6 v7 x : V} : putF "owes" x (fl_LinkEnd v0 v1 v2 v3 v4 v5 v6 v7) = fl_LinkEnd v0 v1 v2 v3 v4 x v6 v7 := put_past (by decide +kernel) (put_past (by decide +kernel) (put_past (by decide +kernel) (put_past (by decide +kernel) (put_past (by decide +kernel) (put_here)))))
theorem lk_LinkEnd_dropped {v0 v1 v2 v3 v4 v5 v6 v7 : V} : (fl_LinkEnd v0 v1 v2 v3 v4 v5 v6 v7).lookup ("dropped" : Str) = some v6 := (lk_past (by decide +kernel)).trans ((lk_past (by decide +kernel)).trans ((lk_past (by decide +kernel)).trans ((lk_past (by decide +kernel)).trans ((lk_past (by decide +kernel)).trans ((lk_past (by decide +kernel)).trans (lk_here))))))
theorem pt_LinkEnd_dropped {v0 v1 v2 v3 v4 v5 v6 v7 x : V} : putF "dropped" x (fl_LinkEnd v0 v1 v2 v3 v4 v5 v6 v7) = fl_LinkEnd v0 v1 v2 v3 v4 v5 x v7 := put_past (by decide +kernel) (put_past (by decide +kernel) (put_past (by decide +kernel) (put_past (by decide +kernel) (put_past (by decide +kernel) (put_past (by decide +kernel) (put_here))))))
theorem lk_LinkEnd_mended {v0 v1 v2 v3 v4 v5 v6 v7 : V} : (fl_LinkEnd v0 v1 v2 v3 v4 v5 v6 v7).lookup ("mended" : Str) = some v7 := (lk_past (by decide +kernel)).trans ((lk_past (by decide +kernel)).trans ((lk_past (by decide +kernel)).trans ((lk_past (by decide +kernel)).trans ((lk_past (by decide +kernel)).trans ((lk_past (by decide +kernel)).trans ((lk_past (by decide +kernel)).trans (lk_here)))))))
theorem pt_LinkEnd_mended {v0 v1 v2 v3 v4 v5 v6 v7 x : V} : putF "mended" x (fl_LinkEnd v0 v1 v2 v3 v4 v5 v6 v7) = fl_LinkEnd v0 v1 v2 v3 v4 v5 v6 x := put_past (by decide +kernel) (put_past (by decide +kernel) (put_past (by decide +kernel) (put_past (by decide +kernel) (put_past (by decide +kernel) (put_past (by decide +kernel) (put_past (by decide +kernel) (put_here)))))))
theorem no_LinkEnd_put {v0 v1 v2 v3 v4 v5 v6 v7 : V} : (fl_LinkEnd v0 v1 v2 v3 v4 v5 v6 v7).lookup ("put" : Str) = none := (lk_past (by decide +kernel)).trans ((lk_past (by decide +kernel)).trans ((lk_past (by decide +kernel)).trans ((lk_past (by decide +kernel)).trans ((lk_past (by decide +kernel)).trans ((lk_past (by decide +kernel)).trans ((lk_past (by decide +kernel)).trans ((lk_past (by decide +kernel)).trans (rfl))))))))
theorem no_LinkEnd_finish {v0 v1 v2 v3 v4 v5 v6 v7 : V} : (fl_LinkEnd v0 v1 v2 v3 v4 v5 v6 v7).lookup ("finish" : Str) = none := (lk_past (by decide +kernel)).trans ((lk_past (by decide +kernel)).trans ((lk_past (by decide +kernel)).trans ((lk_past (by decide +kernel)).trans ((lk_past (by decide +kernel)).trans ((lk_past (by decide +kernel)).trans ((lk_past (by decide +kernel)).trans ((lk_past (by decide +kernel)).trans (rfl))))))))
theorem no_LinkEnd_tick {v0 v1 v2 v3 v4 v5 v6 v7 : V} : (fl_LinkEnd v0 v1 v2 v3 v4 v5 v6 v7).lookup ("tick" : Str) = none := (lk_past (by decide +kernel)).trans ((lk_past (by decide +kernel)).trans ((lk_past (by decide +kernel)).trans ((lk_past (by decide +kernel)).trans ((lk_past (by decide +kernel)).trans ((lk_past (by decide +kernel)).trans ((lk_past (by decide +kernel)).trans ((lk_past (by decide +kernel)).trans (rfl))))))))
theorem no_LinkEnd_sent_as {v0 v1 v2 v3 v4 v5 v6 v7 : V} : (fl_LinkEnd v0 v1 v2 v3 v4 v5 v6 v7).lookup ("sent_as" : Str) = none := (lk_past (by decide +kernel)).trans ((lk_past (by decide +kernel)).trans ((lk_past (by decide +kernel)).trans ((lk_past (by decide +kernel)).trans ((lk_past (by decide +kernel)).trans ((lk_past (by decide +kernel)).trans ((lk_past (by decide +kernel)).trans ((lk_past (by decide +kernel)).trans (rfl))))))))
theorem no_LinkEnd_came {v0 v1 v2 v3 v4 v5 v6 v7 : V} : (fl_LinkEnd v0 v1 v2 v3 v4 v5 v6 v7).lookup ("came" : Str) = none := (lk_past (by decide +kernel)).trans ((lk_past (by decide +kernel)).trans ((lk_past (by decide +kernel)).trans ((lk_past (by decide +kernel)).trans ((lk_past (by decide +kernel)).trans ((lk_past (by decide +kernel)).trans ((lk_past (by decide +kernel)).trans ((lk_past (by decide +kernel)).trans (rfl))))))))
theorem no_LinkEnd_accept_packet {v0 v1 v2 v3 v4 v5 v6 v7 : V} : (fl_LinkEnd v0 v1 v2 v3 v4 v5 v6 v7).lookup ("accept_packet" : Str) = none := (lk_past (by decide +kernel)).trans ((lk_past (by decide +kernel)).trans ((lk_past (by decide +kernel)).trans ((lk_past (by decide +kernel)).trans ((lk_past (by decide +kernel)).trans ((lk_past (by decide +kernel)).trans ((lk_past (by decide +kernel)).trans ((lk_past (by decide +kernel)).trans (rfl))))))))
theorem no_LinkEnd_take {v0 v1 v2 v3 v4 v5 v6 v7 : V} : (fl_LinkEnd v0 v1 v2 v3 v4 v5 v6 v7).lookup ("take" : Str) = none := (lk_past (by decide +kernel)).trans ((lk_past (by decide +kernel)).trans ((lk_past (by decide +kernel)).trans ((lk_past (by decide +kernel)).trans ((lk_past (by decide +kernel)).trans ((lk_past (by decide +kernel)).trans ((lk_past (by decide +kernel)).trans ((lk_past (by decide +kernel)).trans (rfl))))))))
theorem no_LinkEnd_tell {v0 v1 v2 v3 v4 v5 v6 v7 : V} : (fl_LinkEnd v0 v1 v2 v3 v4 v5 v6 v7).lookup ("tell" : Str) = none := (lk_past (by decide +kernel)).trans ((lk_past (by decide +kernel)).trans ((lk_past (by decide +kernel)).trans ((lk_past (by decide +kernel)).trans ((lk_past (by decide +kernel)).trans ((lk_past (by decide +kernel)).trans ((lk_past (by decide +kernel)).trans ((lk_past (by decide +kernel)).trans (rfl))))))))
def fl_Link (v0 v1 : V) : List (Str × V) := [("code", v0), ("ends", v1)]
theorem lk_Link_code {v0 v1 : V} : (fl_Link v0 v1).lookup ("code" : Str) = some v0 := lk_here
theorem pt_Link_code {v0 v1 x : V} : putF "code" x (fl_Link v0 v1) = fl_Link x v1 := put_here
theorem lk_Link_ends {v0 v1 : V} : (fl_Link v0 v1).lookup ("ends" : Str) = some v1 := (lk_past (by decide +kernel)).trans (lk_here)
theorem pt_Link_ends {v0 v1 x : V} : putF "ends" x (fl_Link v0 v1) = fl_Link v0 x := put_past (by decide +kernel) (put_here)
theorem no_Link_begin {v0 v1 : V} : (fl_Link v0 v1).lookup ("begin" : Str) = none := (lk_past (by decide +kernel)).trans ((lk_past (by decide +kernel)).trans (rfl))
theorem no_Link_answer_to {v0 v1 : V} : (fl_Link v0 v1).lookup ("answer_to" : Str) = none := (lk_past (by decide +kernel)).trans ((lk_past (by decide +kernel)).trans (rfl))
end Sl
/-! ## GfA -/
set_option Elab.async false
set_option maxRecDepth 100000
namespace Gf
open Fm11

theorem xlt {a b : Nat} (ha : a < 256) (hb : b < 256) : a ^^^ b < 256 := Nat.xor_lt_two_pow (n := 8) ha hb

theorem twice_eq {a : Nat} (h : a < 256) : twice a = (2 * a) ^^^ (0x11B * (a / 128)) := by
  unfold twice
  by_cases c : a < 128
  · rw [if_pos c, Nat.div_eq_of_lt c]; simp
  · rw [if_neg c]
    have : a / 128 = 1 := by omega
    rw [this]

theorem twice_lt {a : Nat} (h : a < 256) : twice a < 256 := by
  revert h; revert a; decide +kernel

theorem two_xor (a b : Nat) : 2 * (a ^^^ b) = (2 * a) ^^^ (2 * b) := by
  have := Nat.shiftLeft_xor_distrib (i := 1) (a := a) (b := b)
  simp only [Nat.shiftLeft_eq, Nat.pow_one] at this
  rw [Nat.mul_comm 2, Nat.mul_comm 2, Nat.mul_comm 2]; exact this

theorem div_xor (a b : Nat) (k : Nat) : (a ^^^ b) / 2 ^ k = (a / 2 ^ k) ^^^ (b / 2 ^ k) := by
  have := Nat.shiftRight_xor_distrib (i := k) (a := a) (b := b)
  simpa only [Nat.shiftRight_eq_div_pow] using this

theorem twice_xor {a b : Nat} (ha : a < 256) (hb : b < 256) : twice (a ^^^ b) = twice a ^^^ twice b := by
  rw [twice_eq ha, twice_eq hb, twice_eq (xlt ha hb), two_xor]
  have e := div_xor a b 7
  have e7 : (2 : Nat) ^ 7 = 128 := rfl
  rw [e7] at e
  rw [e]
  have h1 : a / 128 = 0 ∨ a / 128 = 1 := by omega
  have h2 : b / 128 = 0 ∨ b / 128 = 1 := by omega
  have sw : ∀ p q r s : Nat, (p ^^^ q) ^^^ (r ^^^ s) = (p ^^^ r) ^^^ (q ^^^ s) := by
    intro p q r s
    simp only [Nat.xor_assoc]
    rw [← Nat.xor_assoc q r s, Nat.xor_comm q r, Nat.xor_assoc r q s]
  rcases h1 with h1 | h1 <;> rcases h2 with h2 | h2 <;> rw [h1, h2, sw] <;> rfl

/-- one turn of the product -/
def turn (a b r i : Nat) : Nat := if b / 2 ^ (7 - i) % 2 = 1 then twice r ^^^ a else twice r
theorem times_fold (a b : Nat) : times a b = (List.range 8).foldl (turn a b) 0 := rfl

theorem turn_lt {a b r i : Nat} (ha : a < 256) (hr : r < 256) : turn a b r i < 256 := by
  unfold turn; split
  · exact xlt (twice_lt hr) ha
  · exact twice_lt hr
theorem fold_lt {a b : Nat} (ha : a < 256) : ∀ (l : List Nat) (r : Nat), r < 256 → l.foldl (turn a b) r < 256
  | [], _, h => h
  | i :: l, r, h => fold_lt ha l _ (turn_lt ha h)
theorem times_lt {a : Nat} (b : Nat) (ha : a < 256) : times a b < 256 := fold_lt ha _ _ (by decide)

theorem x4 (p q r s : Nat) : (p ^^^ q) ^^^ (r ^^^ s) = (p ^^^ r) ^^^ (q ^^^ s) := by
  simp only [Nat.xor_assoc]
  rw [← Nat.xor_assoc q r s, Nat.xor_comm q r, Nat.xor_assoc r q s]

theorem turn_left {a a' b r r' i : Nat} (hr : r < 256) (hr' : r' < 256) :
    turn (a ^^^ a') b (r ^^^ r') i = turn a b r i ^^^ turn a' b r' i := by
  unfold turn
  split
  · rw [twice_xor hr hr', x4]
  · rw [twice_xor hr hr']
theorem fold_left {a a' b : Nat} (ha : a < 256) (ha' : a' < 256) : ∀ (l : List Nat) (r r' : Nat), r < 256 → r' < 256 →
    l.foldl (turn (a ^^^ a') b) (r ^^^ r') = l.foldl (turn a b) r ^^^ l.foldl (turn a' b) r'
  | [], _, _, _, _ => rfl
  | i :: l, r, r', h, h' => by
    simp only [List.foldl_cons]
    rw [turn_left h h']
    exact fold_left ha ha' l _ _ (turn_lt ha h) (turn_lt ha' h')
theorem times_xor_left {a a' : Nat} (b : Nat) (ha : a < 256) (ha' : a' < 256) : times (a ^^^ a') b = times a b ^^^ times a' b := by
  have := fold_left (b := b) ha ha' (List.range 8) 0 0 (by decide) (by decide)
  exact this

theorem bit_xor (b c k : Nat) : (b ^^^ c) / 2 ^ k % 2 = (b / 2 ^ k % 2) ^^^ (c / 2 ^ k % 2) := by
  rw [div_xor]
  have := Nat.xor_mod_two_pow (n := 1) (a := b / 2 ^ k) (b := c / 2 ^ k)
  simpa using this

theorem turn_right {a b c r r' i : Nat} (hr : r < 256) (hr' : r' < 256) :
    turn a (b ^^^ c) (r ^^^ r') i = turn a b r i ^^^ turn a c r' i := by
  unfold turn
  rw [bit_xor, twice_xor hr hr']
  have h1 : b / 2 ^ (7 - i) % 2 = 0 ∨ b / 2 ^ (7 - i) % 2 = 1 := by omega
  have h2 : c / 2 ^ (7 - i) % 2 = 0 ∨ c / 2 ^ (7 - i) % 2 = 1 := by omega
  rcases h1 with h1 | h1 <;> rcases h2 with h2 | h2 <;> rw [h1, h2]
  · rw [if_neg (by decide), if_neg (by decide), if_neg (by decide)]
  · rw [if_pos (by decide), if_neg (by decide), if_pos (by decide), Nat.xor_assoc]
  · rw [if_pos (by decide), if_pos (by decide), if_neg (by decide), Nat.xor_assoc, Nat.xor_assoc, Nat.xor_comm a]
  · rw [if_neg (by decide), if_pos (by decide), if_pos (by decide), x4, Nat.xor_self, Nat.xor_zero]
theorem fold_right {a b c : Nat} (ha : a < 256) : ∀ (l : List Nat) (r r' : Nat), r < 256 → r' < 256 →
    l.foldl (turn a (b ^^^ c)) (r ^^^ r') = l.foldl (turn a b) r ^^^ l.foldl (turn a c) r'
  | [], _, _, _, _ => rfl
  | i :: l, r, r', h, h' => by
    simp only [List.foldl_cons]
    rw [turn_right h h']
    exact fold_right ha l _ _ (turn_lt ha h) (turn_lt ha h')
theorem times_xor_right {a : Nat} (b c : Nat) (ha : a < 256) : times a (b ^^^ c) = times a b ^^^ times a c := by
  have := fold_right (b := b) (c := c) ha (List.range 8) 0 0 (by decide) (by decide)
  exact this

theorem turn_twice {a b r i : Nat} (ha : a < 256) (hr : r < 256) : turn (twice a) b (twice r) i = twice (turn a b r i) := by
  unfold turn
  split
  · rw [twice_xor (twice_lt hr) ha]
  · rfl
theorem fold_twice {a b : Nat} (ha : a < 256) : ∀ (l : List Nat) (r : Nat), r < 256 →
    l.foldl (turn (twice a) b) (twice r) = twice (l.foldl (turn a b) r)
  | [], _, _ => rfl
  | i :: l, r, h => by
    simp only [List.foldl_cons]
    rw [turn_twice ha h]
    exact fold_twice ha l _ (turn_lt ha h)
theorem times_twice_left {a : Nat} (b : Nat) (ha : a < 256) : times (twice a) b = twice (times a b) := by
  have := fold_twice (b := b) ha (List.range 8) 0 (by decide)
  exact this

theorem zero_times (b : Nat) : times 0 b = 0 := by
  have : ∀ (l : List Nat), l.foldl (turn 0 b) 0 = 0 := by
    intro l
    induction l with
    | nil => rfl
    | cons i l ih =>
      rw [List.foldl_cons]
      have : turn 0 b 0 i = 0 := by unfold turn; split <;> rfl
      rw [this]; exact ih
  exact this _
theorem times_zero (a : Nat) : times a 0 = 0 := by
  have : ∀ (l : List Nat), l.foldl (turn a 0) 0 = 0 := by
    intro l
    induction l with
    | nil => rfl
    | cons i l ih =>
      rw [List.foldl_cons]
      have : turn a 0 0 i = 0 := by
        unfold turn
        rw [if_neg (by simp)]; rfl
      rw [this]; exact ih
  exact this _
theorem one_times : ∀ b < 256, times 1 b = b := by decide +kernel
theorem times_one : ∀ b < 256, times b 1 = b := by decide +kernel

/-- what holds of 0 and 1 and goes on by doubling and by sums holds of each byte -/
theorem byte_ind {p : Nat → Prop} (h0 : p 0) (h1 : p 1) (ht : ∀ a, a < 256 → p a → p (twice a)) (hx : ∀ a b, a < 256 → b < 256 → p a → p b → p (a ^^^ b)) : ∀ a, a < 256 → p a := by
  intro a
  induction a using Nat.strongRecOn with
  | ind a ih =>
    intro h
    by_cases c : a = 0
    · rw [c]; exact h0
    have hh := ih (a / 2) (by omega) (by omega)
    have h2 : p (twice (a / 2)) := ht _ (by omega) hh
    have e2 : twice (a / 2) = 2 * (a / 2) := by unfold twice; rw [if_pos (by omega)]
    have h3 : a % 2 = 0 ∨ a % 2 = 1 := by omega
    rcases h3 with h3 | h3
    · have : a = twice (a / 2) := by rw [e2]; omega
      rw [this]; exact h2
    · have : a = twice (a / 2) ^^^ 1 := by
        rw [e2]
        have : (2 * (a / 2)) ^^^ 1 = 2 * (a / 2) + 1 := by
          apply Nat.eq_of_testBit_eq
          intro i
          rw [Nat.testBit_xor]
          cases i with
          | zero => simp
          | succ i =>
            have e1 : 2 * (a / 2) / 2 = a / 2 := by omega
            have e2 : (2 * (a / 2) + 1) / 2 = a / 2 := by omega
            rw [Nat.testBit_succ, Nat.testBit_succ, Nat.testBit_succ, e1, e2]
            simp
        rw [this]; omega
      rw [this]; exact hx _ _ (twice_lt (by omega)) (by decide) h2 h1

theorem times_twice_right {b : Nat} (hb : b < 256) : ∀ a, a < 256 → times a (twice b) = twice (times a b) := by
  apply byte_ind
  · rw [zero_times, zero_times]; rfl
  · rw [one_times _ hb, one_times _ (twice_lt hb)]
  · intro a ha h
    rw [times_twice_left _ ha, times_twice_left _ ha, h]
  · intro a c ha hc h h'
    rw [times_xor_left _ ha hc, times_xor_left _ ha hc, h, h', twice_xor (times_lt _ ha) (times_lt _ hc)]

theorem times_comm {b : Nat} (hb : b < 256) : ∀ a, a < 256 → times a b = times b a := by
  apply byte_ind
  · rw [zero_times, times_zero]
  · rw [one_times _ hb, times_one _ hb]
  · intro a ha h
    rw [times_twice_left _ ha, h, times_twice_right ha _ hb]
  · intro a c ha hc h h'
    rw [times_xor_left _ ha hc, h, h', times_xor_right _ _ hb]

theorem times_assoc {b c : Nat} (hb : b < 256) : ∀ a, a < 256 → times (times a b) c = times a (times b c) := by
  apply byte_ind
  · rw [zero_times, zero_times, zero_times]
  · rw [one_times _ hb, one_times _ (times_lt _ hb)]
  · intro a ha h
    rw [times_twice_left _ ha, times_twice_left _ ha, times_twice_left _ (times_lt _ ha), h]
  · intro a d ha hd h h'
    rw [times_xor_left _ ha hd, times_xor_left _ ha hd, times_xor_left _ (times_lt _ ha) (times_lt _ hd), h, h']

theorem power_lt : ∀ k, power k < 256
  | 0 => by decide
  | k + 1 => by
    show times 3 (power k) < 256
    exact times_lt _ (by decide)
/-- the first 255 powers, one behind another -/
def pows : Nat → Nat → List Nat
  | 0, _ => []
  | n + 1, x => x :: pows n (times 3 x)
theorem pows_at : ∀ (n k i : Nat), i < n → (pows n (power k)).getD i 0 = power (k + i)
  | 0, _, _, h => absurd h (Nat.not_lt_zero _)
  | n + 1, k, 0, _ => rfl
  | n + 1, k, i + 1, h => by
    show (pows n (power (k + 1))).getD i 0 = _
    rw [pows_at n (k + 1) i (by omega)]
    congr 1; omega
def table : List Nat := pows 255 1
theorem table_at {i : Nat} (h : i < 255) : table.getD i 0 = power i := by
  have := pows_at 255 0 i h
  rw [Nat.zero_add] at this; exact this
theorem power_255 : power 255 = 1 := by decide +kernel
theorem table_all : ∀ a < 256, a ≠ 0 → (table.idxOf a < 255 ∧ table.getD (table.idxOf a) 0 = a) := by decide +kernel
/-- to which power 3 is a byte -/
def lg (a : Nat) : Nat := table.idxOf a
theorem lg_lt {a : Nat} (h : a < 256) (h0 : a ≠ 0) : lg a < 255 := (table_all a h h0).1
theorem power_lg {a : Nat} (h : a < 256) (h0 : a ≠ 0) : power (lg a) = a := by
  rw [← table_at (lg_lt h h0)]; exact (table_all a h h0).2

theorem power_add (i : Nat) : ∀ j, times (power i) (power j) = power (i + j)
  | 0 => times_one _ (power_lt _)
  | j + 1 => by
    show times (power i) (times 3 (power j)) = times 3 (power (i + j))
    rw [← power_add i j, ← times_assoc (power_lt _) 3 (by decide), ← times_assoc (by decide) _ (power_lt _), times_comm (by decide) _ (power_lt i)]
theorem power_mod (i : Nat) : power i = power (i % 255) := by
  induction i using Nat.strongRecOn with
  | ind i ih =>
    by_cases c : i < 255
    · rw [Nat.mod_eq_of_lt c]
    · have e : i = 255 + (i - 255) := by omega
      have : power i = power (i - 255) := by
        conv => lhs; rw [e]
        rw [← power_add, power_255, one_times _ (power_lt _)]
      rw [this, ih _ (by omega)]
      congr 1; omega
theorem lg_all : ∀ i < 255, table.idxOf (table.getD i 0) = i := by decide +kernel
theorem lg_power {i : Nat} (h : i < 255) : lg (power i) = i := by
  rw [← table_at h]; exact lg_all i h
theorem power_ne : ∀ i, power i ≠ 0 := by
  have : ∀ i < 255, table.getD i 0 ≠ 0 := by decide +kernel
  intro i
  rw [power_mod, ← table_at (Nat.mod_lt _ (by decide))]
  exact this _ (Nat.mod_lt _ (by decide))
theorem power_inj {i j : Nat} (hi : i < 255) (hj : j < 255) (h : power i = power j) : i = j := by
  have := congrArg lg h
  rwa [lg_power hi, lg_power hj] at this

/-- the one whose product with a is 1 -/
theorem times_eq_one {a : Nat} (ha : a < 256) (h0 : a ≠ 0) {x : Nat} (hx : x < 256) : times a x = 1 ↔ x = power (255 - lg a) := by
  have hl := lg_lt ha h0
  constructor
  · intro h
    have : times (power (255 - lg a)) (times a x) = power (255 - lg a) := by rw [h]; exact times_one _ (power_lt _)
    rw [← times_assoc ha _ (power_lt _)] at this
    have e : times (power (255 - lg a)) a = 1 := by
      conv => lhs; arg 2; rw [← power_lg ha h0]
      rw [power_add, show 255 - lg a + lg a = 255 by omega]; exact power_255
    rw [e, one_times _ hx] at this
    exact this
  · intro h
    rw [h]
    conv => lhs; arg 1; rw [← power_lg ha h0]
    rw [power_add, show lg a + (255 - lg a) = 255 by omega]; exact power_255
theorem find_unique {p : Nat → Bool} {y : Nat} : ∀ (l : List Nat), y ∈ l → p y = true → (∀ x ∈ l, p x = true → x = y) → l.find? p = some y
  | [], h, _, _ => absurd h (List.not_mem_nil)
  | x :: l, h, hp, hu => by
    by_cases c : p x = true
    · rw [List.find?_cons_of_pos c, hu x (List.mem_cons_self ..) c]
    · rw [List.find?_cons_of_neg c]
      refine find_unique l ?_ hp fun z hz => hu z (List.mem_cons_of_mem _ hz)
      rcases List.mem_cons.mp h with h | h
      · rw [h] at hp; exact absurd hp c
      · exact h
theorem inverse_eq {a : Nat} (ha : a < 256) (h0 : a ≠ 0) : inverse a = power (255 - lg a) := by
  unfold inverse
  rw [find_unique (y := power (255 - lg a)) (List.range 256) (List.mem_range.mpr (power_lt _))]
  · rfl
  · rw [beq_iff_eq]; exact (times_eq_one ha h0 (power_lt _)).mpr rfl
  · intro x hx h
    rw [beq_iff_eq] at h
    exact (times_eq_one ha h0 (List.mem_range.mp hx)).mp h
theorem inverse_zero : inverse 0 = 0 := by
  unfold inverse
  have : (List.range 256).find? (fun x => times 0 x == 1) = none := by
    rw [List.find?_eq_none]
    intro x _
    rw [zero_times]; decide
  rw [this]; rfl
theorem inverse_lt {a : Nat} (ha : a < 256) : inverse a < 256 := by
  by_cases c : a = 0
  · rw [c, inverse_zero]; decide
  · rw [inverse_eq ha c]; exact power_lt _
theorem times_inverse {a : Nat} (ha : a < 256) (h0 : a ≠ 0) : times a (inverse a) = 1 := by
  rw [inverse_eq ha h0]; exact (times_eq_one ha h0 (power_lt _)).mpr rfl
theorem times_ne {a b : Nat} (ha : a < 256) (hb : b < 256) (ha0 : a ≠ 0) (hb0 : b ≠ 0) : times a b ≠ 0 := by
  rw [← power_lg ha ha0, ← power_lg hb hb0, power_add]
  exact power_ne _
/-- a product by sums of powers -/
theorem times_lg {a b : Nat} (ha : a < 256) (hb : b < 256) (ha0 : a ≠ 0) (hb0 : b ≠ 0) : times a b = power ((lg a + lg b) % 255) := by
  conv => lhs; rw [← power_lg ha ha0, ← power_lg hb hb0]
  rw [power_add, power_mod]
end Gf
/-! ## BmA -/
set_option Elab.async false
namespace Bm
open Lean.Grind
variable {F : Type} [Field F]

def sm : Nat → (Nat → F) → F
  | 0, _ => 0
  | n + 1, f => sm n f + f n
theorem sm_congr {f g : Nat → F} : ∀ n, (∀ i, i < n → f i = g i) → sm n f = sm n g
  | 0, _ => rfl
  | n + 1, h => by
    show sm n f + f n = sm n g + g n
    rw [sm_congr n fun i hi => h i (by omega), h n (by omega)]
theorem sm_zero {f : Nat → F} : ∀ n, (∀ i, i < n → f i = 0) → sm n f = 0
  | 0, _ => rfl
  | n + 1, h => by
    show sm n f + f n = 0
    rw [sm_zero n fun i hi => h i (by omega), h n (by omega)]
    grind
theorem sm_add (f g : Nat → F) : ∀ n, sm n (fun i => f i + g i) = sm n f + sm n g
  | 0 => by show (0 : F) = 0 + 0; grind
  | n + 1 => by
    show sm n _ + (f n + g n) = (sm n f + f n) + (sm n g + g n)
    rw [sm_add f g n]; grind
theorem sm_sub (f g : Nat → F) : ∀ n, sm n (fun i => f i - g i) = sm n f - sm n g
  | 0 => by show (0 : F) = 0 - 0; grind
  | n + 1 => by
    show sm n _ + (f n - g n) = (sm n f + f n) - (sm n g + g n)
    rw [sm_sub f g n]; grind
theorem sm_mul (c : F) (f : Nat → F) : ∀ n, sm n (fun i => c * f i) = c * sm n f
  | 0 => by show (0 : F) = c * 0; grind
  | n + 1 => by
    show sm n _ + c * f n = c * (sm n f + f n)
    rw [sm_mul c f n]; grind
theorem sm_left (f : Nat → F) : ∀ n, sm (n + 1) f = f 0 + sm n (fun i => f (i + 1))
  | 0 => by show (0 : F) + f 0 = f 0 + 0; grind
  | n + 1 => by
    show sm (n + 1) f + f (n + 1) = f 0 + (sm n (fun i => f (i + 1)) + f (n + 1))
    rw [sm_left f n]; grind
/-- what lies behind n is 0: so much more may be summed -/
theorem sm_more {f : Nat → F} {n : Nat} (h : ∀ i, n ≤ i → f i = 0) : ∀ k, sm (n + k) f = sm n f
  | 0 => rfl
  | k + 1 => by
    show sm (n + k) f + f (n + k) = _
    rw [sm_more h k, h (n + k) (by omega)]; grind
theorem sm_to {f : Nat → F} {n m : Nat} (hm : n ≤ m) (h : ∀ i, n ≤ i → f i = 0) : sm m f = sm n f := by
  obtain ⟨k, rfl⟩ : ∃ k, m = n + k := ⟨m - n, by omega⟩
  exact sm_more h k
theorem sm_to' {f : Nat → F} {n m : Nat} (hm : n ≤ m) (h : ∀ i, n ≤ i → i < m → f i = 0) : sm m f = sm n f := by
  obtain ⟨k, rfl⟩ : ∃ k, m = n + k := ⟨m - n, by omega⟩
  clear hm
  induction k with
  | zero => rfl
  | succ k ih =>
    show sm (n + k) f + f (n + k) = _
    rw [ih fun i h1 h2 => h i h1 (by omega), h (n + k) (by omega) (by omega)]; grind
/-- by one place further -/
def sh (f : Nat → F) : Nat → F
  | 0 => 0
  | k + 1 => f k
/-- by m places -/
def shm (m : Nat) (f : Nat → F) : Nat → F := fun k => if k < m then 0 else f (k - m)
theorem sm_shm (m : Nat) (f : Nat → F) : ∀ n, sm (m + n) (shm m f) = sm n f
  | 0 => by
    apply sm_zero
    intro i hi
    show (if i < m then (0 : F) else _) = 0
    rw [if_pos (by omega)]
  | n + 1 => by
    show sm (m + n) (shm m f) + shm m f (m + n) = sm n f + f n
    rw [sm_shm m f n]
    have : shm m f (m + n) = f n := by
      show (if m + n < m then (0 : F) else f (m + n - m)) = _
      rw [if_neg (by omega)]; congr 1; omega
    rw [this]

/-- the product's coefficient -/
def conv (c s : Nat → F) (k : Nat) : F := sm (k + 1) fun i => c i * s (k - i)
def xconv (c s : Nat → F) : Nat → F := sh (conv c s)
theorem conv_add (a b s : Nat → F) (k : Nat) : conv (fun i => a i + b i) s k = conv a s k + conv b s k := by
  show sm (k + 1) _ = sm (k + 1) _ + sm (k + 1) _
  rw [← sm_add]
  exact sm_congr _ fun i _ => by grind
theorem conv_mul (d : F) (b s : Nat → F) (k : Nat) : conv (fun i => d * b i) s k = d * conv b s k := by
  show sm (k + 1) _ = d * sm (k + 1) _
  rw [← sm_mul]
  exact sm_congr _ fun i _ => by grind
theorem conv_shm (m : Nat) (b s : Nat → F) (k : Nat) : conv (shm m b) s k = shm m (conv b s) k := by
  by_cases h : k < m
  · show sm (k + 1) _ = if k < m then 0 else _
    rw [if_pos h]
    apply sm_zero
    intro i hi
    show (if i < m then (0 : F) else _) * _ = 0
    rw [if_pos (by omega)]; grind
  · show sm (k + 1) _ = if k < m then 0 else conv b s (k - m)
    rw [if_neg h]
    have e : m + (k - m + 1) = k + 1 := by omega
    have e2 := sm_shm m (fun i => b i * s (k - m - i)) (k - m + 1)
    rw [e] at e2
    refine Eq.trans ?_ e2
    refine sm_congr _ fun i hi => ?_
    show (if i < m then (0 : F) else b (i - m)) * s (k - i) = if i < m then 0 else b (i - m) * s (k - m - (i - m))
    by_cases g : i < m
    · rw [if_pos g, if_pos g]; grind
    · rw [if_neg g, if_neg g]
      have : k - m - (i - m) = k - i := by omega
      rw [this]
theorem xconv_add (a b s : Nat → F) (k : Nat) : xconv (fun i => a i + b i) s k = xconv a s k + xconv b s k := by
  cases k with
  | zero => show (0 : F) = 0 + 0; grind
  | succ k => exact conv_add a b s k
theorem xconv_mul (d : F) (b s : Nat → F) (k : Nat) : xconv (fun i => d * b i) s k = d * xconv b s k := by
  cases k with
  | zero => show (0 : F) = d * 0; grind
  | succ k => exact conv_mul d b s k
theorem xconv_shm (m : Nat) (b s : Nat → F) (k : Nat) : xconv (shm m b) s k = shm m (xconv b s) k := by
  cases k with
  | zero =>
    show (0 : F) = if 0 < m then 0 else xconv b s (0 - m)
    split
    · rfl
    · have : 0 - m = 0 := by omega
      rw [this]; rfl
  | succ k =>
    show conv (shm m b) s k = if k + 1 < m then 0 else xconv b s (k + 1 - m)
    rw [conv_shm]
    show (if k < m then (0 : F) else conv b s (k - m)) = _
    by_cases h : k < m
    · rw [if_pos h]
      by_cases g : k + 1 < m
      · rw [if_pos g]
      · rw [if_neg g]
        have : k + 1 - m = 0 := by omega
        rw [this]; rfl
    · rw [if_neg h, if_neg (by omega)]
      have : k + 1 - m = (k - m) + 1 := by omega
      rw [this]; rfl

/-- what the first n coefficients are worth at x -/
def pev (n : Nat) (c : Nat → F) (x : F) : F := sm n fun i => c i * x ^ i
theorem pev_add (n : Nat) (a b : Nat → F) (x : F) : pev n (fun i => a i + b i) x = pev n a x + pev n b x := by
  show sm n _ = sm n _ + sm n _
  rw [← sm_add]
  exact sm_congr _ fun i _ => by grind
theorem pev_mul (n : Nat) (d : F) (b : Nat → F) (x : F) : pev n (fun i => d * b i) x = d * pev n b x := by
  show sm n _ = d * sm n _
  rw [← sm_mul]
  exact sm_congr _ fun i _ => by grind
theorem pow_add' (x : F) (a b : Nat) : x ^ (a + b) = x ^ a * x ^ b := by
  induction b with
  | zero => rw [Nat.add_zero, Semiring.pow_zero]; grind
  | succ b ih => rw [← Nat.add_assoc, Semiring.pow_succ, Semiring.pow_succ, ih]; grind
theorem pev_shm {n m k : Nat} {b : Nat → F} (h : ∀ i, k ≤ i → b i = 0) (hn : k + m ≤ n) (x : F) : pev n (shm m b) x = x ^ m * pev n b x := by
  have e1 : pev n b x = pev k b x := sm_to (by omega) fun i hi => by rw [h i hi]; grind
  have e2 : pev n (shm m b) x = sm (m + k) fun i => shm m b i * x ^ i := by
    refine sm_to (by omega) fun i hi => ?_
    show (if i < m then (0 : F) else b (i - m)) * _ = 0
    rw [if_neg (by omega), h (i - m) (by omega)]; grind
  rw [e1, e2]
  show _ = x ^ m * sm k (fun i => b i * x ^ i)
  rw [← sm_mul]
  refine Eq.trans ?_ (sm_shm m (fun i => x ^ m * (b i * x ^ i)) k)
  refine sm_congr _ fun i hi => ?_
  show (if i < m then (0 : F) else b (i - m)) * x ^ i = if i < m then 0 else x ^ m * (b (i - m) * x ^ (i - m))
  by_cases g : i < m
  · rw [if_pos g, if_pos g]; grind
  · rw [if_neg g, if_neg g]
    have e : x ^ i = x ^ m * x ^ (i - m) := by
      rw [← pow_add']; congr 1; omega
    rw [e]; grind

theorem mul_ne {a b : F} (ha : a ≠ 0) (hb : b ≠ 0) : a * b ≠ 0 := by
  intro h
  have : a⁻¹ * (a * b) = 0 := by rw [h]; grind
  have e := Field.mul_inv_cancel ha
  apply hb
  have : b = a⁻¹ * (a * b) := by grind
  grind
theorem eq_zero_of {a b : F} (ha : a ≠ 0) (h : a * b = 0) : b = 0 := by
  by_cases hb : b = 0
  · exact hb
  · exact absurd h (mul_ne ha hb)
theorem pow_ne {a : F} (ha : a ≠ 0) : ∀ n : Nat, a ^ n ≠ 0
  | 0 => by
    rw [Semiring.pow_zero]
    exact fun h => Field.zero_ne_one (α := F) h.symm
  | n + 1 => by rw [Semiring.pow_succ]; exact mul_ne (pow_ne ha n) ha

/-- division by x - y: the quotient's coefficients, the rest ahead of them -/
def quo (n : Nat) (c : Nat → F) (y : F) (i : Nat) : F := sm (n - i) fun j => c (i + j) * y ^ j
theorem quo_step {n : Nat} {c : Nat → F} {y : F} {i : Nat} (h : i < n) : quo n c y i = c i + y * quo n c y (i + 1) := by
  show sm (n - i) _ = _
  have e : n - i = (n - (i + 1)) + 1 := by omega
  rw [e, sm_left]
  show c (i + 0) * y ^ 0 + _ = c i + y * sm (n - (i + 1)) _
  rw [← sm_mul, Semiring.pow_zero, Nat.add_zero]
  have : (sm (n - (i + 1)) fun j => c (i + (j + 1)) * y ^ (j + 1)) = sm (n - (i + 1)) fun j => y * (c (i + 1 + j) * y ^ j) := by
    refine sm_congr _ fun j _ => ?_
    have : i + (j + 1) = i + 1 + j := by omega
    rw [this, Semiring.pow_succ]; grind
  rw [this]; grind
theorem quo_end {n : Nat} {c : Nat → F} {y : F} : quo n c y n = 0 := by
  show sm (n - n) _ = 0
  rw [Nat.sub_self]; rfl
theorem quo_zero {n : Nat} {c : Nat → F} {y : F} : quo n c y 0 = pev n c y := by
  show sm (n - 0) _ = sm n _
  rw [Nat.sub_zero]
  exact sm_congr _ fun i _ => by rw [Nat.zero_add]
theorem pev_div (n : Nat) (c : Nat → F) (y z : F) : pev (n + 1) c z = pev (n + 1) c y + (z - y) * pev n (fun i => quo (n + 1) c y (i + 1)) z := by
  have e : pev (n + 1) c z = sm (n + 1) fun i => quo (n + 1) c y i * z ^ i - y * (quo (n + 1) c y (i + 1) * z ^ i) := by
    refine sm_congr _ fun i hi => ?_
    show c i * z ^ i = _
    rw [quo_step (i := i) hi]; grind
  rw [e, sm_sub, sm_left, sm_mul]
  have e2 : (sm (n + 1) fun i => quo (n + 1) c y (i + 1) * z ^ i) = pev n (fun i => quo (n + 1) c y (i + 1)) z := by
    show sm n _ + quo (n + 1) c y (n + 1) * z ^ n = _
    rw [quo_end]
    show sm n _ + _ = sm n _
    grind
  have e3 : (sm n fun i => quo (n + 1) c y (i + 1) * z ^ (i + 1)) = z * pev n (fun i => quo (n + 1) c y (i + 1)) z := by
    show _ = z * sm n _
    rw [← sm_mul]
    exact sm_congr _ fun i _ => by rw [Semiring.pow_succ]; grind
  rw [e2, e3, quo_zero, Semiring.pow_zero]
  grind
/-- **a polynomial of n coefficients with n roots is 0** -/
theorem roots_zero : ∀ (n : Nat) (c : Nat → F) (ys : List F), ys.Nodup → n ≤ ys.length → (∀ y ∈ ys, pev n c y = 0) → ∀ i, i < n → c i = 0
  | 0, _, _, _, _, _, _, h => absurd h (Nat.not_lt_zero _)
  | n + 1, c, [], _, h, _, _, _ => absurd h (Nat.not_succ_le_zero _)
  | n + 1, c, y :: ys, hd, hl, hr, i, hi => by
    have hd' := List.nodup_cons.mp hd
    have hy : pev (n + 1) c y = 0 := hr y (List.mem_cons_self ..)
    have hq : ∀ j, j < n → quo (n + 1) c y (j + 1) = 0 := by
      refine roots_zero n (fun i => quo (n + 1) c y (i + 1)) ys hd'.2 (Nat.le_of_succ_le_succ hl) ?_
      intro z hz
      have h1 : pev (n + 1) c z = 0 := hr z (List.mem_cons_of_mem _ hz)
      rw [pev_div n c y z, hy] at h1
      have hne : z - y ≠ 0 := by
        intro h
        have : z = y := by grind
        rw [this] at hz
        exact hd'.1 hz
      refine eq_zero_of hne ?_
      grind
    have hs := quo_step (c := c) (y := y) hi
    have h0 : quo (n + 1) c y (i + 1) = 0 := by
      by_cases g : i < n
      · exact hq i g
      · have : i + 1 = n + 1 := by omega
        rw [this]; exact quo_end
    have h1 : quo (n + 1) c y i = 0 := by
      cases i with
      | zero => rw [quo_zero]; exact hy
      | succ i => exact hq i (by omega)
    rw [h0, h1] at hs
    grind

/-! ### The shortest recurrence -/
/-- where n numbers of s have been gone through: c the recurrence, l its length; b the one before, m how long ago, d what it missed by; o and a are the products with s, one place on, as far as they are polynomials -/
structure Inv (s : Nat → F) (n : Nat) (c : Nat → F) (l : Nat) (b : Nat → F) (m : Nat) (d : F) (o a : Nat → F) (lb : Nat) : Prop where
  len : l + lb + m = n + 1
  le : l ≤ n
  m1 : 1 ≤ m
  d0 : d ≠ 0
  c0 : c 0 = 1
  cl : ∀ i, l < i → c i = 0
  bl : ∀ i, lb < i → b i = 0
  ol : ∀ i, l < i → o i = 0
  al : ∀ i, lb < i → a i = 0
  oc : ∀ k, k ≤ n → xconv c s k = o k
  ab : ∀ k, k + m < n + 1 → xconv b s k = a k
  ad : ∀ k, k + m = n + 1 → xconv b s k = a k + d
  det : ∀ y : F, y ≠ 0 → ∀ N, n + 1 < N → pev N c y * pev N a y - pev N b y * pev N o y ≠ 0

theorem one_ne : (1 : F) ≠ 0 := fun h => Field.zero_ne_one (α := F) h.symm

theorem inv_start (s : Nat → F) : Inv s 0 (fun i => if i = 0 then 1 else 0) 0 (fun i => if i = 0 then 1 else 0) 1 1 (fun _ => 0) (fun i => if i = 0 then -1 else 0) 0 where
  len := rfl
  le := Nat.le_refl _
  m1 := Nat.le_refl _
  d0 := one_ne
  c0 := if_pos rfl
  cl := fun i h => if_neg (by omega)
  bl := fun i h => if_neg (by omega)
  ol := fun _ _ => rfl
  al := fun i h => if_neg (by omega)
  oc := fun k h => by
    have : k = 0 := by omega
    rw [this]; rfl
  ab := fun k h => absurd h (by omega)
  ad := fun k h => by
    have : k = 0 := by omega
    rw [this]
    show (0 : F) = (if 0 = 0 then -1 else 0) + 1
    rw [if_pos rfl]; grind
  det := fun y hy N hN => by
    have e : ∀ u : F, pev N (fun i => if i = 0 then u else 0) y = u := by
      intro u
      have : pev N (fun i => if i = 0 then u else 0) y = sm 1 (fun i => (if i = 0 then u else 0) * y ^ i) :=
        sm_to (by omega) fun i hi => by
          show (if i = 0 then u else 0) * y ^ i = 0
          rw [if_neg (by omega)]; grind
      rw [this]
      show 0 + (if 0 = 0 then u else 0) * y ^ 0 = u
      rw [if_pos rfl, Semiring.pow_zero]; grind
    have z : pev N (fun _ => (0 : F)) y = 0 := sm_zero _ fun i _ => by grind
    rw [e, e, z]
    have h1 := one_ne (F := F)
    intro h
    apply h1
    grind

theorem inv_zero {s : Nat → F} {n : Nat} {c : Nat → F} {l : Nat} {b : Nat → F} {m : Nat} {d : F} {o a : Nat → F} {lb : Nat}
    (I : Inv s n c l b m d o a lb) (h : conv c s n = 0) : Inv s (n + 1) c l b (m + 1) d o a lb where
  len := by have := I.len; omega
  le := by have := I.le; omega
  m1 := by omega
  d0 := I.d0
  c0 := I.c0
  cl := I.cl
  bl := I.bl
  ol := I.ol
  al := I.al
  oc := fun k hk => by
    by_cases g : k ≤ n
    · exact I.oc k g
    · have : k = n + 1 := by omega
      rw [this, I.ol (n + 1) (by have := I.le; omega)]; exact h
  ab := fun k hk => I.ab k (by omega)
  ad := fun k hk => I.ad k (by omega)
  det := fun y hy N hN => I.det y hy N (by omega)

/-- c - e x^m b -/
def upd (c : Nat → F) (e : F) (m : Nat) (b : Nat → F) : Nat → F := fun i => c i - e * shm m b i

theorem upd_conv (c : Nat → F) (e : F) (m : Nat) (b s : Nat → F) (k : Nat) : xconv (upd c e m b) s k = xconv c s k - e * shm m (xconv b s) k := by
  have h : upd c e m b = fun i => c i + (-e) * shm m b i := by funext i; show c i - e * shm m b i = _; grind
  rw [h, xconv_add, xconv_mul, xconv_shm]; grind
theorem upd_pev {n m k : Nat} {c b : Nat → F} (h : ∀ i, k ≤ i → b i = 0) (hn : k + m ≤ n) (e y : F) : pev n (upd c e m b) y = pev n c y - e * (y ^ m * pev n b y) := by
  have h' : upd c e m b = fun i => c i + (-e) * shm m b i := by funext i; show c i - e * shm m b i = _; grind
  rw [h', pev_add, pev_mul, pev_shm h hn]; grind

theorem upd_oc {s : Nat → F} {n : Nat} {c : Nat → F} {l : Nat} {b : Nat → F} {m : Nat} {d : F} {o a : Nat → F} {lb : Nat}
    (I : Inv s n c l b m d o a lb) (e : F) (he : conv c s n = e * d) (k : Nat) (hk : k ≤ n + 1) : xconv (upd c e m b) s k = upd o e m a k := by
  rw [upd_conv]
  show xconv c s k - e * (if k < m then 0 else xconv b s (k - m)) = o k - e * (if k < m then 0 else a (k - m))
  by_cases g : k ≤ n
  · rw [I.oc k g]
    by_cases f : k < m
    · rw [if_pos f, if_pos f]
    · rw [if_neg f, if_neg f, I.ab (k - m) (by omega)]
  · have e1 : k = n + 1 := by omega
    have e2 : xconv c s k = e * d := by rw [e1]; exact he
    have hm : m ≤ n + 1 := by have := I.len; omega
    rw [e2, I.ol k (by have := I.le; omega), if_neg (by omega), if_neg (by omega), I.ad (k - m) (by omega)]
    grind
theorem upd_det {s : Nat → F} {n : Nat} {c : Nat → F} {l : Nat} {b : Nat → F} {m : Nat} {d : F} {o a : Nat → F} {lb : Nat}
    (I : Inv s n c l b m d o a lb) (e y : F) (hy : y ≠ 0) (N : Nat) (hN : n + 2 < N) :
    pev N (upd c e m b) y * pev N a y - pev N b y * pev N (upd o e m a) y ≠ 0 := by
  have hl := I.len
  rw [upd_pev (k := lb + 1) (fun i hi => I.bl i (by omega)) (by omega), upd_pev (k := lb + 1) (fun i hi => I.al i (by omega)) (by omega)]
  have := I.det y hy N (by omega)
  intro h
  apply this
  grind
theorem inv_same {s : Nat → F} {n : Nat} {c : Nat → F} {l : Nat} {b : Nat → F} {m : Nat} {d : F} {o a : Nat → F} {lb : Nat}
    (I : Inv s n c l b m d o a lb) (e : F) (he : conv c s n = e * d) (h2 : n < 2 * l) : Inv s (n + 1) (upd c e m b) l b (m + 1) d (upd o e m a) a lb where
  len := by have := I.len; omega
  le := by have := I.le; omega
  m1 := by omega
  d0 := I.d0
  c0 := by
    show c 0 - e * (if 0 < m then 0 else _) = 1
    rw [if_pos (by have := I.m1; omega), I.c0]; grind
  cl := fun i hi => by
    show c i - e * (if i < m then 0 else b (i - m)) = 0
    rw [I.cl i hi]
    split
    · grind
    · rw [I.bl (i - m) (by have := I.len; omega)]; grind
  bl := I.bl
  ol := fun i hi => by
    show o i - e * (if i < m then 0 else a (i - m)) = 0
    rw [I.ol i hi]
    split
    · grind
    · rw [I.al (i - m) (by have := I.len; omega)]; grind
  al := I.al
  oc := fun k hk => upd_oc I e he k hk
  ab := fun k hk => I.ab k (by omega)
  ad := fun k hk => I.ad k (by omega)
  det := fun y hy N hN => upd_det I e y hy N (by omega)
theorem inv_new {s : Nat → F} {n : Nat} {c : Nat → F} {l : Nat} {b : Nat → F} {m : Nat} {d : F} {o a : Nat → F} {lb : Nat}
    (I : Inv s n c l b m d o a lb) (e : F) (he : conv c s n = e * d) (h0 : conv c s n ≠ 0) (h2 : 2 * l ≤ n) :
    Inv s (n + 1) (upd c e m b) (n + 1 - l) c 1 (conv c s n) (upd o e m a) o l where
  len := by have := I.le; omega
  le := by omega
  m1 := by omega
  d0 := h0
  c0 := by
    show c 0 - e * (if 0 < m then 0 else _) = 1
    rw [if_pos (by have := I.m1; omega), I.c0]; grind
  cl := fun i hi => by
    show c i - e * (if i < m then 0 else b (i - m)) = 0
    have := I.le
    rw [I.cl i (by omega)]
    split
    · grind
    · rw [I.bl (i - m) (by have := I.len; omega)]; grind
  bl := I.cl
  ol := fun i hi => by
    show o i - e * (if i < m then 0 else a (i - m)) = 0
    have := I.le
    rw [I.ol i (by omega)]
    split
    · grind
    · rw [I.al (i - m) (by have := I.len; omega)]; grind
  al := I.ol
  oc := fun k hk => upd_oc I e he k hk
  ab := fun k hk => I.oc k (by omega)
  ad := fun k hk => by
    have : k = n + 1 := by omega
    rw [this, I.ol (n + 1) (by have := I.le; omega)]
    show conv c s n = 0 + conv c s n
    grind
  det := fun y hy N hN => by
    have hl := I.len
    have := I.det y hy N (by omega)
    rw [upd_pev (k := lb + 1) (fun i hi => I.bl i (by omega)) (by omega), upd_pev (k := lb + 1) (fun i hi => I.al i (by omega)) (by omega)]
    have hE : e ≠ 0 := by
      intro h
      apply h0; rw [he, h]; grind
    have hp : e * y ^ m ≠ 0 := mul_ne hE (pow_ne hy m)
    intro h
    refine mul_ne hp this ?_
    grind
end Bm
/-! ## BmB -/
set_option Elab.async false
namespace Bm
open Lean.Grind
variable {F : Type} [Field F]

theorem pev_sub (n : Nat) (a b : Nat → F) (x : F) : pev n (fun i => a i - b i) x = pev n a x - pev n b x := by
  show sm n _ = sm n _ - sm n _
  rw [← sm_sub]
  exact sm_congr _ fun i _ => by grind
theorem pev_sh (n : Nat) (f : Nat → F) (x : F) : pev (n + 1) (sh f) x = x * pev n f x := by
  show sm (n + 1) _ = x * sm n _
  rw [sm_left, ← sm_mul]
  have : (sm n fun i => sh f (i + 1) * x ^ (i + 1)) = sm n fun i => x * (f i * x ^ i) := by
    refine sm_congr _ fun i _ => ?_
    rw [Semiring.pow_succ]
    show f i * _ = _
    grind
  rw [this]
  show (0 : F) * x ^ 0 + _ = _
  grind
theorem pev_to {c : Nat → F} {n m : Nat} (hm : n ≤ m) (h : ∀ i, n ≤ i → i < m → c i = 0) (x : F) : pev m c x = pev n c x :=
  sm_to' hm fun i h1 h2 => by rw [h i h1 h2]; grind
theorem pev_congr {a b : Nat → F} (n : Nat) (h : ∀ i, i < n → a i = b i) (x : F) : pev n a x = pev n b x :=
  sm_congr _ fun i hi => by rw [h i hi]

/-- a sum over a list -/
def ls (g : F → F) : List F → F
  | [] => 0
  | y :: ys => g y + ls g ys
theorem ls_mul (d : F) (g : F → F) : ∀ ys, ls (fun y => d * g y) ys = d * ls g ys
  | [] => by show (0 : F) = d * 0; grind
  | y :: ys => by show d * g y + ls _ ys = d * (g y + ls g ys); rw [ls_mul d g ys]; grind
theorem ls_add (f g : F → F) : ∀ ys, ls (fun y => f y + g y) ys = ls f ys + ls g ys
  | [] => by show (0 : F) = 0 + 0; grind
  | y :: ys => by show f y + g y + ls _ ys = f y + ls f ys + (g y + ls g ys); rw [ls_add f g ys]; grind
theorem ls_congr {f g : F → F} : ∀ (ys : List F), (∀ y ∈ ys, f y = g y) → ls f ys = ls g ys
  | [], _ => rfl
  | y :: ys, h => by
    show f y + ls f ys = g y + ls g ys
    rw [h y (List.mem_cons_self ..), ls_congr ys fun z hz => h z (List.mem_cons_of_mem _ hz)]
theorem ls_zero {f : F → F} : ∀ (ys : List F), (∀ y ∈ ys, f y = 0) → ls f ys = 0
  | [], _ => rfl
  | y :: ys, h => by
    show f y + ls f ys = 0
    rw [h y (List.mem_cons_self ..), ls_zero ys fun z hz => h z (List.mem_cons_of_mem _ hz)]; grind
theorem ls_one {f : F → F} {z : F} : ∀ (ys : List F), ys.Nodup → z ∈ ys → (∀ y ∈ ys, y ≠ z → f y = 0) → ls f ys = f z
  | [], _, h, _ => absurd h List.not_mem_nil
  | y :: ys, hd, hz, h => by
    have hd' := List.nodup_cons.mp hd
    show f y + ls f ys = f z
    by_cases g : y = z
    · rw [g, ls_zero ys]
      · grind
      · intro w hw
        refine h w (List.mem_cons_of_mem _ hw) fun e => ?_
        rw [e, ← g] at hw; exact hd'.1 hw
    · rw [h y (List.mem_cons_self ..) g]
      have hz' : z ∈ ys := by
        rcases List.mem_cons.mp hz with e | e
        · exact absurd e.symm g
        · exact e
      rw [ls_one ys hd'.2 hz' fun w hw => h w (List.mem_cons_of_mem _ hw)]; grind
theorem ls_sm (n : Nat) (f : F → Nat → F) : ∀ ys, ls (fun y => sm n (f y)) ys = sm n (fun i => ls (fun y => f y i) ys)
  | [] => by
    show (0 : F) = sm n fun _ => 0
    rw [sm_zero n fun _ _ => rfl]
  | y :: ys => by
    show sm n (f y) + ls _ ys = sm n fun i => f y i + ls (fun y => f y i) ys
    rw [ls_sm n f ys, ← sm_add]
theorem ls_pev (n : Nat) (f : F → Nat → F) (x : F) (ys : List F) : ls (fun y => pev n (f y) x) ys = pev n (fun i => ls (fun y => f y i) ys) x := by
  show ls (fun y => sm n _) ys = sm n _
  rw [ls_sm]
  refine sm_congr _ fun i _ => ?_
  have : (fun y => f y i * x ^ i) = fun y => x ^ i * f y i := by funext y; grind
  rw [this, ls_mul]; grind

theorem conv_ls (c : Nat → F) (f : F → Nat → F) (k : Nat) (ys : List F) : ls (fun y => conv c (f y) k) ys = conv c (fun j => ls (fun y => f y j) ys) k := by
  show ls (fun y => sm (k + 1) _) ys = sm (k + 1) _
  rw [ls_sm]
  exact sm_congr _ fun i _ => by rw [ls_mul]
theorem conv_mulr (c s : Nat → F) (d : F) (k : Nat) : conv c (fun j => d * s j) k = d * conv c s k := by
  show sm (k + 1) _ = d * sm (k + 1) _
  rw [← sm_mul]
  exact sm_congr _ fun i _ => by grind
theorem conv_subr (c s t : Nat → F) (k : Nat) : conv c (fun j => s j - t j) k = conv c s k - conv c t k := by
  show sm (k + 1) _ = sm (k + 1) _ - sm (k + 1) _
  rw [← sm_sub]
  exact sm_congr _ fun i _ => by grind
/-- where c begins with 1 what c makes 0 is 0 -/
theorem conv_inj {c s : Nat → F} (h0 : c 0 = 1) : ∀ N, (∀ k, k < N → conv c s k = 0) → ∀ k, k < N → s k = 0 := by
  intro N h k
  induction k using Nat.strongRecOn with
  | ind k ih =>
    intro hk
    have e := h k hk
    have e2 : conv c s k = c 0 * s (k - 0) + sm k (fun i => c (i + 1) * s (k - (i + 1))) := sm_left _ k
    have e3 : sm k (fun i => c (i + 1) * s (k - (i + 1))) = 0 := by
      apply sm_zero
      intro i hi
      rw [ih (k - (i + 1)) (by omega) (by omega)]; grind
    rw [e2, e3, h0, Nat.sub_zero] at e
    grind

/-- c divided by 1 - x / y -/
def dq (c : Nat → F) (y : F) (k : Nat) : F := conv c (fun j => y⁻¹ ^ j) k
theorem dq_zero (c : Nat → F) (y : F) : dq c y 0 = c 0 := by
  show 0 + c 0 * y⁻¹ ^ 0 = _
  rw [Semiring.pow_zero]; grind
theorem dq_step (c : Nat → F) (y : F) (k : Nat) : dq c y (k + 1) = c (k + 1) + y⁻¹ * dq c y k := by
  show sm (k + 1) (fun i => c i * y⁻¹ ^ (k + 1 - i)) + c (k + 1) * y⁻¹ ^ (k + 1 - (k + 1)) = c (k + 1) + y⁻¹ * sm (k + 1) _
  rw [← sm_mul, Nat.sub_self, Semiring.pow_zero]
  have : sm (k + 1) (fun i => c i * y⁻¹ ^ (k + 1 - i)) = sm (k + 1) (fun i => y⁻¹ * (c i * y⁻¹ ^ (k - i))) := by
    refine sm_congr _ fun i hi => ?_
    have : k + 1 - i = (k - i) + 1 := by omega
    rw [this, Semiring.pow_succ]; grind
  rw [this]; grind
theorem dq_pev (c : Nat → F) {y : F} (hy : y ≠ 0) : ∀ k, y ^ k * dq c y k = pev (k + 1) c y
  | 0 => by
    rw [dq_zero]
    show _ = 0 + c 0 * y ^ 0
    grind
  | k + 1 => by
    have e : pev (k + 1 + 1) c y = pev (k + 1) c y + c (k + 1) * y ^ (k + 1) := rfl
    have hi := Field.mul_inv_cancel hy
    rw [e, ← dq_pev c hy k, dq_step, Semiring.pow_succ]
    grind
section
variable {c : Nat → F} {l : Nat} (h0 : c 0 = 1) (hl : ∀ i, l < i → c i = 0)
include hl
theorem dq_high {y : F} (hy : y ≠ 0) (hr : pev (l + 1) c y = 0) {k : Nat} (hk : l ≤ k) : dq c y k = 0 := by
  have e := dq_pev c hy k
  have : pev (k + 1) c y = pev (l + 1) c y := pev_to (by omega) (fun i h1 _ => hl i (by omega)) y
  rw [this, hr] at e
  exact eq_zero_of (pow_ne hy k) e
theorem dq_split {y : F} (hy : y ≠ 0) (hr : pev (l + 1) c y = 0) (z : F) : pev (l + 1) c z = (1 - y⁻¹ * z) * pev l (dq c y) z := by
  have e : pev (l + 1) c z = pev (l + 1) (fun i => dq c y i - y⁻¹ * sh (dq c y) i) z := by
    refine pev_congr _ (fun i _ => ?_) z
    cases i with
    | zero => rw [dq_zero]; show c 0 = c 0 - y⁻¹ * 0; grind
    | succ i => rw [dq_step]; show _ = _ - y⁻¹ * dq c y i; grind
  have e2 : pev (l + 1) (dq c y) z = pev l (dq c y) z := pev_to (by omega) (fun i h1 _ => dq_high hl hy hr h1) z
  rw [e, pev_sub, pev_mul, pev_sh, e2]; grind
theorem dq_other {y z : F} (hy : y ≠ 0) (hr : pev (l + 1) c y = 0) (hz : pev (l + 1) c z = 0) (hn : z ≠ y) : pev l (dq c y) z = 0 := by
  have e := dq_split hl hy hr z
  rw [hz] at e
  refine eq_zero_of (a := 1 - y⁻¹ * z) ?_ e.symm
  intro h
  apply hn
  have hi := Field.mul_inv_cancel hy
  grind
include h0
theorem dq_self {ys : List F} (hd : ys.Nodup) (hn : ys.length = l) (hr : ∀ y ∈ ys, y ≠ 0 ∧ pev (l + 1) c y = 0) {y : F} (hy : y ∈ ys) : pev l (dq c y) y ≠ 0 := by
  intro h
  have hlpos : 0 < l := by
    rw [← hn]; exact List.length_pos_of_mem hy
  have := roots_zero l (dq c y) ys hd (by omega) (fun z hz => by
    by_cases g : z = y
    · rw [g]; exact h
    · exact dq_other hl (hr y hy).1 (hr y hy).2 (hr z hz).2 g) 0 hlpos
  rw [dq_zero, h0] at this
  exact one_ne this
omit h0 hl in
theorem slope_sum (h2 : (1 : F) + 1 = 0) {y : F} (hy : y ≠ 0) : ∀ n, (sm n fun i => (if i % 2 = 0 then c (i + 1) else 0) * y ^ i) = y⁻¹ * pev n (dq c y) y + (if n % 2 = 1 then dq c y n * y ^ (n - 1) else 0)
  | 0 => by
    show (0 : F) = y⁻¹ * 0 + (if 0 % 2 = 1 then _ else 0)
    rw [if_neg (by decide)]; grind
  | n + 1 => by
    show sm n (fun i => (if i % 2 = 0 then c (i + 1) else 0) * y ^ i) + (if n % 2 = 0 then c (n + 1) else 0) * y ^ n = y⁻¹ * (pev n (dq c y) y + dq c y n * y ^ n) + _
    rw [slope_sum h2 hy n]
    by_cases g : n % 2 = 0
    · rw [if_pos g, if_neg (by omega), if_pos (by omega), dq_step]
      have e : n + 1 - 1 = n := by omega
      rw [e]; grind
    · rw [if_neg g, if_pos (by omega), if_neg (by omega)]
      obtain ⟨m, rfl⟩ : ∃ m, n = m + 1 := ⟨n - 1, by omega⟩
      have e : m + 1 - 1 = m := by omega
      have hi := Field.mul_inv_cancel hy
      rw [e, Semiring.pow_succ]; grind
omit h0 in
theorem slope_is (h2 : (1 : F) + 1 = 0) {y : F} (hy : y ≠ 0) (hr : pev (l + 1) c y = 0) : (sm l fun i => (if i % 2 = 0 then c (i + 1) else 0) * y ^ i) = y⁻¹ * pev l (dq c y) y := by
  rw [slope_sum h2 hy l, dq_high hl hy hr (Nat.le_refl l)]
  split <;> grind
/-- **Forney**: where c makes of s nothing from l on, and has l roots, s is made by errors at just these -/
theorem forney {ys : List F} (hd : ys.Nodup) (hn : ys.length = l) (hr : ∀ y ∈ ys, y ≠ 0 ∧ pev (l + 1) c y = 0)
    {s : Nat → F} {N : Nat} (hs : ∀ k, l ≤ k → k < N → conv c s k = 0) {e : F → F}
    (he : ∀ y ∈ ys, e y * pev l (dq c y) y = pev l (conv c s) y) : ∀ j, j < N → s j = ls (fun y => e y * y⁻¹ ^ j) ys := by
  have hP : ∀ k, k < l → conv c s k - ls (fun y => e y * dq c y k) ys = 0 := by
    refine roots_zero l (fun k => conv c s k - ls (fun y => e y * dq c y k) ys) ys hd (by omega) ?_
    intro z hz
    rw [pev_sub, ← ls_pev l (fun y k => e y * dq c y k)]
    have : ls (fun y => pev l (fun k => e y * dq c y k) z) ys = e z * pev l (dq c z) z := by
      rw [ls_one ys hd hz]
      · rw [pev_mul]
      · intro y hy hyz
        rw [pev_mul, dq_other hl (hr y hy).1 (hr y hy).2 (hr z hz).2 (Ne.symm hyz)]; grind
    rw [this, he z hz]; grind
  have hA : ∀ k, k < N → conv c s k = ls (fun y => e y * dq c y k) ys := by
    intro k hk
    by_cases g : k < l
    · have := hP k g; grind
    · rw [hs k (by omega) hk, ls_zero ys]
      intro y hy
      rw [dq_high hl (hr y hy).1 (hr y hy).2 (by omega)]; grind
  have hB : ∀ k, k < N → conv c (fun j => s j - ls (fun y => e y * y⁻¹ ^ j) ys) k = 0 := by
    intro k hk
    rw [conv_subr, hA k hk, ← conv_ls c (fun y j => e y * y⁻¹ ^ j)]
    have : ls (fun y => conv c (fun j => e y * y⁻¹ ^ j) k) ys = ls (fun y => e y * dq c y k) ys :=
      ls_congr ys fun y _ => by rw [conv_mulr]; rfl
    rw [this]; grind
  intro j hj
  have := conv_inj h0 N hB j hj
  grind
end
/-- at a root of the recurrence the product with s isn't 0 -/
theorem omega_ne {s : Nat → F} {n : Nat} {c : Nat → F} {l : Nat} {b : Nat → F} {m : Nat} {d : F} {o a : Nat → F} {lb : Nat}
    (I : Inv s n c l b m d o a lb) {y : F} (hy : y ≠ 0) (hr : pev (l + 1) c y = 0) : pev l (conv c s) y ≠ 0 := by
  have hdet := I.det y hy (n + 2) (by omega)
  have e : pev (n + 2) c y = 0 := by
    rw [← hr]; exact pev_to (by have := I.le; omega) (fun i h1 _ => I.cl i (by omega)) y
  have e2 : pev (n + 2) o y = y * pev l (conv c s) y := by
    rw [← pev_sh]
    have : pev (n + 2) o y = pev (l + 1) o y := pev_to (by have := I.le; omega) (fun i h1 _ => I.ol i (by omega)) y
    rw [this]
    refine pev_congr _ (fun i hi => ?_) y
    rw [← I.oc i (by have := I.le; omega)]; rfl
  intro h
  apply hdet
  rw [e, e2, h]; grind
theorem conv_high {s : Nat → F} {n : Nat} {c : Nat → F} {l : Nat} {b : Nat → F} {m : Nat} {d : F} {o a : Nat → F} {lb : Nat}
    (I : Inv s n c l b m d o a lb) {k : Nat} (h1 : l ≤ k) (h2 : k < n) : conv c s k = 0 := by
  have := I.oc (k + 1) (by omega)
  rw [I.ol (k + 1) (by omega)] at this
  exact this
end Bm
/-! ## GfB -/
set_option Elab.async false
set_option maxRecDepth 100000
namespace Gf
open Fm11 Bm
open Lean.Grind

structure GF where
  v : Nat
  lt : v < 256
theorem GF.ext {a b : GF} (h : a.v = b.v) : a = b := by
  cases a; cases b; cases h; rfl
/-- a number's byte -/
def up (x : Nat) : GF := ⟨x % 256, Nat.mod_lt _ (by decide)⟩
theorem up_v {x : Nat} (h : x < 256) : (up x).v = x := Nat.mod_eq_of_lt h
theorem up_of (a : GF) : up a.v = a := GF.ext (up_v a.lt)
theorem up_inj {x y : Nat} (hx : x < 256) (hy : y < 256) (h : up x = up y) : x = y := by
  have := congrArg GF.v h
  rwa [up_v hx, up_v hy] at this
def gpow (a : GF) : Nat → GF
  | 0 => ⟨1, by decide⟩
  | n + 1 => ⟨times (gpow a n).v a.v, times_lt _ (gpow a n).lt⟩
def ginv (a : GF) : GF := ⟨inverse a.v, inverse_lt a.lt⟩
/-- a number as a sum of 1s -/
def gnat (n : Nat) : GF := ⟨n % 2, by omega⟩
instance : Add GF := ⟨fun a b => ⟨a.v ^^^ b.v, xlt a.lt b.lt⟩⟩
instance : Mul GF := ⟨fun a b => ⟨times a.v b.v, times_lt _ a.lt⟩⟩
instance : NatCast GF := ⟨gnat⟩
instance (n : Nat) : OfNat GF n := ⟨gnat n⟩
instance : SMul Nat GF := ⟨fun n a => gnat n * a⟩
instance : HPow GF Nat GF := ⟨gpow⟩
instance : Neg GF := ⟨fun a => a⟩
instance : Sub GF := ⟨fun a b => a + b⟩
instance : IntCast GF := ⟨fun z => gnat z.natAbs⟩
instance : SMul Int GF := ⟨fun z a => gnat z.natAbs * a⟩
instance : Inv GF := ⟨ginv⟩
instance : Div GF := ⟨fun a b => a * b⁻¹⟩
instance : HPow GF Int GF := ⟨fun a z => match z with
  | .ofNat n => gpow a n
  | .negSucc n => ginv (gpow a (n + 1))⟩
theorem add_v (a b : GF) : (a + b).v = a.v ^^^ b.v := rfl
theorem mul_v (a b : GF) : (a * b).v = times a.v b.v := rfl
theorem zero_v : (0 : GF).v = 0 := rfl
theorem one_v : (1 : GF).v = 1 := rfl
theorem ginv_v (a : GF) : (ginv a).v = inverse a.v := by
  unfold ginv
  dsimp only
theorem inv_v (a : GF) : (a⁻¹).v = inverse a.v := ginv_v a
theorem gnat_succ (n : Nat) : gnat (n + 1) = gnat n + 1 := by
  apply GF.ext
  show (n + 1) % 2 = (n % 2) ^^^ 1
  have : n % 2 = 0 ∨ n % 2 = 1 := by omega
  rcases this with h | h <;> rw [h] <;> rw [Nat.add_mod, h] <;> rfl
theorem ne_zero_v {a : GF} (h : a ≠ 0) : a.v ≠ 0 := fun e => h (GF.ext e)

instance : CommRing GF where
  nsmul := inferInstance
  npow := inferInstance
  zsmul := inferInstance
  add_zero a := GF.ext (Nat.xor_zero _)
  add_comm a b := GF.ext (Nat.xor_comm _ _)
  add_assoc a b c := GF.ext (Nat.xor_assoc _ _ _)
  mul_assoc a b c := GF.ext (times_assoc b.lt _ a.lt)
  mul_one a := GF.ext (times_one _ a.lt)
  one_mul a := GF.ext (one_times _ a.lt)
  left_distrib a b c := GF.ext (times_xor_right _ _ a.lt)
  right_distrib a b c := GF.ext (times_xor_left _ a.lt b.lt)
  zero_mul a := GF.ext (zero_times _)
  mul_zero a := GF.ext (times_zero _)
  pow_zero a := rfl
  pow_succ a n := rfl
  ofNat_succ n := gnat_succ n
  ofNat_eq_natCast n := rfl
  nsmul_eq_natCast_mul n a := rfl
  neg_add_cancel a := GF.ext (Nat.xor_self _)
  sub_eq_add_neg a b := rfl
  neg_zsmul i a := by
    show gnat (-i).natAbs * a = gnat i.natAbs * a
    rw [Int.natAbs_neg]
  zsmul_natCast_eq_nsmul n a := rfl
  intCast_ofNat n := rfl
  intCast_neg i := by
    show gnat (-i).natAbs = gnat i.natAbs
    rw [Int.natAbs_neg]
  mul_comm a b := GF.ext (times_comm b.lt _ a.lt)
theorem ginv_ginv (a : GF) : ginv (ginv a) = a := by
  apply GF.ext
  rw [ginv_v, ginv_v]
  by_cases h : a.v = 0
  · rw [h, inverse_zero, inverse_zero]
  · have hi : inverse a.v ≠ 0 := by
      rw [inverse_eq a.lt h]; exact power_ne _
    have e1 := times_inverse a.lt h
    have hl := inverse_lt a.lt
    have e2 := times_inverse hl hi
    have := congrArg (times a.v) e2
    rw [← times_assoc hl _ a.lt, e1, one_times _ (inverse_lt hl), times_one _ a.lt] at this
    exact this
theorem ginv_one : ginv ⟨1, by decide⟩ = ⟨1, by decide⟩ := by
  apply GF.ext
  rw [ginv_v]
  show inverse 1 = 1
  decide +kernel
instance : Field GF where
  zpow := inferInstance
  div_eq_mul_inv a b := rfl
  zero_ne_one := by
    intro h
    exact absurd (congrArg GF.v h) (by decide)
  inv_zero := GF.ext ((inv_v 0).trans inverse_zero)
  mul_inv_cancel {a} h := GF.ext (by
    rw [mul_v, inv_v, times_inverse a.lt (ne_zero_v h)]; rfl)
  zpow_zero a := rfl
  zpow_succ a n := rfl
  zpow_neg a n := by
    match n with
    | .ofNat 0 => exact GF.ext (congrArg GF.v ginv_one.symm)
    | .ofNat (k + 1) => rfl
    | .negSucc k => exact (ginv_ginv _).symm
theorem two : (1 : GF) + 1 = 0 := GF.ext (by decide)
instance : IsCharP GF 2 where
  ofNat_ext_iff {x y} := by
    constructor
    · intro h
      exact congrArg GF.v h
    · intro h
      exact GF.ext h
example (a b : GF) : (a + b) * (a + b) = a * a + b * b := by grind
example (a b : GF) : a - b = a + b := by grind

theorem up_zero : up 0 = 0 := rfl
theorem up_one : up 1 = 1 := rfl
theorem up_xor {a b : Nat} (ha : a < 256) (hb : b < 256) : up (a ^^^ b) = up a + up b := by
  apply GF.ext
  rw [add_v, up_v ha, up_v hb, up_v (xlt ha hb)]
theorem up_times {a b : Nat} (ha : a < 256) (hb : b < 256) : up (times a b) = up a * up b := by
  apply GF.ext
  rw [mul_v, up_v ha, up_v hb, up_v (times_lt _ ha)]
theorem up_inverse {a : Nat} (ha : a < 256) : up (inverse a) = (up a)⁻¹ := by
  apply GF.ext
  rw [inv_v, up_v ha, up_v (inverse_lt ha)]
theorem up_eq_zero {a : Nat} (ha : a < 256) : up a = 0 ↔ a = 0 := by
  constructor
  · intro h
    have := congrArg GF.v h
    rwa [up_v ha, zero_v] at this
  · intro h; rw [h]; rfl
theorem up_power : ∀ k, up (power k) = up 3 ^ k
  | 0 => rfl
  | k + 1 => by
    show up (times 3 (power k)) = _
    rw [up_times (by decide) (power_lt _), up_power k, Semiring.pow_succ]; grind
theorem up_power_ne (k : Nat) : up (power k) ≠ 0 := fun h => power_ne k ((up_eq_zero (power_lt k)).mp h)

/-- bytes alone -/
def By (l : List Nat) : Prop := ∀ x ∈ l, x < 256
theorem By.getD {l : List Nat} (h : By l) (i : Nat) : l.getD i 0 < 256 := by
  rw [List.getD_eq_getElem?_getD]
  cases e : l[i]? with
  | none => decide
  | some x => exact h x (List.mem_of_getElem? e)
theorem By.nil : By [] := fun _ h => absurd h List.not_mem_nil
theorem By.cons {x : Nat} {l : List Nat} (hx : x < 256) (h : By l) : By (x :: l) := by
  intro y hy
  rcases List.mem_cons.mp hy with e | e
  · rw [e]; exact hx
  · exact h y e
theorem By.head {x : Nat} {l : List Nat} (h : By (x :: l)) : x < 256 := h x (List.mem_cons_self ..)
theorem By.tail {x : Nat} {l : List Nat} (h : By (x :: l)) : By l := fun y hy => h y (List.mem_cons_of_mem _ hy)
theorem By.append {l m : List Nat} (h : By l) (g : By m) : By (l ++ m) := by
  intro x hx
  rcases List.mem_append.mp hx with e | e
  · exact h x e
  · exact g x e
theorem By.left {l m : List Nat} (h : By (l ++ m)) : By l := fun x hx => h x (List.mem_append.mpr (.inl hx))
theorem By.right {l m : List Nat} (h : By (l ++ m)) : By m := fun x hx => h x (List.mem_append.mpr (.inr hx))
theorem By.reverse {l : List Nat} (h : By l) : By l.reverse := fun x hx => h x (List.mem_reverse.mp hx)
theorem By.map {α : Type} {f : α → Nat} {l : List α} (h : ∀ x ∈ l, f x < 256) : By (l.map f) := by
  intro x hx
  obtain ⟨y, hy, rfl⟩ := List.mem_map.mp hx
  exact h y hy
theorem By.take {l : List Nat} (h : By l) (n : Nat) : By (l.take n) := fun x hx => h x (List.mem_of_mem_take hx)
theorem By.drop {l : List Nat} (h : By l) (n : Nat) : By (l.drop n) := fun x hx => h x (List.mem_of_mem_drop hx)
theorem By.rep (n : Nat) : By (List.replicate n 0) := by
  intro x hx
  rw [List.eq_of_mem_replicate hx]; decide

/-- a row's coefficients, the constant first -/
def co (l : List Nat) (i : Nat) : GF := up (l.getD i 0)
theorem co_far {l : List Nat} {i : Nat} (h : l.length ≤ i) : co l i = 0 := by
  show up (l.getD i 0) = 0
  rw [List.getD_eq_getElem?_getD, List.getElem?_eq_none h]; rfl

theorem xsum_lt {f : Nat → Nat} (hf : ∀ i, f i < 256) : ∀ (l : List Nat) (r : Nat), r < 256 → l.foldl (fun r i => r ^^^ f i) r < 256
  | [], _, h => h
  | i :: l, r, h => xsum_lt hf l _ (xlt h (hf i))
theorem up_xsum {f : Nat → Nat} (hf : ∀ i, f i < 256) (n : Nat) : up ((List.range n).foldl (fun r i => r ^^^ f i) 0) = sm n fun i => up (f i) := by
  induction n with
  | zero => rfl
  | succ n ih =>
    rw [List.range_succ, List.foldl_append]
    show up (_ ^^^ f n) = _ + _
    rw [up_xor (xsum_lt hf _ _ (by decide)) (hf n), ih]

theorem worth_lt {x : Nat} : ∀ (l : List Nat) (r : Nat), r < 256 → By l → l.foldl (fun r c => times r x ^^^ c) r < 256
  | [], _, h, _ => h
  | c :: l, r, h, hb => worth_lt l _ (xlt (times_lt _ h) hb.head) hb.tail
theorem worth_byte {l : List Nat} (x : Nat) (h : By l) : worth l x < 256 := worth_lt l 0 (by decide) h
theorem worth_snoc (l : List Nat) (c x : Nat) : worth (l ++ [c]) x = times (worth l x) x ^^^ c := by
  unfold worth
  rw [List.foldl_append]; rfl
theorem up_worth_rev {x : Nat} (hx : x < 256) : ∀ l : List Nat, By l → up (worth l.reverse x) = pev l.length (co l) (up x)
  | [], _ => rfl
  | c :: l, h => by
    rw [List.reverse_cons, worth_snoc, up_xor (times_lt _ (worth_byte x h.tail.reverse)) h.head, up_times (worth_byte x h.tail.reverse) hx, up_worth_rev hx l h.tail]
    show _ = sm (l.length + 1) _
    rw [sm_left]
    have : (sm l.length fun i => co (c :: l) (i + 1) * up x ^ (i + 1)) = up x * pev l.length (co l) (up x) := by
      show _ = up x * sm _ _
      rw [← sm_mul]
      refine sm_congr _ fun i _ => ?_
      have : co (c :: l) (i + 1) = co l i := rfl
      rw [this, Semiring.pow_succ]; grind
    rw [this]
    show _ = up c * up x ^ 0 + _
    rw [Semiring.pow_zero]; grind
theorem up_at {x : Nat} (hx : x < 256) {l : List Nat} (h : By l) : up (at_ l x) = pev l.length (co l) (up x) := up_worth_rev hx l h
theorem at_lt (x : Nat) {l : List Nat} (h : By l) : at_ l x < 256 := worth_byte x h.reverse
end Gf
/-! ## GfC -/
set_option Elab.async false
set_option maxRecDepth 100000
namespace Gf
open Fm11 Bm
open Lean.Grind

theorem getD_map {f : Nat → Nat} (h0 : f 0 = 0) (l : List Nat) (i : Nat) : (l.map f).getD i 0 = f (l.getD i 0) := by
  rw [List.getD_eq_getElem?_getD, List.getD_eq_getElem?_getD, List.getElem?_map]
  cases l[i]? with
  | none => exact h0.symm
  | some x => rfl
theorem getD_range {f : Nat → Nat} (n i : Nat) : ((List.range n).map f).getD i 0 = if i < n then f i else 0 := by
  rw [List.getD_eq_getElem?_getD, List.getElem?_map]
  by_cases h : i < n
  · rw [List.getElem?_range h, if_pos h]; rfl
  · rw [List.getElem?_eq_none (by rw [List.length_range]; omega), if_neg h]; rfl
theorem getD_far {l : List Nat} {i : Nat} (h : l.length ≤ i) : l.getD i 0 = 0 := by
  rw [List.getD_eq_getElem?_getD, List.getElem?_eq_none h]; rfl

theorem plus_by {p q : List Nat} (hp : By p) (hq : By q) : By (plus p q) := By.map fun i _ => xlt (hp.getD i) (hq.getD i)
theorem co_plus {p q : List Nat} (hp : By p) (hq : By q) (i : Nat) : co (plus p q) i = co p i + co q i := by
  show up ((List.map _ (List.range _)).getD i 0) = _
  rw [getD_range]
  split
  · exact up_xor (hp.getD i) (hq.getD i)
  · rw [co_far (l := p) (by omega), co_far (l := q) (by omega), up_zero]; grind
theorem scaled_by {c : Nat} (k : Nat) {p : List Nat} (hc : c < 256) : By (scaled c k p) := (By.rep k).append (By.map fun x _ => times_lt x hc)
theorem co_scaled {c : Nat} (k : Nat) {p : List Nat} (hc : c < 256) (hp : By p) (i : Nat) : co (scaled c k p) i = up c * shm k (co p) i := by
  show up ((List.replicate k 0 ++ p.map (times c)).getD i 0) = up c * (if i < k then 0 else co p (i - k))
  by_cases h : i < k
  · rw [if_pos h, List.getD_eq_getElem?_getD, List.getElem?_append_left (by rw [List.length_replicate]; exact h), List.getElem?_replicate, if_pos h]
    show up 0 = _
    rw [up_zero]; grind
  · rw [if_neg h, List.getD_eq_getElem?_getD, List.getElem?_append_right (by rw [List.length_replicate]; omega), List.length_replicate, ← List.getD_eq_getElem?_getD, getD_map (times_zero c), up_times hc (hp.getD _)]
    rfl
theorem scaled_length (c k : Nat) (p : List Nat) : (scaled c k p).length = k + p.length := by
  unfold scaled; rw [List.length_append, List.length_replicate, List.length_map]
theorem plus_length (p q : List Nat) : (plus p q).length = max p.length q.length := by
  unfold plus; rw [List.length_map, List.length_range]

/-- what stands behind n of s's numbers, of lists -/
structure St (s : List Nat) (n : Nat) (c : List Nat) (l : Nat) (b : List Nat) (m d : Nat) : Prop where
  cb : By c
  bb : By b
  db : d < 256
  cn : c.length ≤ l + 1
  c1 : 1 ≤ c.length
  inv : ∃ o a lb, Inv (co s) n (co c) l (co b) m (up d) o a lb ∧ b.length ≤ lb + 1
theorem St.start (s : List Nat) : St s 0 [1] 0 [1] 1 1 where
  cb := By.cons (by decide) By.nil
  bb := By.cons (by decide) By.nil
  db := by decide
  cn := by decide
  c1 := by decide
  inv := by
    refine ⟨fun _ => 0, fun i => if i = 0 then -1 else 0, 0, ?_, by decide⟩
    have e : co [1] = fun i => if i = 0 then (1 : GF) else 0 := by
      funext i
      cases i with
      | zero => rfl
      | succ i => rw [co_far (by show 1 ≤ i + 1; omega), if_neg (by omega)]
    have h := inv_start (co s)
    rw [e, up_one]; exact h
/-- what the recurrence misses by -/
def miss (s c : List Nat) (l n : Nat) : Nat := (List.range (l + 1)).foldl (fun r i => r ^^^ times (c.getD i 0) (s.getD (n - i) 0)) 0
theorem miss_lt {s c : List Nat} (l n : Nat) (hc : By c) : miss s c l n < 256 :=
  xsum_lt (f := fun i => times (c.getD i 0) (s.getD (n - i) 0)) (fun i => times_lt _ (hc.getD i)) _ _ (by decide)
theorem miss_conv {s c : List Nat} {l n : Nat} (hs : By s) (hc : By c) (hl : l ≤ n) (hcl : ∀ i, l < i → co c i = 0) : up (miss s c l n) = conv (co c) (co s) n := by
  unfold miss
  rw [up_xsum (f := fun i => times (c.getD i 0) (s.getD (n - i) 0)) fun i => times_lt _ (hc.getD i)]
  have : (sm (l + 1) fun i => up (times (c.getD i 0) (s.getD (n - i) 0))) = sm (l + 1) fun i => co c i * co s (n - i) :=
    sm_congr _ fun i _ => up_times (hc.getD i) (hs.getD _)
  rw [this]
  refine (sm_to' (by omega) fun i h1 h2 => ?_).symm
  rw [hcl i (by omega)]; grind
theorem St.zero {s : List Nat} {n : Nat} {c : List Nat} {l : Nat} {b : List Nat} {m d : Nat} (hs : By s) (h : St s n c l b m d) (hd : miss s c l n = 0) : St s (n + 1) c l b (m + 1) d where
  cb := h.cb
  bb := h.bb
  db := h.db
  cn := h.cn
  c1 := h.c1
  inv := by
    obtain ⟨o, a, lb, I, g⟩ := h.inv
    refine ⟨o, a, lb, inv_zero I ?_, g⟩
    rw [← miss_conv hs h.cb I.le I.cl, hd]; rfl
/-- the better one -/
def better (c b : List Nat) (m d0 d : Nat) : List Nat := plus c (scaled (times d (inverse d0)) m b)
theorem better_co {c b : List Nat} {m d0 d : Nat} (hc : By c) (hb : By b) (hd0 : d0 < 256) (hd : d < 256) : co (better c b m d0 d) = upd (co c) (up d * (up d0)⁻¹) m (co b) := by
  funext i
  have hq : times d (inverse d0) < 256 := times_lt _ hd
  show co (plus _ _) i = co c i - _ * shm m (co b) i
  rw [co_plus hc (scaled_by m hq), co_scaled m hq hb, up_times hd (inverse_lt hd0), up_inverse hd0]
  rfl
theorem better_by {c b : List Nat} {m d0 d : Nat} (hc : By c) (hd : d < 256) : By (better c b m d0 d) := plus_by hc (scaled_by m (times_lt _ hd))
theorem better_length (c b : List Nat) (m d0 d : Nat) : (better c b m d0 d).length = max c.length (m + b.length) := by
  unfold better; rw [plus_length, scaled_length]
theorem quo_up {x y : GF} (hy : y ≠ 0) : x = x * y⁻¹ * y := by
  have := Field.mul_inv_cancel hy
  grind
theorem St.same {s : List Nat} {n : Nat} {c : List Nat} {l : Nat} {b : List Nat} {m d0 : Nat} (hs : By s) (h : St s n c l b m d0) (h2 : n < 2 * l) :
    St s (n + 1) (better c b m d0 (miss s c l n)) l b (m + 1) d0 where
  cb := better_by h.cb (miss_lt _ _ h.cb)
  bb := h.bb
  db := h.db
  cn := by
    obtain ⟨o, a, lb, I, g⟩ := h.inv
    have := I.len; have := h.cn
    rw [better_length]; omega
  c1 := by have := h.c1; rw [better_length]; omega
  inv := by
    obtain ⟨o, a, lb, I, g⟩ := h.inv
    refine ⟨upd o (up (miss s c l n) * (up d0)⁻¹) m a, a, lb, ?_, g⟩
    rw [better_co h.cb h.bb h.db (miss_lt _ _ h.cb)]
    refine inv_same I _ ?_ h2
    rw [miss_conv hs h.cb I.le I.cl]
    exact quo_up I.d0
theorem St.new {s : List Nat} {n : Nat} {c : List Nat} {l : Nat} {b : List Nat} {m d0 : Nat} (hs : By s) (h : St s n c l b m d0) (hd : miss s c l n ≠ 0) (h2 : 2 * l ≤ n) :
    St s (n + 1) (better c b m d0 (miss s c l n)) (n + 1 - l) c 1 (miss s c l n) where
  cb := better_by h.cb (miss_lt _ _ h.cb)
  bb := h.cb
  db := miss_lt _ _ h.cb
  cn := by
    obtain ⟨o, a, lb, I, g⟩ := h.inv
    have := I.len; have := h.cn
    rw [better_length]; omega
  c1 := by have := h.c1; rw [better_length]; omega
  inv := by
    obtain ⟨o, a, lb, I, g⟩ := h.inv
    have e := miss_conv hs h.cb I.le I.cl
    refine ⟨upd o (up (miss s c l n) * (up d0)⁻¹) m a, o, l, ?_, h.cn⟩
    rw [better_co h.cb h.bb h.db (miss_lt _ _ h.cb)]
    have hne : conv (co c) (co s) n ≠ 0 := by
      rw [← e]
      exact fun z => hd ((up_eq_zero (miss_lt _ _ h.cb)).mp z)
    rw [e]
    refine inv_new I _ ?_ hne h2
    exact quo_up I.d0
theorem recur_step (s : List Nat) (k : Nat) (c : List Nat) (l : Nat) (b : List Nat) (m d0 : Nat) :
    recur s (k + 1) (c, l, b, m, d0) = if miss s c l (s.length - (k + 1)) = 0 then recur s k (c, l, b, m + 1, d0)
      else if 2 * l ≤ s.length - (k + 1) then recur s k (better c b m d0 (miss s c l (s.length - (k + 1))), s.length - (k + 1) + 1 - l, c, 1, miss s c l (s.length - (k + 1)))
      else recur s k (better c b m d0 (miss s c l (s.length - (k + 1))), l, b, m + 1, d0) := rfl
theorem recur_St {s : List Nat} (hs : By s) : ∀ (k n : Nat) (c : List Nat) (l : Nat) (b : List Nat) (m d0 : Nat), n + k = s.length → St s n c l b m d0 →
    ∃ b' m' d', St s s.length (recur s k (c, l, b, m, d0)).1 (recur s k (c, l, b, m, d0)).2 b' m' d'
  | 0, n, c, l, b, m, d0, hn, h => by
    have : n = s.length := by omega
    rw [this] at h
    exact ⟨b, m, d0, h⟩
  | k + 1, n, c, l, b, m, d0, hn, h => by
    have e : s.length - (k + 1) = n := by omega
    rw [recur_step, e]
    by_cases g : miss s c l n = 0
    · rw [if_pos g]
      exact recur_St hs k (n + 1) _ _ _ _ _ (by omega) (h.zero hs g)
    · rw [if_neg g]
      by_cases f : 2 * l ≤ n
      · rw [if_pos f]
        exact recur_St hs k (n + 1) _ _ _ _ _ (by omega) (h.new hs g f)
      · rw [if_neg f]
        exact recur_St hs k (n + 1) _ _ _ _ _ (by omega) (h.same hs (by omega))
theorem locator_St {s : List Nat} (hs : By s) : ∃ b m d, St s s.length (locator s).1 (locator s).2 b m d :=
  recur_St hs s.length 0 [1] 0 [1] 1 1 (by omega) (St.start s)

theorem syndromes_by {b : List Nat} (h : By b) : By (syndromes b) := By.map fun _ _ => worth_byte _ h
theorem syndromes_length (b : List Nat) : (syndromes b).length = 16 := by
  unfold syndromes; rw [List.length_map, List.length_range]; rfl
theorem syndromes_at {b : List Nat} {j : Nat} (h : j < 16) : (syndromes b).getD j 0 = worth b (power j) := by
  unfold syndromes; rw [getD_range]; exact if_pos h

/-! ### The mended row -/
def spot (n i : Nat) : Nat := inverse (power (n - 1 - i))
def placesOf (c : List Nat) (n : Nat) : List Nat := (List.range n).filter fun i => at_ c (spot n i) == 0
def omegaOf (c s : List Nat) : List Nat := (List.range PARITY).map fun k => (List.range (k + 1)).foldl (fun r i => r ^^^ times (c.getD i 0) (s.getD (k - i) 0)) 0
def errOf (c s : List Nat) (n i : Nat) : Nat := times (power (n - 1 - i)) (times (at_ (omegaOf c s) (spot n i)) (inverse (at_ (slope c) (spot n i))))
def fixedOf (b c s : List Nat) : List Nat := (List.range b.length).map fun i => if (placesOf c b.length).contains i = true then b.getD i 0 ^^^ errOf c s b.length i else b.getD i 0
/-- mended, without the look back -/
def mended (b : List Nat) : Option (List Nat × Nat) :=
  let s := syndromes b
  let c := locator s
  if 8 < c.2 ∨ (placesOf c.1 b.length).length ≠ c.2 then none else some (fixedOf b c.1 s, c.2)
theorem mend_def (b : List Nat) : mend b = if (syndromes b).all (fun x => x == 0) = true then some (b, 0)
    else if 8 < (locator (syndromes b)).2 ∨ (placesOf (locator (syndromes b)).1 b.length).length ≠ (locator (syndromes b)).2 then none
    else if (syndromes (fixedOf b (locator (syndromes b)).1 (syndromes b))).all (fun x => x == 0) = true then some (fixedOf b (locator (syndromes b)).1 (syndromes b), (locator (syndromes b)).2) else none := rfl

theorem up_spot {n i : Nat} : up (spot n i) = (up (power (n - 1 - i)))⁻¹ := up_inverse (power_lt _)
theorem spot_lt (n i : Nat) : spot n i < 256 := inverse_lt (power_lt _)
theorem inv_inv' {a : GF} : a⁻¹⁻¹ = a := ginv_ginv a
theorem inv_ne {a : GF} (h : a ≠ 0) : a⁻¹ ≠ 0 := by
  intro e
  have := Field.mul_inv_cancel h
  rw [e] at this
  apply one_ne (F := GF)
  grind
theorem spot_ne (n i : Nat) : up (spot n i) ≠ 0 := by
  rw [up_spot]; exact inv_ne (up_power_ne _)
theorem spot_inj {n i j : Nat} (hn : n ≤ 255) (hi : i < n) (hj : j < n) (h : up (spot n i) = up (spot n j)) : i = j := by
  rw [up_spot, up_spot] at h
  have := congrArg (fun x : GF => x⁻¹) h
  simp only [inv_inv'] at this
  have := up_inj (power_lt _) (power_lt _) this
  have := power_inj (by omega) (by omega) this
  omega
theorem map_nodup {α β : Type} {f : α → β} : ∀ {l : List α}, l.Nodup → (∀ a ∈ l, ∀ b ∈ l, f a = f b → a = b) → (l.map f).Nodup
  | [], _, _ => List.nodup_nil
  | a :: l, h, hf => by
    have h' := List.nodup_cons.mp h
    rw [List.map_cons, List.nodup_cons]
    refine ⟨fun hm => ?_, map_nodup h'.2 fun x hx y hy => hf x (List.mem_cons_of_mem _ hx) y (List.mem_cons_of_mem _ hy)⟩
    obtain ⟨b, hb, e⟩ := List.mem_map.mp hm
    have := hf b (List.mem_cons_of_mem _ hb) a (List.mem_cons_self ..) e
    rw [this] at hb
    exact h'.1 hb
/-- the roots within the row -/
def rootsOf (c : List Nat) (n : Nat) : List GF := (placesOf c n).map fun i => up (spot n i)
theorem places_mem {c : List Nat} {n i : Nat} : i ∈ placesOf c n ↔ i < n ∧ at_ c (spot n i) = 0 := by
  unfold placesOf
  rw [List.mem_filter, List.mem_range, beq_iff_eq]
theorem roots_nodup {c : List Nat} {n : Nat} (hn : n ≤ 255) : (rootsOf c n).Nodup := by
  refine map_nodup (List.Nodup.sublist List.filter_sublist List.nodup_range) ?_
  intro a ha b hb h
  exact spot_inj hn (places_mem.mp ha).1 (places_mem.mp hb).1 h
theorem roots_are {c : List Nat} {n l : Nat} (hc : By c) (hl : c.length ≤ l + 1) : ∀ y ∈ rootsOf c n, y ≠ 0 ∧ pev (l + 1) (co c) y = 0 := by
  intro y hy
  obtain ⟨i, hi, rfl⟩ := List.mem_map.mp hy
  refine ⟨spot_ne n i, ?_⟩
  have e := up_at (spot_lt n i) hc
  rw [(places_mem.mp hi).2] at e
  rw [pev_to hl fun i h _ => co_far h]
  exact e.symm
theorem omega_by {c s : List Nat} (hc : By c) : By (omegaOf c s) := By.map fun k _ => xsum_lt (f := fun i => times (c.getD i 0) (s.getD (k - i) 0)) (fun i => times_lt _ (hc.getD i)) _ _ (by decide)
theorem omega_co {c s : List Nat} (hc : By c) (hs : By s) {k : Nat} (hk : k < 16) : co (omegaOf c s) k = conv (co c) (co s) k := by
  show up ((List.map _ (List.range 16)).getD k 0) = sm (k + 1) _
  rw [getD_range, if_pos hk, up_xsum (f := fun i => times (c.getD i 0) (s.getD (k - i) 0)) fun i => times_lt _ (hc.getD i)]
  exact sm_congr _ fun i _ => up_times (hc.getD i) (hs.getD _)
theorem omega_length (c s : List Nat) : (omegaOf c s).length = 16 := by
  unfold omegaOf; rw [List.length_map, List.length_range]; rfl
theorem slope_by {c : List Nat} (hc : By c) : By (slope c) := By.map fun i _ => by
  split
  · exact hc.getD _
  · decide
theorem slope_co (c : List Nat) (i : Nat) : co (slope c) i = if i % 2 = 0 then co c (i + 1) else 0 := by
  show up ((List.map _ (List.range _)).getD i 0) = _
  rw [getD_range]
  split
  · split
    · rfl
    · rfl
  · split
    · rw [co_far (by omega)]; rfl
    · rfl

section
variable {b s c : List Nat} {n l : Nat} (hs : By s) (hs16 : s.length = 16) (hn : n ≤ 255)
  {b' : List Nat} {m' d' : Nat} (h : St s 16 c l b' m' d') (hp : (placesOf c n).length = l)
include hs h
theorem omega_at {y : Nat} (hy : y < 256) : up (at_ (omegaOf c s) y) = pev l (conv (co c) (co s)) (up y) := by
  obtain ⟨o, a, lb, I, g⟩ := h.inv
  rw [up_at hy (omega_by h.cb), omega_length, pev_congr 16 (fun i hi => omega_co h.cb hs hi)]
  exact pev_to I.le (fun i h1 h2 => conv_high I h1 h2) _
omit hs in
theorem slope_at {y : Nat} (hy : y < 256) : up (at_ (slope c) y) = sm l fun i => (if i % 2 = 0 then co c (i + 1) else 0) * up y ^ i := by
  rw [up_at hy (slope_by h.cb)]
  have e : (slope c).length = c.length - 1 := by unfold slope; rw [List.length_map, List.length_range]
  have := h.cn
  have e2 : pev l (co (slope c)) (up y) = pev (slope c).length (co (slope c)) (up y) := pev_to (by omega) (fun i h1 _ => co_far h1) _
  rw [← e2]
  exact sm_congr _ fun i _ => by rw [slope_co]
include hn hp
theorem spots_good {i : Nat} (hi : i ∈ placesOf c n) : at_ (omegaOf c s) (spot n i) ≠ 0 ∧ at_ (slope c) (spot n i) ≠ 0 ∧
    up (errOf c s n i) * pev l (dq (co c) (up (spot n i))) (up (spot n i)) = pev l (conv (co c) (co s)) (up (spot n i)) := by
  obtain ⟨o, a, lb, I, g⟩ := h.inv
  have hy : up (spot n i) ∈ rootsOf c n := List.mem_map.mpr ⟨i, hi, rfl⟩
  have hr := roots_are (n := n) h.cb h.cn
  have hrn : (rootsOf c n).length = l := by unfold rootsOf; rw [List.length_map]; exact hp
  have h1 : pev l (conv (co c) (co s)) (up (spot n i)) ≠ 0 := omega_ne I (hr _ hy).1 (hr _ hy).2
  have h2 : pev l (dq (co c) (up (spot n i))) (up (spot n i)) ≠ 0 := dq_self I.c0 I.cl (roots_nodup hn) hrn hr hy
  have h3 : up (at_ (slope c) (spot n i)) = (up (spot n i))⁻¹ * pev l (dq (co c) (up (spot n i))) (up (spot n i)) := by
    rw [slope_at h (spot_lt n i)]
    exact slope_is I.cl two (hr _ hy).1 (hr _ hy).2
  have h4 := omega_at hs h (spot_lt n i)
  refine ⟨fun e => h1 ?_, fun e => ?_, ?_⟩
  · rw [← h4, e]; rfl
  · rw [e] at h3
    exact mul_ne (inv_ne (hr _ hy).1) h2 h3.symm
  · unfold errOf
    have b1 := at_lt (spot n i) (omega_by (s := s) h.cb)
    have b2 := at_lt (spot n i) (slope_by h.cb)
    rw [up_times (power_lt _) (times_lt _ b1), up_times b1 (inverse_lt b2), up_inverse b2, h3, h4, up_spot]
    rw [up_spot] at h2
    generalize pev l (dq (co c) (up (power (n - 1 - i)))⁻¹) (up (power (n - 1 - i)))⁻¹ = D at h2
    generalize pev l (conv (co c) (co s)) (up (power (n - 1 - i)))⁻¹ = O
    have hx := up_power_ne (n - 1 - i)
    generalize up (power (n - 1 - i)) = X at hx
    rw [inv_inv']
    have e1 := Field.mul_inv_cancel (mul_ne hx h2)
    grind
end

theorem ls_append {F : Type} [Field F] (g : F → F) : ∀ (l m : List F), ls g (l ++ m) = ls g l + ls g m
  | [], m => by show ls g m = 0 + _; grind
  | x :: l, m => by show g x + ls g (l ++ m) = g x + ls g l + _; rw [ls_append g l m]; grind
theorem ls_filter (g : GF → GF) (p : Nat → Bool) (Y : Nat → GF) : ∀ n, ls g (((List.range n).filter p).map Y) = sm n fun i => if p i = true then g (Y i) else 0
  | 0 => rfl
  | n + 1 => by
    rw [List.range_succ, List.filter_append, List.map_append, ls_append, ls_filter g p Y n]
    show _ = sm n (fun i => if p i = true then g (Y i) else 0) + if p n = true then g (Y n) else 0
    by_cases h : p n = true
    · rw [List.filter_cons_of_pos h, if_pos h]
      show _ + (g (Y n) + 0) = _
      grind
    · rw [List.filter_cons_of_neg h, if_neg h]
      rfl
theorem co_left {l m : List Nat} {i : Nat} (h : i < l.length) : co (l ++ m) i = co l i := by
  show up ((l ++ m).getD i 0) = up (l.getD i 0)
  rw [List.getD_eq_getElem?_getD, List.getElem?_append_left h, ← List.getD_eq_getElem?_getD]
theorem up_worth {x : Nat} (hx : x < 256) (l : List Nat) (h : By l) : up (worth l x) = sm l.length fun i => co l i * up x ^ (l.length - 1 - i) := by
  have e := up_worth_rev hx l.reverse h.reverse
  rw [List.reverse_reverse, List.length_reverse] at e
  rw [e]
  have rev : ∀ (n : Nat) (f : Nat → GF), sm n f = sm n fun i => f (n - 1 - i) := by
    intro n
    induction n with
    | zero => intro f; rfl
    | succ n ih =>
      intro f
      rw [sm_left]
      show _ = sm n _ + f (n + 1 - 1 - n)
      have e0 : n + 1 - 1 - n = 0 := by omega
      rw [e0, ih]
      have : (sm n fun i => f (n - 1 - i + 1)) = sm n fun i => f (n + 1 - 1 - i) := by
        refine sm_congr _ fun i hi => ?_
        have : n - 1 - i + 1 = n + 1 - 1 - i := by omega
        rw [this]
      rw [this]; grind
  show sm _ _ = _
  rw [rev]
  refine sm_congr _ fun i hi => ?_
  have : co l.reverse (l.length - 1 - i) = co l i := by
    show up (l.reverse.getD _ 0) = up (l.getD i 0)
    rw [List.getD_eq_getElem?_getD, List.getElem?_reverse (by omega), List.getD_eq_getElem?_getD]
    have : l.length - 1 - (l.length - 1 - i) = i := by omega
    rw [this]
  rw [this]
theorem pow_pow' (x : GF) (a b : Nat) : (x ^ a) ^ b = x ^ (a * b) := by
  induction b with
  | zero => rfl
  | succ b ih =>
    have e : (x ^ a) ^ (b + 1) = (x ^ a) ^ b * x ^ a := Semiring.pow_succ _ _
    rw [e, Nat.mul_succ, Bm.pow_add', ih]
theorem errOf_lt (c s : List Nat) (n i : Nat) : errOf c s n i < 256 := times_lt _ (power_lt _)
theorem fixed_by {b c s : List Nat} (hb : By b) : By (fixedOf b c s) := By.map fun i _ => by
  split
  · exact xlt (hb.getD i) (errOf_lt _ _ _ _)
  · exact hb.getD i
theorem fixed_length (b c s : List Nat) : (fixedOf b c s).length = b.length := by
  unfold fixedOf; rw [List.length_map, List.length_range]
theorem fixed_right {b : List Nat} (hb : By b) (hn : b.length ≤ 255) (hp : (placesOf (locator (syndromes b)).1 b.length).length = (locator (syndromes b)).2) :
    (syndromes (fixedOf b (locator (syndromes b)).1 (syndromes b))).all (fun x => x == 0) = true := by
  have hs := syndromes_by hb
  obtain ⟨b', m', d', h⟩ := locator_St hs
  rw [syndromes_length] at h
  generalize hc : (locator (syndromes b)).1 = c at hp h ⊢
  generalize hl : (locator (syndromes b)).2 = l at hp h
  have hF := fixed_by (c := c) (s := syndromes b) hb
  obtain ⟨o, a, lb, I, g⟩ := h.inv
  have hrn : (rootsOf c b.length).length = l := by unfold rootsOf; rw [List.length_map]; exact hp
  have key := forney I.c0 I.cl (roots_nodup hn) hrn (roots_are h.cb h.cn) (s := co (syndromes b)) (N := 16) (fun k h1 h2 => conv_high I h1 h2)
    (e := fun y => pev l (conv (co c) (co (syndromes b))) y * (pev l (dq (co c) y) y)⁻¹)
    (fun y hy => by
      have h2 := dq_self I.c0 I.cl (roots_nodup hn) hrn (roots_are h.cb h.cn) hy
      exact (quo_up h2).symm)
  rw [List.all_eq_true]
  intro x hx
  obtain ⟨j, hj, rfl⟩ := List.mem_map.mp hx
  have hj16 : j < 16 := List.mem_range.mp hj
  rw [beq_iff_eq, ← up_eq_zero (worth_byte _ hF), up_worth (power_lt j) _ hF, fixed_length]
  have kj := key j hj16
  have es : co (syndromes b) j = sm b.length fun i => co b i * up (power j) ^ (b.length - 1 - i) := by
    show up ((syndromes b).getD j 0) = _
    rw [syndromes_at hj16, up_worth (power_lt j) _ hb]
  unfold rootsOf placesOf at kj
  rw [ls_filter, es] at kj
  have split : (sm b.length fun i => co (fixedOf b c (syndromes b)) i * up (power j) ^ (b.length - 1 - i)) =
      (sm b.length fun i => co b i * up (power j) ^ (b.length - 1 - i)) +
      sm b.length fun i => if (at_ c (spot b.length i) == 0) = true then
        pev l (conv (co c) (co (syndromes b))) (up (spot b.length i)) * (pev l (dq (co c) (up (spot b.length i))) (up (spot b.length i)))⁻¹ * (up (spot b.length i))⁻¹ ^ j else 0 := by
    rw [← sm_add]
    refine sm_congr _ fun i hi => ?_
    have e1 : co (fixedOf b c (syndromes b)) i = up (if (placesOf c b.length).contains i = true then b.getD i 0 ^^^ errOf c (syndromes b) b.length i else b.getD i 0) := by
      show up ((List.map _ (List.range _)).getD i 0) = _
      rw [getD_range, if_pos hi]
    rw [e1]
    by_cases f : i ∈ placesOf c b.length
    · have f' := (places_mem.mp f).2
      rw [if_pos (List.contains_iff_mem.mpr f), if_pos (beq_iff_eq.mpr f'), up_xor (hb.getD i) (errOf_lt _ _ _ _)]
      have sg := (spots_good hs hn h hp f).2.2
      have hy : up (spot b.length i) ∈ rootsOf c b.length := List.mem_map.mpr ⟨i, f, rfl⟩
      have h2 := dq_self I.c0 I.cl (roots_nodup hn) hrn (roots_are h.cb h.cn) hy
      have e2 : (up (spot b.length i))⁻¹ ^ j = up (power j) ^ (b.length - 1 - i) := by
        rw [up_spot, inv_inv', up_power, up_power, pow_pow', pow_pow', Nat.mul_comm]
      rw [e2, ← sg]
      show (co b i + _) * _ = co b i * _ + _
      have := Field.mul_inv_cancel h2
      grind
    · have f' : ¬ (at_ c (spot b.length i) == 0) = true := by
        rw [beq_iff_eq]
        exact fun e => f (places_mem.mpr ⟨hi, e⟩)
      rw [if_neg (fun e => f (List.contains_iff_mem.mp e)), if_neg f']
      show co b i * _ = _
      grind
  rw [split, ← kj]
  grind

theorem worth_one (x : Nat) : worth [1] x = 1 := by
  show times 0 x ^^^ 1 = 1
  rw [zero_times]; rfl
theorem all_zero {s : List Nat} (h : s.all (fun x => x == 0) = true) (i : Nat) : s.getD i 0 = 0 := by
  rw [List.getD_eq_getElem?_getD]
  cases e : s[i]? with
  | none => rfl
  | some x => exact beq_iff_eq.mp (List.all_eq_true.mp h x (List.mem_of_getElem? e))
theorem recur_zero {s : List Nat} (h : s.all (fun x => x == 0) = true) : ∀ (k : Nat) (b : List Nat) (m d0 : Nat), recur s k ([1], 0, b, m, d0) = ([1], 0)
  | 0, _, _, _ => rfl
  | k + 1, b, m, d0 => by
    rw [recur_step, if_pos]
    · exact recur_zero h k b (m + 1) d0
    · show 0 ^^^ times 1 (s.getD _ 0) = 0
      rw [all_zero h, times_zero]; rfl
/-- **the look back isn't wanted** -/
theorem mend_is {b : List Nat} (hb : By b) (hn : b.length ≤ 255) : mend b = mended b := by
  rw [mend_def]
  unfold mended
  by_cases z : (syndromes b).all (fun x => x == 0) = true
  · rw [if_pos z]
    have e : locator (syndromes b) = ([1], 0) := recur_zero z _ _ _ _
    have ep : placesOf [1] b.length = [] := by
      unfold placesOf
      rw [List.filter_eq_nil_iff]
      intro i _
      show ¬ (worth [1] (spot b.length i) == 0) = true
      rw [worth_one]; decide
    show some (b, 0) = if 8 < (locator (syndromes b)).2 ∨ (placesOf (locator (syndromes b)).1 b.length).length ≠ (locator (syndromes b)).2 then none else some (fixedOf b (locator (syndromes b)).1 (syndromes b), (locator (syndromes b)).2)
    rw [e]
    show some (b, 0) = if 8 < 0 ∨ (placesOf [1] b.length).length ≠ 0 then none else some (fixedOf b [1] (syndromes b), 0)
    rw [if_neg (by rw [ep]; show ¬ (8 < 0 ∨ 0 ≠ 0); omega)]
    have : fixedOf b [1] (syndromes b) = b := by
      unfold fixedOf
      rw [ep]
      apply List.ext_getElem?
      intro i
      rw [List.getElem?_map]
      by_cases hi : i < b.length
      · rw [List.getElem?_range hi]
        show some (if ([] : List Nat).contains i = true then _ else b.getD i 0) = _
        rw [if_neg (by simp), List.getD_eq_getElem?_getD, List.getElem?_eq_getElem hi]; rfl
      · rw [List.getElem?_eq_none (by rw [List.length_range]; omega), List.getElem?_eq_none (by omega)]; rfl
    rw [this]
  · rw [if_neg z]
    show _ = if 8 < (locator (syndromes b)).2 ∨ (placesOf (locator (syndromes b)).1 b.length).length ≠ (locator (syndromes b)).2 then none else some _
    by_cases g : 8 < (locator (syndromes b)).2 ∨ (placesOf (locator (syndromes b)).1 b.length).length ≠ (locator (syndromes b)).2
    · rw [if_pos g, if_pos g]
    · rw [if_neg g, if_neg g, if_pos (fixed_right hb hn (by omega))]
end Gf
/-! ## GfD -/
set_option Elab.async false
set_option maxRecDepth 100000
namespace Gf
open Fm11 Bm
open Lean.Grind

/-- two rows added -/
def addl (a b : List Nat) : List Nat := (a.zip b).map fun y => y.1 ^^^ y.2
theorem addl_cons (x : Nat) (a : List Nat) (y : Nat) (b : List Nat) : addl (x :: a) (y :: b) = (x ^^^ y) :: addl a b := rfl
theorem addl_length (a b : List Nat) : (addl a b).length = min a.length b.length := by
  unfold addl; rw [List.length_map, List.length_zip]
theorem addl_by {a b : List Nat} (ha : By a) (hb : By b) : By (addl a b) := By.map fun x hx => by
  have := List.of_mem_zip (a := x.1) (b := x.2) hx
  exact xlt (ha _ this.1) (hb _ this.2)
theorem fold_addl {x : Nat} : ∀ (a b : List Nat) (r q : Nat), a.length = b.length → By a → By b → r < 256 → q < 256 →
    (addl a b).foldl (fun r c => times r x ^^^ c) (r ^^^ q) = a.foldl (fun r c => times r x ^^^ c) r ^^^ b.foldl (fun r c => times r x ^^^ c) q
  | [], [], _, _, _, _, _, _, _ => rfl
  | [], _ :: _, _, _, h, _, _, _, _ => by cases h
  | _ :: _, [], _, _, h, _, _, _, _ => by cases h
  | u :: a, v :: b, r, q, h, ha, hb, hr, hq => by
    rw [addl_cons, List.foldl_cons, List.foldl_cons, List.foldl_cons, times_xor_left _ hr hq, x4]
    exact fold_addl a b _ _ (Nat.succ.inj h) ha.tail hb.tail (xlt (times_lt _ hr) ha.head) (xlt (times_lt _ hq) hb.head)
theorem worth_addl {a b : List Nat} (x : Nat) (h : a.length = b.length) (ha : By a) (hb : By b) : worth (addl a b) x = worth a x ^^^ worth b x :=
  fold_addl a b 0 0 h ha hb (by decide) (by decide)
theorem worth_nil (x : Nat) : worth [] x = 0 := rfl
theorem worth_map {f x : Nat} (hf : f < 256) : ∀ (l : List Nat) (r : Nat), By l → r < 256 → (l.map (times f)).foldl (fun r c => times r x ^^^ c) (times f r) = times f (l.foldl (fun r c => times r x ^^^ c) r)
  | [], _, _, _ => rfl
  | c :: l, r, h, hr => by
    rw [List.map_cons, List.foldl_cons, List.foldl_cons]
    have e : times (times f r) x ^^^ times f c = times f (times r x ^^^ c) := by
      rw [times_xor_right _ _ hf, times_assoc hr _ hf]
    rw [e]
    exact worth_map hf l _ h.tail (xlt (times_lt _ hr) h.head)
theorem worth_scale {f : Nat} (x : Nat) (hf : f < 256) {l : List Nat} (h : By l) : worth (l.map (times f)) x = times f (worth l x) := by
  have := worth_map (x := x) hf l 0 h (by decide)
  rw [times_zero] at this
  exact this
theorem worth_cons (c : Nat) (x : Nat) (l : List Nat) (h : c < 256) (hl : By l) (hx : x < 256) : up (worth (c :: l) x) = up c * up x ^ l.length + up (worth l x) := by
  rw [up_worth hx (c :: l) (By.cons h hl), up_worth hx l hl]
  show sm (l.length + 1) _ = _
  rw [sm_left]
  have e1 : (c :: l).length - 1 - 0 = l.length := by simp
  have e2 : (sm l.length fun i => co (c :: l) (i + 1) * up x ^ ((c :: l).length - 1 - (i + 1))) = sm l.length fun i => co l i * up x ^ (l.length - 1 - i) := by
    refine sm_congr _ fun i hi => ?_
    have : (c :: l).length - 1 - (i + 1) = l.length - 1 - i := by simp; omega
    rw [this]; rfl
  rw [e1, e2]; rfl
theorem worth_append (x : Nat) (hx : x < 256) (m : List Nat) (hm : By m) : ∀ l : List Nat, By l → up (worth (l ++ m) x) = up (worth l x) * up x ^ m.length + up (worth m x)
  | [], _ => by
    show up (worth m x) = up 0 * _ + _
    rw [up_zero]; grind
  | c :: l, h => by
    rw [List.cons_append, worth_cons c x (l ++ m) h.head (h.tail.append hm) hx, worth_append x hx m hm l h.tail, worth_cons c x l h.head h.tail hx, List.length_append, Bm.pow_add']
    grind

/-- what's left behind a row, one byte further -/
def lfsr (g r : List Nat) (c : Nat) : List Nat := addl (r.drop 1 ++ [0]) (g.map (times (c ^^^ r.headD 0)))
theorem zip_map_right {α β γ δ : Type} (f : β → γ) (h : α → γ → δ) : ∀ (a : List α) (b : List β), (a.zip b).map (fun y => h y.1 (f y.2)) = (a.zip (b.map f)).map fun y => h y.1 y.2
  | [], _ => rfl
  | _ :: _, [] => rfl
  | x :: a, y :: b => by
    rw [List.map_cons, List.zip_cons_cons, List.zip_cons_cons, List.map_cons, List.map_cons, zip_map_right f h a b]
def gen : List Nat := (roots PARITY).drop 1
theorem parity_fold (b : List Nat) : parity b = b.foldl (lfsr gen) (List.replicate 16 0) := by
  unfold parity
  show b.foldl _ _ = _
  have : (fun (r : Bytes) c => let f := c ^^^ r.headD 0
    ((r.drop 1 ++ [0]).zip gen).map fun (y : Nat × Nat) => y.1 ^^^ times f y.2) = lfsr gen := by
    funext r c
    exact zip_map_right (times (c ^^^ r.headD 0)) (fun a b => a ^^^ b) _ _
  show b.foldl (fun (r : Bytes) c => let f := c ^^^ r.headD 0
    ((r.drop 1 ++ [0]).zip gen).map fun (y : Nat × Nat) => y.1 ^^^ times f y.2) _ = _
  rw [this]; rfl
theorem gen_length : gen.length = 16 := by decide +kernel
theorem gen_by : By gen := by unfold By; decide +kernel
theorem headD_lt {r : List Nat} (h : By r) : r.headD 0 < 256 := by
  cases r with
  | nil => decide
  | cons x r => exact h.head
theorem lfsr_length {r : List Nat} (c : Nat) (h : r.length = 16) : (lfsr gen r c).length = 16 := by
  unfold lfsr
  rw [addl_length, List.length_append, List.length_drop, List.length_map, gen_length, h]; rfl
theorem lfsr_by {r : List Nat} {c : Nat} (h : By r) (hc : c < 256) : By (lfsr gen r c) :=
  addl_by ((h.drop 1).append (By.cons (by decide) By.nil)) (By.map fun x _ => times_lt _ (xlt hc (headD_lt h)))
theorem gen_root : ∀ j < 16, worth (1 :: gen) (power j) = 0 := by decide +kernel
/-- a row with its parity is 0 there -/
theorem lfsr_step {x : Nat} (hx : x < 256) (hg : worth (1 :: gen) x = 0) {r : List Nat} {c : Nat} (h : By r) (hc : c < 256) (hl : r.length = 16) :
    up (worth (lfsr gen r c) x) = up x * up (worth r x) + up c * up x ^ 16 := by
  obtain ⟨r0, t, rfl⟩ : ∃ r0 t, r = r0 :: t := by
    cases r with
    | nil => cases hl
    | cons a b => exact ⟨a, b, rfl⟩
  have ht : t.length = 15 := Nat.succ.inj hl
  have hf : c ^^^ r0 < 256 := xlt hc h.head
  have e : lfsr gen (r0 :: t) c = addl (t ++ [0]) (gen.map (times (c ^^^ r0))) := rfl
  have b1 : By (t ++ [0]) := h.tail.append (By.cons (by decide) By.nil)
  have b2 : By (gen.map (times (c ^^^ r0))) := By.map fun x _ => times_lt _ hf
  have e3 := worth_cons 1 x gen (by decide) gen_by hx
  rw [hg, gen_length] at e3
  rw [e, worth_addl x (by rw [List.length_append, List.length_map, gen_length, ht]; rfl) b1 b2, up_xor (worth_byte x b1) (worth_byte x b2), worth_scale x hf gen_by,
    up_times hf (worth_byte x gen_by), worth_snoc, worth_cons r0 x t h.head h.tail hx, ht, Nat.xor_zero, up_times (worth_byte x h.tail) hx, up_xor hc h.head]
  have e4 : up x ^ 16 = up x ^ 15 * up x := Semiring.pow_succ _ _
  have e5 : up 0 = up 1 * up x ^ 16 + up (worth gen x) := e3
  rw [up_zero, up_one] at e5
  grind
theorem lfsr_root {x : Nat} (hx : x < 256) (hg : worth (1 :: gen) x = 0) : ∀ (l r : List Nat) (q : Nat), By l → By r → r.length = 16 → q < 256 → up q * up x ^ 16 = up (worth r x) →
    up (l.foldl (fun r c => times r x ^^^ c) q) * up x ^ 16 = up (worth (l.foldl (lfsr gen) r) x)
  | [], _, _, _, _, _, _, h => h
  | c :: l, r, q, hl, hr, h16, hq, h => by
    rw [List.foldl_cons, List.foldl_cons]
    refine lfsr_root hx hg l _ _ hl.tail (lfsr_by hr hl.head) (lfsr_length _ h16) (xlt (times_lt _ hq) hl.head) ?_
    rw [lfsr_step hx hg hr hl.head h16, up_xor (times_lt _ hq) hl.head, up_times hq hx, ← h]
    grind
theorem lfsr_all {l r : List Nat} (hl : By l) (hr : By r) (h : r.length = 16) : By (l.foldl (lfsr gen) r) ∧ (l.foldl (lfsr gen) r).length = 16 := by
  induction l generalizing r with
  | nil => exact ⟨hr, h⟩
  | cons c l ih => exact ih hl.tail (lfsr_by hr hl.head) (lfsr_length _ h)
theorem parity_by {b : List Nat} (h : By b) : By (parity b) := by
  rw [parity_fold]; exact (lfsr_all h (By.rep 16) (List.length_replicate ..)).1
theorem parity_length {b : List Nat} (h : By b) : (parity b).length = 16 := by
  rw [parity_fold]; exact (lfsr_all h (By.rep 16) (List.length_replicate ..)).2
theorem parity_root {b : List Nat} (h : By b) {j : Nat} (hj : j < 16) : up (worth b (power j)) * up (power j) ^ 16 = up (worth (parity b) (power j)) := by
  rw [parity_fold]
  refine lfsr_root (power_lt j) (gen_root j hj) b _ 0 h (By.rep 16) (List.length_replicate ..) (by decide) ?_
  have : ∀ x, worth (List.replicate 16 0) x = 0 := by
    intro x
    unfold worth
    have : ∀ n, (List.replicate n 0).foldl (fun r c => times r x ^^^ c) 0 = 0 := by
      intro n
      induction n with
      | zero => rfl
      | succ n ih =>
        rw [List.replicate_succ, List.foldl_cons, zero_times]; exact ih
    exact this 16
  rw [this, up_zero]; grind
/-- the difference from the right row with the same front has the same values -/
theorem worth_diff {f t : List Nat} (hf : By f) (ht : By t) (hl : t.length = 16) {j : Nat} (hj : j < 16) : worth (addl (parity f) t) (power j) = worth (f ++ t) (power j) := by
  have hp := parity_by hf
  apply up_inj (worth_byte _ (addl_by hp ht)) (worth_byte _ (hf.append ht))
  rw [worth_addl _ (by rw [parity_length hf, hl]) hp ht, up_xor (worth_byte _ hp) (worth_byte _ ht), ← parity_root hf hj, worth_append _ (power_lt j) t ht f hf, hl]
theorem syndromes_diff {b : List Nat} (h : By b) (h16 : 16 ≤ b.length) : syndromes b = (List.range 16).map fun j => worth (addl (parity (b.take (b.length - 16))) (b.drop (b.length - 16))) (power j) := by
  unfold syndromes
  apply List.map_congr_left
  intro j hj
  rw [worth_diff (h.take _) (h.drop _) (by rw [List.length_drop]; omega) (List.mem_range.mp hj), List.take_append_drop]
/-- the product of the roots' factors, one more -/
theorem roots_step (n : Nat) : roots (n + 1) = addl (roots n ++ [0]) ((0 :: roots n).map (times (power n))) :=
  zip_map_right (times (power n)) (fun a b => a ^^^ b) _ _
theorem roots_by : ∀ n, By (roots n)
  | 0 => By.cons (by decide) By.nil
  | n + 1 => by
    rw [roots_step]
    exact addl_by ((roots_by n).append (By.cons (by decide) By.nil)) (By.map fun x _ => times_lt _ (power_lt _))
theorem roots_length : ∀ n, (roots n).length = n + 1
  | 0 => rfl
  | n + 1 => by
    rw [roots_step, addl_length, List.length_append, List.length_map, List.length_cons, List.length_cons, roots_length n]
    show min (n + 1 + 1) (n + 1 + 1) = _
    rw [Nat.min_self]
end Gf
/-! ## GfE -/
set_option Elab.async false
set_option maxRecDepth 100000
namespace Gf
open Fm11 Bm
open Lean.Grind
/-- how much the recurrence c misses s by at a place -/
def lack (c s : List Nat) (n : Nat) : Nat := (List.range c.length).foldl (fun r i => r ^^^ times (c.getD i 0) (s.getD (n - i) 0)) 0
theorem xfold_more {f : Nat → Nat} {m : Nat} (h : ∀ i, m ≤ i → f i = 0) : ∀ k, (List.range (m + k)).foldl (fun r i => r ^^^ f i) 0 = (List.range m).foldl (fun r i => r ^^^ f i) 0
  | 0 => rfl
  | k + 1 => by
    rw [← Nat.add_assoc, List.range_succ, List.foldl_append, xfold_more h k]
    show _ ^^^ f (m + k) = _
    rw [h _ (by omega), Nat.xor_zero]
theorem miss_lack {s c : List Nat} {l n : Nat} (h : c.length ≤ l + 1) : miss s c l n = lack c s n := by
  unfold miss lack
  obtain ⟨k, hk⟩ : ∃ k, l + 1 = c.length + k := ⟨l + 1 - c.length, by omega⟩
  rw [hk]
  exact xfold_more (f := fun i => times (c.getD i 0) (s.getD (n - i) 0)) (fun i hi => by rw [getD_far hi, zero_times]) k
theorem lack_lt {c : List Nat} (s : List Nat) (n : Nat) (hc : By c) : lack c s n < 256 :=
  xsum_lt (f := fun i => times (c.getD i 0) (s.getD (n - i) 0)) (fun i => times_lt _ (hc.getD i)) _ _ (by decide)
theorem getD_take {l : List Nat} {i k : Nat} (h : i < k) : (l.take k).getD i 0 = l.getD i 0 := by
  rw [List.getD_eq_getElem?_getD, List.getElem?_take_of_lt h, ← List.getD_eq_getElem?_getD]
/-- the evaluator's coefficients as the program has them -/
def evOf (c s : List Nat) : List Nat := (List.range (c.length - 1)).map fun k => lack (c.take (k + 1)) s k
theorem ev_by {c s : List Nat} (hc : By c) : By (evOf c s) := By.map fun k _ => lack_lt _ _ (hc.take _)
theorem ev_length (c s : List Nat) : (evOf c s).length = c.length - 1 := by unfold evOf; rw [List.length_map, List.length_range]
theorem lack_take {c s : List Nat} {k : Nat} (hk : k + 1 ≤ c.length) : lack (c.take (k + 1)) s k = (List.range (k + 1)).foldl (fun r i => r ^^^ times (c.getD i 0) (s.getD (k - i) 0)) 0 := by
  unfold lack
  rw [List.length_take, Nat.min_eq_left hk]
  have : ∀ (n : Nat), n ≤ k + 1 → (List.range n).foldl (fun r i => r ^^^ times ((c.take (k + 1)).getD i 0) (s.getD (k - i) 0)) 0 = (List.range n).foldl (fun r i => r ^^^ times (c.getD i 0) (s.getD (k - i) 0)) 0 := by
    intro n
    induction n with
    | zero => intro _; rfl
    | succ n ih =>
      intro h
      rw [List.range_succ, List.foldl_append, List.foldl_append, ih (by omega)]
      show _ ^^^ times ((c.take (k + 1)).getD n 0) _ = _ ^^^ times (c.getD n 0) _
      rw [getD_take (by omega)]
  exact this (k + 1) (Nat.le_refl _)
theorem ev_co {c s : List Nat} (hc : By c) (hs : By s) {k : Nat} (hk : k < c.length - 1) : co (evOf c s) k = conv (co c) (co s) k := by
  show up ((List.map _ (List.range _)).getD k 0) = sm (k + 1) _
  rw [getD_range, if_pos hk, lack_take (by omega), up_xsum (f := fun i => times (c.getD i 0) (s.getD (k - i) 0)) fun i => times_lt _ (hc.getD i)]
  exact sm_congr _ fun i _ => up_times (hc.getD i) (hs.getD _)
theorem slope_list (c : List Nat) : ((List.range (c.length - 1)).map fun i => if (1 + i) % 2 = 1 then c.getD (1 + i) 0 else 0) = slope c := by
  unfold slope
  apply List.map_congr_left
  intro i _
  by_cases g : i % 2 = 0
  · rw [if_pos g, if_pos (by omega), Nat.add_comm]
  · rw [if_neg g, if_neg (by omega)]
theorem slope_length (c : List Nat) : (slope c).length = c.length - 1 := by unfold slope; rw [List.length_map, List.length_range]

/-- a power's other way -/
theorem power_neg {p : Nat} (h : p < 255) : power ((-(p : Int)) % 255).toNat = inverse (power p) := by
  rw [inverse_eq (power_lt p) (power_ne p), lg_power h, power_mod (255 - p)]
  congr 1
  omega
/-- the places counted from the row's end -/
def placesP (c : List Nat) (n : Nat) : List Nat := (List.range n).filter fun p => at_ c (inverse (power p)) == 0
theorem placesP_mem {c : List Nat} {n p : Nat} : p ∈ placesP c n ↔ p < n ∧ at_ c (inverse (power p)) = 0 := by
  unfold placesP
  rw [List.mem_filter, List.mem_range, beq_iff_eq]
theorem placesP_nodup (c : List Nat) (n : Nat) : (placesP c n).Nodup := List.Nodup.sublist List.filter_sublist List.nodup_range
theorem rev_count (n : Nat) (f : Nat → Bool) : ((List.range n).filter f).length = ((List.range n).filter fun i => f (n - 1 - i)).length := by
  have e : (List.range n).map (fun i => n - 1 - i) = (List.range n).reverse := by
    apply List.ext_getElem?
    intro i
    rw [List.getElem?_map]
    by_cases h : i < n
    · rw [List.getElem?_range h, List.getElem?_reverse (by rw [List.length_range]; exact h), List.length_range, List.getElem?_range (by omega)]
      rfl
    · rw [List.getElem?_eq_none (by rw [List.length_range]; omega), List.getElem?_eq_none (by rw [List.length_reverse, List.length_range]; omega)]
      rfl
  have e2 : ((List.range n).filter fun i => f (n - 1 - i)).map (fun i => n - 1 - i) = ((List.range n).map fun i => n - 1 - i).filter f := by
    rw [List.filter_map]
    rfl
  have := congrArg List.length e2
  rw [List.length_map, e, List.filter_reverse, List.length_reverse] at this
  exact this.symm
theorem placesP_length (c : List Nat) (n : Nat) : (placesP c n).length = (placesOf c n).length := rev_count n _
theorem mem_places {c : List Nat} {n i : Nat} (h : i < n) : n - 1 - i ∈ placesP c n ↔ i ∈ placesOf c n := by
  rw [placesP_mem, places_mem]
  constructor
  · intro z; exact ⟨h, z.2⟩
  · intro z; exact ⟨by omega, z.2⟩
/-- the error at a place, as the program has it -/
def errP (c s : List Nat) (p : Nat) : Nat := times (power p) (times (at_ (evOf c s) (inverse (power p))) (inverse (at_ (slope c) (inverse (power p)))))
theorem errP_lt (c s : List Nat) (p : Nat) : errP c s p < 256 := times_lt _ (power_lt _)
section
variable {s c : List Nat} {n l : Nat} (hs : By s) (hn : n ≤ 255) {b' : List Nat} {m' d' : Nat} (h : St s 16 c l b' m' d') (hp : (placesP c n).length = l)
include hn h hp
/-- as many roots as the recurrence is long: its list is as long as may be -/
theorem long : c.length = l + 1 := by
  have hcn := h.cn
  have h1 := h.c1
  by_cases g : c.length = l + 1
  · exact g
  · exfalso
    rw [placesP_length] at hp
    obtain ⟨o, a, lb, I, _⟩ := h.inv
    have hr := roots_are (n := n) (l := c.length - 1) h.cb (by omega)
    have := roots_zero c.length (co c) (rootsOf c n) (roots_nodup hn) (by unfold rootsOf; rw [List.length_map]; omega) (fun y hy => by
      have := (hr y hy).2
      rwa [show c.length - 1 + 1 = c.length by omega] at this) 0 (by omega)
    rw [I.c0] at this
    exact one_ne this
include hs
theorem ev_at {y : Nat} (hy : y < 256) : at_ (evOf c s) y = at_ (omegaOf c s) y := by
  have hL := long hn h hp
  apply up_inj (at_lt _ (ev_by h.cb)) (at_lt _ (omega_by h.cb))
  rw [omega_at hs h hy, up_at hy (ev_by h.cb), ev_length, hL]
  exact pev_congr _ (fun i hi => ev_co h.cb hs (by omega)) _
/-- where an error is, neither is 0 -/
theorem at_place {p : Nat} (hpm : p ∈ placesP c n) : at_ (evOf c s) (inverse (power p)) ≠ 0 ∧ at_ (slope c) (inverse (power p)) ≠ 0 ∧ errP c s p = errOf c s n (n - 1 - p) := by
  have hlt := (placesP_mem.mp hpm).1
  have e : n - 1 - (n - 1 - p) = p := by omega
  have hi : n - 1 - p ∈ placesOf c n := by
    rw [places_mem]
    refine ⟨by omega, ?_⟩
    unfold spot
    rw [e]
    exact (placesP_mem.mp hpm).2
  have sg := spots_good hs hn h (by rw [← placesP_length]; exact hp) hi
  unfold spot at sg
  rw [e] at sg
  have ee := ev_at hs hn h hp (y := inverse (power p)) (inverse_lt (power_lt p))
  refine ⟨by rw [ee]; exact sg.1, sg.2.1, ?_⟩
  unfold errP errOf spot
  rw [ee, e]
end
/-- the row, right at the first i places -/
def fixAt (b c s : List Nat) (ps : List Nat) : List Nat := (List.range b.length).map fun j => if (b.length - 1 - j) ∈ ps then b.getD j 0 ^^^ errP c s (b.length - 1 - j) else b.getD j 0
theorem fixAt_nil (b c s : List Nat) : fixAt b c s [] = b := by
  unfold fixAt
  apply List.ext_getElem?
  intro i
  rw [List.getElem?_map]
  by_cases h : i < b.length
  · rw [List.getElem?_range h]
    show some (if (b.length - 1 - i) ∈ ([] : List Nat) then _ else b.getD i 0) = _
    rw [if_neg List.not_mem_nil, List.getD_eq_getElem?_getD, List.getElem?_eq_getElem h]
    rfl
  · rw [List.getElem?_eq_none (by rw [List.length_range]; omega), List.getElem?_eq_none (by omega)]
    rfl
theorem fixAt_length (b c s ps : List Nat) : (fixAt b c s ps).length = b.length := by
  unfold fixAt
  rw [List.length_map, List.length_range]
theorem fixAt_get {b c s ps : List Nat} {j : Nat} (h : j < b.length) : (fixAt b c s ps).getD j 0 = if (b.length - 1 - j) ∈ ps then b.getD j 0 ^^^ errP c s (b.length - 1 - j) else b.getD j 0 := by
  unfold fixAt
  rw [getD_range, if_pos h]
theorem fixAt_more {b c s ps : List Nat} {p : Nat} (hp : p < b.length) (hn : p ∉ ps) :
    (fixAt b c s ps).set (b.length - 1 - p) ((fixAt b c s ps).getD (b.length - 1 - p) 0 ^^^ errP c s p) = fixAt b c s (ps ++ [p]) := by
  have e : b.length - 1 - (b.length - 1 - p) = p := by omega
  rw [fixAt_get (by omega), e, if_neg hn]
  apply List.ext_getElem?
  intro j
  rw [List.getElem?_set, fixAt_length]
  by_cases h : j < b.length
  · by_cases g : b.length - 1 - p = j
    · rw [if_pos g, if_pos (by omega)]
      unfold fixAt
      rw [List.getElem?_map, List.getElem?_range h]
      show _ = some (if (b.length - 1 - j) ∈ ps ++ [p] then _ else _)
      have : b.length - 1 - j = p := by omega
      rw [if_pos (List.mem_append.mpr (.inr (List.mem_singleton.mpr this))), this, g]
    · rw [if_neg g]
      unfold fixAt
      rw [List.getElem?_map, List.getElem?_map, List.getElem?_range h]
      show some (if (b.length - 1 - j) ∈ ps then _ else _) = some (if (b.length - 1 - j) ∈ ps ++ [p] then _ else _)
      by_cases f : b.length - 1 - j ∈ ps
      · rw [if_pos f, if_pos (List.mem_append.mpr (.inl f))]
      · rw [if_neg f, if_neg]
        intro z
        rcases List.mem_append.mp z with z | z
        · exact f z
        · have := List.mem_singleton.mp z
          omega
  · rw [if_neg (by omega), List.getElem?_eq_none (by rw [fixAt_length]; omega), List.getElem?_eq_none (by rw [fixAt_length]; omega)]
theorem fixAt_all {b : List Nat} (hb : By b) (hn : b.length ≤ 255) {l : Nat} {c : List Nat} {b' : List Nat} {m' d' : Nat} (h : St (syndromes b) 16 c l b' m' d') (hp : (placesP c b.length).length = l) :
    fixAt b c (syndromes b) (placesP c b.length) = fixedOf b c (syndromes b) := by
  unfold fixAt fixedOf
  apply List.map_congr_left
  intro j hj
  have hj' := List.mem_range.mp hj
  by_cases g : b.length - 1 - j ∈ placesP c b.length
  · rw [if_pos g, if_pos (List.contains_iff_mem.mpr ((mem_places hj').mp g)), (at_place (syndromes_by hb) hn h hp g).2.2]
    have : b.length - 1 - (b.length - 1 - j) = j := by omega
    rw [this]
  · rw [if_neg g, if_neg (fun z => g ((mem_places hj').mpr (List.contains_iff_mem.mp z)))]
/-- mended, as the program does it -/
theorem mend_P {b : List Nat} (hb : By b) (hn : b.length ≤ 255) : mend b =
    if 8 < (locator (syndromes b)).2 then none else if (placesP (locator (syndromes b)).1 b.length).length ≠ (locator (syndromes b)).2 then none
    else some (fixAt b (locator (syndromes b)).1 (syndromes b) (placesP (locator (syndromes b)).1 b.length), (locator (syndromes b)).2) := by
  have hst := locator_St (syndromes_by hb)
  rw [syndromes_length] at hst
  obtain ⟨b', m', d', h⟩ := hst
  rw [mend_is hb hn]
  show (if 8 < (locator (syndromes b)).2 ∨ (placesOf (locator (syndromes b)).1 b.length).length ≠ (locator (syndromes b)).2 then none else some (fixedOf b (locator (syndromes b)).1 (syndromes b), (locator (syndromes b)).2)) = _
  rw [placesP_length]
  by_cases g : 8 < (locator (syndromes b)).2
  · rw [if_pos g, if_pos (.inl g)]
  · rw [if_neg g]
    by_cases f : (placesOf (locator (syndromes b)).1 b.length).length = (locator (syndromes b)).2
    · rw [if_neg (fun z => z.elim g (fun y => y f)), if_neg (fun z => z f), fixAt_all hb hn h (by rw [placesP_length]; exact f)]
    · rw [if_pos f, if_pos (.inr f)]
end Gf
/-! ## GfF -/
set_option Elab.async false
set_option maxRecDepth 100000
namespace Gf
open Fm11
theorem xor_ones {c : Nat} (h : c < 2 ^ 32) : c ^^^ (2 ^ 32 - 1) = 2 ^ 32 - 1 - c := by
  apply Nat.eq_of_testBit_eq
  intro i
  have e : 2 ^ 32 - 1 - c = 2 ^ 32 - (c + 1) := by omega
  rw [e, Nat.testBit_xor, Nat.testBit_two_pow_sub_succ h, Nat.testBit_two_pow_sub_one]
  by_cases g : i < 32
  · rw [decide_eq_true g]; cases c.testBit i <;> rfl
  · rw [decide_eq_false g]
    have : c.testBit i = false := Nat.testBit_lt_two_pow (Nat.lt_of_lt_of_le h (Nat.pow_le_pow_right (by decide) (by omega)))
    rw [this]; rfl
theorem sumBit_lt {c : Nat} (h : c < 2 ^ 32) : sumBit c < 2 ^ 32 := by
  unfold sumBit
  split
  · exact Nat.xor_lt_two_pow (by omega) (by decide)
  · omega
/-- one byte more -/
def crcByte (c x : Nat) : Nat := (List.range 8).foldl (fun c _ => sumBit c) (c ^^^ x)
def crcRaw (l : List Nat) : Nat := l.foldl crcByte (2 ^ 32 - 1)
def crcBits (c n : Nat) : Nat := (List.range n).foldl (fun c _ => sumBit c) c
theorem crcBits_succ (c n : Nat) : crcBits c (n + 1) = sumBit (crcBits c n) := by
  unfold crcBits
  rw [List.range_succ, List.foldl_append]; rfl
theorem crcBits_lt {c : Nat} (h : c < 2 ^ 32) : ∀ n, crcBits c n < 2 ^ 32
  | 0 => h
  | n + 1 => by rw [crcBits_succ]; exact sumBit_lt (crcBits_lt h n)
theorem crcByte_lt {c x : Nat} (h : c < 2 ^ 32) (hx : x < 256) : crcByte c x < 2 ^ 32 := crcBits_lt (Nat.xor_lt_two_pow h (by omega)) 8
theorem crcRaw_lt {l : List Nat} (h : By l) : crcRaw l < 2 ^ 32 := by
  have : ∀ (l : List Nat) (c : Nat), By l → c < 2 ^ 32 → l.foldl crcByte c < 2 ^ 32 := by
    intro l
    induction l with
    | nil => intro c _ h; exact h
    | cons x l ih => intro c hb h; exact ih _ hb.tail (crcByte_lt h hb.head)
  exact this l _ h (by decide)
theorem sum_raw (l : List Nat) : sum l = 2 ^ 32 - 1 - crcRaw l := rfl
theorem sum_xor {l : List Nat} (h : By l) : crcRaw l ^^^ (2 ^ 32 - 1) = sum l := by
  rw [xor_ones (crcRaw_lt h), sum_raw]
theorem sum_lt (l : List Nat) : sum l < 2 ^ 32 := by rw [sum_raw]; omega
theorem le_succ (n x : Nat) : le (n + 1) x = le n x ++ [x / 256 ^ n % 256] := by
  unfold le
  rw [List.range_succ, List.map_append]; rfl
theorem le_length (n x : Nat) : (le n x).length = n := by unfold le; rw [List.length_map, List.length_range]
theorem le_by (n x : Nat) : By (le n x) := By.map fun _ _ => Nat.mod_lt _ (by decide)
theorem number_cons (x : Nat) (l : List Nat) : number (x :: l) = x + 256 * number l := rfl
theorem number_lt {l : List Nat} (h : By l) : number l < 256 ^ l.length := by
  induction l with
  | nil => decide
  | cons x l ih =>
    rw [number_cons, List.length_cons, Nat.pow_succ]
    have := ih h.tail
    have := h.head
    omega
theorem number_le (x : Nat) : ∀ n, number (le n x) = x % 256 ^ n := by
  intro n
  have key : ∀ (n k : Nat), number ((List.range n).map fun i => x / 256 ^ (k + i) % 256) = x / 256 ^ k % 256 ^ n := by
    intro n
    induction n with
    | zero => intro k; rw [Nat.pow_zero, Nat.mod_one]; rfl
    | succ n ih =>
      intro k
      rw [List.range_succ_eq_map, List.map_cons, List.map_map, number_cons]
      have e : ((fun i => x / 256 ^ (k + i) % 256) ∘ Nat.succ) = fun i => x / 256 ^ ((k + 1) + i) % 256 := by
        funext i
        show x / 256 ^ (k + (i + 1)) % 256 = _
        rw [show k + (i + 1) = k + 1 + i by omega]
      rw [e, ih (k + 1), Nat.add_zero, Nat.pow_succ, ← Nat.div_div_eq_div_mul, Nat.pow_succ, Nat.mul_comm (256 ^ n) 256, Nat.mod_mul]
  have := key n 0
  rw [Nat.pow_zero, Nat.div_one] at this
  have e : (fun i => x / 256 ^ (0 + i) % 256) = fun i => x / 256 ^ i % 256 := by
    funext i
    rw [Nat.zero_add]
  rw [e] at this
  exact this
theorem number_inj {l m : List Nat} (hl : By l) (hm : By m) (h : l.length = m.length) (e : number l = number m) : l = m := by
  induction l generalizing m with
  | nil =>
    cases m with
    | nil => rfl
    | cons _ _ => cases h
  | cons x l ih =>
    cases m with
    | nil => cases h
    | cons y m =>
      rw [number_cons, number_cons] at e
      have h1 := hl.head
      have h2 := hm.head
      have : x = y := by omega
      rw [this, ih hl.tail hm.tail (Nat.succ.inj h) (by omega)]
/-- four bytes tell the sum -/
theorem sum_bytes {l m : List Nat} (hm : By m) (h4 : m.length = 4) : le 4 (sum l) = m ↔ number m = sum l := by
  have e : number (le 4 (sum l)) = sum l := by
    rw [number_le]
    exact Nat.mod_eq_of_lt (sum_lt l)
  constructor
  · intro h; rw [← h]; exact e
  · intro h
    exact number_inj (le_by _ _) hm (by rw [le_length, h4]) (by rw [e, h])
end Gf
/-! ## RevL -/
set_option Elab.async false
set_option linter.all false
set_option maxRecDepth 100000
set_option maxHeartbeats 4000000
/-! list(reversed(a list)), a rule of my own -/
namespace Rl
open PySem PySem.Spec PyProof.Rows RT
section
variable {prog : Program} {w : World} {A : Around} {E : Value → Shared → Prop} {s : Shared}
abbrev AtRev (items : Array Value) (i : Nat) (v : Value) : Prop := items[items.size - 1 - i]? = some v
theorem extend_rev {R : Result → Shared → Prop} {it l S : Addr} {items : Array Value} (free : A.handled = none) (iter : s.heap.IsRevIter it l ((items.size : Int) - 1)) (lst : s.heap.IsList l items) (apart : l ≠ it) (size : items.size ≤ sizeLine)
    (Si : S ≠ it) (Sl : S ≠ l) (res : Value) (c₀ : Nat) (here : s.heap.get? S = some { cls := .type "list", data := .seq #[] c₀ })
    (fin : ∀ h' tk acc c, (∀ b o, b ≠ S → b ≠ it → s.heap.get? b = some o → h'.get? b = some o) → h'.get? S = some { cls := .type "list", dict := none, data := .seq acc c, slots := #[] } → ItemsOf (AtRev items) acc items.size → R (.ok (.ret res)) { s with heap := h', toks := tk }) :
    wpAny (model prog w) A.in1 (Builtin.List.listExtendWith (.ref S) (.ref it) res)
      (fun f s' => match f with | .done f => R (.ok f) s' | .again c' => c'.quiet = true ∧ codeAny (model prog w) A c' R s') (fun e s' => R (.error e) s') s := by
  have walk := (Walks.listRev (prog := prog) (w := w) (A := A.in1) free it l apart items).toS
  have Sfp : S ∉ [it, l] := fun z => by rcases List.mem_cons.mp z with z | z; exact Si z; exact Sl (List.mem_singleton.mp z)
  have ty : s.TypeIs (.ref it) "list_reverseiterator" := iter.typeIs
  have differ : Builtin.List.listSameRef (.ref S) (.ref it) = false := by simp [Builtin.List.listSameRef, Si]
  unfold Builtin.List.listExtendWith
  refine wpAny_bind (wpAny_typeOf ty ?_); rw [if_neg (by rw [differ]; decide)]
  refine wpAny_bind (wpAny_pyIter_revIter iter (wpAny_bind (wpAny_holding ?_)))
  unfold Builtin.List.listLengthHint
  refine wpAny_bind (wpAny_specialOf ty nolen_lri ?_); show wpAny _ A.in1 (specialOf (Value.ref it) (Str.ofString "__length_hint__") >>= _) _ _ _
  refine wpAny_bind (wpAny_specialOf ty hint_lri ?_); generalize hid : ("list_reverseiterator.__length_hint__" : String) = name
  wp_delta; rw [show splitId name = some ("list_reverseiterator", "__length_hint__") from by subst hid; decide +kernel]; subst hid
  refine wpAny_bind (wpAny_isInstance (b := true) ty (by rw [isSubtype_type]; kernel_rfl) (wpAny_pure ?_)); rw [if_neg (by decide)]
  have at0 : ((items.size : Nat) : Int) - 1 - ((0 : Nat) : Int) = (items.size : Int) - 1 := by omega
  refine wpAny_pure ⟨plainId_quiet F.plain_extend_loop _, codeAny_extend_loopS walk size S Sfp res items.size 0 _ #[] c₀ rfl (Nat.zero_le _) ⟨Nat.zero_le _, by rw [at0]; exact iter, lst⟩ here (ItemsOf.nil _) fun s' acc c moved there made => ?_⟩
  rw [Moved.eq_with moved]
  refine fin s'.heap s'.toks acc c (fun b o bS bi e => moved.heap b o (fun z => ?_) e) there made
  rcases List.mem_cons.mp z with z | z; exact bS z; exact bi (List.mem_singleton.mp z)
theorem init_rev {R : Result → Shared → Prop} {it l S : Addr} {items : Array Value} (free : A.handled = none) (iter : s.heap.IsRevIter it l ((items.size : Int) - 1)) (lst : s.heap.IsList l items) (apart : l ≠ it) (size : items.size ≤ sizeLine)
    (Si : S ≠ it) (Sl : S ≠ l) (here : s.heap.get? S = some { cls := .type "list", data := .seq #[] })
    (fin : ∀ h' tk acc c, (∀ b o, b ≠ S → b ≠ it → s.heap.get? b = some o → h'.get? b = some o) → h'.get? S = some { cls := .type "list", dict := none, data := .seq acc c, slots := #[] } → ItemsOf (AtRev items) acc items.size → R (.ok (.ret .none)) { s with heap := h', toks := tk }) :
    wpAny (model prog w) A.in1 (Builtin.«list.__init__» ⟨[.ref S, .ref it], []⟩)
      (fun f s' => match f with | .done f => R (.ok f) s' | .again c' => c'.quiet = true ∧ codeAny (model prog w) A c' R s') (fun e s' => R (.error e) s') s := by
  show wpAny _ _ (do let was ← Builtin.List.listItems (.ref S); Builtin.List.listUpdate (.ref S) (fun _ => #[]); letGo was.toList.reverse; Builtin.List.listExtendWith (.ref S) (.ref it) .none) _ _ s
  refine wpAny_bind ?_; unfold Builtin.List.listItems
  refine wpAny_bind (wpAny_seqItems here rfl (wpAny_pure ?_)); show wpAny _ _ (updateSeq S (fun _ => #[]) >>= fun _ => letGo (#[] : Array Value).toList.reverse >>= fun _ => Builtin.List.listExtendWith (.ref S) (.ref it) .none) _ _ s
  refine wpAny_bind (wpAny_updateSeq here rfl (wpAny_bind (wpAny_letGo ?_)))
  have now := Heap.get?_update_self (Obj.mapSeq (fun _ => (#[] : Array Value))) here rfl
  have other : ∀ b o, b ≠ S → s.heap.get? b = some o → (s.heap.update S (Obj.mapSeq (fun _ => (#[] : Array Value)))).get? b = some o := fun b o hb e => (Heap.get?_update_other _ _ hb.symm).trans e
  exact extend_rev free (iter.at fun o e => other _ o Si.symm e) (lst.at fun o e => other _ o Sl.symm e) apart size Si Sl .none _ now fun h' tk acc c kept there made => fin h' tk acc c (fun b o bS bi e => kept b o bS bi (other b o bS e)) there made
theorem call_list_rev {Q : Value → Shared → Prop} {it l : Addr} {items : Array Value} (free : A.handled = none) (iter : s.heap.IsRevIter it l ((items.size : Int) - 1)) (lst : s.heap.IsList l items) (apart : l ≠ it) (size : items.size ≤ sizeLine)
    (fin : ∀ h' tk acc c, (∀ b o, b ≠ it → s.heap.get? b = some o → h'.get? b = some o) → h'.get? s.heap.objs.size = some { cls := .type "list", dict := none, data := .seq acc c, slots := #[] } → ItemsOf (AtRev items) acc items.size → Q (.ref s.heap.objs.size) { s with heap := h', toks := tk }) :
    wpAny (model prog w) A (call (.type "list") [.ref it]) Q E s := by
  obtain ⟨oi, hoi, _⟩ := id iter
  obtain ⟨ol, hol, _⟩ := id lst
  have big1 : s.heap.objs.size ≠ it := Nat.ne_of_gt (Heap.lt_size hoi)
  have big2 : s.heap.objs.size ≠ l := Nat.ne_of_gt (Heap.lt_size hol)
  refine callType_codes (Q₁ := fun obj s₁ => obj = .ref s.heap.objs.size ∧ s₁ = { s with heap := s.heap.push { cls := .type "list", data := .seq #[] } }) F.called_list (F.typeCall_list_1 _) F.entry_list_init (code_list_new _ ⟨rfl, rfl⟩) fun obj s₁ both => ?_
  obtain ⟨rfl, rfl⟩ := both
  have here : (s.heap.push { cls := .type "list", data := .seq #[] }).get? s.heap.objs.size = some { cls := .type "list", data := .seq #[] } := Heap.get?_push_size _ rfl
  refine ⟨⟨_, here, rfl⟩, F.args_list_init_2 _ _, init_rev (A := A.in1) free (iter.at fun o e => Heap.get?_push_of_some _ e) (lst.push _) apart size big1 big2 here fun h' tk acc c kept there made => ?_⟩
  exact ⟨rfl, fin h' tk acc c (fun b o bi e => kept b o (Nat.ne_of_lt (Heap.lt_size e)) bi (Heap.get?_push_of_some _ e)) there made⟩
end
end Rl
namespace L2
open PySem PySem.Spec PyProof.Rows
section
variable {X : Cx}
/-- list(reversed(e)), e a list -/
def tLstRev (K : PySem.W.Frag) (te : TE) : TE := fun σ H Q => te σ H fun v H1 => ∃ (a : Addr) (xs : List V), v = .ref a ∧ SqL K H1 a xs ∧ ∀ q, H1 q = none → Q (.ref q) (upd H1 q (.lst xs.reverse))
theorem boots : bootBuiltins ("list" : Str) = some (.type "list") := by decide +kernel
theorem pe_lstRev {e : Expr} {te : TE} {p p2 pos pos2 : Pos} (hc : X.calm = true) (hg : Gl X "list") (hm : X.mg "list" = none) (hg2 : Gl X "reversed") (hm2 : X.mg "reversed" = none) (he : PE X e te)
    (hs : starEach [e] X.env = (false, eval e X.env) :: starEach [] X.env := by rfl)
    (hs2 : starEach [.Call (.Name "reversed" p2) [e] [] pos2] X.env = (false, eval (.Call (.Name "reversed" p2) [e] [] pos2) X.env) :: starEach [] X.env := by rfl) :
    PE X (.Call (.Name "list" p) [.Call (.Name "reversed" p2) [e] [] pos2] [] pos) (tLstRev X.K te) := by
  refine ⟨fun pins s σ H Q I h => ?_⟩
  refine Call_ (ld_blt I hg hm boots (PyProof.Rows.callWith_type1 (args_cons (Call_ (ld_blt I hg2 hm2 PyProof.Rows.boot_reversed (PyProof.Rows.callWith_type1 (args_cons (thn (he.run pins s σ H _ I h) fun u s1 z => args_nil ?_) hs) hs rfl))) hs2) hs2 rfl))
  obtain ⟨v, H1, I1, r1, a, xs, rfl, hq, q⟩ := z
  obtain rfl : u = Value.ref a := r1
  obtain ⟨its, rv, p', hz⟩ := I1.list hq
  refine call_reversed_list p'.isList (args_nil ?_)
  have I2 : Inv X pins σ H1 { s1 with heap := s1.heap.push (revObj a ((its.toArray.size : Int) - 1)) } := I1.kept (t' := s1.toks) fun b o e => Heap.get?_push_of_some _ e
  obtain ⟨f0, f1, f2, f3, f4, f5⟩ := I1.fpOk (H' := H1) (b := s1.heap.objs.size) (Nat.le_refl _) (I1.hok.fresh (Nat.le_refl _))
  have isl := p'.isList
  obtain ⟨ol, hol, _⟩ := id isl
  refine Rl.call_list_rev (s := { s1 with heap := s1.heap.push (revObj a ((its.toArray.size : Int) - 1)) }) (I1.ok.hd hc) ⟨_, Heap.get?_push_size _ rfl, rfl, rfl⟩ (isl.push _) (Nat.ne_of_lt (Heap.lt_size hol)) (by rw [List.size_toArray, ← rv.length]; exact hz) fun h' tk acc c hk there hi => ?_
  have big : s1.heap.objs.size ≤ (s1.heap.push (revObj a ((its.toArray.size : Int) - 1))).objs.size := by rw [Heap.size_push]; exact Nat.le_succ _
  refine ⟨.ref _, upd H1 _ (.lst xs.reverse), I1.turnedNew (t' := tk) (ch := [s1.heap.objs.size]) (fun b o hb e => hk b o (fun z => hb (List.mem_singleton.mpr z)) (Heap.get?_push_of_some _ e)) (fun b hb => by rw [List.mem_singleton.mp hb]; exact ⟨f0, f1, f2, f3, f4, f5⟩) big
    (show ObjOk X.prog X.w _ _ _ (.lst xs.reverse) from ⟨by rw [List.length_reverse]; exact hz, acc.toList, c, RT.vals_rev rv hi, by rw [Array.toArray_toList]; exact there⟩), rfl, q _ (I1.hok.fresh big)⟩
end
end L2
/-! ## Bs -/
set_option Elab.async false
set_option linter.all false
set_option maxRecDepth 100000
set_option maxHeartbeats 4000000
namespace Sl
open PySem PySem.Spec PyProof.Rows L2 Evl
/-- whole numbers from 0 on, as values -/
def nv (l : List Nat) : List V := l.map fun (n : Nat) => V.int (n : Int)
theorem nv_length (l : List Nat) : (nv l).length = l.length := List.length_map _
theorem nv_get {l : List Nat} {i : Nat} {x : Nat} (h : l[i]? = some x) : (nv l)[i]? = some (.int (x : Int)) := by
  unfold nv
  rw [List.getElem?_map, h]
  rfl
theorem nv_of {l : List Nat} {i : Nat} {v : V} (h : (nv l)[i]? = some v) : ∃ x, l[i]? = some x ∧ v = .int (x : Int) := by
  unfold nv at h
  rw [List.getElem?_map] at h
  cases e : l[i]? with
  | none => rw [e] at h; cases h
  | some x => rw [e] at h; exact ⟨x, rfl, (Option.some.inj h).symm⟩
theorem nv_append (l m : List Nat) : nv (l ++ m) = nv l ++ nv m := List.map_append
theorem getD_some {l : List Nat} {i : Nat} (h : i < l.length) : l[i]? = some (l.getD i 0) := by
  rw [List.getD_eq_getElem?_getD, List.getElem?_eq_getElem h]
  rfl
theorem atI_nv {l : List Nat} {z : Int} {i : Nat} (e : z = (i : Int)) (h : i < l.length) : atI (nv l) z = some (.int ((l.getD i 0 : Nat) : Int)) := by
  rw [e]
  exact atI_nat (nv_get (getD_some h))
theorem xor_cast {a b : Nat} : Builtin.bitXor (a : Int) (b : Int) = ((a ^^^ b : Nat) : Int) := by
  rw [Bits.bitXor_pp (Int.natCast_nonneg a) (Int.natCast_nonneg b)]
  simp
/-! ### parts of a list, comprehensions over lists of numbers -/
theorem cut_from (l : List Nat) (k : Nat) : cutV (nv l) (some (k : Int)) none = nv (l.drop k) := by
  unfold cutV
  rw [HT.sIx_nat, HT.sIx_none, nv_length]
  unfold nv
  rw [List.map_drop]
  by_cases h : k ≤ l.length
  · rw [Nat.min_eq_left h]
    exact List.take_of_length_le (by rw [List.length_drop, List.length_map]; exact Nat.le_refl _)
  · rw [Nat.min_eq_right (by omega), List.drop_of_length_le (by rw [List.length_map]; exact Nat.le_refl _), List.drop_of_length_le (by rw [List.length_map]; omega)]
    exact List.take_nil
theorem cut_to (l : List Nat) (k : Nat) : cutV (nv l) none (some (k : Int)) = nv (l.take k) := by
  unfold cutV
  rw [HT.sIx_nat, HT.sIx_none, nv_length, List.drop_zero, Nat.sub_zero]
  unfold nv
  rw [List.map_take]
  by_cases h : k ≤ l.length
  · rw [Nat.min_eq_left h]
  · rw [Nat.min_eq_right (by omega), List.take_of_length_le (by rw [List.length_map]; exact Nat.le_refl _), List.take_of_length_le (by rw [List.length_map]; omega)]
theorem cut_mid (l : List Nat) {j k : Nat} (hjk : j ≤ k) : cutV (nv l) (some (j : Int)) (some (k : Int)) = nv ((l.drop j).take (k - j)) := by
  unfold cutV
  rw [HT.sIx_nat, HT.sIx_nat, nv_length]
  unfold nv
  rw [List.map_take, List.map_drop]
  by_cases h : k ≤ l.length
  · rw [Nat.min_eq_left h, Nat.min_eq_left (by omega)]
  · rw [Nat.min_eq_right (by omega)]
    by_cases g : j ≤ l.length
    · rw [Nat.min_eq_left g, List.take_of_length_le (by rw [List.length_drop, List.length_map]; exact Nat.le_refl _), List.take_of_length_le (by rw [List.length_drop, List.length_map]; omega)]
    · rw [Nat.min_eq_right (by omega), List.drop_of_length_le (by rw [List.length_map]; exact Nat.le_refl _), List.drop_of_length_le (by rw [List.length_map]; omega), List.take_nil, List.take_nil]
theorem rep_flat (n : Nat) : (List.replicate n [V.int 0]).flatten = nv (List.replicate n 0) := by
  induction n with
  | zero => rfl
  | succ n ih =>
    rw [List.replicate_succ, List.flatten_cons, ih]
    rfl
theorem nv_line {l : List Nat} (h : l.length ≤ 100000) : (nv l).length ≤ sizeLine := by
  rw [nv_length]
  exact sz_of h
/-- what a comprehension has made behind i turns -/
def Mk (H : Hp) (D : Addr) (ys : List V) (H' : Hp) : Prop := H D = none ∧ Ex H H' ∧ H' D = some (.lst ys)
theorem Mk.more {H H1 H2 : Hp} {D : Addr} {ys : List V} (p : Mk H D ys H1) (e : Ex H1 H2) (y : V) : Mk H D (ys ++ [y]) (upd H2 D (.lst (ys ++ [y]))) :=
  ⟨p.1, Ex.mut (p.2.1.trans e) p.1, upd_same⟩
theorem map_take_more {f : Nat → V} {l : List Nat} {i x : Nat} (h : l[i]? = some x) : (l.take (i + 1)).map f = (l.take i).map f ++ [f x] := by
  rw [List.take_add_one, h, List.map_append]
  rfl
/-- [.. for x in row] -/
theorem lc_nv {K : PySem.W.Frag} {a : Addr} {l : List Nat} {g : TG} {te : TE} {vs : List Nat} {σ : L2.St} {H : Hp} {Q : Addr → Hp → Prop} (f : Nat → Nat) (hs : SqL K H a (nv l)) (hz : l.length ≤ 40000)
    (turn : ∀ (i x : Nat) (H1 : Hp) (R : VK), l[i]? = some x → Ex H H1 → (∀ H2, Ex H1 H2 → R (.int (f x : Nat)) H2) → g (.int (x : Nat)) (wipe σ vs) H1 fun σ2 H2 => wipe σ2 vs = wipe σ vs ∧ te σ2 H2 R)
    (k : ∀ p H', H p = none → Ex H H' → H' p = some (.lst (nv (l.map f))) → Q p H') :
    (∃ xs, SqL K H a xs) ∧ ∀ D, H D = none → ∃ W : Nat → Nat → Hp → Prop, (∃ m, W 0 m (upd H D (.lst []))) ∧ ∀ i m H', W i m H' →
      ((Itl K a).stop i H' ∧ Q D H') ∨ ((Itl K a).go i H' ∧ ∃ Nx : Hp → Prop, (∀ H'', Nx H'' → ∃ m', m' < m ∧ W (i + 1) m' H'') ∧ ∀ x H'', (Itl K a).yld i H' x H'' → g x (wipe σ vs) H'' fun σ2 H2 => wipe σ2 vs = wipe σ vs ∧ tYes σ2 H2 fun b H3 =>
        if b = true then te σ2 H3 fun y H4 => ∃ acc, H4 D = some (.lst acc) ∧ acc.length < sizeLine ∧ Nx (upd H4 D (.lst (acc ++ [y]))) else Nx H3) := by
  refine ⟨⟨_, hs⟩, fun D hD => ?_⟩
  refine lc_list (xs := nv l) (fun i H' => Mk H D ((l.take i).map fun x => V.int (f x : Nat)) H') ⟨hD, Ex.new hD, upd_same⟩ (fun i H' _ p => ex_l p.2.1 hs) (fun i x H' hi p => ?_) (fun H' p => ?_)
  · obtain ⟨z, hz', rfl⟩ := nv_of hi
    refine turn i z H' _ hz' p.2.1 fun H2 e2 => ?_
    have e3 := map_take_more (f := fun x => V.int (f x : Nat)) hz'
    refine ⟨_, e2 _ _ p.2.2, ?_, ?_⟩
    · rw [List.length_map, List.length_take]
      exact sz_lt (by omega)
    · show Mk H D _ _
      rw [e3]
      exact p.more e2 _
  · rw [nv_length, List.take_length] at p
    refine k D H' p.1 p.2.1 ?_
    have := p.2.2
    rw [this]
    unfold nv
    rw [List.map_map]
    rfl
/-- [.. for i in range(lo, lo + n)] -/
theorem lc_rg {n : Nat} {lo : Int} {g : TG} {te : TE} {vs : List Nat} {σ : L2.St} {H : Hp} {Q : Addr → Hp → Prop} (f : Nat → Nat) (hz : n ≤ 40000)
    (turn : ∀ (i : Nat) (H1 : Hp) (R : VK), i < n → Ex H H1 → (∀ H2, Ex H1 H2 → R (.int (f i : Nat)) H2) → g (.int (lo + (i : Int))) (wipe σ vs) H1 fun σ2 H2 => wipe σ2 vs = wipe σ vs ∧ te σ2 H2 R)
    (k : ∀ p H', H p = none → Ex H H' → H' p = some (.lst (nv ((List.range n).map f))) → Q p H') :
    ∀ D, H D = none → ∃ W : Nat → Nat → Hp → Prop, (∃ m, W 0 m (upd H D (.lst []))) ∧ ∀ i m H', W i m H' →
      ((Itr lo n).stop i H' ∧ Q D H') ∨ ((Itr lo n).go i H' ∧ ∃ Nx : Hp → Prop, (∀ H'', Nx H'' → ∃ m', m' < m ∧ W (i + 1) m' H'') ∧ ∀ x H'', (Itr lo n).yld i H' x H'' → g x (wipe σ vs) H'' fun σ2 H2 => wipe σ2 vs = wipe σ vs ∧ tYes σ2 H2 fun b H3 =>
        if b = true then te σ2 H3 fun y H4 => ∃ acc, H4 D = some (.lst acc) ∧ acc.length < sizeLine ∧ Nx (upd H4 D (.lst (acc ++ [y]))) else Nx H3) := by
  intro D hD
  refine lc_range (lo := lo) (n := n) (fun i H' => Mk H D ((List.range i).map fun x => V.int (f x : Nat)) H') ⟨hD, Ex.new hD, upd_same⟩ (fun i H' hi p => ?_) (fun H' p => ?_)
  · refine turn i H' _ hi p.2.1 fun H2 e2 => ?_
    refine ⟨_, e2 _ _ p.2.2, ?_, ?_⟩
    · rw [List.length_map, List.length_range]
      exact sz_lt (by omega)
    · show Mk H D _ _
      rw [List.range_succ, List.map_append]
      exact p.more e2 _
  · refine k D H' p.1 p.2.1 ?_
    have := p.2.2
    rw [this]
    unfold nv
    rw [List.map_map]
    rfl
/-- [i for i in range(n) if ..] -/
theorem lc_rf {n : Nat} {g : TG} {tt : TT} {te : TE} {vs : List Nat} {σ : L2.St} {H : Hp} {Q : Addr → Hp → Prop} (f : Nat → Bool) (hz : n ≤ 40000)
    (turn : ∀ (i : Nat) (H1 : Hp) (R : Bool → L2.St → Hp → Prop), i < n → Ex H H1 → (∀ σ2 H2, Ex H1 H2 → wipe σ2 vs = wipe σ vs → (∀ H3 (S : VK), S (.int (i : Nat)) H3 → te σ2 H3 S) → R (f i) σ2 H2) → g (.int (0 + (i : Int))) (wipe σ vs) H1 fun σ2 H2 => wipe σ2 vs = wipe σ vs ∧ tt σ2 H2 fun b H3 => R b σ2 H3)
    (k : ∀ p H', H p = none → Ex H H' → H' p = some (.lst (nv ((List.range n).filter f))) → Q p H') :
    ∀ D, H D = none → ∃ W : Nat → Nat → Hp → Prop, (∃ m, W 0 m (upd H D (.lst []))) ∧ ∀ i m H', W i m H' →
      ((Itr 0 n).stop i H' ∧ Q D H') ∨ ((Itr 0 n).go i H' ∧ ∃ Nx : Hp → Prop, (∀ H'', Nx H'' → ∃ m', m' < m ∧ W (i + 1) m' H'') ∧ ∀ x H'', (Itr 0 n).yld i H' x H'' → g x (wipe σ vs) H'' fun σ2 H2 => wipe σ2 vs = wipe σ vs ∧ tt σ2 H2 fun b H3 =>
        if b = true then te σ2 H3 fun y H4 => ∃ acc, H4 D = some (.lst acc) ∧ acc.length < sizeLine ∧ Nx (upd H4 D (.lst (acc ++ [y]))) else Nx H3) := by
  intro D hD
  refine lc_range (lo := 0) (n := n) (fun i H' => Mk H D (nv ((List.range i).filter f)) H') ⟨hD, Ex.new hD, upd_same⟩ (fun i H' hi p => ?_) (fun H' p => ?_)
  · refine turn i H' (fun b σ2 H3 => if b = true then te σ2 H3 fun y H4 => ∃ acc, H4 D = some (.lst acc) ∧ acc.length < sizeLine ∧ Mk H D (nv ((List.range (i + 1)).filter f)) (upd H4 D (.lst (acc ++ [y]))) else Mk H D (nv ((List.range (i + 1)).filter f)) H3) hi p.2.1 fun σ2 H2 e2 hw hte => ?_
    have hlen : ((List.range i).filter f).length ≤ i := by
      have := List.length_filter_le f (List.range i)
      rwa [List.length_range] at this
    by_cases c : f i = true
    · show if f i = true then _ else _
      rw [if_pos c]
      refine hte H2 _ ⟨_, e2 _ _ p.2.2, ?_, ?_⟩
      · rw [nv_length]
        exact sz_lt (by omega)
      · rw [List.range_succ, List.filter_append, List.filter_cons_of_pos c, nv_append]
        exact p.more e2 _
    · show if f i = true then _ else _
      rw [if_neg c, List.range_succ, List.filter_append, List.filter_cons_of_neg c]
      show Mk H D (nv ((List.range i).filter f ++ [])) H2
      rw [List.append_nil]
      exact ⟨p.1, p.2.1.trans e2, e2 _ _ p.2.2⟩
  · exact k D H' p.1 p.2.1 p.2.2
/-- [x for x in list if ..], things of any kind -/
theorem lc_ft {α : Type} {K : PySem.W.Frag} {a : Addr} {ps : List α} {g : TG} {tt : TT} {te : TE} {vs : List Nat} {σ : L2.St} {H : Hp} {Q : Addr → Hp → Prop} (r : α → V) (f : α → Bool) (hs : SqL K H a (ps.map r)) (hz : ps.length ≤ 40000)
    (turn : ∀ (i : Nat) (y : α) (H1 : Hp) (R : Bool → L2.St → Hp → Prop), ps[i]? = some y → Ex H H1 → (∀ σ2 H2, Ex H1 H2 → wipe σ2 vs = wipe σ vs → (∀ H3 (S : VK), S (r y) H3 → te σ2 H3 S) → R (f y) σ2 H2) → g (r y) (wipe σ vs) H1 fun σ2 H2 => wipe σ2 vs = wipe σ vs ∧ tt σ2 H2 fun b H3 => R b σ2 H3)
    (k : ∀ p H', H p = none → Ex H H' → H' p = some (.lst ((ps.filter f).map r)) → Q p H') :
    (∃ xs, SqL K H a xs) ∧ ∀ D, H D = none → ∃ W : Nat → Nat → Hp → Prop, (∃ m, W 0 m (upd H D (.lst []))) ∧ ∀ i m H', W i m H' →
      ((Itl K a).stop i H' ∧ Q D H') ∨ ((Itl K a).go i H' ∧ ∃ Nx : Hp → Prop, (∀ H'', Nx H'' → ∃ m', m' < m ∧ W (i + 1) m' H'') ∧ ∀ x H'', (Itl K a).yld i H' x H'' → g x (wipe σ vs) H'' fun σ2 H2 => wipe σ2 vs = wipe σ vs ∧ tt σ2 H2 fun b H3 =>
        if b = true then te σ2 H3 fun y H4 => ∃ acc, H4 D = some (.lst acc) ∧ acc.length < sizeLine ∧ Nx (upd H4 D (.lst (acc ++ [y]))) else Nx H3) := by
  refine ⟨⟨_, hs⟩, fun D hD => ?_⟩
  refine lc_list (xs := ps.map r) (fun i H' => Mk H D (((ps.take i).filter f).map r) H') ⟨hD, Ex.new hD, upd_same⟩ (fun i H' _ p => ex_l p.2.1 hs) (fun i x H' hi p => ?_) (fun H' p => ?_)
  · rw [List.getElem?_map] at hi
    obtain ⟨y, hy, rfl⟩ : ∃ y, ps[i]? = some y ∧ x = r y := by
      cases e : ps[i]? with
      | none => rw [e] at hi; cases hi
      | some z => rw [e] at hi; exact ⟨z, rfl, (Option.some.inj hi).symm⟩
    refine turn i y H' (fun b σ2 H3 => if b = true then te σ2 H3 fun y H4 => ∃ acc, H4 D = some (.lst acc) ∧ acc.length < sizeLine ∧ Mk H D (((ps.take (i + 1)).filter f).map r) (upd H4 D (.lst (acc ++ [y]))) else Mk H D (((ps.take (i + 1)).filter f).map r) H3) hy p.2.1 fun σ2 H2 e2 hw hte => ?_
    have hlen : ((ps.take i).filter f).length ≤ ps.length := by
      have := List.length_filter_le f (ps.take i)
      rw [List.length_take] at this
      omega
    have et : ps.take (i + 1) = ps.take i ++ [y] := by
      rw [List.take_add_one, hy]
      rfl
    by_cases c : f y = true
    · show if f y = true then _ else _
      rw [if_pos c]
      refine hte H2 _ ⟨_, e2 _ _ p.2.2, ?_, ?_⟩
      · rw [List.length_map]
        exact sz_lt (by omega)
      · rw [et, List.filter_append, List.filter_cons_of_pos c, List.map_append]
        exact p.more e2 _
    · show if f y = true then _ else _
      rw [if_neg c, et, List.filter_append, List.filter_cons_of_neg c]
      show Mk H D (((ps.take i).filter f ++ []).map r) H2
      rw [List.append_nil]
      exact ⟨p.1, p.2.1.trans e2, e2 _ _ p.2.2⟩
  · rw [List.length_map, List.take_length] at p
    exact k D H' p.1 p.2.1 p.2.2
/-- [.. for x, y in zip(a, b)], of one length -/
theorem lc_zp {K : PySem.W.Frag} {a b : Addr} {l m : List Nat} {g : TG} {te : TE} {vs : List Nat} {σ : L2.St} {H : Hp} {Q : Addr → Hp → Prop} (f : Nat × Nat → Nat) (hl : l.length = m.length) (hs : SqL K H a (nv l)) (hs2 : SqL K H b (nv m)) (hz : l.length ≤ 40000)
    (turn : ∀ (i x y : Nat) (T : Addr) (H1 : Hp) (R : VK), l[i]? = some x → m[i]? = some y → Ex H H1 → H1 T = some (.tup [.int (x : Int), .int (y : Int)]) → (∀ H2, Ex H1 H2 → R (.int (f (x, y) : Nat)) H2) → g (.ref T) (wipe σ vs) H1 fun σ2 H2 => wipe σ2 vs = wipe σ vs ∧ te σ2 H2 R)
    (k : ∀ p H', H p = none → Ex H H' → H' p = some (.lst (nv ((l.zip m).map f))) → Q p H') :
    ∀ D, H D = none → ∃ W : Nat → Nat → Hp → Prop, (∃ m, W 0 m (upd H D (.lst []))) ∧ ∀ i m H', W i m H' →
      ((Itz K a b).stop i H' ∧ Q D H') ∨ ((Itz K a b).go i H' ∧ ∃ Nx : Hp → Prop, (∀ H'', Nx H'' → ∃ m', m' < m ∧ W (i + 1) m' H'') ∧ ∀ x H'', (Itz K a b).yld i H' x H'' → g x (wipe σ vs) H'' fun σ2 H2 => wipe σ2 vs = wipe σ vs ∧ tYes σ2 H2 fun b H3 =>
        if b = true then te σ2 H3 fun y H4 => ∃ acc, H4 D = some (.lst acc) ∧ acc.length < sizeLine ∧ Nx (upd H4 D (.lst (acc ++ [y]))) else Nx H3) := by
  intro D hD
  refine ⟨fun i n H' => n = l.length - i ∧ i ≤ l.length ∧ Mk H D (((l.zip m).take i).map fun x => V.int (f x : Nat)) H', ⟨l.length, rfl, Nat.zero_le _, hD, Ex.new hD, upd_same⟩, ?_⟩
  rintro i n H' ⟨rfl, hi, p⟩
  have qx := ex_l p.2.1 hs
  have qy := ex_l p.2.1 hs2
  by_cases hlt : i < l.length
  · have hx : l[i]? = some l[i] := List.getElem?_eq_getElem hlt
    have hlt2 : i < m.length := by omega
    have hy : m[i]? = some m[i] := List.getElem?_eq_getElem hlt2
    refine .inr ⟨⟨_, _, _, _, qx, qy, nv_get hx, nv_get hy⟩, fun H'' => Mk H D (((l.zip m).take (i + 1)).map fun x => V.int (f x : Nat)) H'', fun H'' p' => ⟨l.length - (i + 1), by omega, rfl, hlt, p'⟩, fun v H'' y => ?_⟩
    obtain ⟨T, x', y', rfl, hT, rfl, f1, f2⟩ := y
    have ex1 : x' = .int (l[i] : Nat) := Option.some.inj ((f1 _ qx).symm.trans (nv_get hx))
    have ex2 : y' = .int (m[i] : Nat) := Option.some.inj ((f2 _ qy).symm.trans (nv_get hy))
    subst ex1 ex2
    have eT : Ex H' (upd H' T (.tup [.int (l[i] : Nat), .int (m[i] : Nat)])) := Ex.new hT
    refine turn i _ _ T _ _ hx hy (p.2.1.trans eT) upd_same fun H2 e2 => ?_
    have hz' : (l.zip m)[i]? = some (l[i], m[i]) := by
      rw [List.getElem?_zip_eq_some]
      exact ⟨hx, hy⟩
    refine ⟨_, (eT.trans e2) _ _ p.2.2, ?_, ?_⟩
    · rw [List.length_map, List.length_take]
      exact sz_lt (by omega)
    · show Mk H D _ _
      rw [List.take_add_one, hz', List.map_append]
      exact p.more (eT.trans e2) _
  · have ei : i = l.length := by omega
    refine .inl ⟨⟨_, _, qx, qy, .inl (by rw [nv_length]; omega)⟩, k D H' p.1 p.2.1 ?_⟩
    have := p.2.2
    rw [this, List.take_of_length_le (by rw [List.length_zip]; omega)]
    unfold nv
    rw [List.map_map]
    rfl
def iv (l : List Int) : List V := l.map V.int
theorem iv_nat (l : List Nat) : iv (l.map fun (n : Nat) => (n : Int)) = nv l := by
  unfold iv nv
  rw [List.map_map]
  rfl
def natsI (l : List Nat) : List Int := l.map fun (n : Nat) => (n : Int)
def ansOut (a : Fm11.Ans) : List Int := a.code :: a.rows.flatMap fun r => (r.length : Int) :: natsI r
/-- the field's second list -/
def lg0 (x : Nat) : Nat := if x = 0 then 0 else Gf.lg x
def logs : List Nat := (List.range 256).map lg0
theorem logs_length : logs.length = 256 := by
  unfold logs
  rw [List.length_map, List.length_range]
theorem logs_at {x : Nat} (h : x < 256) : logs.getD x 0 = lg0 x := by
  unfold logs
  rw [Gf.getD_range, if_pos h]
theorem table_length : Gf.table.length = 255 := by decide +kernel
def FieldAt (A : Adr) (H : Hp) (a : Addr) : Prop := ∃ dx p q, H a = some (.ins A.c_Field dx (fl_Field (.ref p) (.ref q))) ∧ H p = some (.lst (nv Gf.table)) ∧ H q = some (.lst (nv logs))
theorem FieldAt.ex {A : Adr} {H H' : Hp} {a : Addr} (e : Ex H H') (h : FieldAt A H a) : FieldAt A H' a := by
  obtain ⟨dx, p, q, h1, h2, h3⟩ := h
  exact ⟨dx, p, q, e _ _ h1, e _ _ h2, e _ _ h3⟩
/-- an object made anew leaves what was there -/
theorem new_ex {H H1 : Hp} {c dx : Addr} {o1 o2 : HO} (nc : H c = none) (ndx : H dx = none) (k : ∀ b u, upd (upd H dx o1) c o2 b = some u → b ≠ c → H1 b = some u) : Ex H H1 := fun b u hb =>
  k b u (by rw [upd_ne (ne_of_none hb nc), upd_ne (ne_of_none hb ndx)]; exact hb) (ne_of_none hb nc)
/-! ### promises: of the field -/
def sp_doubled (K : PySem.W.Frag) (A : Adr) : Sp := fun vs H Q _ => ∃ a : Nat, vs = [.int (a : Int)] ∧ a < 256 ∧ Q (.int (Fm11.twice a : Nat)) H
def sp_product_of (K : PySem.W.Frag) (A : Adr) : Sp := fun vs H Q _ => ∃ a b : Nat, vs = [.int (a : Int), .int (b : Int)] ∧ a < 256 ∧ b < 256 ∧ Q (.int (Fm11.times a b : Nat)) H
def sp_Field_init (K : PySem.W.Frag) (A : Adr) : Sp := fun vs H Q _ => ∃ p dx : Addr, vs = [.ref p] ∧ H p = some (.ins A.c_Field dx []) ∧
  ∀ H' : Hp, FieldAt A H' p → (∀ b o, H b = some o → b ≠ p → H' b = some o) → Q .non H'
def sp_Field_power (K : PySem.W.Frag) (A : Adr) : Sp := fun vs H Q _ => ∃ (f : Addr) (z : Int), vs = [.ref f, .int z] ∧ FieldAt A H f ∧ Q (.int (Fm11.power (z % 255).toNat : Nat)) H
def sp_Field_product (K : PySem.W.Frag) (A : Adr) : Sp := fun vs H Q _ => ∃ (f : Addr) (a b : Nat), vs = [.ref f, .int (a : Int), .int (b : Int)] ∧ FieldAt A H f ∧ a < 256 ∧ b < 256 ∧ Q (.int (Fm11.times a b : Nat)) H
def sp_Field_quotient (K : PySem.W.Frag) (A : Adr) : Sp := fun vs H Q _ => ∃ (f : Addr) (a b : Nat), vs = [.ref f, .int (a : Int), .int (b : Int)] ∧ FieldAt A H f ∧ a < 256 ∧ b < 256 ∧ a ≠ 0 ∧ b ≠ 0 ∧ Q (.int (Fm11.times a (Fm11.inverse b) : Nat)) H
def sp_Field_scaled (K : PySem.W.Frag) (A : Adr) : Sp := fun vs H Q _ => ∃ (f r : Addr) (l : List Nat) (c : Nat), vs = [.ref f, .ref r, .int (c : Int)] ∧ FieldAt A H f ∧ SqL K H r (nv l) ∧ Gf.By l ∧ l.length ≤ 40000 ∧ c < 256 ∧
  ∀ p H', H p = none → Ex H H' → H' p = some (.lst (nv (l.map (Fm11.times c)))) → Q (.ref p) H'
def sp_Field_value_at (K : PySem.W.Frag) (A : Adr) : Sp := fun vs H Q _ => ∃ (f r : Addr) (l : List Nat) (x : Nat), vs = [.ref f, .ref r, .int (x : Int)] ∧ FieldAt A H f ∧ SqL K H r (nv l) ∧ Gf.By l ∧ x < 256 ∧
  Q (.int (Fm11.worth l x : Nat)) H
/-! ### of the code -/
def CodeAt (A : Adr) (H : Hp) (a : Addr) : Prop := ∃ dx f d, H a = some (.ins A.c_Code dx (fl_Code (.ref f) (.ref d))) ∧ FieldAt A H f ∧ H d = some (.lst (nv Gf.gen))
theorem CodeAt.ex {A : Adr} {H H' : Hp} {a : Addr} (e : Ex H H') (h : CodeAt A H a) : CodeAt A H' a := by
  obtain ⟨dx, f, d, h1, h2, h3⟩ := h
  exact ⟨dx, f, d, e _ _ h1, h2.ex e, e _ _ h3⟩
def sp_added (K : PySem.W.Frag) (A : Adr) : Sp := fun vs H Q _ => ∃ (a b : Addr) (l m : List Nat), vs = [.ref a, .ref b] ∧ SqL K H a (nv l) ∧ SqL K H b (nv m) ∧ l.length = m.length ∧ l.length ≤ 40000 ∧
  ∀ p H', H p = none → Ex H H' → H' p = some (.lst (nv (Gf.addl l m))) → Q (.ref p) H'
def sp_padded (K : PySem.W.Frag) (A : Adr) : Sp := fun vs H Q _ => ∃ (a : Addr) (n : Nat) (l : List Nat), vs = [.ref a, .int (n : Int)] ∧ H a = some (.lst (nv l)) ∧ l.length ≤ n ∧ n ≤ 40000 ∧
  ∀ p H', H p = none → Ex H H' → H' p = some (.lst (nv (l ++ List.replicate (n - l.length) 0))) → Q (.ref p) H'
def sp_divisor_of (K : PySem.W.Frag) (A : Adr) : Sp := fun vs H Q _ => ∃ f : Addr, vs = [.ref f] ∧ FieldAt A H f ∧
  ∀ p H', H p = none → Ex H H' → H' p = some (.lst (nv Gf.gen)) → Q (.ref p) H'
def sp_Code_init (K : PySem.W.Frag) (A : Adr) : Sp := fun vs H Q _ => ∃ p dx : Addr, vs = [.ref p] ∧ H p = some (.ins A.c_Code dx []) ∧
  ∀ H' : Hp, CodeAt A H' p → (∀ b o, H b = some o → b ≠ p → H' b = some o) → Q .non H'
def sp_Code_parity_of (K : PySem.W.Frag) (A : Adr) : Sp := fun vs H Q _ => ∃ (c r : Addr) (l : List Nat), vs = [.ref c, .ref r] ∧ CodeAt A H c ∧ SqL K H r (nv l) ∧ Gf.By l ∧
  ∀ p H', H p = none → Ex H H' → H' p = some (.lst (nv (Fm11.parity l))) → Q (.ref p) H'
def sp_lack_at (K : PySem.W.Frag) (A : Adr) : Sp := fun vs H Q _ => ∃ (f r t : Addr) (c s : List Nat) (n : Nat), vs = [.ref f, .ref r, .ref t, .int (n : Int)] ∧ FieldAt A H f ∧ SqL K H r (nv c) ∧ SqL K H t (nv s) ∧ Gf.By c ∧ Gf.By s ∧
  c.length ≤ n + 1 ∧ n < s.length ∧ c.length ≤ 40000 ∧ Q (.int (Gf.lack c s n : Nat)) H
/-- a pair of a number and a list, all new -/
def Pair (H H' : Hp) (p : Addr) (n : Nat) (l : List Nat) : Prop := ∃ q, H p = none ∧ H q = none ∧ Ex H H' ∧ H' p = some (.tup [.int (n : Int), .ref q]) ∧ H' q = some (.lst (nv l))
def sp_locator_of (K : PySem.W.Frag) (A : Adr) : Sp := fun vs H Q _ => ∃ (f t : Addr) (s : List Nat), vs = [.ref f, .ref t] ∧ FieldAt A H f ∧ SqL K H t (nv s) ∧ Gf.By s ∧ s.length = 16 ∧
  ∀ p H', Pair H H' p (Fm11.locator s).2 (Fm11.locator s).1 → Q (.ref p) H'
def sp_places_of (K : PySem.W.Frag) (A : Adr) : Sp := fun vs H Q _ => ∃ (f r : Addr) (c : List Nat) (n : Nat), vs = [.ref f, .ref r, .int (n : Int)] ∧ FieldAt A H f ∧ SqL K H r (nv c) ∧ Gf.By c ∧ n ≤ 255 ∧
  ∀ p H', H p = none → Ex H H' → H' p = some (.lst (nv (Gf.placesP c n))) → Q (.ref p) H'
def sp_errors_of (K : PySem.W.Frag) (A : Adr) : Sp := fun vs H Q _ => ∃ (f r t u : Addr) (c s ps : List Nat), vs = [.ref f, .ref r, .ref t, .ref u] ∧ FieldAt A H f ∧ SqL K H r (nv c) ∧ SqL K H t (nv s) ∧ SqL K H u (nv ps) ∧ Gf.By c ∧ Gf.By s ∧
  1 ≤ c.length ∧ c.length ≤ 17 ∧ s.length = 16 ∧ ps.length ≤ 255 ∧ (∀ p ∈ ps, p < 255 ∧ Fm11.at_ (Gf.evOf c s) (Fm11.inverse (Fm11.power p)) ≠ 0 ∧ Fm11.at_ (Fm11.slope c) (Fm11.inverse (Fm11.power p)) ≠ 0) ∧
  ∀ p H', H p = none → Ex H H' → H' p = some (.lst (nv (ps.map (Gf.errP c s)))) → Q (.ref p) H'
def sp_Code_syndromes_of (K : PySem.W.Frag) (A : Adr) : Sp := fun vs H Q _ => ∃ (c r : Addr) (b : List Nat), vs = [.ref c, .ref r] ∧ CodeAt A H c ∧ SqL K H r (nv b) ∧ Gf.By b ∧ 16 ≤ b.length ∧ b.length ≤ 40000 ∧
  ∀ p H', H p = none → Ex H H' → H' p = some (.lst (nv (Fm11.syndromes b))) → Q (.ref p) H'
def sp_Code_mend_row (K : PySem.W.Frag) (A : Adr) : Sp := fun vs H Q _ => ∃ (c r : Addr) (b : List Nat), vs = [.ref c, .ref r] ∧ CodeAt A H c ∧ SqL K H r (nv b) ∧ Gf.By b ∧ 16 ≤ b.length ∧ b.length ≤ 255 ∧
  (Fm11.mend b = none → ∀ H', Ex H H' → Q .non H') ∧ ∀ l n, Fm11.mend b = some (l, n) → ∀ p H', Pair H H' p n l → Q (.ref p) H'
/-! ### of sums and packets -/
def sp_crc_of (K : PySem.W.Frag) (A : Adr) : Sp := fun vs H Q _ => ∃ (r : Addr) (l : List Nat), vs = [.ref r] ∧ SqL K H r (nv l) ∧ Gf.By l ∧ Q (.int (Fm11.sum l : Nat)) H
def sp_lowest_first (K : PySem.W.Frag) (A : Adr) : Sp := fun vs H Q _ => ∃ v n : Nat, vs = [.int (v : Int), .int (n : Int)] ∧ n ≤ 40 ∧
  ∀ p H', H p = none → Ex H H' → H' p = some (.lst (nv (Fm11.le n v))) → Q (.ref p) H'
def sp_value_of (K : PySem.W.Frag) (A : Adr) : Sp := fun vs H Q _ => ∃ (r : Addr) (l : List Nat), vs = [.ref r] ∧ SqL K H r (nv l) ∧ Q (.int (Fm11.number l : Nat)) H
def PacketAt (A : Adr) (H : Hp) (a : Addr) (p : Fm11.Packet) : Prop := ∃ dx q, H a = some (.ins A.c_Packet dx (fl_Packet (.int (p.name : Nat)) (.int (p.kind : Nat)) (.int (p.seq : Nat)) (.int (p.ack : Nat)) (.int (p.room : Nat)) (.ref q))) ∧ H q = some (.lst (nv p.bytes))
theorem PacketAt.ex {A : Adr} {H H' : Hp} {a : Addr} {p : Fm11.Packet} (e : Ex H H') (h : PacketAt A H a p) : PacketAt A H' a p := by
  obtain ⟨dx, q, h1, h2⟩ := h
  exact ⟨dx, q, e _ _ h1, e _ _ h2⟩
/-- a packet whose bytes are at q -/
def PacketW (A : Adr) (H : Hp) (a q : Addr) (p : Fm11.Packet) : Prop := ∃ dx, H a = some (.ins A.c_Packet dx (fl_Packet (.int (p.name : Nat)) (.int (p.kind : Nat)) (.int (p.seq : Nat)) (.int (p.ack : Nat)) (.int (p.room : Nat)) (.ref q))) ∧ H q = some (.lst (nv p.bytes))
theorem PacketW.at_ {A : Adr} {H : Hp} {a q : Addr} {p : Fm11.Packet} (h : PacketW A H a q p) : PacketAt A H a p := by
  obtain ⟨dx, h1, h2⟩ := h
  exact ⟨dx, q, h1, h2⟩
theorem PacketW.ex {A : Adr} {H H' : Hp} {a q : Addr} {p : Fm11.Packet} (e : Ex H H') (h : PacketW A H a q p) : PacketW A H' a q p := by
  obtain ⟨dx, h1, h2⟩ := h
  exact ⟨dx, e _ _ h1, e _ _ h2⟩
/-- a packet that names the list q | whose list q is there, handed in or not -/
def PacketR (A : Adr) (H : Hp) (a q : Addr) (p : Fm11.Packet) : Prop := ∃ dx, H a = some (.ins A.c_Packet dx (fl_Packet (.int (p.name : Nat)) (.int (p.kind : Nat)) (.int (p.seq : Nat)) (.int (p.ack : Nat)) (.int (p.room : Nat)) (.ref q)))
def PacketS (K : PySem.W.Frag) (A : Adr) (H : Hp) (a : Addr) (p : Fm11.Packet) : Prop := ∃ q, PacketR A H a q p ∧ SqL K H q (nv p.bytes)
theorem PacketS.ex {K : PySem.W.Frag} {A : Adr} {H H' : Hp} {a : Addr} {p : Fm11.Packet} (e : Ex H H') (h : PacketS K A H a p) : PacketS K A H' a p := by
  obtain ⟨q, ⟨dx, h1⟩, h2⟩ := h
  exact ⟨q, ⟨dx, e _ _ h1⟩, ex_l e h2⟩
def sp_Packet_init (K : PySem.W.Frag) (A : Adr) : Sp := fun vs H Q _ => ∃ (p dx q : Addr) (k : Fm11.Packet), vs = [.ref p, .int (k.name : Nat), .int (k.kind : Nat), .int (k.seq : Nat), .int (k.ack : Nat), .int (k.room : Nat), .ref q] ∧ H p = some (.ins A.c_Packet dx []) ∧
  ∀ H' : Hp, PacketR A H' p q k → (∀ b o, H b = some o → b ≠ p → H' b = some o) → Q .non H'
def sp_row_of (K : PySem.W.Frag) (A : Adr) : Sp := fun vs H Q _ => ∃ (c a : Addr) (k : Fm11.Packet), vs = [.ref c, .ref a] ∧ CodeAt A H c ∧ PacketS K A H a k ∧ Gf.By k.bytes ∧ k.bytes.length ≤ 1000 ∧ k.kind < 256 ∧
  ∀ p H', H p = none → Ex H H' → H' p = some (.lst (nv k.wire)) → Q (.ref p) H'
/-- the packet that bytes ahead of a sum tell -/
def packetOf (l : List Nat) : Fm11.Packet := ⟨Fm11.number (l.take 4), l.getD 4 0, Fm11.number ((l.drop 5).take 8), Fm11.number ((l.drop 13).take 8), Fm11.number ((l.drop 21).take 2), l.drop 23⟩
def sp_parted (K : PySem.W.Frag) (A : Adr) : Sp := fun vs H Q _ => ∃ (b : Addr) (l : List Nat), vs = [.ref b] ∧ SqL K H b (nv l) ∧ 23 ≤ l.length ∧
  ∀ p q H', H p = none → H q = none → Ex H H' → PacketW A H' p q (packetOf l) → Q (.ref p) H'
def fitsKind (k : Fm11.Packet) : Bool := decide (k.kind ≤ 3 ∧ (k.kind = 1 ↔ k.bytes ≠ []))
def sp_kind_fits (K : PySem.W.Frag) (A : Adr) : Sp := fun vs H Q _ => ∃ (a : Addr) (k : Fm11.Packet), vs = [.ref a] ∧ PacketAt A H a k ∧ Q (.bl (fitsKind k)) H
def sp_packet_of (K : PySem.W.Frag) (A : Adr) : Sp := fun vs H Q _ => ∃ (c r : Addr) (w : List Nat), vs = [.ref c, .ref r] ∧ CodeAt A H c ∧ SqL K H r (nv w) ∧ Gf.By w ∧
  (Fm11.open_ w = none → ∀ H', Ex H H' → Q .non H') ∧ ∀ k n, Fm11.open_ w = some (k, n) → ∀ t a q H', H t = none → H a = none → H q = none → Ex H H' → H' t = some (.tup [.int (n : Nat), .ref a]) → PacketW A H' a q k → Q (.ref t) H'
end Sl
/-! ## D1 -/
set_option Elab.async false
set_option linter.all false
set_option maxRecDepth 100000
set_option maxHeartbeats 4000000
namespace Sl
open PySem PySem.Spec PyProof.Rows L2 Evl
section
variable {P : Program} {w : World} {K : PySem.W.Frag} {mg : Str → Option Value} {base : Heap} {A : Adr}
theorem ok_doubled (T : Top K mg A) : FnOk P w K mg base CX0 1 A.f_doubled A.d_doubled ["octet"] (sp_doubled K A) := by
  refine T.f_doubled.F.ok sc_doubled (fun vs H Q E h => by obtain ⟨_, rfl, _⟩ := h; rfl) (fun cdv Ar outer s H vs Q E hr h => ?_)
  obtain ⟨a, rfl, ha, q⟩ := h
  refine ⟨_, (pss_cons (ps_set (i := 1) sc_doubled.nd rfl (Or.inl rfl) (pe_op op_mul (pv 0) pe_int))
    (pss_cons (ps_if (pt_cmpR op_gt (pv 1) pe_int (nomark _)) (pss_one (ps_ret (pe_op op_xor (pv 1) (pe_glob (v := .int 283) rfl T.g_MODULUS ⟨_, rfl⟩)))) pss_nil)
    (pss_one (ps_ret (pv 1))))), ?_⟩
  refine ⟨_, rfl, _, _, rfl, rfl, .inl ⟨by omega, by omega⟩, ?_⟩
  refine ⟨_, rfl, _, _, rfl, rfl, _, rfl, ?_⟩
  have e2 : ((a : Int) * 2) = ((2 * a : Nat) : Int) := by omega
  unfold Fm11.twice at q
  refine ite2 (fun c => ?_) (fun c => ?_)
  · have c' : ¬ a < 128 := by have := of_decide_eq_true c; omega
    refine ⟨_, rfl, _, _, rfl, rfl, ?_⟩
    show Q (.int (Builtin.bitXor ((a : Int) * 2) ((283 : Nat) : Int))) H
    rw [e2, xor_cast]
    rw [if_neg c'] at q
    exact q
  · have c' : a < 128 := by
      by_cases k : a < 128
      · exact k
      · exact absurd (decide_eq_true (by omega)) c
    refine ⟨_, rfl, ?_⟩
    show Q (.int ((a : Int) * 2)) H
    rw [e2]
    rw [if_pos c'] at q
    exact q
theorem half_is : ∀ r < 256, r = if r % 2 = 1 then Fm11.twice (r / 2) ^^^ 1 else Fm11.twice (r / 2) := by decide +kernel
theorem times_half {s r : Nat} (hs : s < 256) (hr : r < 256) : Fm11.times s r = if r % 2 = 1 then s ^^^ Fm11.times (Fm11.twice s) (r / 2) else Fm11.times (Fm11.twice s) (r / 2) := by
  have h2 : r / 2 < 256 := by omega
  have e := half_is r hr
  have et : Fm11.times s (Fm11.twice (r / 2)) = Fm11.times (Fm11.twice s) (r / 2) := by rw [Gf.times_twice_right h2 s hs, Gf.times_twice_left _ hs]
  by_cases c : r % 2 = 1
  · rw [if_pos c] at e ⊢
    conv => lhs; rw [e]
    rw [Gf.times_xor_right _ _ hs, et, Gf.times_one s hs, Nat.xor_comm]
  · rw [if_neg c] at e ⊢
    conv => lhs; rw [e]
    exact et
theorem ok_product_of (T : Top K mg A) (G_doubled : FnOk P w K mg base CX0 1 A.f_doubled A.d_doubled ["octet"] (sp_doubled K A)) : FnOk P w K mg base CX0 2 A.f_product_of A.d_product_of ["a", "b"] (sp_product_of K A) := by
  refine T.f_product_of.F.ok sc_product_of (fun vs H Q E h => by obtain ⟨_, _, rfl, _⟩ := h; rfl) (fun cdv Ar outer s H vs Q E hr h => ?_)
  obtain ⟨a, b, rfl, ha, hb, q⟩ := h
  refine ⟨_, (pss_cons (ps_set (i := 2) sc_product_of.nd rfl (Or.inl rfl) pe_int)
    (pss_cons (ps_set (i := 3) sc_product_of.nd rfl (Or.inl rfl) (pv 0))
    (pss_cons (ps_set (i := 4) sc_product_of.nd rfl (Or.inl rfl) (pv 1))
    (pss_cons (ps_while PassesOwn.never (pt_cmpR op_gt (pv 4) pe_int (nomark _))
    (pss_cons (ps_if (pt_cmpR op_eq (pe_op op_mod (pv 4) pe_int) pe_int (nomark _)) (pss_one (ps_set (i := 2) sc_product_of.nd rfl (Or.inl rfl) (pe_op op_xor (pv 2) (pv 3)))) pss_nil)
    (pss_cons (ps_set (i := 3) sc_product_of.nd rfl (Or.inl rfl) (pe_call G_doubled (hr.mono (by decide)) rfl T.f_doubled.g T.f_doubled.F.kp T.f_doubled.b .nil pass0 (pa_cons (pv 3) pa_nil)))
    (pss_one (ps_set (i := 4) sc_product_of.nd rfl (Or.inl rfl) (pe_op op_fdiv (pv 4) pe_int))))))
    (pss_one (ps_ret (pv 2))))))), ?_⟩
  refine ⟨_, rfl, _, rfl, ?_⟩
  refine ⟨fun m σ H' => H' = H ∧ ∃ t s r : Nat, σ = [some (.int (a : Nat)), some (.int (b : Nat)), some (.int (t : Nat)), some (.int (s : Nat)), some (.int (r : Nat))] ∧ r = m ∧ s < 256 ∧ r < 256 ∧ Fm11.times a b = t ^^^ Fm11.times s r,
    ⟨b, rfl, 0, a, b, rfl, rfl, ha, hb, (Nat.zero_xor _).symm⟩, ?_⟩
  rintro m σ H' ⟨rfl, t, s, r, rfl, rfl, hs, hr, e⟩
  refine ⟨_, rfl, _, _, rfl, rfl, _, rfl, ?_⟩
  refine ite2 (fun c => ?_) (fun c => ?_)
  · have hr0 : 0 < r := by have := of_decide_eq_true c; omega
    refine ⟨fun σ' H'' => H'' = H' ∧ ∃ t s : Nat, σ' = [some (.int (a : Nat)), some (.int (b : Nat)), some (.int (t : Nat)), some (.int (s : Nat)), some (.int ((r / 2 : Nat) : Int))] ∧ s < 256 ∧ Fm11.times a b = t ^^^ Fm11.times s (r / 2),
      fun σ' H'' hN => ?_, ?_⟩
    · obtain ⟨rfl, t', s', rfl, k1, k2⟩ := hN
      exact ⟨r / 2, by omega, rfl, t', s', r / 2, rfl, rfl, k1, by omega, k2⟩
    have hdiv : (r : Int) / 2 = ((r / 2 : Nat) : Int) := by omega
    rw [times_half hs hr] at e
    refine ⟨_, rfl, _, _, rfl, rfl, (by show (0 : Int) < 2; decide), rfl, _, rfl, ite2 (fun z => ?_) (fun z => ?_)⟩
    · have hz : r % 2 = 1 := by have := V.int.inj (of_decide_eq_true z); omega
      rw [if_pos hz, ← Nat.xor_assoc] at e
      refine ⟨_, rfl, _, rfl, _, _, rfl, rfl, ?_⟩
      refine ⟨_, rfl, s, rfl, hs, ?_⟩
      refine ⟨_, rfl, _, _, rfl, rfl, ⟨by decide, by decide⟩, rfl, t ^^^ s, Fm11.twice s, ?_, Gf.twice_lt hs, e⟩
      show [some (V.int (a : Nat)), some (V.int (b : Nat)), some (V.int (Builtin.bitXor (t : Nat) (s : Nat))), some (V.int (Fm11.twice s : Nat)), some (V.int ((r : Int) / 2))] = _
      rw [hdiv, xor_cast]
    · have hz : ¬ r % 2 = 1 := fun y => z (decide_eq_true (by show V.int _ = V.int 1; congr 1; omega))
      rw [if_neg hz] at e
      refine ⟨_, rfl, s, rfl, hs, ?_⟩
      refine ⟨_, rfl, _, _, rfl, rfl, ⟨by decide, by decide⟩, rfl, t, Fm11.twice s, ?_, Gf.twice_lt hs, e⟩
      show [some (V.int (a : Nat)), some (V.int (b : Nat)), some (V.int (t : Nat)), some (V.int (Fm11.twice s : Nat)), some (V.int ((r : Int) / 2))] = _
      rw [hdiv]
  · have hr0 : r = 0 := by
      by_cases k : r = 0
      · exact k
      · exact absurd (decide_eq_true (by omega)) c
    rw [hr0, Gf.times_zero, Nat.xor_zero] at e
    rw [e] at q
    exact ⟨_, rfl, q⟩
theorem ok_Field_power (T : Top K mg A) : FnOk P w K mg base CX0 1 A.f_Field_power A.d_Field_power ["self", "exponent"] (sp_Field_power K A) := by
  refine T.f_Field_power.F.ok sc_Field_power (fun vs H Q E h => by obtain ⟨_, _, rfl, _⟩ := h; rfl) (fun cdv Ar outer s H vs Q E hr h => ?_)
  obtain ⟨f, z, rfl, ⟨dx, p, r, h1, h2, h3⟩, q⟩ := h
  refine ⟨_, (pss_one (ps_ret (pe_ix ix_list (pe_fld (pv 0) rfl) (pe_op op_mod (pv 1) (pe_glob (v := .int 255) rfl T.g_ORDER ⟨_, rfl⟩)) (fun _ _ => rfl)))), ?_⟩
  refine ⟨_, rfl, _, _, _, _, _, rfl, h1, T.c_Field.cl, T.c_Field.n_powers, lk_Field_powers, ?_⟩
  refine ⟨_, rfl, _, _, rfl, rfl, (by show (0 : Int) < 255; decide), ?_⟩
  have hz : z % 255 = ((z % 255).toNat : Int) := (Int.toNat_of_nonneg (Int.emod_nonneg _ (by decide))).symm
  have hz2 : (z % 255).toNat < 255 := by have := Int.emod_lt_of_pos z (show (0 : Int) < 255 by decide); omega
  refine ⟨p, nv Gf.table, z % 255, _, rfl, rfl, .inl (.inl h2), atI_nv hz (by rw [table_length]; exact hz2), ?_⟩
  rw [Gf.table_at hz2]
  exact q
theorem ok_Field_product (T : Top K mg A) : FnOk P w K mg base CX0 1 A.f_Field_product A.d_Field_product ["self", "a", "b"] (sp_Field_product K A) := by
  refine T.f_Field_product.F.ok sc_Field_product (fun vs H Q E h => by obtain ⟨_, _, _, rfl, _⟩ := h; rfl) (fun cdv Ar outer s H vs Q E hr h => ?_)
  obtain ⟨f, a, b, rfl, ⟨dx, p, r, h1, h2, h3⟩, ha, hb, q⟩ := h
  refine ⟨_, (pss_cons (ps_if (PW.pt (pw_or (pt_cmpR op_eq (pv 1) pe_int (nomark _)) (pw_or1 (pt_cmpR op_eq (pv 2) pe_int (nomark _))))) (pss_one (ps_ret pe_int)) pss_nil)
    (pss_one (ps_ret (pe_ix ix_list (pe_fld (pv 0) rfl) (pe_op op_mod (pe_op op_add (pe_ix ix_list (pe_fld (pv 0) rfl) (pv 1) (fun _ _ => rfl)) (pe_ix ix_list (pe_fld (pv 0) rfl) (pv 2) (fun _ _ => rfl))) (pe_glob (v := .int 255) rfl T.g_ORDER ⟨_, rfl⟩)) (fun _ _ => rfl))))), ?_⟩
  refine ⟨_, rfl, rfl, _, rfl, ite2 (fun c => ?_) (fun c => ?_)⟩
  · have e : a = 0 := by have := V.int.inj (of_decide_eq_true c); omega
    rw [e, Gf.zero_times] at q
    exact iteT q
  · have ea : a ≠ 0 := fun z => c (decide_eq_true (by rw [z]; rfl))
    refine ⟨_, rfl, rfl, _, rfl, ite2 (fun c => ?_) (fun c => ?_)⟩
    · have e : b = 0 := by have := V.int.inj (of_decide_eq_true c); omega
      rw [e, Gf.times_zero] at q
      exact q
    · have eb : b ≠ 0 := fun z => c (decide_eq_true (by rw [z]; rfl))
      refine ⟨_, rfl, _, _, _, _, _, rfl, h1, T.c_Field.cl, T.c_Field.n_powers, lk_Field_powers, ?_⟩
      refine ⟨_, rfl, _, _, _, _, _, rfl, h1, T.c_Field.cl, T.c_Field.n_logs, lk_Field_logs, ?_⟩
      refine ⟨_, rfl, r, nv logs, _, _, rfl, rfl, .inl (.inl h3), atI_nv rfl (by rw [logs_length]; exact ha), ?_⟩
      refine ⟨_, rfl, _, _, _, _, _, rfl, h1, T.c_Field.cl, T.c_Field.n_logs, lk_Field_logs, ?_⟩
      refine ⟨_, rfl, r, nv logs, _, _, rfl, rfl, .inl (.inl h3), atI_nv rfl (by rw [logs_length]; exact hb), ?_⟩
      refine ⟨_, _, rfl, rfl, _, _, rfl, rfl, (by show (0 : Int) < 255; decide), ?_⟩
      rw [logs_at ha, logs_at hb]
      have hl : (Gf.lg a + Gf.lg b) % 255 < 255 := Nat.mod_lt _ (by decide)
      unfold lg0
      rw [if_neg ea, if_neg eb]
      refine ⟨p, nv Gf.table, _, _, rfl, rfl, .inl (.inl h2), atI_nv (i := (Gf.lg a + Gf.lg b) % 255) (by omega) (by rw [table_length]; exact hl), ?_⟩
      rw [Gf.table_at hl, ← Gf.times_lg ha hb ea eb]
      exact q
end
end Sl
/-! ## D2 -/
set_option Elab.async false
set_option linter.all false
set_option maxRecDepth 100000
set_option maxHeartbeats 4000000
namespace Sl
open PySem PySem.Spec PyProof.Rows L2 Evl
section
variable {P : Program} {w : World} {K : PySem.W.Frag} {mg : Str → Option Value} {base : Heap} {A : Adr}
theorem lg_sub {a b : Nat} (ha : a < 256) (hb : b < 256) (ha0 : a ≠ 0) (hb0 : b ≠ 0) : Fm11.times a (Fm11.inverse b) = Fm11.power (((Gf.lg a : Int) - (Gf.lg b : Int)) % 255).toNat := by
  rw [Gf.inverse_eq hb hb0]
  conv => lhs; arg 1; rw [← Gf.power_lg ha ha0]
  rw [Gf.power_add, Gf.power_mod]
  congr 1
  have := Gf.lg_lt hb hb0
  omega
theorem ok_Field_quotient (T : Top K mg A) : FnOk P w K mg base CX0 1 A.f_Field_quotient A.d_Field_quotient ["self", "a", "b"] (sp_Field_quotient K A) := by
  refine T.f_Field_quotient.F.ok sc_Field_quotient (fun vs H Q E h => by obtain ⟨_, _, _, rfl, _⟩ := h; rfl) (fun cdv Ar outer s H vs Q E hr h => ?_)
  obtain ⟨f, a, b, rfl, ⟨dx, p, r, h1, h2, h3⟩, ha, hb, ea, eb, q⟩ := h
  refine ⟨_, (pss_one (ps_ret (pe_ix ix_list (pe_fld (pv 0) rfl) (pe_op op_mod (pe_op op_sub (pe_ix ix_list (pe_fld (pv 0) rfl) (pv 1) (fun _ _ => rfl)) (pe_ix ix_list (pe_fld (pv 0) rfl) (pv 2) (fun _ _ => rfl))) (pe_glob (v := .int 255) rfl T.g_ORDER ⟨_, rfl⟩)) (fun _ _ => rfl)))), ?_⟩
  refine ⟨_, rfl, _, _, _, _, _, rfl, h1, T.c_Field.cl, T.c_Field.n_powers, lk_Field_powers, ?_⟩
  refine ⟨_, rfl, _, _, _, _, _, rfl, h1, T.c_Field.cl, T.c_Field.n_logs, lk_Field_logs, ?_⟩
  refine ⟨_, rfl, r, nv logs, _, _, rfl, rfl, .inl (.inl h3), atI_nv rfl (by rw [logs_length]; exact ha), ?_⟩
  refine ⟨_, rfl, _, _, _, _, _, rfl, h1, T.c_Field.cl, T.c_Field.n_logs, lk_Field_logs, ?_⟩
  refine ⟨_, rfl, r, nv logs, _, _, rfl, rfl, .inl (.inl h3), atI_nv rfl (by rw [logs_length]; exact hb), ?_⟩
  refine ⟨_, _, rfl, rfl, _, _, rfl, rfl, (by show (0 : Int) < 255; decide), ?_⟩
  rw [logs_at ha, logs_at hb]
  have e1 : lg0 a = Gf.lg a := if_neg ea
  have e2 : lg0 b = Gf.lg b := if_neg eb
  rw [e1, e2]
  have hz : ((Gf.lg a : Int) - (Gf.lg b : Int)) % 255 = ((((Gf.lg a : Int) - (Gf.lg b : Int)) % 255).toNat : Int) := (Int.toNat_of_nonneg (Int.emod_nonneg _ (by decide))).symm
  have hz2 : (((Gf.lg a : Int) - (Gf.lg b : Int)) % 255).toNat < 255 := by
    have := Int.emod_lt_of_pos ((Gf.lg a : Int) - (Gf.lg b : Int)) (show (0 : Int) < 255 by decide)
    omega
  refine ⟨p, nv Gf.table, _, _, rfl, rfl, .inl (.inl h2), atI_nv hz (by rw [table_length]; exact hz2), ?_⟩
  rw [Gf.table_at hz2, ← lg_sub ha hb ea eb]
  exact q
theorem ok_Field_scaled (T : Top K mg A) : FnOk P w K mg base CX0 1 A.f_Field_scaled A.d_Field_scaled ["self", "row", "factor"] (sp_Field_scaled K A) := by
  refine T.f_Field_scaled.F.ok sc_Field_scaled (fun vs H Q E h => by obtain ⟨_, _, _, _, rfl, _⟩ := h; rfl) (fun cdv Ar outer s H vs Q E hr h => ?_)
  obtain ⟨f, r, l, c, rfl, ⟨dx, p, lr, h1, h2, h3⟩, hr', hby, hz, hc, q⟩ := h
  refine ⟨_, (pss_cons (ps_if (pt_cmpR op_eq (pv 2) pe_int (nomark _)) (pss_one (ps_ret (pe_op op_rep (pe_lst (pa_cons pe_int pa_nil)) (pe_callB call_len_seq (by rfl) T.b_len PySem.boot_len (pa_cons (pv 1) pa_nil))))) pss_nil)
    (pss_cons (ps_set (i := 3) sc_Field_scaled.nd rfl (Or.inr rfl) (pe_ix ix_list (pe_fld (pv 0) rfl) (pv 2) (fun _ _ => rfl)))
    (pss_one (ps_ret (pe_lc (own := [("octet", 4)]) (g := gName 4) (te := (tIf (tTest (tOp (rI0 fun i j => .bl (decide (j < i))) (tVar 4) (tC (.int 0)))) (tOp (rIxL K) (tFld K (tVar 0) "powers") (tOp (rI (fun _ j => 0 < j) fun i j => .int (i % j)) (tOp (rI0 fun i j => .int (i + j)) (tVar 3) (tOp (rIxL K) (tFld K (tVar 0) "logs") (tVar 4))) (tC (.int 255)))) (tC (.int 0)))) (tt := tYes) rfl sc_Field_scaled.nd (pi_list (pv 1)) (blkOk_by (own := [("octet", 4)]) (N := ["self", "row", "factor", "exponent", "octet"]) (sc := defScope s_Field_scaled) (by decide +kernel)) (fun _ _ _ _ _ => (pg_name (i := 4) sc_Field_scaled.nd rfl (Or.inl rfl))) (fun _ _ _ _ _ => pts_nil) (fun _ _ _ _ _ => (pe_ifExp (pt_cmpR op_gt (pv 4) pe_int (nomark _)) (pe_ix ix_list (pe_fld (pv 0) rfl) (pe_op op_mod (pe_op op_add (pv 3) (pe_ix ix_list (pe_fld (pv 0) rfl) (pv 4) (fun _ _ => rfl))) (pe_glob (v := .int 255) rfl T.g_ORDER ⟨_, rfl⟩)) (fun _ _ => rfl)) pe_int))))))), ?_⟩
  refine ⟨_, rfl, rfl, _, rfl, ite2 (fun e => ?_) (fun e => ?_)⟩
  · have e0 : c = 0 := by have := V.int.inj (of_decide_eq_true e); omega
    refine ⟨by decide, fun p1 n1 => ?_⟩
    refine ⟨_, rfl, r, nv l, rfl, .inl (ex_l (Ex.new n1) hr'), ?_⟩
    refine ⟨p1, _, _, rfl, rfl, upd_same, by rw [nv_length]; omega, by rw [nv_length]; omega, ?_, fun p2 n2 => ?_⟩
    · rw [nv_length]
      show 1 * (l.length : Int).toNat ≤ sizeLine
      rw [Int.toNat_natCast, Nat.one_mul]
      exact sz_of (by omega)
    · refine q p2 _ (fresh_back (Ex.new n1) n2) ((Ex.new n1).trans (Ex.new n2)) ?_
      rw [upd_same, nv_length, Int.toNat_natCast, rep_flat, e0]
      congr 3
      have : Fm11.times 0 = fun _ => 0 := by
        funext x
        exact Gf.zero_times x
      rw [this]
      exact (List.map_const' ..).symm
  · have hc0 : c ≠ 0 := fun z => e (decide_eq_true (by rw [z]; rfl))
    refine ⟨_, rfl, _, _, _, _, _, rfl, h1, T.c_Field.cl, T.c_Field.n_logs, lk_Field_logs, ?_⟩
    refine ⟨_, rfl, lr, nv logs, _, _, rfl, rfl, .inl (.inl h3), atI_nv rfl (by rw [logs_length]; exact hc), ?_⟩
    rw [logs_at hc]
    have e1 : lg0 c = Gf.lg c := if_neg hc0
    rw [e1]
    refine ⟨_, rfl, r, rfl, lc_nv (Fm11.times c) hr' hz (fun i x H1 R hx e1 k => ?_) q⟩
    have hx256 : x < 256 := hby x (List.mem_of_getElem? hx)
    refine ⟨rfl, ?_⟩
    refine ⟨_, rfl, _, _, rfl, rfl, _, rfl, ite2 (fun z => ?_) (fun z => ?_)⟩
    · have hx0 : x ≠ 0 := by have := of_decide_eq_true z; omega
      refine ⟨_, rfl, _, _, _, _, _, rfl, (e1 _ _ h1), T.c_Field.cl, T.c_Field.n_powers, lk_Field_powers, ?_⟩
      refine ⟨_, rfl, _, rfl, _, _, _, _, _, rfl, (e1 _ _ h1), T.c_Field.cl, T.c_Field.n_logs, lk_Field_logs, ?_⟩
      refine ⟨_, rfl, lr, nv logs, _, _, rfl, rfl, .inl (.inl (e1 _ _ h3)), atI_nv rfl (by rw [logs_length]; exact hx256), ?_⟩
      refine ⟨_, _, rfl, rfl, _, _, rfl, rfl, (by show (0 : Int) < 255; decide), ?_⟩
      rw [logs_at hx256]
      have e2 : lg0 x = Gf.lg x := if_neg hx0
      rw [e2]
      have hl : (Gf.lg c + Gf.lg x) % 255 < 255 := Nat.mod_lt _ (by decide)
      refine ⟨p, nv Gf.table, _, _, rfl, rfl, .inl (.inl (e1 _ _ h2)), atI_nv (i := (Gf.lg c + Gf.lg x) % 255) (by omega) (by rw [table_length]; exact hl), ?_⟩
      rw [Gf.table_at hl, ← Gf.times_lg hc hx256 hc0 hx0]
      exact k _ (Ex.refl _)
    · have hx0 : x = 0 := by
        have : ¬ (0 : Int) < (x : Int) := fun y => z (decide_eq_true y)
        omega
      have := k _ (Ex.refl _)
      rw [hx0, Gf.times_zero] at this
      exact this
theorem ok_Field_value_at (T : Top K mg A) (G_Field_product : FnOk P w K mg base CX0 1 A.f_Field_product A.d_Field_product ["self", "a", "b"] (sp_Field_product K A)) : FnOk P w K mg base CX0 2 A.f_Field_value_at A.d_Field_value_at ["self", "row", "point"] (sp_Field_value_at K A) := by
  refine T.f_Field_value_at.F.ok sc_Field_value_at (fun vs H Q E h => by obtain ⟨_, _, _, _, rfl, _⟩ := h; rfl) (fun cdv Ar outer s H vs Q E hr h => ?_)
  obtain ⟨f, r, l, x, rfl, hF, hr', hby, hx, q⟩ := h
  refine ⟨_, (pss_cons (ps_set (i := 3) sc_Field_value_at.nd rfl (Or.inl rfl) pe_int)
    (pss_cons (ps_for PassesOwn.never rfl (pi_list (pv 1)) (pg_name (i := 4) sc_Field_value_at.nd rfl (Or.inl rfl))
    (pss_one (ps_set (i := 3) sc_Field_value_at.nd rfl (Or.inl rfl) (pe_op op_xor (pe_meth (pv 0) T.c_Field.cl T.f_Field_product.m G_Field_product (hr.mono (by decide)) T.f_Field_product.b .nil pass0 (pa_cons (pv 3) (pa_cons (pv 2) pa_nil))) (pv 4)))))
    (pss_one (ps_ret (pv 3))))), ?_⟩
  refine ⟨_, rfl, r, rfl, ⟨_, hr'⟩, for_list (K := K) (a := r) (xs := nv l) (fun i σ H' => H' = H ∧ ∃ v : Option V, σ = [some (.ref f), some (.ref r), some (.int x), some (.int (Fm11.worth (l.take i) x : Nat)), v])
    ⟨rfl, none, rfl⟩ (fun i σ H' _ hp => by rw [hp.1]; exact hr') ?_ ?_⟩
  · rintro i y σ H' hi ⟨rfl, v, rfl⟩
    obtain ⟨z, hz, rfl⟩ := nv_of hi
    have hz256 : z < 256 := hby z (List.mem_of_getElem? hz)
    obtain ⟨dx, p, lr, h1, h2, h3⟩ := id hF
    refine ⟨_, rfl, _, _, _, rfl, h1, no_Field_product, _, rfl, _, rfl, f, _, x, rfl, hF, Gf.worth_byte x (hby.take i), hx, ?_⟩
    refine ⟨_, rfl, _, _, rfl, rfl, rfl, some (.int (z : Nat)), ?_⟩
    rw [List.take_add_one, hz]
    show _ = [some (V.ref f), some (.ref r), some (.int x), some (.int (Fm11.worth (l.take i ++ [z]) x : Nat)), some (.int (z : Nat))]
    rw [Gf.worth_snoc, ← xor_cast]
    rfl
  · rintro σ H' ⟨rfl, v, rfl⟩
    refine ⟨_, rfl, ?_⟩
    rw [nv_length, List.take_length]
    exact q
end
end Sl
/-! ## D3 -/
set_option Elab.async false
set_option linter.all false
set_option maxRecDepth 100000
set_option maxHeartbeats 4000000
namespace Sl
open PySem PySem.Spec PyProof.Rows L2 Evl
section
variable {P : Program} {w : World} {K : PySem.W.Frag} {mg : Str → Option Value} {base : Heap} {A : Adr}
def logsAt (i : Nat) : List Nat := (List.range 256).map fun x => if x ≠ 0 ∧ Gf.lg x < i then Gf.lg x else 0
theorem logsAt_length (i : Nat) : (logsAt i).length = 256 := by
  unfold logsAt
  rw [List.length_map, List.length_range]
theorem logsAt_zero : logsAt 0 = List.replicate 256 0 := by decide +kernel
theorem logsAt_end : logsAt 255 = logs := by
  unfold logsAt logs
  apply List.map_congr_left
  intro x hx
  unfold lg0
  by_cases c : x = 0
  · rw [if_pos c, if_neg (fun z => z.1 c)]
  · rw [if_neg c, if_pos ⟨c, Gf.lg_lt (List.mem_range.mp hx) c⟩]
theorem logsAt_step {i : Nat} (h : i < 255) : (logsAt i).set (Fm11.power i) i = logsAt (i + 1) := by
  apply List.ext_getElem?
  intro x
  rw [List.getElem?_set]
  unfold logsAt
  rw [List.length_map, List.length_range, List.getElem?_map, List.getElem?_map]
  by_cases hx : x < 256
  · rw [List.getElem?_range hx]
    by_cases c : Fm11.power i = x
    · rw [if_pos c, if_pos (by rw [c]; exact hx)]
      rw [← c]
      show some i = some (if Fm11.power i ≠ 0 ∧ Gf.lg (Fm11.power i) < i + 1 then Gf.lg (Fm11.power i) else 0)
      rw [Gf.lg_power h, if_pos ⟨Gf.power_ne i, Nat.lt_succ_self i⟩]
    · rw [if_neg c]
      show some (if x ≠ 0 ∧ Gf.lg x < i then Gf.lg x else 0) = some (if x ≠ 0 ∧ Gf.lg x < i + 1 then Gf.lg x else 0)
      congr 1
      by_cases z : x = 0
      · rw [if_neg (fun y => y.1 z), if_neg (fun y => y.1 z)]
      · have hne : Gf.lg x ≠ i := fun y => c (by rw [← y]; exact Gf.power_lg hx z)
        by_cases g : Gf.lg x < i
        · rw [if_pos ⟨z, g⟩, if_pos ⟨z, by omega⟩]
        · rw [if_neg (fun y => g y.2), if_neg (fun y => g (by have := y.2; omega))]
  · have : Fm11.power i ≠ x := fun y => hx (by rw [← y]; exact Gf.power_lt i)
    rw [if_neg this, List.getElem?_eq_none (by rw [List.length_range]; omega)]
    rfl
theorem table_more {i : Nat} (h : i < 255) : Gf.table.take (i + 1) = Gf.table.take i ++ [Fm11.power i] := by
  rw [List.take_add_one, getD_some (by rw [table_length]; exact h), Gf.table_at h]
  rfl
theorem nv_set (l : List Nat) (i x : Nat) : (nv l).set i (.int (x : Int)) = nv (l.set i x) := by
  unfold nv
  rw [List.map_set]
theorem ok_Field_init (T : Top K mg A) (G_product_of : FnOk P w K mg base CX0 2 A.f_product_of A.d_product_of ["a", "b"] (sp_product_of K A)) : FnOk P w K mg base CX0 3 A.f_Field_init A.d_Field_init ["self"] (sp_Field_init K A) := by
  refine T.k_Field.F.ok sc_Field_init (fun vs H Q E h => by obtain ⟨_, _, rfl, _⟩ := h; rfl) (fun cdv Ar outer s H vs Q E hr h => ?_)
  obtain ⟨p, dx, rfl, hp, q⟩ := h
  refine ⟨_, (pss_cons (ps_fld (pv 0) (pe_lst pa_nil) rfl)
    (pss_cons (ps_fld (pv 0) (pe_op op_rep (pe_lst (pa_cons pe_int pa_nil)) pe_int) rfl)
    (pss_cons (ps_set (i := 1) sc_Field_init.nd rfl (Or.inl rfl) pe_int)
    (pss_one (ps_for PassesOwn.never rfl (pi_range1 rfl T.b_range (pa_cons (pe_glob (v := .int 255) rfl T.g_ORDER ⟨_, rfl⟩) pa_nil)) (pg_name (i := 2) sc_Field_init.nd rfl (Or.inl rfl))
    (pss_cons (ps_expr (pe_bm PySem.F.plainAttrs_list PySem.F.slot_list_append PySem.F.type_list_append mt_append (pe_fld (pv 0) rfl) (pa_cons (pv 1) pa_nil)))
    (pss_cons (ps_asg (pv 2) (pg_sub (pe_fld (pv 0) rfl) (pv 1) set_list))
    (pss_one (ps_set (i := 1) sc_Field_init.nd rfl (Or.inl rfl) (pe_call G_product_of (hr.mono (by decide)) rfl T.f_product_of.g T.f_product_of.F.kp T.f_product_of.b .nil pass0 (pa_cons (pv 1) (pa_cons pe_int pa_nil)))))))))))), ?_⟩
  refine ⟨by decide, fun o no => ?_⟩
  have op : p ≠ o := ne_of_none hp no
  refine ⟨_, rfl, p, A.c_Field, dx, [], rfl, by rw [upd_ne op]; exact hp, T.c_Field.cl, T.c_Field.n_powers, by decide, ?_⟩
  refine ⟨by decide, fun z nz => ?_⟩
  refine ⟨z, _, _, rfl, rfl, upd_same, by decide, by decide, by decide, fun r nr => ?_⟩
  have rz : r ≠ z := fun e => by rw [e, upd_same] at nr; cases nr
  rw [upd_ne rz] at nr
  have zp : z ≠ p := fun e => by rw [e, upd_same] at nz; cases nz
  rw [upd_ne zp] at nz
  have zo : z ≠ o := fun e => by rw [e, upd_same] at nz; cases nz
  rw [upd_ne zo] at nz
  have rp : r ≠ p := fun e => by rw [e, upd_same] at nr; cases nr
  rw [upd_ne rp] at nr
  have ro : r ≠ o := fun e => by rw [e, upd_same] at nr; cases nr
  rw [upd_ne ro] at nr
  refine ⟨_, rfl, p, A.c_Field, dx, _, rfl, by rw [upd_ne rp.symm, upd_ne zp.symm, upd_same], T.c_Field.cl, T.c_Field.n_logs, by show 1 < 1000; decide, ?_⟩
  refine ⟨_, rfl, by show (-(2 ^ 62) : Int) ≤ 255; decide, by show (255 : Int) < 2 ^ 62; decide, for_range (lo := 0) (n := 255) (fun i σ H' => ∃ v : Option V, σ = [some (.ref p), some (.int (Fm11.power i : Nat)), v] ∧
    H' p = some (.ins A.c_Field dx (fl_Field (.ref o) (.ref r))) ∧ H' o = some (.lst (nv (Gf.table.take i))) ∧ H' r = some (.lst (nv (logsAt i))) ∧ ∀ b o', H b = some o' → b ≠ p → H' b = some o') ⟨none, rfl, ?_, ?_, ?_, fun b o' hb hbp => ?_⟩ ?_ ?_⟩
  · rw [upd_same]
    rfl
  · rw [upd_ne op.symm, upd_ne ro.symm, upd_ne zo.symm, upd_ne op.symm, upd_same]
    rfl
  · rw [upd_ne rp, upd_same, logsAt_zero, ← rep_flat]
    rfl
  · rw [upd_ne hbp, upd_ne (ne_of_none hb nr), upd_ne (ne_of_none hb nz), upd_ne hbp, upd_ne (ne_of_none hb no)]
    exact hb
  · rintro i σ H' hi ⟨v, rfl, e1, e2, e3, e4⟩
    have hlt := Gf.power_lt i
    refine ⟨_, rfl, _, _, _, _, _, rfl, e1, T.c_Field.cl, T.c_Field.n_powers, lk_Field_powers, .inl ⟨rfl, _, SqL.of e2⟩, _, rfl, o, _, _, rfl, rfl, e2, ?_, ?_⟩
    · rw [nv_length, List.length_take]
      exact sz_lt (by omega)
    have e1' : (upd H' o (.lst (nv (Gf.table.take i) ++ [.int (Fm11.power i : Nat)]))) p = some (.ins A.c_Field dx (fl_Field (.ref o) (.ref r))) := by
      rw [upd_ne op]; exact e1
    have e3' : (upd H' o (.lst (nv (Gf.table.take i) ++ [.int (Fm11.power i : Nat)]))) r = some (.lst (nv (logsAt i))) := by
      rw [upd_ne ro]; exact e3
    refine ⟨_, rfl, _, rfl, _, _, _, _, _, rfl, e1', T.c_Field.cl, T.c_Field.n_logs, lk_Field_logs, _, rfl, r, _, _, _, rfl, rfl, e3', ixN_nat (j := Fm11.power i) (by rw [nv_length, logsAt_length]; exact hlt), ?_⟩
    refine ⟨_, rfl, Fm11.power i, 3, rfl, hlt, by decide, ?_⟩
    rw [Gf.times_comm (b := 3) (by decide) _ hlt]
    have ei : (0 : Int) + (i : Int) = ((i : Nat) : Int) := Int.zero_add _
    refine ⟨some (.int (i : Nat)), ?_, ?_, ?_, ?_, fun b o' hb hbp => ?_⟩
    · show [some (V.ref p), some (.int (Fm11.power (i + 1) : Nat)), some (.int (0 + (i : Int)))] = _
      rw [ei]
    · rw [upd_ne rp.symm]; exact e1'
    · rw [upd_ne ro.symm, upd_same, table_more hi, nv_append]; rfl
    · rw [upd_same]
      show some (HO.lst ((nv (logsAt i)).set (Fm11.power i) (.int (0 + (i : Int))))) = _
      rw [ei, nv_set, logsAt_step hi]
    · rw [upd_ne (ne_of_none hb nr), upd_ne (ne_of_none hb no)]
      exact e4 b o' hb hbp
  · rintro σ H' ⟨v, rfl, e1, e2, e3, e4⟩
    refine q H' ⟨dx, o, r, e1, ?_, ?_⟩ e4
    · rw [e2, List.take_of_length_le (by rw [table_length]; exact Nat.le_refl _)]
    · rw [e3, logsAt_end]
theorem ok_added (T : Top K mg A) : FnOk P w K mg base CX0 1 A.f_added A.d_added ["a", "b"] (sp_added K A) := by
  refine T.f_added.F.ok sc_added (fun vs H Q E h => by obtain ⟨_, _, _, _, rfl, _⟩ := h; rfl) (fun cdv Ar outer s H vs Q E hr h => ?_)
  obtain ⟨a, b, l, m, rfl, ha, hb, hlm, hz, q⟩ := h
  refine ⟨_, (pss_one (ps_ret (pe_lc (own := [("x", 2), ("y", 3)]) (g := gTup K 2 (gCons (gName 2) (gCons (gName 3) gNil))) (te := (tOp (rI0 fun i j => .int (Builtin.bitXor i j)) (tVar 2) (tVar 3))) (tt := tYes) rfl sc_added.nd (pi_zip (by rfl) T.b_zip (pa_cons (pv 0) (pa_cons (pv 1) pa_nil))) (blkOk_by (own := [("x", 2), ("y", 3)]) (N := ["a", "b", "x", "y"]) (sc := defScope s_added) (by decide +kernel)) (fun _ _ _ _ _ => (pg_tup rfl (pgs_cons (pg_name (i := 2) sc_added.nd rfl (Or.inl rfl)) (pgs_cons (pg_name (i := 3) sc_added.nd rfl (Or.inl rfl)) pgs_nil)))) (fun _ _ _ _ _ => pts_nil) (fun _ _ _ _ _ => (pe_op op_xor (pv 2) (pv 3)))))), ?_⟩
  refine ⟨_, rfl, _, rfl, a, b, _, _, rfl, ha, hb, lc_zp (fun y => y.1 ^^^ y.2) hlm ha hb hz (fun i x y t H1 R hx hy e1 ht k => ?_) q⟩
  refine ⟨t, _, rfl, SqT.of ht, rfl, _, _, rfl, _, _, rfl, rfl, rfl, ?_⟩
  refine ⟨_, rfl, _, rfl, _, _, rfl, rfl, ?_⟩
  show R (.int (Builtin.bitXor (x : Int) (y : Int))) H1
  rw [xor_cast]
  exact k _ (Ex.refl _)
theorem ok_padded (T : Top K mg A) : FnOk P w K mg base CX0 1 A.f_padded A.d_padded ["row", "size"] (sp_padded K A) := by
  refine T.f_padded.F.ok sc_padded (fun vs H Q E h => by obtain ⟨_, _, _, rfl, _⟩ := h; rfl) (fun cdv Ar outer s H vs Q E hr h => ?_)
  obtain ⟨a, n, l, rfl, ha, hln, hz, q⟩ := h
  refine ⟨_, (pss_one (ps_ret (pe_op op_cat (pv 0) (pe_op op_rep (pe_lst (pa_cons pe_int pa_nil)) (pe_op op_sub (pv 1) (pe_callB call_len_seq (by rfl) T.b_len PySem.boot_len (pa_cons (pv 0) pa_nil))))))), ?_⟩
  refine ⟨_, rfl, by decide, fun p1 n1 => ?_⟩
  have x1 := Ex.new (o := .lst [.int 0]) n1
  refine ⟨_, rfl, _, rfl, a, nv l, rfl, .inl (SqL.of (x1 _ _ ha)), _, _, rfl, rfl, ?_⟩
  have e0 : ((n : Int) - ((nv l).length : Int)) = ((n - l.length : Nat) : Int) := by rw [nv_length]; omega
  show ∃ l_1 k xs, _ ∧ V.int ((n : Int) - ((nv l).length : Int)) = .int k ∧ _
  rw [e0]
  refine ⟨p1, _, _, rfl, rfl, upd_same, by omega, by omega, ?_, fun p2 n2 => ?_⟩
  · show 1 * ((n - l.length : Nat) : Int).toNat ≤ sizeLine
    rw [Int.toNat_natCast, Nat.one_mul]
    exact sz_of (by omega)
  have x2 := x1.trans (Ex.new (o := .lst (List.replicate ((n - l.length : Nat) : Int).toNat [V.int 0]).flatten) n2)
  refine ⟨a, p2, _, _, rfl, rfl, x2 _ _ ha, upd_same, ?_, fun p3 n3 => ?_⟩
  · rw [Int.toNat_natCast, rep_flat, nv_length, nv_length, List.length_replicate]
    exact sz_of (by omega)
  refine q p3 _ (fresh_back x2 n3) (x2.trans (Ex.new n3)) ?_
  rw [upd_same, Int.toNat_natCast, rep_flat, nv_append]
end
end Sl
/-! ## D4 -/
set_option Elab.async false
set_option linter.all false
set_option maxRecDepth 100000
set_option maxHeartbeats 4000000
namespace Sl
open PySem PySem.Spec PyProof.Rows L2 Evl
section
variable {P : Program} {w : World} {K : PySem.W.Frag} {mg : Str → Option Value} {base : Heap} {A : Adr}
theorem nv_drop1 (l : List Nat) : cutV (nv l) (some 1) none = nv (l.drop 1) := cut_from l 1
theorem ok_divisor_of (T : Top K mg A) (G_Field_power : FnOk P w K mg base CX0 1 A.f_Field_power A.d_Field_power ["self", "exponent"] (sp_Field_power K A)) (G_Field_scaled : FnOk P w K mg base CX0 1 A.f_Field_scaled A.d_Field_scaled ["self", "row", "factor"] (sp_Field_scaled K A)) (G_added : FnOk P w K mg base CX0 1 A.f_added A.d_added ["a", "b"] (sp_added K A)) : FnOk P w K mg base CX0 2 A.f_divisor_of A.d_divisor_of ["field"] (sp_divisor_of K A) := by
  refine T.f_divisor_of.F.ok sc_divisor_of (fun vs H Q E h => by obtain ⟨_, rfl, _⟩ := h; rfl) (fun cdv Ar outer s H vs Q E hr h => ?_)
  obtain ⟨f, rfl, hF, q⟩ := h
  refine ⟨_, (pss_cons (ps_set (i := 1) sc_divisor_of.nd rfl (Or.inl rfl) (pe_lst (pa_cons pe_int pa_nil)))
    (pss_cons (ps_for PassesOwn.never rfl (pi_range1 rfl T.b_range (pa_cons (pe_glob (v := .int 16) rfl T.g_PARITY ⟨_, rfl⟩) pa_nil)) (pg_name (i := 2) sc_divisor_of.nd rfl (Or.inl rfl))
    (pss_one (ps_set (i := 1) sc_divisor_of.nd rfl (Or.inl rfl) (pe_call G_added (hr.mono (by decide)) rfl T.f_added.g T.f_added.F.kp T.f_added.b .nil pass0 (pa_cons (pe_op op_cat (pv 1) (pe_lst (pa_cons pe_int pa_nil))) (pa_cons (pe_op op_cat (pe_lst (pa_cons pe_int pa_nil)) (pe_meth (pv 0) T.c_Field.cl T.f_Field_scaled.m G_Field_scaled (hr.mono (by decide)) T.f_Field_scaled.b .nil pass0 (pa_cons (pv 1) (pa_cons (pe_meth (pv 0) T.c_Field.cl T.f_Field_power.m G_Field_power (hr.mono (by decide)) T.f_Field_power.b .nil pass0 (pa_cons (pv 2) pa_nil)) pa_nil)))) pa_nil))))))
    (pss_one (ps_ret (pe_slice sl_list (pv 1) (po_some pe_int) po_none))))), ?_⟩
  refine ⟨by decide, fun o no => ?_⟩
  refine ⟨_, rfl, by show (-(2 ^ 62) : Int) ≤ 16; decide, by show (16 : Int) < 2 ^ 62; decide, for_range (lo := 0) (n := 16) (fun i σ H' => ∃ (d : Addr) (v : Option V), σ = [some (.ref f), some (.ref d), v] ∧
    H' d = some (.lst (nv (Fm11.roots i))) ∧ Ex H H') ⟨o, none, rfl, upd_same, Ex.new no⟩ ?_ ?_⟩
  · rintro i σ H' hi ⟨d, v, rfl, hd, e0⟩
    have hL := Gf.roots_length i
    have hB := Gf.roots_by i
    refine ⟨_, rfl, by decide, fun p1 n1 => ?_⟩
    have x1 := Ex.new (o := .lst [.int 0]) n1
    refine ⟨d, p1, _, _, rfl, rfl, x1 _ _ hd, upd_same, by rw [nv_length]; exact sz_of (by show _ + 1 ≤ _; omega), fun p2 n2 => ?_⟩
    have x2 := x1.trans (Ex.new (o := .lst (nv (Fm11.roots i) ++ [.int 0])) n2)
    refine ⟨by decide, fun p3 n3 => ?_⟩
    have x3 := x2.trans (Ex.new (o := .lst [.int 0]) n3)
    obtain ⟨dx, p, lr, h1, h2, h3⟩ := id (hF.ex (e0.trans x3))
    have hF3 : FieldAt A _ f := ⟨dx, p, lr, h1, h2, h3⟩
    refine ⟨_, rfl, _, _, _, rfl, h1, no_Field_scaled, _, rfl, _, rfl, _, _, _, rfl, h1, no_Field_power, _, rfl, f, _, rfl, hF3, ?_⟩
    have ei : ((0 + (i : Int)) % 255).toNat = i := by omega
    rw [ei]
    refine ⟨f, d, Fm11.roots i, Fm11.power i, rfl, hF3, SqL.of (x3 _ _ hd), hB, by omega, Gf.power_lt i, fun p4 H4 n4 e4 h4 => ?_⟩
    have h3' := e4 _ _ (show _ = some (HO.lst [V.int 0]) from upd_same (a := p3))
    refine ⟨p3, p4, _, _, rfl, rfl, h3', h4, by rw [nv_length, List.length_map]; exact sz_of (by show 1 + _ ≤ _; omega), fun p5 n5 => ?_⟩
    have x5 := (Ex.new (o := .lst ([V.int 0] ++ nv ((Fm11.roots i).map (Fm11.times (Fm11.power i))))) n5)
    have h2' : (upd (upd (upd H' p1 (.lst [.int 0])) p2 (.lst (nv (Fm11.roots i) ++ [.int 0]))) p3 (.lst [.int 0])) p2 = some (.lst (nv (Fm11.roots i ++ [0]))) := by
      refine (Ex.new n3) _ _ ?_
      rw [upd_same, nv_append]
      rfl
    refine ⟨p2, p5, Fm11.roots i ++ [0], (0 :: Fm11.roots i).map (Fm11.times (Fm11.power i)), rfl, SqL.of ((e4.trans x5) _ _ h2'), SqL.of ?_, ?_, ?_, fun p6 H6 n6 e6 h6 => ?_⟩
    · rw [upd_same, List.map_cons, Gf.times_zero]
      rfl
    · rw [List.length_append, List.length_map]
      rfl
    · rw [List.length_append, hL]
      show i + 1 + 1 ≤ _
      omega
    · refine ⟨p6, _, rfl, ?_, ((e0.trans x3).trans (e4.trans x5)).trans e6⟩
      rw [h6, Gf.roots_step]
  · rintro σ H' ⟨d, v, rfl, hd, e0⟩
    refine ⟨_, rfl, _, rfl, d, _, rfl, SqL.of hd, fun p np => ?_⟩
    rw [nv_drop1]
    exact q p _ (fresh_back e0 np) (e0.trans (Ex.new np)) upd_same
theorem ok_Code_init (T : Top K mg A) (G_Field_init : FnOk P w K mg base CX0 3 A.f_Field_init A.d_Field_init ["self"] (sp_Field_init K A)) (G_divisor_of : FnOk P w K mg base CX0 2 A.f_divisor_of A.d_divisor_of ["field"] (sp_divisor_of K A)) : FnOk P w K mg base CX0 5 A.f_Code_init A.d_Code_init ["self"] (sp_Code_init K A) := by
  refine T.k_Code.F.ok sc_Code_init (fun vs H Q E h => by obtain ⟨_, _, rfl, _⟩ := h; rfl) (fun cdv Ar outer s H vs Q E hr h => ?_)
  obtain ⟨p, dx, rfl, hp, q⟩ := h
  refine ⟨_, (pss_cons (ps_fld (pv 0) (pe_make0 T.k_Field.M G_Field_init (hr.mono (by decide)) rfl T.k_Field.g T.k_Field.b .nil pass0) rfl)
    (pss_one (ps_fld (pv 0) (pe_call G_divisor_of (hr.mono (by decide)) rfl T.f_divisor_of.g T.f_divisor_of.F.kp T.f_divisor_of.b .nil pass0 (pa_cons (pe_fld (pv 0) rfl) pa_nil)) rfl))), ?_⟩
  intro f fx nf nfx nex
  have fp : p ≠ f := ne_of_none hp nf
  have fxp : p ≠ fx := ne_of_none hp nfx
  refine ⟨f, fx, rfl, upd_same, fun H1 hF k1 => ⟨rfl, ?_⟩⟩
  have x1 : Ex H H1 := fun b o hb => k1 b o (by rw [upd_ne (ne_of_none hb nf), upd_ne (ne_of_none hb nfx)]; exact hb) (ne_of_none hb nf)
  have hp1 := x1 _ _ hp
  refine ⟨_, rfl, p, A.c_Code, dx, [], rfl, hp1, T.c_Code.cl, T.c_Code.n_field, by decide, ?_⟩
  have hF2 : FieldAt A (upd H1 p (.ins A.c_Code dx (putF "field" (.ref f) []))) f := by
    obtain ⟨dx', a, b, h1, h2, h3⟩ := hF
    have pa : p ≠ a := fun e => by rw [e, h2] at hp1; cases hp1
    have pb : p ≠ b := fun e => by rw [e, h3] at hp1; cases hp1
    exact ⟨dx', a, b, by rw [upd_ne fp.symm]; exact h1, by rw [upd_ne pa.symm]; exact h2, by rw [upd_ne pb.symm]; exact h3⟩
  refine ⟨_, rfl, p, A.c_Code, dx, _, _, rfl, upd_same, T.c_Code.cl, T.c_Code.n_field, rfl, ?_⟩
  refine ⟨f, rfl, hF2, fun d H3 nd e3 h3 => ?_⟩
  refine ⟨_, rfl, p, A.c_Code, dx, _, rfl, e3 _ _ upd_same, T.c_Code.cl, T.c_Code.n_divisor, by show 1 < 1000; decide, ?_⟩
  have hF3 := hF2.ex e3
  have hp3 := e3 _ _ (show _ = some (HO.ins A.c_Code dx (putF "field" (.ref f) [])) from upd_same (a := p))
  have pd : p ≠ d := fun e => by rw [e, h3] at hp3; cases hp3
  refine q _ ⟨dx, f, d, by rw [upd_same]; rfl, ?_, by rw [upd_ne pd.symm]; exact h3⟩ fun b o hb hbp => ?_
  · obtain ⟨dx', a, b, h1, h2, h3⟩ := hF3
    have pa : p ≠ a := fun e => by rw [e, h2] at hp3; cases hp3
    have pb : p ≠ b := fun e => by rw [e, h3] at hp3; cases hp3
    exact ⟨dx', a, b, by rw [upd_ne fp.symm]; exact h1, by rw [upd_ne pa.symm]; exact h2, by rw [upd_ne pb.symm]; exact h3⟩
  · rw [upd_ne hbp]
    refine e3 _ _ ?_
    rw [upd_ne hbp]
    exact x1 _ _ hb
theorem ok_Code_parity_of (T : Top K mg A) (G_Field_scaled : FnOk P w K mg base CX0 1 A.f_Field_scaled A.d_Field_scaled ["self", "row", "factor"] (sp_Field_scaled K A)) (G_added : FnOk P w K mg base CX0 1 A.f_added A.d_added ["a", "b"] (sp_added K A)) : FnOk P w K mg base CX0 2 A.f_Code_parity_of A.d_Code_parity_of ["self", "row"] (sp_Code_parity_of K A) := by
  refine T.f_Code_parity_of.F.ok sc_Code_parity_of (fun vs H Q E h => by obtain ⟨_, _, _, rfl, _⟩ := h; rfl) (fun cdv Ar outer s H vs Q E hr h => ?_)
  obtain ⟨c, r, l, rfl, hC, hr', hby, q⟩ := h
  refine ⟨_, (pss_cons (ps_set (i := 2) sc_Code_parity_of.nd rfl (Or.inl rfl) (pe_op op_rep (pe_lst (pa_cons pe_int pa_nil)) (pe_glob (v := .int 16) rfl T.g_PARITY ⟨_, rfl⟩)))
    (pss_cons (ps_for PassesOwn.never rfl (pi_list (pv 1)) (pg_name (i := 3) sc_Code_parity_of.nd rfl (Or.inl rfl))
    (pss_one (ps_set (i := 2) sc_Code_parity_of.nd rfl (Or.inl rfl) (pe_call G_added (hr.mono (by decide)) rfl T.f_added.g T.f_added.F.kp T.f_added.b .nil pass0 (pa_cons (pe_op op_cat (pe_slice sl_list (pv 2) (po_some pe_int) po_none) (pe_lst (pa_cons pe_int pa_nil))) (pa_cons (pe_meth (pe_fld (pv 0) rfl) T.c_Field.cl T.f_Field_scaled.m G_Field_scaled (hr.mono (by decide)) T.f_Field_scaled.b .nil pass0 (pa_cons (pe_fld (pv 0) rfl) (pa_cons (pe_op op_xor (pv 3) (pe_ix ix_list (pv 2) pe_int (fun _ _ => rfl))) pa_nil))) pa_nil))))))
    (pss_one (ps_ret (pv 2))))), ?_⟩
  refine ⟨by decide, fun o no => ⟨o, _, _, rfl, rfl, upd_same, by decide, by decide, by decide, fun o2 no2 => ?_⟩⟩
  have x0 := (Ex.new (o := .lst [V.int 0]) no).trans (Ex.new (o := .lst (List.replicate (16 : Int).toNat [V.int 0]).flatten) no2)
  refine ⟨_, rfl, r, rfl, ⟨_, ex_l x0 hr'⟩, for_list (K := K) (a := r) (xs := nv l) (fun i σ H' => ∃ (d : Addr) (v : Option V), σ = [some (.ref c), some (.ref r), some (.ref d), v] ∧
    H' d = some (.lst (nv ((l.take i).foldl (Gf.lfsr Gf.gen) (List.replicate 16 0)))) ∧ Ex H H' ∧ H d = none) ⟨o2, none, rfl, by rw [upd_same]; exact congrArg (fun y => some (HO.lst y)) (rep_flat 16), x0, fresh_back (Ex.new no) no2⟩ (fun i σ H' _ ⟨_, _, _, _, e, _⟩ => ex_l e hr') ?_ ?_⟩
  · rintro i y σ H' hi ⟨d, v, rfl, hd, e0, nd⟩
    obtain ⟨z, hz, rfl⟩ := nv_of hi
    have hz256 : z < 256 := hby z (List.mem_of_getElem? hz)
    obtain ⟨hB, hL⟩ := Gf.lfsr_all (hby.take i) (Gf.By.rep 16) (List.length_replicate ..)
    have hnext : (l.take (i + 1)).foldl (Gf.lfsr Gf.gen) (List.replicate 16 0) = Gf.lfsr Gf.gen ((l.take i).foldl (Gf.lfsr Gf.gen) (List.replicate 16 0)) z := by
      rw [List.take_add_one, hz, List.foldl_append]
      rfl
    generalize (l.take i).foldl (Gf.lfsr Gf.gen) (List.replicate 16 0) = s at hd hB hL hnext
    refine ⟨_, rfl, _, rfl, d, _, rfl, SqL.of hd, fun p1 n1 => ?_⟩
    rw [nv_drop1]
    have x1 := Ex.new (o := .lst (nv (s.drop 1))) n1
    refine ⟨by decide, fun p2 n2 => ?_⟩
    have x2 := x1.trans (Ex.new (o := .lst [V.int 0]) n2)
    refine ⟨p1, p2, _, _, rfl, rfl, (Ex.new n2) _ _ upd_same, upd_same, by rw [nv_length, List.length_drop, hL]; decide, fun p3 n3 => ?_⟩
    have x3 := x2.trans (Ex.new (o := .lst (nv (s.drop 1) ++ [V.int 0])) n3)
    obtain ⟨dxc, f, dv, g1, g2, g3⟩ := id (hC.ex (e0.trans x3))
    obtain ⟨dx, p, lr, h1, h2, h3⟩ := id g2
    refine ⟨_, rfl, _, _, _, _, _, rfl, g1, T.c_Code.cl, T.c_Code.n_field, lk_Code_field, _, _, _, rfl, h1, no_Field_scaled, _, rfl, _, _, _, _, _, rfl, g1, T.c_Code.cl, T.c_Code.n_divisor, lk_Code_divisor, _, rfl, _, rfl, d, nv s, _, _, rfl, rfl, SqL.of (x3 _ _ hd), atI_nv (i := 0) rfl (by rw [hL]; decide), ?_⟩
    have hh : s.getD 0 0 = s.headD 0 := by cases s <;> rfl
    rw [hh]
    have hx : z ^^^ s.headD 0 < 256 := Gf.xlt hz256 (Gf.headD_lt hB)
    refine ⟨_, _, rfl, rfl, ?_⟩
    refine ⟨f, dv, Gf.gen, z ^^^ s.headD 0, by rw [← xor_cast]; rfl, g2, SqL.of g3, Gf.gen_by, by rw [Gf.gen_length]; decide, hx, fun p4 H4 n4 e4 h4 => ?_⟩
    have h3' := e4 _ _ (show _ = some (HO.lst (nv (s.drop 1) ++ [V.int 0])) from upd_same (a := p3))
    refine ⟨p3, p4, s.drop 1 ++ [0], Gf.gen.map (Fm11.times (z ^^^ s.headD 0)), rfl, SqL.of (by rw [h3', nv_append]; rfl), SqL.of h4, ?_, ?_, fun p6 H6 n6 e6 h6 => ?_⟩
    · rw [List.length_append, List.length_drop, List.length_map, hL, Gf.gen_length]
      rfl
    · rw [List.length_append, List.length_drop, hL]
      decide
    · refine ⟨p6, _, rfl, ?_, ((e0.trans x3).trans e4).trans e6, fresh_back ((e0.trans x3).trans e4) n6⟩
      rw [h6, hnext]
      rfl
  · rintro σ H' ⟨d, v, rfl, hd, e0, nd⟩
    rw [nv_length, List.take_length] at hd
    refine ⟨_, rfl, q d H' nd e0 ?_⟩
    rw [hd, Gf.parity_fold]
end
end Sl
/-! ## D5 -/
set_option Elab.async false
set_option linter.all false
set_option maxRecDepth 100000
set_option maxHeartbeats 4000000
namespace Sl
open PySem PySem.Spec PyProof.Rows L2 Evl
section
variable {P : Program} {w : World} {K : PySem.W.Frag} {mg : Str → Option Value} {base : Heap} {A : Adr}
theorem ok_lack_at (T : Top K mg A) (G_Field_product : FnOk P w K mg base CX0 1 A.f_Field_product A.d_Field_product ["self", "a", "b"] (sp_Field_product K A)) : FnOk P w K mg base CX0 2 A.f_lack_at A.d_lack_at ["field", "locator", "syndromes", "at"] (sp_lack_at K A) := by
  refine T.f_lack_at.F.ok sc_lack_at (fun vs H Q E h => by obtain ⟨_, _, _, _, _, _, rfl, _⟩ := h; rfl) (fun cdv Ar outer s H vs Q E hr h => ?_)
  obtain ⟨f, r, t, c, s, n, rfl, hF, hr', ht, hbc, hbs, hcn, hns, hz, q⟩ := h
  refine ⟨_, (pss_cons (ps_set (i := 4) sc_lack_at.nd rfl (Or.inl rfl) pe_int)
    (pss_cons (ps_for PassesOwn.never rfl (pi_range1 rfl T.b_range (pa_cons (pe_callB call_len_seq (by rfl) T.b_len PySem.boot_len (pa_cons (pv 1) pa_nil)) pa_nil)) (pg_name (i := 5) sc_lack_at.nd rfl (Or.inl rfl))
    (pss_one (ps_set (i := 4) sc_lack_at.nd rfl (Or.inl rfl) (pe_op op_xor (pv 4) (pe_meth (pv 0) T.c_Field.cl T.f_Field_product.m G_Field_product (hr.mono (by decide)) T.f_Field_product.b .nil pass0 (pa_cons (pe_ix ix_list (pv 1) (pv 5) (fun _ _ => rfl)) (pa_cons (pe_ix ix_list (pv 2) (pe_op op_sub (pv 3) (pv 5)) (fun _ _ => rfl)) pa_nil)))))))
    (pss_one (ps_ret (pv 4))))), ?_⟩
  refine ⟨_, rfl, r, _, rfl, .inl hr', _, rfl, by rw [nv_length]; omega, by rw [nv_length]; omega, ?_⟩
  rw [nv_length, Int.toNat_natCast]
  refine for_range (lo := 0) (n := c.length) (fun i σ H' => H' = H ∧ ∃ v : Option V, σ = [some (.ref f), some (.ref r), some (.ref t), some (.int (n : Int)), some (.int ((List.range i).foldl (fun r i => r ^^^ Fm11.times (c.getD i 0) (s.getD (n - i) 0)) 0 : Nat)), v]) ⟨rfl, none, rfl⟩ ?_ ?_
  · rintro i σ H' hi ⟨rfl, v, rfl⟩
    obtain ⟨dx, p, lr, h1, h2, h3⟩ := id hF
    refine ⟨_, rfl, _, rfl, _, _, _, rfl, h1, no_Field_product, ?_⟩
    refine ⟨_, rfl, _, rfl, r, nv c, _, _, rfl, rfl, hr', atI_nv (i := i) (Int.zero_add _) hi, ?_⟩
    refine ⟨_, rfl, _, rfl, _, rfl, _, _, rfl, rfl, t, nv s, _, _, rfl, rfl, ht, atI_nv (i := n - i) (by omega) (by omega), ?_⟩
    refine ⟨f, c.getD i 0, s.getD (n - i) 0, rfl, hF, hbc.getD i, hbs.getD _, _, _, rfl, rfl, rfl, some (.int (0 + (i : Int))), ?_⟩
    rw [List.range_succ, List.foldl_append]
    show _ = [some (V.ref f), some (.ref r), some (.ref t), some (.int (n : Int)), some (.int (((List.range i).foldl (fun r i => r ^^^ Fm11.times (c.getD i 0) (s.getD (n - i) 0)) 0 ^^^ Fm11.times (c.getD i 0) (s.getD (n - i) 0) : Nat))), _]
    rw [← xor_cast]
    rfl
  · rintro σ H' ⟨rfl, v, rfl⟩
    exact ⟨_, rfl, q⟩
theorem max_cast (a b : Nat) : (if (b : Int) > (a : Int) then (b : Int) else (a : Int)) = ((max a b : Nat) : Int) := by
  by_cases h : b > a
  · rw [if_pos (by omega)]
    congr 1
    omega
  · rw [if_neg (by omega)]
    congr 1
    omega
theorem zip_pad {l m : List Nat} {n : Nat} (h1 : l.length ≤ n) (h2 : m.length ≤ n) : Gf.addl (l ++ List.replicate (n - l.length) 0) (m ++ List.replicate (n - m.length) 0) = (List.range n).map fun i => l.getD i 0 ^^^ m.getD i 0 := by
  have pad : ∀ (l : List Nat) (i : Nat), l.length ≤ n → i < n → (l ++ List.replicate (n - l.length) 0)[i]? = some (l.getD i 0) := by
    intro l i hl hi
    by_cases h : i < l.length
    · rw [List.getElem?_append_left h]
      exact getD_some h
    · rw [List.getElem?_append_right (by omega), List.getElem?_replicate, if_pos (by omega), Gf.getD_far (by omega)]
  apply List.ext_getElem?
  intro i
  unfold Gf.addl
  rw [List.getElem?_map, List.getElem?_map]
  by_cases hi : i < n
  · have : (((l ++ List.replicate (n - l.length) 0).zip (m ++ List.replicate (n - m.length) 0)))[i]? = some (l.getD i 0, m.getD i 0) := by
      rw [List.getElem?_zip_eq_some]
      exact ⟨pad l i h1 hi, pad m i h2 hi⟩
    rw [this, List.getElem?_range hi]
    rfl
  · rw [List.getElem?_eq_none (by rw [List.length_zip, List.length_append, List.length_replicate]; omega), List.getElem?_eq_none (by rw [List.length_range]; omega)]
    rfl
theorem better_is (c b : List Nat) (m d0 d n : Nat) (hn : n = max c.length (m + b.length)) : Gf.addl (c ++ List.replicate (n - c.length) 0) ((List.replicate m 0 ++ b.map (Fm11.times (Fm11.times d (Fm11.inverse d0)))) ++ List.replicate (n - (m + b.length)) 0) = Gf.better c b m d0 d := by
  have e : (List.replicate m 0 ++ b.map (Fm11.times (Fm11.times d (Fm11.inverse d0)))).length = m + b.length := by
    rw [List.length_append, List.length_replicate, List.length_map]
  have := zip_pad (l := c) (m := List.replicate m 0 ++ b.map (Fm11.times (Fm11.times d (Fm11.inverse d0)))) (n := n) (by omega) (by rw [e]; omega)
  rw [e] at this
  rw [this]
  show _ = Fm11.plus c (Fm11.scaled _ m b)
  unfold Fm11.plus Fm11.scaled
  rw [e, hn]
theorem ok_locator_of (T : Top K mg A) (G_Field_quotient : FnOk P w K mg base CX0 1 A.f_Field_quotient A.d_Field_quotient ["self", "a", "b"] (sp_Field_quotient K A)) (G_Field_scaled : FnOk P w K mg base CX0 1 A.f_Field_scaled A.d_Field_scaled ["self", "row", "factor"] (sp_Field_scaled K A)) (G_added : FnOk P w K mg base CX0 1 A.f_added A.d_added ["a", "b"] (sp_added K A)) (G_lack_at : FnOk P w K mg base CX0 2 A.f_lack_at A.d_lack_at ["field", "locator", "syndromes", "at"] (sp_lack_at K A)) (G_padded : FnOk P w K mg base CX0 1 A.f_padded A.d_padded ["row", "size"] (sp_padded K A)) : FnOk P w K mg base CX0 3 A.f_locator_of A.d_locator_of ["field", "syndromes"] (sp_locator_of K A) := by
  refine T.f_locator_of.F.ok sc_locator_of (fun vs H Q E h => by obtain ⟨_, _, _, rfl, _⟩ := h; rfl) (fun cdv Ar outer s H vs Q E hr h => ?_)
  obtain ⟨f, t, s, rfl, hF, ht, hbs, hs16, q⟩ := h
  refine ⟨_, (pss_cons (ps_set (i := 2) sc_locator_of.nd rfl (Or.inl rfl) (pe_lst (pa_cons pe_int pa_nil)))
    (pss_cons (ps_set (i := 3) sc_locator_of.nd rfl (Or.inl rfl) pe_int)
    (pss_cons (ps_set (i := 4) sc_locator_of.nd rfl (Or.inl rfl) (pe_lst (pa_cons pe_int pa_nil)))
    (pss_cons (ps_set (i := 5) sc_locator_of.nd rfl (Or.inl rfl) pe_int)
    (pss_cons (ps_set (i := 6) sc_locator_of.nd rfl (Or.inl rfl) pe_int)
    (pss_cons (ps_for PassesOwn.never rfl (pi_range1 rfl T.b_range (pa_cons (pe_callB call_len_seq (by rfl) T.b_len PySem.boot_len (pa_cons (pv 1) pa_nil)) pa_nil)) (pg_name (i := 7) sc_locator_of.nd rfl (Or.inl rfl))
    (pss_cons (ps_set (i := 8) sc_locator_of.nd rfl (Or.inl rfl) (pe_call G_lack_at (hr.mono (by decide)) rfl T.f_lack_at.g T.f_lack_at.F.kp T.f_lack_at.b .nil pass0 (pa_cons (pv 0) (pa_cons (pv 2) (pa_cons (pv 1) (pa_cons (pv 7) pa_nil))))))
    (pss_cons (ps_if (pt_cmpR op_gt (pv 8) pe_int (nomark _)) (pss_cons (ps_set (i := 9) sc_locator_of.nd rfl (Or.inl rfl) (pe_op op_cat (pe_op op_rep (pe_lst (pa_cons pe_int pa_nil)) (pv 6)) (pe_meth (pv 0) T.c_Field.cl T.f_Field_scaled.m G_Field_scaled (hr.mono (by decide)) T.f_Field_scaled.b .nil pass0 (pa_cons (pv 4) (pa_cons (pe_meth (pv 0) T.c_Field.cl T.f_Field_quotient.m G_Field_quotient (hr.mono (by decide)) T.f_Field_quotient.b .nil pass0 (pa_cons (pv 8) (pa_cons (pv 5) pa_nil))) pa_nil)))))
    (pss_cons (ps_set (i := 10) sc_locator_of.nd rfl (Or.inl rfl) (pe_callB (call_max2 rfl) (by rfl) T.b_max (by decide +kernel) (pa_cons (pe_callB call_len_seq (by rfl) T.b_len PySem.boot_len (pa_cons (pv 2) pa_nil)) (pa_cons (pe_callB call_len_seq (by rfl) T.b_len PySem.boot_len (pa_cons (pv 9) pa_nil)) pa_nil))))
    (pss_cons (ps_set (i := 11) sc_locator_of.nd rfl (Or.inl rfl) (pe_call G_added (hr.mono (by decide)) rfl T.f_added.g T.f_added.F.kp T.f_added.b .nil pass0 (pa_cons (pe_call G_padded (hr.mono (by decide)) rfl T.f_padded.g T.f_padded.F.kp T.f_padded.b .nil pass0 (pa_cons (pv 2) (pa_cons (pv 10) pa_nil))) (pa_cons (pe_call G_padded (hr.mono (by decide)) rfl T.f_padded.g T.f_padded.F.kp T.f_padded.b .nil pass0 (pa_cons (pv 9) (pa_cons (pv 10) pa_nil))) pa_nil))))
    (pss_cons (ps_if (pt_cmpR op_le (pe_op op_mul pe_int (pv 3)) (pv 7) (nomark _)) (pss_cons (ps_set (i := 3) sc_locator_of.nd rfl (Or.inl rfl) (pe_op op_sub (pe_op op_add (pv 7) pe_int) (pv 3)))
    (pss_cons (ps_set (i := 4) sc_locator_of.nd rfl (Or.inl rfl) (pv 2))
    (pss_cons (ps_set (i := 5) sc_locator_of.nd rfl (Or.inl rfl) (pv 8))
    (pss_one (ps_set (i := 6) sc_locator_of.nd rfl (Or.inl rfl) pe_int))))) pss_nil)
    (pss_one (ps_set (i := 2) sc_locator_of.nd rfl (Or.inl rfl) (pv 11))))))) pss_nil)
    (pss_one (ps_aug (i := 6) sc_locator_of.nd rfl (Or.inl rfl) pe_int ip_add)))))
    (pss_one (ps_ret (pe_tup (pa_cons (pv 3) (pa_cons (pv 2) pa_nil))))))))))), ?_⟩
  refine ⟨by decide, fun o1 n1 => ?_⟩
  have x1 := Ex.new (o := .lst [.int 1]) n1
  refine ⟨by decide, fun o2 n2 => ?_⟩
  have x2 := x1.trans (Ex.new (o := .lst [.int 1]) n2)
  refine ⟨_, rfl, t, _, rfl, .inl (ex_l x2 ht), _, rfl, by rw [nv_length]; omega, by rw [nv_length]; omega, ?_⟩
  rw [nv_length, Int.toNat_natCast]
  refine for_range (lo := 0) (n := s.length) (fun i σ H' => ∃ (cl bl : Addr) (c b : List Nat) (l m d0 : Nat) (v7 v8 v9 v10 v11 : Option V),
    σ = [some (.ref f), some (.ref t), some (.ref cl), some (.int (l : Int)), some (.ref bl), some (.int (d0 : Int)), some (.int (m : Int)), v7, v8, v9, v10, v11] ∧
    H' cl = some (.lst (nv c)) ∧ H' bl = some (.lst (nv b)) ∧ Ex H H' ∧ H cl = none ∧ Gf.St s i c l b m d0 ∧ d0 ≠ 0 ∧ Fm11.recur s (s.length - i) (c, l, b, m, d0) = Fm11.locator s)
    ⟨o1, o2, [1], [1], 0, 1, 1, none, none, none, none, none, rfl, (Ex.new n2) _ _ upd_same, upd_same, x2, n1, Gf.St.start s, by decide, rfl⟩ ?_ ?_
  · rintro i σ H' hi ⟨cl, bl, c, b, l, m, d0, v7, v8, v9, v10, v11, rfl, hcl, hbl, e0, ncl, hst, hd0, hrec⟩
    obtain ⟨o, a, lb, I, hblen⟩ := id hst.inv
    have I1 := I.len
    have I2 := I.le
    have hcn := hst.cn
    have ei : (0 : Int) + (i : Int) = ((i : Nat) : Int) := Int.zero_add _
    rw [ei]
    have hF0 := hF.ex e0
    have ht0 := ex_l e0 ht
    refine ⟨_, rfl, _, rfl, _, rfl, _, rfl, f, cl, t, c, s, i, rfl, hF0, SqL.of hcl, ht0, hst.cb, hbs, by omega, hi, by omega, ?_⟩
    have hd : Gf.lack c s i = Gf.miss s c l i := (Gf.miss_lack hcn).symm
    rw [hd]
    have hdl := Gf.miss_lt (s := s) l i hst.cb
    have hk : s.length - i = (s.length - (i + 1)) + 1 := by omega
    rw [hk, Gf.recur_step, show s.length - (s.length - (i + 1) + 1) = i by omega] at hrec
    refine ⟨_, rfl, _, _, rfl, rfl, _, rfl, ite2 (fun z => ?_) (fun z => ?_)⟩
    · have hdne : Gf.miss s c l i ≠ 0 := by have := of_decide_eq_true z; omega
      rw [if_neg hdne] at hrec
      -- change
      refine ⟨by decide, fun p1 y1 => ?_⟩
      have w1 := Ex.new (o := .lst [.int 0]) y1
      refine ⟨_, rfl, p1, _, _, rfl, rfl, upd_same, by omega, by omega, by show 1 * _ ≤ _; rw [Int.toNat_natCast]; exact sz_of (by omega), fun p2 y2 => ?_⟩
      have w2 := w1.trans (Ex.new (o := .lst (List.replicate (m : Int).toNat [V.int 0]).flatten) y2)
      have hz2 : (List.replicate (m : Int).toNat [V.int 0]).flatten = nv (List.replicate m 0) := by rw [Int.toNat_natCast, rep_flat]
      have hF2 := hF0.ex w2
      obtain ⟨dx, pp, lr, g1, g2, g3⟩ := id hF2
      refine ⟨_, rfl, _, _, _, rfl, g1, no_Field_scaled, _, rfl, _, rfl, _, _, _, rfl, g1, no_Field_quotient, _, rfl, _, rfl, f, Gf.miss s c l i, d0, rfl, hF2, hdl, hst.db, hdne, hd0, ?_⟩
      have hq : Fm11.times (Gf.miss s c l i) (Fm11.inverse d0) < 256 := Gf.times_lt _ hdl
      refine ⟨f, bl, b, _, rfl, hF2, SqL.of (w2 _ _ hbl), hst.bb, by omega, hq, fun p3 H3 y3 e3 h3 => ?_⟩
      have hp2 := e3 _ _ (show _ = some (HO.lst (List.replicate (m : Int).toNat [V.int 0]).flatten) from upd_same (a := p2))
      refine ⟨p2, p3, _, _, rfl, rfl, hp2, h3, by rw [hz2, nv_length, nv_length, List.length_replicate, List.length_map]; exact sz_of (by omega), fun p4 y4 => ?_⟩
      rw [hz2, ← nv_append]
      have w4 := (w2.trans e3).trans (Ex.new (o := .lst (nv (List.replicate m 0 ++ b.map (Fm11.times (Fm11.times (Gf.miss s c l i) (Fm11.inverse d0)))))) y4)
      have hL : (List.replicate m 0 ++ b.map (Fm11.times (Fm11.times (Gf.miss s c l i) (Fm11.inverse d0)))).length = m + b.length := by
        rw [List.length_append, List.length_replicate, List.length_map]
      generalize hch : List.replicate m 0 ++ b.map (Fm11.times (Fm11.times (Gf.miss s c l i) (Fm11.inverse d0))) = ch at w4 hL
      have hsz : (if ((nv ch).length : Int) > ((nv c).length : Int) then ((nv ch).length : Int) else ((nv c).length : Int)) = ((max c.length (m + b.length) : Nat) : Int) := by
        rw [nv_length, nv_length, hL]
        exact max_cast _ _
      have hcl4 := w4 _ _ hcl
      refine ⟨_, rfl, cl, _, rfl, .inl (SqL.of hcl4), _, rfl, p4, _, rfl, .inl (SqL.of upd_same), _, _, rfl, ?_⟩
      refine ⟨_, rfl, _, rfl, cl, max c.length (m + b.length), c, by rw [← hsz]; rfl, hcl4, by omega, by omega, fun p5 H5 y5 e5 h5 => ?_⟩
      refine ⟨_, rfl, _, rfl, p4, max c.length (m + b.length), ch, by rw [← hsz]; rfl, e5 _ _ upd_same, by omega, by omega, fun p6 H6 y6 e6 h6 => ?_⟩
      refine ⟨p5, p6, _, _, rfl, SqL.of (e6 _ _ h5), SqL.of h6, ?_, ?_, fun p7 H7 y7 e7 h7 => ?_⟩
      · rw [List.length_append, List.length_append, List.length_replicate, List.length_replicate, hL]
        omega
      · rw [List.length_append, List.length_replicate]
        omega
      rw [hL, ← hch, better_is c b m d0 (Gf.miss s c l i) _ rfl] at h7
      have w7 : Ex H' H7 := ((w4.trans e5).trans e6).trans e7
      have fresh7 : H p7 = none := fresh_back (e0.trans ((w4.trans e5).trans e6)) y7
      refine ⟨_, rfl, _, _, rfl, rfl, .inl ⟨by decide, by decide⟩, _, rfl, _, _, rfl, rfl, _, rfl, ite2 (fun z2 => ?_) (fun z2 => ?_)⟩
      · have h2l : 2 * l ≤ i := by have := of_decide_eq_true z2; omega
        rw [if_pos h2l] at hrec
        refine ⟨_, rfl, _, _, rfl, rfl, _, rfl, _, _, rfl, rfl, _, rfl, _, rfl, _, rfl, _, rfl, _, _, rfl, rfl, ?_⟩
        have el : ((i : Int) + 1 - (l : Int)) = ((i + 1 - l : Nat) : Int) := by omega
        refine ⟨p7, cl, Gf.better c b m d0 (Gf.miss s c l i), c, i + 1 - l, 1, Gf.miss s c l i, some (.int (i : Nat)), some (.int (Gf.miss s c l i : Nat)), some (.ref p4), some (.int ((max c.length (m + b.length) : Nat) : Int)), some (.ref p7), ?_, h7, w7 _ _ hcl, e0.trans w7, fresh7, hst.new hbs hdne h2l, hdne, hrec⟩
        rw [← el, ← hsz]
        rfl
      · have h2l : ¬ 2 * l ≤ i := fun y => z2 (decide_eq_true (by omega))
        rw [if_neg h2l] at hrec
        refine ⟨_, rfl, _, rfl, _, _, rfl, rfl, ?_⟩
        exact ⟨p7, bl, Gf.better c b m d0 (Gf.miss s c l i), b, l, m + 1, d0, some (.int (i : Nat)), some (.int (Gf.miss s c l i : Nat)), _, _, some (.ref p7), rfl, h7, w7 _ _ hbl, e0.trans w7, fresh7, hst.same hbs (by omega), hd0, hrec⟩
    · have hdz : Gf.miss s c l i = 0 := by
        have : ¬ (0 : Int) < ((Gf.miss s c l i : Nat) : Int) := fun y => z (decide_eq_true y)
        omega
      rw [if_pos hdz] at hrec
      refine ⟨_, rfl, _, _, rfl, rfl, cl, bl, c, b, l, m + 1, d0, some (.int (i : Nat)), some (.int (Gf.miss s c l i : Nat)), v9, v10, v11, rfl, hcl, hbl, e0, ncl, hst.zero hbs hdz, hd0, hrec⟩
  · rintro σ H' ⟨cl, bl, c, b, l, m, d0, v7, v8, v9, v10, v11, rfl, hcl, hbl, e0, ncl, hst, hd0, hrec⟩
    rw [Nat.sub_self] at hrec
    refine ⟨_, rfl, _, rfl, by show 2 ≤ sizeLine; decide, fun p np => q p _ ⟨cl, fresh_back e0 np, ncl, e0.trans (Ex.new np), ?_, ?_⟩⟩
    · rw [upd_same, ← hrec]
      rfl
    · rw [← hrec]
      exact (Ex.new np) _ _ hcl
end
end Sl
/-! ## D6 -/
set_option Elab.async false
set_option linter.all false
set_option maxRecDepth 100000
set_option maxHeartbeats 4000000
namespace Sl
open PySem PySem.Spec PyProof.Rows L2 Evl
section
variable {P : Program} {w : World} {K : PySem.W.Frag} {mg : Str → Option Value} {base : Heap} {A : Adr}
theorem nv_rev (l : List Nat) : (nv l).reverse = nv l.reverse := by
  unfold nv
  rw [List.map_reverse]
theorem dec_zero (n : Nat) : decide (V.int (n : Int) = V.int 0) = (n == 0) := by
  by_cases h : n = 0
  · rw [h]
    rfl
  · have h1 : (n == 0) = false := beq_eq_false_iff_ne.mpr h
    rw [h1]
    exact decide_eq_false fun z => h (by have := V.int.inj z; omega)
theorem ok_places_of (T : Top K mg A) (G_Field_power : FnOk P w K mg base CX0 1 A.f_Field_power A.d_Field_power ["self", "exponent"] (sp_Field_power K A)) (G_Field_value_at : FnOk P w K mg base CX0 2 A.f_Field_value_at A.d_Field_value_at ["self", "row", "point"] (sp_Field_value_at K A)) : FnOk P w K mg base CX0 3 A.f_places_of A.d_places_of ["field", "locator", "size"] (sp_places_of K A) := by
  refine T.f_places_of.F.ok sc_places_of (fun vs H Q E h => by obtain ⟨_, _, _, _, rfl, _⟩ := h; rfl) (fun cdv Ar outer s H vs Q E hr h => ?_)
  obtain ⟨f, r, c, n, rfl, hF, hr', hby, hn, q⟩ := h
  refine ⟨_, (pss_cons (ps_set (i := 3) sc_places_of.nd rfl (Or.inr rfl) (pe_lstRev rfl (by rfl) T.b_list (by rfl) T.b_reversed (pv 1)))
    (pss_one (ps_ret (pe_lc (own := [("place", 4)]) (g := gName 4) (te := (tVar 4)) (tt := (tTest (tOp rEq (tMeth A.c_Field "value_at" (sp_Field_value_at K A) [] E0 (tVar 0) (tCons (tVar 3) (tCons (tMeth A.c_Field "power" (sp_Field_power K A) [] E0 (tVar 0) (tCons (tUn (rU fun i => .int (-i)) (tVar 4)) tNil)) tNil))) (tC (.int 0))))) rfl sc_places_of.nd (pi_range1 rfl T.b_range (pa_cons (pv 2) pa_nil)) (blkOk_by (own := [("place", 4)]) (N := ["field", "locator", "size", "highest_first", "place"]) (sc := defScope s_places_of) (by decide +kernel)) (fun _ _ _ _ _ => (pg_name (i := 4) sc_places_of.nd rfl (Or.inl rfl))) (fun _ _ _ _ _ => (pts_one (pt_cmpR op_eq (pe_meth (pv 0) T.c_Field.cl T.f_Field_value_at.m G_Field_value_at (hr.mono (by decide)) T.f_Field_value_at.b .nil pass0 (pa_cons (pv 3) (pa_cons (pe_meth (pv 0) T.c_Field.cl T.f_Field_power.m G_Field_power (hr.mono (by decide)) T.f_Field_power.b .nil pass0 (pa_cons (pe_un un_neg (pv 4)) pa_nil)) pa_nil))) pe_int (nomark _)))) (fun _ _ _ _ _ => (pv 4)))))), ?_⟩
  refine ⟨_, rfl, r, _, rfl, hr', fun o no => ?_⟩
  rw [nv_rev]
  have x1 := Ex.new (o := .lst (nv c.reverse)) no
  refine ⟨_, rfl, _, rfl, by omega, by omega, ?_⟩
  rw [Int.toNat_natCast]
  refine lc_rf (fun p => Fm11.at_ c (Fm11.inverse (Fm11.power p)) == 0) (by omega) (fun i H1 R hi e1 k => ?_) (fun p H' np e' h' => q p H' (fresh_back x1 np) (x1.trans e') h')
  have hF1 := hF.ex (x1.trans e1)
  have ho := e1 _ _ (show _ = some (HO.lst (nv c.reverse)) from upd_same (a := o))
  obtain ⟨dx, pp, lr, g1, g2, g3⟩ := id hF1
  have ei : (0 : Int) + (i : Int) = ((i : Nat) : Int) := Int.zero_add _
  rw [ei]
  refine ⟨rfl, _, rfl, _, _, _, rfl, g1, no_Field_value_at, _, rfl, _, rfl, _, _, _, rfl, g1, no_Field_power, _, rfl, _, rfl, f, _, rfl, hF1, ?_⟩
  rw [Gf.power_neg (by omega)]
  refine ⟨f, o, c.reverse, _, rfl, hF1, SqL.of ho, hby.reverse, Gf.inverse_lt (Gf.power_lt i), rfl, _, rfl, ?_⟩
  rw [dec_zero]
  exact k _ H1 (Ex.refl _) rfl (fun H3 S hS => ⟨_, rfl, hS⟩)
theorem ok_errors_of (T : Top K mg A) (G_Field_power : FnOk P w K mg base CX0 1 A.f_Field_power A.d_Field_power ["self", "exponent"] (sp_Field_power K A)) (G_Field_product : FnOk P w K mg base CX0 1 A.f_Field_product A.d_Field_product ["self", "a", "b"] (sp_Field_product K A)) (G_Field_quotient : FnOk P w K mg base CX0 1 A.f_Field_quotient A.d_Field_quotient ["self", "a", "b"] (sp_Field_quotient K A)) (G_Field_value_at : FnOk P w K mg base CX0 2 A.f_Field_value_at A.d_Field_value_at ["self", "row", "point"] (sp_Field_value_at K A)) (G_lack_at : FnOk P w K mg base CX0 2 A.f_lack_at A.d_lack_at ["field", "locator", "syndromes", "at"] (sp_lack_at K A)) : FnOk P w K mg base CX0 3 A.f_errors_of A.d_errors_of ["field", "locator", "syndromes", "places"] (sp_errors_of K A) := by
  refine T.f_errors_of.F.ok sc_errors_of (fun vs H Q E h => by obtain ⟨_, _, _, _, _, _, _, rfl, _⟩ := h; rfl) (fun cdv Ar outer s H vs Q E hr h => ?_)
  obtain ⟨f, r, t, u, c, s, ps, rfl, hF, hr', ht, hu, hbc, hbs, hc1, hc17, hs16, hps, hgood, q⟩ := h
  refine ⟨_, (pss_cons (ps_setLc (i := 4) (own := [("at", 10)]) (g := gName 10) (te := (tCall (sp_lack_at K A) [] E0 (tCons (tVar 0) (tCons (tSl (rSlL K) (tVar 1) tNoPart (tPart (tOp (rI0 fun i j => .int (i + j)) (tVar 10) (tC (.int 1))))) (tCons (tVar 2) (tCons (tVar 10) tNil)))))) (tt := tYes) rfl sc_errors_of.nd rfl rfl (sw_true rfl rfl rfl (by decide +kernel)) (pi_range1 rfl T.b_range (pa_cons (pe_op op_sub (pe_callB call_len_seq (by rfl) T.b_len PySem.boot_len (pa_cons (pv 1) pa_nil)) pe_int) pa_nil)) (blkOk_by (own := [("at", 10)]) (N := ["field", "locator", "syndromes", "places", "evaluator", "derivative", "errors", "place", "point", "ratio", "at", "i"]) (sc := defScope s_errors_of) (by decide +kernel)) (fun _ _ _ _ _ => (pg_name (i := 10) sc_errors_of.nd rfl (Or.inl rfl))) (fun _ _ _ _ _ => pts_nil) (fun _ _ _ _ _ => (pe_call G_lack_at (hr.mono (by decide)) rfl T.f_lack_at.g T.f_lack_at.F.kp T.f_lack_at.b .nil pass0 (pa_cons (pv 0) (pa_cons (pe_slice sl_list (pv 1) po_none (po_some (pe_op op_add (pv 10) pe_int))) (pa_cons (pv 2) (pa_cons (pv 10) pa_nil)))))))
    (pss_cons (ps_setLc (i := 5) (own := [("i", 11)]) (g := gName 11) (te := (tIf (tTest (tOp rEq (tOp (rI (fun _ j => 0 < j) fun i j => .int (i % j)) (tVar 11) (tC (.int 2))) (tC (.int 1)))) (tOp (rIxL K) (tVar 1) (tVar 11)) (tC (.int 0)))) (tt := tYes) rfl sc_errors_of.nd rfl rfl (sw_true rfl rfl rfl (by decide +kernel)) (pi_range2 rfl T.b_range (pa_cons pe_int (pa_cons (pe_callB call_len_seq (by rfl) T.b_len PySem.boot_len (pa_cons (pv 1) pa_nil)) pa_nil))) (blkOk_by (own := [("i", 11)]) (N := ["field", "locator", "syndromes", "places", "evaluator", "derivative", "errors", "place", "point", "ratio", "at", "i"]) (sc := defScope s_errors_of) (by decide +kernel)) (fun _ _ _ _ _ => (pg_name (i := 11) sc_errors_of.nd rfl (Or.inl rfl))) (fun _ _ _ _ _ => pts_nil) (fun _ _ _ _ _ => (pe_ifExp (pt_cmpR op_eq (pe_op op_mod (pv 11) pe_int) pe_int (nomark _)) (pe_ix ix_list (pv 1) (pv 11) (fun _ _ => rfl)) pe_int)))
    (pss_cons (ps_set (i := 4) sc_errors_of.nd rfl (Or.inl rfl) (pe_lstRev rfl (by rfl) T.b_list (by rfl) T.b_reversed (pv 4)))
    (pss_cons (ps_set (i := 5) sc_errors_of.nd rfl (Or.inl rfl) (pe_lstRev rfl (by rfl) T.b_list (by rfl) T.b_reversed (pv 5)))
    (pss_cons (ps_set (i := 6) sc_errors_of.nd rfl (Or.inl rfl) (pe_lst pa_nil))
    (pss_cons (ps_for PassesOwn.never rfl (pi_list (pv 3)) (pg_name (i := 7) sc_errors_of.nd rfl (Or.inl rfl))
    (pss_cons (ps_set (i := 8) sc_errors_of.nd rfl (Or.inl rfl) (pe_meth (pv 0) T.c_Field.cl T.f_Field_power.m G_Field_power (hr.mono (by decide)) T.f_Field_power.b .nil pass0 (pa_cons (pe_un un_neg (pv 7)) pa_nil)))
    (pss_cons (ps_set (i := 9) sc_errors_of.nd rfl (Or.inl rfl) (pe_meth (pv 0) T.c_Field.cl T.f_Field_quotient.m G_Field_quotient (hr.mono (by decide)) T.f_Field_quotient.b .nil pass0 (pa_cons (pe_meth (pv 0) T.c_Field.cl T.f_Field_value_at.m G_Field_value_at (hr.mono (by decide)) T.f_Field_value_at.b .nil pass0 (pa_cons (pv 4) (pa_cons (pv 8) pa_nil))) (pa_cons (pe_meth (pv 0) T.c_Field.cl T.f_Field_value_at.m G_Field_value_at (hr.mono (by decide)) T.f_Field_value_at.b .nil pass0 (pa_cons (pv 5) (pa_cons (pv 8) pa_nil))) pa_nil))))
    (pss_one (ps_expr (pe_bm PySem.F.plainAttrs_list PySem.F.slot_list_append PySem.F.type_list_append mt_append (pv 6) (pa_cons (pe_meth (pv 0) T.c_Field.cl T.f_Field_product.m G_Field_product (hr.mono (by decide)) T.f_Field_product.b .nil pass0 (pa_cons (pe_meth (pv 0) T.c_Field.cl T.f_Field_power.m G_Field_power (hr.mono (by decide)) T.f_Field_power.b .nil pass0 (pa_cons (pv 7) pa_nil)) (pa_cons (pv 9) pa_nil))) pa_nil)))))))
    (pss_one (ps_ret (pv 6))))))))), ?_⟩
  refine ⟨_, rfl, r, _, rfl, .inl hr', _, _, rfl, rfl, _, rfl, by rw [nv_length]; omega, by rw [nv_length]; omega, ?_⟩
  have e1 : (((nv c).length : Int) - 1).toNat = c.length - 1 := by rw [nv_length]; omega
  rw [e1]
  refine lc_rg (lo := 0) (n := c.length - 1) (fun k => Gf.lack (c.take (k + 1)) s k) (by omega) (fun i H1 R hi x1 k => ?_) (fun ev H1 nev x1 hev => ?_)
  · have ei : (0 : Int) + (i : Int) = ((i : Nat) : Int) := Int.zero_add _
    rw [ei]
    refine ⟨rfl, _, rfl, _, rfl, _, rfl, _, _, rfl, rfl, _, rfl, r, _, rfl, ex_l x1 hr', fun p np => ?_⟩
    have ec : cutV (nv c) none (some ((i : Int) + 1)) = nv (c.take (i + 1)) := by
      rw [← cut_to]
      rfl
    rw [ec]
    have x2 := x1.trans (Ex.new (o := .lst (nv (c.take (i + 1)))) np)
    refine ⟨_, rfl, _, rfl, f, p, t, c.take (i + 1), s, i, rfl, hF.ex x2, SqL.of upd_same, ex_l x2 ht, hbc.take _, hbs, by rw [List.length_take]; omega, by omega, by rw [List.length_take]; omega, k _ (Ex.new np)⟩
  have hevv : H1 ev = some (.lst (nv (Gf.evOf c s))) := hev
  refine ⟨_, rfl, r, _, rfl, .inl (ex_l x1 hr'), _, _, rfl, ⟨by decide, by decide, by rw [nv_length]; omega, by rw [nv_length]; omega⟩, ?_⟩
  have e2 : (((nv c).length : Int) - 1).toNat = c.length - 1 := e1
  rw [e2]
  refine lc_rg (lo := 1) (n := c.length - 1) (fun i => if (1 + i) % 2 = 1 then c.getD (1 + i) 0 else 0) (by omega) (fun i H2 R hi x2 k => ?_) (fun dv H2 ndv x2 hdv => ?_)
  · have ei : (1 : Int) + (i : Int) = ((1 + i : Nat) : Int) := by omega
    rw [ei]
    have k' := k H2 (Ex.refl _)
    refine ⟨rfl, _, rfl, _, _, rfl, rfl, by show (0 : Int) < 2; decide, rfl, _, rfl, ite2 (fun z => ?_) (fun z => ?_)⟩
    · have hz : (1 + i) % 2 = 1 := by have := V.int.inj (of_decide_eq_true z); omega
      rw [if_pos hz] at k'
      exact ⟨_, rfl, _, rfl, r, _, _, _, rfl, rfl, ex_l (x1.trans x2) hr', atI_nv rfl (by omega), k'⟩
    · have hz : ¬ (1 + i) % 2 = 1 := fun y => z (decide_eq_true (by show V.int _ = V.int 1; congr 1; omega))
      rw [if_neg hz] at k'
      exact k'
  rw [Gf.slope_list] at hdv
  have x3 := x1.trans x2
  refine ⟨_, rfl, ev, _, rfl, SqL.of (x2 _ _ hevv), fun er ner => ?_⟩
  rw [nv_rev]
  have x4 := x3.trans (Ex.new (o := .lst (nv (Gf.evOf c s).reverse)) ner)
  refine ⟨_, rfl, dv, _, rfl, SqL.of ((Ex.new ner) _ _ hdv), fun dr ndr => ?_⟩
  rw [nv_rev]
  have x5 := x4.trans (Ex.new (o := .lst (nv (Fm11.slope c).reverse)) ndr)
  refine ⟨by decide, fun o no => ?_⟩
  have x6 := x5.trans (Ex.new (o := .lst []) no)
  have her := (Ex.new (o := .lst []) no) _ _ ((Ex.new (o := .lst (nv (Fm11.slope c).reverse)) ndr) _ _ (show _ = some (HO.lst (nv (Gf.evOf c s).reverse)) from upd_same (a := er)))
  have hdr := (Ex.new (o := .lst []) no) _ _ (show _ = some (HO.lst (nv (Fm11.slope c).reverse)) from upd_same (a := dr))
  have no' : H o = none := fresh_back x5 no
  have oer : er ≠ o := ne_of_none ((Ex.new (o := .lst (nv (Fm11.slope c).reverse)) ndr) _ _ (show _ = some (HO.lst (nv (Gf.evOf c s).reverse)) from upd_same (a := er) (H := H2))) no
  have odr : dr ≠ o := ne_of_none (show _ = some (HO.lst (nv (Fm11.slope c).reverse)) from upd_same (a := dr)) no
  generalize hH6 : upd (upd (upd H2 er (.lst (nv (Gf.evOf c s).reverse))) dr (.lst (nv (Fm11.slope c).reverse))) o (.lst []) = H6 at x6 her hdr
  have ho6 : H6 o = some (.lst []) := by rw [← hH6]; exact upd_same
  refine ⟨_, rfl, u, rfl, ⟨_, ex_l x6 hu⟩, for_list (K := K) (a := u) (xs := nv ps) (fun i σ H' => ∃ v7 v8 v9 : Option V, σ = [some (.ref f), some (.ref r), some (.ref t), some (.ref u), some (.ref er), some (.ref dr), some (.ref o), v7, v8, v9, none, none] ∧
    Ex H H' ∧ H' er = some (.lst (nv (Gf.evOf c s).reverse)) ∧ H' dr = some (.lst (nv (Fm11.slope c).reverse)) ∧ H' o = some (.lst (nv ((ps.take i).map (Gf.errP c s))))) ⟨none, none, none, rfl, x6, her, hdr, ho6⟩ (fun i σ H' _ ⟨_, _, _, _, e, _⟩ => ex_l e hu) ?_ ?_⟩
  · rintro i y σ H' hi ⟨v7, v8, v9, rfl, e0, hE, hD, hO⟩
    obtain ⟨p, hp, rfl⟩ := nv_of hi
    obtain ⟨hp255, hg1, hg2⟩ := hgood p (List.mem_of_getElem? hp)
    have hF0 := hF.ex e0
    obtain ⟨dx, pp, lr, g1, g2, g3⟩ := id hF0
    have hx := Gf.inverse_lt (Gf.power_lt p)
    have hbE := Gf.ev_by (s := s) hbc
    have hbD := Gf.slope_by hbc
    refine ⟨_, rfl, _, _, _, rfl, g1, no_Field_power, _, rfl, _, rfl, f, _, rfl, hF0, ?_⟩
    rw [Gf.power_neg hp255]
    refine ⟨_, rfl, _, _, _, rfl, g1, no_Field_quotient, _, rfl, _, _, _, rfl, g1, no_Field_value_at, _, rfl, _, rfl, f, er, _, _, rfl, hF0, SqL.of hE, hbE.reverse, hx, ?_⟩
    refine ⟨_, rfl, _, _, _, rfl, g1, no_Field_value_at, _, rfl, _, rfl, f, dr, _, _, rfl, hF0, SqL.of hD, hbD.reverse, hx, ?_⟩
    refine ⟨f, _, _, rfl, hF0, Gf.worth_byte _ hbE.reverse, Gf.worth_byte _ hbD.reverse, hg1, hg2, ?_⟩
    refine ⟨_, rfl, .inl ⟨rfl, _, SqL.of hO⟩, _, rfl, _, _, _, rfl, g1, no_Field_product, _, rfl, _, _, _, rfl, g1, no_Field_power, _, rfl, f, _, rfl, hF0, ?_⟩
    have ep : ((p : Int) % 255).toNat = p := by omega
    rw [ep]
    refine ⟨_, rfl, f, _, _, rfl, hF0, Gf.power_lt p, Gf.times_lt _ (Gf.worth_byte _ hbE.reverse), o, _, _, rfl, rfl, hO, by rw [nv_length, List.length_map, List.length_take]; exact sz_lt (by omega), ?_⟩
    refine ⟨_, _, _, rfl, Ex.mut e0 no', by rw [upd_ne oer]; exact hE, by rw [upd_ne odr]; exact hD, ?_⟩
    rw [upd_same, List.take_add_one, hp, List.map_append, nv_append]
    rfl
  · rintro σ H' ⟨v7, v8, v9, rfl, e0, hE, hD, hO⟩
    rw [nv_length, List.take_length] at hO
    exact ⟨_, rfl, q o H' no' e0 hO⟩
theorem ok_Code_syndromes_of (T : Top K mg A) (G_Code_parity_of : FnOk P w K mg base CX0 2 A.f_Code_parity_of A.d_Code_parity_of ["self", "row"] (sp_Code_parity_of K A)) (G_Field_power : FnOk P w K mg base CX0 1 A.f_Field_power A.d_Field_power ["self", "exponent"] (sp_Field_power K A)) (G_Field_value_at : FnOk P w K mg base CX0 2 A.f_Field_value_at A.d_Field_value_at ["self", "row", "point"] (sp_Field_value_at K A)) (G_added : FnOk P w K mg base CX0 1 A.f_added A.d_added ["a", "b"] (sp_added K A)) : FnOk P w K mg base CX0 3 A.f_Code_syndromes_of A.d_Code_syndromes_of ["self", "row"] (sp_Code_syndromes_of K A) := by
  refine T.f_Code_syndromes_of.F.ok sc_Code_syndromes_of (fun vs H Q E h => by obtain ⟨_, _, _, rfl, _⟩ := h; rfl) (fun cdv Ar outer s H vs Q E hr h => ?_)
  obtain ⟨c, r, b, rfl, hC, hr', hby, h16, hz, q⟩ := h
  refine ⟨_, (pss_cons (ps_set (i := 2) sc_Code_syndromes_of.nd rfl (Or.inl rfl) (pe_op op_sub (pe_callB call_len_seq (by rfl) T.b_len PySem.boot_len (pa_cons (pv 1) pa_nil)) (pe_glob (v := .int 16) rfl T.g_PARITY ⟨_, rfl⟩)))
    (pss_cons (ps_set (i := 3) sc_Code_syndromes_of.nd rfl (Or.inr rfl) (pe_call G_added (hr.mono (by decide)) rfl T.f_added.g T.f_added.F.kp T.f_added.b .nil pass0 (pa_cons (pe_meth (pv 0) T.c_Code.cl T.f_Code_parity_of.m G_Code_parity_of (hr.mono (by decide)) T.f_Code_parity_of.b .nil pass0 (pa_cons (pe_slice sl_list (pv 1) po_none (po_some (pv 2))) pa_nil)) (pa_cons (pe_slice sl_list (pv 1) (po_some (pv 2)) po_none) pa_nil))))
    (pss_one (ps_ret (pe_lc (own := [("exponent", 4)]) (g := gName 4) (te := (tMeth A.c_Field "value_at" (sp_Field_value_at K A) [] E0 (tFld K (tVar 0) "field") (tCons (tVar 3) (tCons (tMeth A.c_Field "power" (sp_Field_power K A) [] E0 (tFld K (tVar 0) "field") (tCons (tVar 4) tNil)) tNil)))) (tt := tYes) rfl sc_Code_syndromes_of.nd (pi_range1 rfl T.b_range (pa_cons (pe_glob (v := .int 16) rfl T.g_PARITY ⟨_, rfl⟩) pa_nil)) (blkOk_by (own := [("exponent", 4)]) (N := ["self", "row", "front", "difference", "exponent"]) (sc := defScope s_Code_syndromes_of) (by decide +kernel)) (fun _ _ _ _ _ => (pg_name (i := 4) sc_Code_syndromes_of.nd rfl (Or.inl rfl))) (fun _ _ _ _ _ => pts_nil) (fun _ _ _ _ _ => (pe_meth (pe_fld (pv 0) rfl) T.c_Field.cl T.f_Field_value_at.m G_Field_value_at (hr.mono (by decide)) T.f_Field_value_at.b .nil pass0 (pa_cons (pv 3) (pa_cons (pe_meth (pe_fld (pv 0) rfl) T.c_Field.cl T.f_Field_power.m G_Field_power (hr.mono (by decide)) T.f_Field_power.b .nil pass0 (pa_cons (pv 4) pa_nil)) pa_nil))))))))), ?_⟩
  refine ⟨_, rfl, r, _, rfl, .inl hr', _, _, rfl, rfl, ?_⟩
  have e1 : (((nv b).length : Int) - 16) = ((b.length - 16 : Nat) : Int) := by rw [nv_length]; omega
  obtain ⟨dx, fa, dv, g1, g2, g3⟩ := id hC
  refine ⟨_, rfl, _, _, _, rfl, g1, no_Code_parity_of, _, rfl, _, rfl, _, rfl, r, _, rfl, hr', fun p1 n1 => ?_⟩
  rw [e1, cut_to]
  have x1 := Ex.new (o := .lst (nv (b.take (b.length - 16)))) n1
  refine ⟨c, p1, b.take (b.length - 16), rfl, hC.ex x1, SqL.of upd_same, hby.take _, fun p2 H2 n2 x2 h2 => ?_⟩
  have x3 := x1.trans x2
  refine ⟨_, rfl, _, rfl, _, rfl, r, _, rfl, ex_l x3 hr', fun p3 n3 => ?_⟩
  rw [e1, cut_from]
  have x4 := Ex.new (o := .lst (nv (b.drop (b.length - 16)))) n3
  have hpl := Gf.parity_length (hby.take (b.length - 16))
  refine ⟨p2, p3, _, _, rfl, SqL.of (x4 _ _ h2), SqL.of upd_same, by rw [hpl, List.length_drop]; omega, by rw [hpl]; decide, fun p5 H5 n5 x5 h5 => ?_⟩
  have x6 : Ex H H5 := (x3.trans x4).trans x5
  refine ⟨_, rfl, by show (-(2 ^ 62) : Int) ≤ 16; decide, by show (16 : Int) < 2 ^ 62; decide, ?_⟩
  refine lc_rg (lo := 0) (n := 16) (fun j => Fm11.worth (Gf.addl (Fm11.parity (b.take (b.length - 16))) (b.drop (b.length - 16))) (Fm11.power j)) (by decide) (fun i H7 R hi x7 k => ?_) (fun p H' np e' h' => ?_)
  · obtain ⟨dx', fa', dv', g1', g2', g3'⟩ := id (hC.ex (x6.trans x7))
    obtain ⟨dxf, pp, lr, m1, m2, m3⟩ := id g2'
    have ei : (0 : Int) + (i : Int) = ((i : Nat) : Int) := Int.zero_add _
    rw [ei]
    refine ⟨rfl, _, rfl, _, _, _, _, _, rfl, g1', T.c_Code.cl, T.c_Code.n_field, lk_Code_field, _, _, _, rfl, m1, no_Field_value_at, _, rfl, _, rfl, _, _, _, _, _, rfl, g1', T.c_Code.cl, T.c_Code.n_field, lk_Code_field, _, _, _, rfl, m1, no_Field_power, _, rfl, fa', _, rfl, g2', ?_⟩
    have ep : ((i : Int) % 255).toNat = i := by omega
    rw [ep]
    exact ⟨fa', p5, _, _, rfl, g2', SqL.of (x7 _ _ h5), Gf.addl_by (Gf.parity_by (hby.take _)) (hby.drop _), Gf.power_lt i, k _ (Ex.refl _)⟩
  · refine q p H' (fresh_back x6 np) (x6.trans e') ?_
    rw [h', Gf.syndromes_diff hby h16]
end
end Sl
/-! ## D7 -/
set_option Elab.async false
set_option linter.all false
set_option maxRecDepth 100000
set_option maxHeartbeats 4000000
namespace Sl
open PySem PySem.Spec PyProof.Rows L2 Evl
section
variable {P : Program} {w : World} {K : PySem.W.Frag} {mg : Str → Option Value} {base : Heap} {A : Adr}
theorem nodup_take {l : List Nat} {i p : Nat} (hd : l.Nodup) (h : l[i]? = some p) : p ∉ l.take i := by
  intro hm
  obtain ⟨j, hj, e⟩ := List.getElem_of_mem hm
  rw [List.length_take] at hj
  rw [List.getElem_take] at e
  obtain ⟨hi, e2⟩ := List.getElem?_eq_some_iff.mp h
  exact (List.pairwise_iff_getElem.mp hd) j i (by omega) hi (by omega) (e.trans e2.symm)
theorem ok_Code_mend_row (T : Top K mg A) (G_Code_syndromes_of : FnOk P w K mg base CX0 3 A.f_Code_syndromes_of A.d_Code_syndromes_of ["self", "row"] (sp_Code_syndromes_of K A)) (G_errors_of : FnOk P w K mg base CX0 3 A.f_errors_of A.d_errors_of ["field", "locator", "syndromes", "places"] (sp_errors_of K A)) (G_locator_of : FnOk P w K mg base CX0 3 A.f_locator_of A.d_locator_of ["field", "syndromes"] (sp_locator_of K A)) (G_places_of : FnOk P w K mg base CX0 3 A.f_places_of A.d_places_of ["field", "locator", "size"] (sp_places_of K A)) : FnOk P w K mg base CX0 4 A.f_Code_mend_row A.d_Code_mend_row ["self", "row"] (sp_Code_mend_row K A) := by
  refine T.f_Code_mend_row.F.ok sc_Code_mend_row (fun vs H Q E h => by obtain ⟨_, _, _, rfl, _⟩ := h; rfl) (fun cdv Ar outer s H vs Q E hr h => ?_)
  obtain ⟨c, r, b, rfl, hC, hr', hby, h16, h255, qn, qs⟩ := h
  refine ⟨_, (pss_cons (ps_set (i := 2) sc_Code_mend_row.nd rfl (Or.inl rfl) (pe_meth (pv 0) T.c_Code.cl T.f_Code_syndromes_of.m G_Code_syndromes_of (hr.mono (by decide)) T.f_Code_syndromes_of.b .nil pass0 (pa_cons (pv 1) pa_nil)))
    (pss_cons (ps_set (i := 3) sc_Code_mend_row.nd rfl (Or.inl rfl) (pe_call G_locator_of (hr.mono (by decide)) rfl T.f_locator_of.g T.f_locator_of.F.kp T.f_locator_of.b .nil pass0 (pa_cons (pe_fld (pv 0) rfl) (pa_cons (pv 2) pa_nil))))
    (pss_cons (ps_set (i := 4) sc_Code_mend_row.nd rfl (Or.inl rfl) (pe_ix ix_tup (pv 3) pe_int (fun _ _ => rfl)))
    (pss_cons (ps_set (i := 5) sc_Code_mend_row.nd rfl (Or.inl rfl) (pe_ix ix_tup (pv 3) pe_int (fun _ _ => rfl)))
    (pss_cons (ps_if (pt_cmpR op_gt (pv 4) (pe_glob (v := .int 8) rfl T.g_PLACES ⟨_, rfl⟩) (nomark _)) (pss_one (ps_ret pe_non)) pss_nil)
    (pss_cons (ps_set (i := 6) sc_Code_mend_row.nd rfl (Or.inl rfl) (pe_call G_places_of (hr.mono (by decide)) rfl T.f_places_of.g T.f_places_of.F.kp T.f_places_of.b .nil pass0 (pa_cons (pe_fld (pv 0) rfl) (pa_cons (pv 5) (pa_cons (pe_callB call_len_seq (by rfl) T.b_len PySem.boot_len (pa_cons (pv 1) pa_nil)) pa_nil)))))
    (pss_cons (ps_if (pt_cmpR op_ne (pe_callB call_len_seq (by rfl) T.b_len PySem.boot_len (pa_cons (pv 6) pa_nil)) (pv 4) (nomark _)) (pss_one (ps_ret pe_non)) pss_nil)
    (pss_cons (ps_set (i := 7) sc_Code_mend_row.nd rfl (Or.inl rfl) (pe_callTy call_list_of (by rfl) T.b_list (by decide +kernel) (pa_cons (pv 1) pa_nil)))
    (pss_cons (ps_set (i := 8) sc_Code_mend_row.nd rfl (Or.inl rfl) (pe_call G_errors_of (hr.mono (by decide)) rfl T.f_errors_of.g T.f_errors_of.F.kp T.f_errors_of.b .nil pass0 (pa_cons (pe_fld (pv 0) rfl) (pa_cons (pv 5) (pa_cons (pv 2) (pa_cons (pv 6) pa_nil))))))
    (pss_cons (ps_for PassesOwn.never rfl (pi_zip (by rfl) T.b_zip (pa_cons (pv 6) (pa_cons (pv 8) pa_nil))) (pg_tup rfl (pgs_cons (pg_name (i := 9) sc_Code_mend_row.nd rfl (Or.inl rfl)) (pgs_cons (pg_name (i := 10) sc_Code_mend_row.nd rfl (Or.inl rfl)) pgs_nil)))
    (pss_one (ps_asg (pe_op op_xor (pe_ix ix_list (pv 7) (pe_op op_sub (pe_op op_sub (pe_callB call_len_seq (by rfl) T.b_len PySem.boot_len (pa_cons (pv 1) pa_nil)) pe_int) (pv 9)) (fun _ _ => rfl)) (pv 10)) (pg_sub (pv 7) (pe_op op_sub (pe_op op_sub (pe_callB call_len_seq (by rfl) T.b_len PySem.boot_len (pa_cons (pv 1) pa_nil)) pe_int) (pv 9)) set_list))))
    (pss_one (ps_ret (pe_tup (pa_cons (pv 4) (pa_cons (pv 7) pa_nil))))))))))))))), ?_⟩
  obtain ⟨dx, fa, dv, g1, g2, g3⟩ := id hC
  refine ⟨_, rfl, _, _, _, rfl, g1, no_Code_syndromes_of, _, rfl, c, r, b, rfl, hC, hr', hby, h16, by omega, fun sy H1 n1 x1 h1 => ?_⟩
  have hC1 := hC.ex x1
  obtain ⟨dx1, fa1, dv1, k1, k2, k3⟩ := id hC1
  have hbs := Gf.syndromes_by hby
  have hs16 := Gf.syndromes_length b
  refine ⟨_, rfl, _, _, _, _, _, rfl, k1, T.c_Code.cl, T.c_Code.n_field, lk_Code_field, _, rfl, fa1, sy, _, rfl, k2, SqL.of h1, hbs, hs16, fun fo H2 ⟨lo, n2, nl, x2, h2, hl⟩ => ?_⟩
  have hst := Gf.locator_St hbs
  rw [hs16] at hst
  rw [Gf.mend_P hby h255] at qn qs
  generalize hc : (Fm11.locator (Fm11.syndromes b)).1 = cc at hst hl qn qs
  generalize hll : (Fm11.locator (Fm11.syndromes b)).2 = l at hst h2 qn qs
  obtain ⟨b', m', d', st⟩ := hst
  have hcb := st.cb
  have hcn := st.cn
  have hc1 := st.c1
  have x12 := x1.trans x2
  refine ⟨_, rfl, fo, _, _, _, rfl, rfl, SqT.of h2, atI_nat (j := 0) rfl, ?_⟩
  refine ⟨_, rfl, fo, _, _, _, rfl, rfl, SqT.of h2, atI_nat (j := 1) rfl, ?_⟩
  refine ⟨_, rfl, _, _, rfl, rfl, _, rfl, ite2 (fun z => ?_) (fun z => ?_)⟩
  · have hz : 8 < l := by have := of_decide_eq_true z; omega
    rw [if_pos hz] at qn
    exact qn rfl H2 x12
  have hz : ¬ 8 < l := fun y => z (decide_eq_true (by omega))
  rw [if_neg hz] at qn qs
  obtain ⟨dx2, fa2, dv2, t1, t2, t3⟩ := id (hC1.ex x2)
  refine ⟨_, rfl, _, _, _, _, _, rfl, t1, T.c_Code.cl, T.c_Code.n_field, lk_Code_field, _, rfl, _, rfl, r, _, rfl, .inl (ex_l x12 hr'), fa2, lo, cc, b.length, by rw [nv_length]; rfl, t2, SqL.of hl, hcb, h255, fun pl H3 n3 x3 h3 => ?_⟩
  have x123 := x12.trans x3
  refine ⟨_, rfl, pl, _, rfl, .inl (SqL.of h3), _, rfl, rfl, _, rfl, ite2 (fun z2 => ?_) (fun z2 => ?_)⟩
  · have hz2 : (Gf.placesP cc b.length).length ≠ l := fun e => by
      rw [nv_length, e] at z2
      simp at z2
    rw [if_pos hz2] at qn
    exact qn rfl H3 x123
  have hp : (Gf.placesP cc b.length).length = l := by
    by_cases e : (Gf.placesP cc b.length).length = l
    · exact e
    · exfalso
      apply z2
      rw [nv_length]
      simp
      omega
  rw [if_neg (fun y => y hp)] at qs
  have hplen : (Gf.placesP cc b.length).length ≤ 255 := by omega
  refine ⟨_, rfl, r, _, rfl, .inl (ex_l x123 hr'), fun rt nrt => ?_⟩
  have x4 := x123.trans (Ex.new (o := .lst (nv b)) nrt)
  have y4 := x3.trans (Ex.new (o := .lst (nv b)) nrt)
  have h3' := (Ex.new (o := .lst (nv b)) nrt) _ _ h3
  have nrt' : H rt = none := fresh_back x123 nrt
  have plrt : pl ≠ rt := ne_of_none h3 nrt
  generalize hHr : upd H3 rt (.lst (nv b)) = H4 at x4 y4 h3'
  have hrt4 : H4 rt = some (.lst (nv b)) := by rw [← hHr]; exact upd_same
  obtain ⟨dx4, fa4, dv4, u1, u2, u3⟩ := id (hC.ex x4)
  have hl4 := y4 _ _ hl
  have h14 := (x2.trans y4) _ _ h1
  refine ⟨_, rfl, _, _, _, _, _, rfl, u1, T.c_Code.cl, T.c_Code.n_field, lk_Code_field, _, rfl, _, rfl, _, rfl, fa4, lo, sy, pl, cc, _, _, rfl, u2, SqL.of hl4, SqL.of h14, SqL.of h3', hcb, hbs, hc1, by omega, hs16, by omega, fun p hpm => ?_, fun er H5 n5 x5 h5 => ?_⟩
  · have := Gf.at_place hbs h255 st hp hpm
    exact ⟨by have := (Gf.placesP_mem.mp hpm).1; omega, this.1, this.2.1⟩
  have errt : er ≠ rt := (ne_of_none hrt4 n5).symm
  have hpl5 := x5 _ _ h3'
  have hrt5 := x5 _ _ hrt4
  have x45 := x4.trans x5
  have nd := Gf.placesP_nodup cc b.length
  generalize hps : Gf.placesP cc b.length = ps at *
  have hmem : ∀ p ∈ ps, p < b.length := fun p hpm => by rw [← hps] at hpm; exact (Gf.placesP_mem.mp hpm).1
  refine ⟨_, rfl, _, rfl, pl, er, _, _, rfl, SqL.of hpl5, SqL.of h5, RZ.for_zipL (K := K) (by rw [nv_length, nv_length, List.length_map]) (fun i σ H' => ∃ v9 v10 : Option V, σ = [some (.ref c), some (.ref r), some (.ref sy), some (.ref fo), some (.int (l : Int)), some (.ref lo), some (.ref pl), some (.ref rt), some (.ref er), v9, v10] ∧
    Ex H H' ∧ H' pl = some (.lst (nv ps)) ∧ H' er = some (.lst (nv (ps.map (Gf.errP cc (Fm11.syndromes b))))) ∧ H' rt = some (.lst (nv (Gf.fixAt b cc (Fm11.syndromes b) (ps.take i))))) ⟨none, none, rfl, x45, hpl5, h5, by rw [List.take_zero, Gf.fixAt_nil]; exact hrt5⟩ (fun i σ H' ⟨_, _, _, _, e1, e2, _⟩ => ⟨SqL.of e1, SqL.of e2⟩) ?_ ?_⟩
  · rintro i x y t σ H' hx hy ⟨v9, v10, rfl, e0, e1, e2, e3⟩ nt
    obtain ⟨p, hp', rfl⟩ := nv_of hx
    obtain ⟨e, he, rfl⟩ := nv_of hy
    have hpb : p < b.length := hmem p (List.mem_of_getElem? hp')
    rw [List.getElem?_map, hp'] at he
    have he' : Gf.errP cc (Fm11.syndromes b) p = e := Option.some.inj he
    have xt := Ex.new (o := .tup [.int (p : Int), .int (e : Int)]) nt
    have e0' := e0.trans xt
    have hR := ex_l e0' hr'
    have i1 : (((nv b).length : Int) - 1 - (p : Int)) = ((b.length - 1 - p : Nat) : Int) := by rw [nv_length]; omega
    have hfl := Gf.fixAt_length b cc (Fm11.syndromes b) (ps.take i)
    have e3' := xt _ _ e3
    refine ⟨t, _, rfl, SqT.of upd_same, rfl, _, _, rfl, _, _, rfl, rfl, ?_⟩
    refine ⟨_, rfl, _, rfl, r, _, rfl, .inl hR, _, _, rfl, rfl, _, rfl, _, _, rfl, rfl, rt, _, _, _, rfl, rfl, SqL.of e3', atI_nv (i := b.length - 1 - p) i1 (by omega), _, rfl, _, _, rfl, rfl, ?_⟩
    refine ⟨_, rfl, _, rfl, r, _, rfl, .inl hR, _, _, rfl, rfl, _, rfl, _, _, rfl, rfl, rt, _, _, b.length - 1 - p, rfl, rfl, e3', by rw [i1]; exact ixN_nat (by rw [nv_length]; omega), ?_⟩
    refine ⟨_, _, rfl, Ex.mut e0' nrt', ?_, ?_, ?_⟩
    · rw [upd_ne plrt]
      exact xt _ _ e1
    · rw [upd_ne errt]
      exact xt _ _ e2
    · rw [upd_same, List.take_add_one, hp']
      show some (HO.lst ((nv (Gf.fixAt b cc (Fm11.syndromes b) (ps.take i))).set (b.length - 1 - p) (.int (Builtin.bitXor ((Gf.fixAt b cc (Fm11.syndromes b) (ps.take i)).getD (b.length - 1 - p) 0 : Nat) (e : Nat))))) = _
      have := Gf.fixAt_more (b := b) (c := cc) (s := Fm11.syndromes b) (ps := ps.take i) hpb (nodup_take nd hp')
      rw [he'] at this
      rw [xor_cast]
      unfold nv
      rw [← List.map_set, this]
      rfl
  · rintro σ H' ⟨v9, v10, rfl, e0, e1, e2, e3⟩
    rw [nv_length, List.take_length] at e3
    refine ⟨_, rfl, _, rfl, by show 2 ≤ sizeLine; decide, fun p np => qs _ _ rfl p _ ⟨rt, fresh_back e0 np, nrt', e0.trans (Ex.new np), upd_same, ?_⟩⟩
    exact (Ex.new np) _ _ e3
end
end Sl
/-! ## D8 -/
set_option Elab.async false
set_option linter.all false
set_option maxRecDepth 100000
set_option maxHeartbeats 4000000
namespace Sl
open PySem PySem.Spec PyProof.Rows L2 Evl
section
variable {P : Program} {w : World} {K : PySem.W.Frag} {mg : Str → Option Value} {base : Heap} {A : Adr}
theorem ok_crc_of (T : Top K mg A) : FnOk P w K mg base CX0 1 A.f_crc_of A.d_crc_of ["octets"] (sp_crc_of K A) := by
  refine T.f_crc_of.F.ok sc_crc_of (fun vs H Q E h => by obtain ⟨_, _, rfl, _⟩ := h; rfl) (fun cdv Ar outer s H vs Q E hr h => ?_)
  obtain ⟨r, l, rfl, hr', hby, q⟩ := h
  refine ⟨_, (pss_cons (ps_set (i := 1) sc_crc_of.nd rfl (Or.inl rfl) (pe_glob (v := .int 4294967295) rfl T.g_ONES ⟨_, rfl⟩))
    (pss_cons (ps_for PassesOwn.never rfl (pi_list (pv 0)) (pg_name (i := 2) sc_crc_of.nd rfl (Or.inl rfl))
    (pss_cons (ps_set (i := 1) sc_crc_of.nd rfl (Or.inl rfl) (pe_op op_xor (pv 1) (pv 2)))
    (pss_one (ps_for PassesOwn.never rfl (pi_range1 rfl T.b_range (pa_cons pe_int pa_nil)) (pg_name (i := 3) sc_crc_of.nd rfl (Or.inl rfl))
    (pss_one (ps_if (pt_cmpR op_eq (pe_op op_mod (pv 1) pe_int) pe_int (nomark _)) (pss_one (ps_set (i := 1) sc_crc_of.nd rfl (Or.inl rfl) (pe_op op_xor (pe_op op_fdiv (pv 1) pe_int) (pe_glob (v := .int 2197175160) rfl T.g_FEEDBACK ⟨_, rfl⟩)))) (pss_one (ps_set (i := 1) sc_crc_of.nd rfl (Or.inl rfl) (pe_op op_fdiv (pv 1) pe_int)))))))))
    (pss_one (ps_ret (pe_op op_xor (pv 1) (pe_glob (v := .int 4294967295) rfl T.g_ONES ⟨_, rfl⟩)))))), ?_⟩
  refine ⟨_, rfl, r, rfl, ⟨_, hr'⟩, for_list (K := K) (a := r) (xs := nv l) (fun i σ H' => H' = H ∧ ∃ v2 v3 : Option V, σ = [some (.ref r), some (.int (Gf.crcRaw (l.take i) : Nat)), v2, v3]) ⟨rfl, none, none, rfl⟩ (fun i σ H' _ hp => by rw [hp.1]; exact hr') ?_ ?_⟩
  · rintro i y σ H' hi ⟨rfl, v2, v3, rfl⟩
    obtain ⟨x, hx, rfl⟩ := nv_of hi
    have hc := Gf.crcRaw_lt (hby.take i)
    have hnext : Gf.crcRaw (l.take (i + 1)) = Gf.crcBits (Gf.crcRaw (l.take i) ^^^ x) 8 := by
      rw [List.take_add_one, hx]
      unfold Gf.crcRaw
      rw [List.foldl_append]
      rfl
    refine ⟨_, rfl, _, rfl, _, _, rfl, rfl, ?_⟩
    refine ⟨_, rfl, by decide, by decide, for_range (lo := 0) (n := 8) (fun j σ H'' => H'' = H' ∧ ∃ v3 : Option V, σ = [some (.ref r), some (.int (Gf.crcBits (Gf.crcRaw (l.take i) ^^^ x) j : Nat)), some (.int (x : Nat)), v3]) ⟨rfl, v3, ?_⟩ ?_ ?_⟩
    · show [some (V.ref r), some (V.int (Builtin.bitXor (Gf.crcRaw (l.take i) : Nat) (x : Nat))), some (V.int (x : Nat)), v3] = _
      rw [xor_cast]
      rfl
    · rintro j σ H'' hj ⟨rfl, v, rfl⟩
      rw [Gf.crcBits_succ]
      generalize Gf.crcBits (Gf.crcRaw (l.take i) ^^^ x) j = c
      unfold Fm11.sumBit
      have hdiv : (c : Int) / 2 = ((c / 2 : Nat) : Int) := by omega
      refine ⟨_, rfl, _, _, rfl, rfl, by show (0 : Int) < 2; decide, rfl, _, rfl, ite2 (fun z => ?_) (fun z => ?_)⟩
      · have hz : c % 2 = 1 := by have := V.int.inj (of_decide_eq_true z); omega
        rw [if_pos hz]
        refine ⟨_, rfl, _, _, rfl, rfl, ⟨by decide, by decide⟩, _, _, rfl, rfl, rfl, some (.int (0 + (j : Int))), ?_⟩
        show [some (V.ref r), some (V.int (Builtin.bitXor ((c : Int) / 2) ((2197175160 : Nat) : Int))), some (V.int (x : Nat)), _] = _
        rw [hdiv, xor_cast]
      · have hz : ¬ c % 2 = 1 := fun y => z (decide_eq_true (by show V.int _ = V.int 1; congr 1; omega))
        rw [if_neg hz]
        refine ⟨_, rfl, _, _, rfl, rfl, ⟨by decide, by decide⟩, rfl, some (.int (0 + (j : Int))), ?_⟩
        show [some (V.ref r), some (V.int ((c : Int) / 2)), some (V.int (x : Nat)), _] = _
        rw [hdiv]
    · rintro σ H'' ⟨rfl, v, rfl⟩
      exact ⟨rfl, some (.int (x : Nat)), v, by rw [hnext]⟩
  · rintro σ H' ⟨rfl, v2, v3, rfl⟩
    rw [nv_length, List.take_length]
    refine ⟨_, rfl, _, _, rfl, rfl, ?_⟩
    show Q (.int (Builtin.bitXor (Gf.crcRaw l : Nat) ((4294967295 : Nat) : Int))) H'
    rw [xor_cast, show (4294967295 : Nat) = 2 ^ 32 - 1 from rfl, Gf.sum_xor hby]
    exact q
theorem div_pow (v i : Nat) : ((v / 256 ^ i : Nat) : Int) / 256 = ((v / 256 ^ (i + 1) : Nat) : Int) := by
  rw [Nat.pow_succ, ← Nat.div_div_eq_div_mul]
  omega
theorem ok_lowest_first (T : Top K mg A) : FnOk P w K mg base CX0 1 A.f_lowest_first A.d_lowest_first ["value", "size"] (sp_lowest_first K A) := by
  refine T.f_lowest_first.F.ok sc_lowest_first (fun vs H Q E h => by obtain ⟨_, _, rfl, _⟩ := h; rfl) (fun cdv Ar outer s H vs Q E hr h => ?_)
  obtain ⟨v, n, rfl, hn, q⟩ := h
  refine ⟨_, (pss_cons (ps_set (i := 2) sc_lowest_first.nd rfl (Or.inl rfl) (pe_lst pa_nil))
    (pss_cons (ps_set (i := 3) sc_lowest_first.nd rfl (Or.inl rfl) (pv 0))
    (pss_cons (ps_for PassesOwn.never rfl (pi_range1 rfl T.b_range (pa_cons (pv 1) pa_nil)) (pg_name (i := 4) sc_lowest_first.nd rfl (Or.inl rfl))
    (pss_cons (ps_expr (pe_bm PySem.F.plainAttrs_list PySem.F.slot_list_append PySem.F.type_list_append mt_append (pv 2) (pa_cons (pe_op op_mod (pv 3) pe_int) pa_nil)))
    (pss_one (ps_set (i := 3) sc_lowest_first.nd rfl (Or.inl rfl) (pe_op op_fdiv (pv 3) pe_int)))))
    (pss_one (ps_ret (pv 2)))))), ?_⟩
  refine ⟨by decide, fun o no => ?_⟩
  refine ⟨_, rfl, ?_⟩
  refine ⟨_, rfl, _, rfl, by omega, by omega, ?_⟩
  rw [Int.toNat_natCast]
  refine for_range (lo := 0) (n := n) (fun i σ H' => Ex H H' ∧ ∃ v4 : Option V, σ = [some (.int (v : Nat)), some (.int (n : Nat)), some (.ref o), some (.int (v / 256 ^ i : Nat)), v4] ∧ H' o = some (.lst (nv (Fm11.le i v)))) ⟨Ex.new no, none, ?_, upd_same⟩ ?_ ?_
  · rw [Nat.pow_zero, Nat.div_one]
    rfl
  · rintro i σ H' hi ⟨e0, v4, rfl, ho⟩
    refine ⟨_, rfl, .inl ⟨rfl, _, SqL.of ho⟩, _, rfl, _, _, rfl, rfl, by show (0 : Int) < 256; decide, o, _, _, rfl, rfl, ho, by rw [nv_length, Gf.le_length]; exact sz_lt (by omega), ?_⟩
    refine ⟨_, rfl, _, _, rfl, rfl, ⟨by decide, by decide⟩, Ex.mut e0 no, some (.int (0 + (i : Int))), ?_, ?_⟩
    · show [some (V.int (v : Nat)), some (V.int (n : Nat)), some (V.ref o), some (V.int (((v / 256 ^ i : Nat) : Int) / 256)), _] = _
      rw [div_pow]
    · rw [upd_same, Gf.le_succ, nv_append]
      have : ((v / 256 ^ i : Nat) : Int) % 256 = ((v / 256 ^ i % 256 : Nat) : Int) := by omega
      show some (HO.lst (nv (Fm11.le i v) ++ [V.int (((v / 256 ^ i : Nat) : Int) % 256)])) = _
      rw [this]
      rfl
  · rintro σ H' ⟨e0, v4, rfl, ho⟩
    exact ⟨_, rfl, q o H' no e0 ho⟩
theorem drop_one_more {l : List Nat} {i x : Nat} (hi : i < l.length) (h : l[l.length - 1 - i]? = some x) : l.drop (l.length - (i + 1)) = x :: l.drop (l.length - i) := by
  have e : l.length - (i + 1) = l.length - 1 - i := by omega
  rw [e, List.drop_eq_getElem_cons (by omega)]
  have e2 : l.length - 1 - i + 1 = l.length - i := by omega
  rw [e2]
  congr 1
  rw [List.getElem?_eq_getElem (by omega)] at h
  exact Option.some.inj h
theorem ok_value_of (T : Top K mg A) : FnOk P w K mg base CX0 1 A.f_value_of A.d_value_of ["octets"] (sp_value_of K A) := by
  refine T.f_value_of.F.ok sc_value_of (fun vs H Q E h => by obtain ⟨_, _, rfl, _⟩ := h; rfl) (fun cdv Ar outer s H vs Q E hr h => ?_)
  obtain ⟨r, l, rfl, hr', q⟩ := h
  refine ⟨_, (pss_cons (ps_set (i := 1) sc_value_of.nd rfl (Or.inl rfl) pe_int)
    (pss_cons (ps_for PassesOwn.never rfl (pi_reversed (by rfl) T.b_reversed (pa_cons (pv 0) pa_nil)) (pg_name (i := 2) sc_value_of.nd rfl (Or.inl rfl))
    (pss_one (ps_set (i := 1) sc_value_of.nd rfl (Or.inl rfl) (pe_op op_add (pe_op op_mul (pv 1) pe_int) (pv 2)))))
    (pss_one (ps_ret (pv 1))))), ?_⟩
  refine ⟨_, rfl, r, nv l, rfl, hr', RT.for_Itv (K := K) (fun i σ H' => H' = H ∧ ∃ v2 : Option V, σ = [some (.ref r), some (.int (Fm11.number (l.drop (l.length - i)) : Nat)), v2]) ⟨rfl, none, ?_⟩ (fun i σ H' hp => by rw [hp.1]; exact hr') ?_ ?_⟩
  · rw [Nat.sub_zero, List.drop_length]
    rfl
  · rintro i y σ H' hi hy ⟨rfl, v2, rfl⟩
    rw [nv_length] at hi hy
    obtain ⟨x, hx, rfl⟩ := nv_of hy
    refine ⟨_, rfl, _, _, rfl, rfl, .inr ⟨by decide, by decide⟩, _, rfl, _, _, rfl, rfl, rfl, some (.int (x : Nat)), ?_⟩
    rw [drop_one_more hi hx, Gf.number_cons]
    show [some (V.ref r), some (V.int ((Fm11.number (l.drop (l.length - i)) : Nat) * 256 + (x : Nat))), _] = _
    have : ((Fm11.number (l.drop (l.length - i)) : Nat) : Int) * 256 + (x : Nat) = ((x + 256 * Fm11.number (l.drop (l.length - i)) : Nat) : Int) := by omega
    rw [this]
  · rintro σ H' ⟨rfl, v2, rfl⟩
    rw [nv_length, Nat.sub_self, List.drop_zero]
    exact ⟨_, rfl, q⟩
end
end Sl
/-! ## CatL -/
set_option Elab.async false
set_option linter.all false
namespace L2
open PySem PySem.Spec PyProof.Rows
section
variable {X : Cx}
/-- a list and a list, of whatever kind: handed in, of the program's top, or the call's own -/
def rCatS (K : PySem.W.Frag) : R2 := fun x y H Q => ∃ a b xs zs, x = .ref a ∧ y = .ref b ∧ SqL K H a xs ∧ SqL K H b zs ∧ xs.length + zs.length ≤ sizeLine ∧ ∀ p, H p = none → Q (.ref p) (upd H p (.lst (xs ++ zs)))
theorem op_catS : OpR X (binaryOp .Add) (rCatS X.K) := by
  intro pins s σ H x y v u Q I rx ry h
  obtain ⟨a, b, xs, zs, rfl, rfl, ha, hb, hz, q⟩ := h
  cases rx
  cases ry
  obtain ⟨its, r1, p1, _⟩ := I.list ha
  obtain ⟨its2, r2, p2, _⟩ := I.list hb
  obtain ⟨⟨cls, dd, data, sl⟩, n, ho, hc, hdn, hd⟩ := p1
  obtain ⟨⟨cls2, dd2, data2, sl2⟩, n2, ho2, hc2, hdn2, hd2⟩ := p2
  simp only at hc hd hdn hc2 hd2 hdn2
  subst hc hd hdn hc2 hd2 hdn2
  have l1 := r1.length
  have l2 := r2.length
  refine concat_meets ⟨_, ho, rfl⟩ ⟨_, ho2, rfl⟩ noFill_list_add seq_list_add PySem.F.slot_list_add PySem.F.entry_list_add (PySem.F.args_list_add_2 _ _) (list_addW a b its.toArray its2.toArray n n2 none none sl sl2 (by rw [List.size_toArray, List.size_toArray]; omega)) ⟨ho, ho2, ?_⟩
  have e : its.toArray ++ its2.toArray = (its ++ its2).toArray := by simp
  rw [e]
  refine ⟨.ref s.heap.objs.size, _, I.laid (t' := s.toks) (o := .lst (xs ++ zs)) (fun b ob q => Heap.get?_push_of_some _ q) (Nat.le_refl _) ?_, rfl, q _ (I.hok.fresh (Nat.le_refl _))⟩
  exact ⟨by rw [List.length_append]; exact hz, _, 0, r1.append r2, Heap.get?_push_size _ rfl⟩
end
end L2
/-! ## D9 -/
set_option Elab.async false
set_option linter.all false
set_option maxRecDepth 100000
set_option maxHeartbeats 4000000
namespace Sl
open PySem PySem.Spec PyProof.Rows L2 Evl
section
variable {P : Program} {w : World} {K : PySem.W.Frag} {mg : Str → Option Value} {base : Heap} {A : Adr}
theorem ok_Packet_init (T : Top K mg A) : FnOk P w K mg base CX0 1 A.f_Packet_init A.d_Packet_init ["self", "name", "kind", "number", "wanted", "room", "octets"] (sp_Packet_init K A) := by
  refine T.k_Packet.F.ok sc_Packet_init (fun vs H Q E h => by obtain ⟨_, _, _, _, rfl, _⟩ := h; rfl) (fun cdv Ar outer s H vs Q E hr h => ?_)
  obtain ⟨p, dx, o, k, rfl, hp, q⟩ := h
  refine ⟨_, (pss_cons (ps_fld (pv 0) (pv 1) rfl)
    (pss_cons (ps_fld (pv 0) (pv 2) rfl)
    (pss_cons (ps_fld (pv 0) (pv 3) rfl)
    (pss_cons (ps_fld (pv 0) (pv 4) rfl)
    (pss_cons (ps_fld (pv 0) (pv 5) rfl)
    (pss_one (ps_fld (pv 0) (pv 6) rfl))))))), ?_⟩
  refine ⟨_, rfl, _, rfl, p, A.c_Packet, dx, [], rfl, hp, T.c_Packet.cl, T.c_Packet.n_name, by decide, ?_⟩
  refine ⟨_, rfl, _, rfl, p, A.c_Packet, dx, _, rfl, upd_same, T.c_Packet.cl, T.c_Packet.n_kind, by show 1 < 1000; decide, ?_⟩
  refine ⟨_, rfl, _, rfl, p, A.c_Packet, dx, _, rfl, upd_same, T.c_Packet.cl, T.c_Packet.n_number, by show 2 < 1000; decide, ?_⟩
  refine ⟨_, rfl, _, rfl, p, A.c_Packet, dx, _, rfl, upd_same, T.c_Packet.cl, T.c_Packet.n_wanted, by show 3 < 1000; decide, ?_⟩
  refine ⟨_, rfl, _, rfl, p, A.c_Packet, dx, _, rfl, upd_same, T.c_Packet.cl, T.c_Packet.n_room, by show 4 < 1000; decide, ?_⟩
  refine ⟨_, rfl, _, rfl, p, A.c_Packet, dx, _, rfl, upd_same, T.c_Packet.cl, T.c_Packet.n_octets, by show 5 < 1000; decide, ?_⟩
  refine q _ ⟨dx, by rw [upd_same]; rfl⟩ fun b o' hb hbp => ?_
  rw [upd_ne hbp, upd_ne hbp, upd_ne hbp, upd_ne hbp, upd_ne hbp, upd_ne hbp]
  exact hb
theorem head_is (k : Fm11.Packet) : ((((Fm11.le 4 k.name ++ [k.kind]) ++ Fm11.le 8 k.seq) ++ Fm11.le 8 k.ack) ++ Fm11.le 2 k.room) ++ k.bytes = k.head := by
  unfold Fm11.Packet.head
  simp only [List.append_assoc, List.cons_append, List.nil_append]
theorem head_by {k : Fm11.Packet} (h : Gf.By k.bytes) (hk : k.kind < 256) : Gf.By k.head := by
  rw [← head_is]
  exact (((((Gf.le_by _ _).append (Gf.By.cons hk Gf.By.nil)).append (Gf.le_by _ _)).append (Gf.le_by _ _)).append (Gf.le_by _ _)).append h
theorem head_length (k : Fm11.Packet) : k.head.length = 23 + k.bytes.length := by
  rw [← head_is]
  simp only [List.length_append, Gf.le_length, List.length_cons, List.length_nil]
theorem wire_len {k : Fm11.Packet} (h : Gf.By k.bytes) (hk : k.kind < 256) : k.wire.length = 43 + k.bytes.length := by
  have hw : k.wire = (k.head ++ Fm11.le 4 (Fm11.sum k.head)) ++ Fm11.parity (k.head ++ Fm11.le 4 (Fm11.sum k.head)) := rfl
  rw [hw, List.length_append, Gf.parity_length ((head_by h hk).append (Gf.le_by _ _)), List.length_append, Gf.le_length, head_length]
  omega
theorem ok_row_of (T : Top K mg A) (G_Code_parity_of : FnOk P w K mg base CX0 2 A.f_Code_parity_of A.d_Code_parity_of ["self", "row"] (sp_Code_parity_of K A)) (G_crc_of : FnOk P w K mg base CX0 1 A.f_crc_of A.d_crc_of ["octets"] (sp_crc_of K A)) (G_lowest_first : FnOk P w K mg base CX0 1 A.f_lowest_first A.d_lowest_first ["value", "size"] (sp_lowest_first K A)) : FnOk P w K mg base CX0 3 A.f_row_of A.d_row_of ["code", "packet"] (sp_row_of K A) := by
  refine T.f_row_of.F.ok sc_row_of (fun vs H Q E h => by obtain ⟨_, _, _, rfl, _⟩ := h; rfl) (fun cdv Ar outer s H vs Q E hr h => ?_)
  obtain ⟨c, a, k, rfl, hC, hP, hby, hz, hk, q⟩ := h
  refine ⟨_, (pss_cons (ps_set (i := 2) sc_row_of.nd rfl (Or.inl rfl) (pe_op op_catS (pe_call G_lowest_first (hr.mono (by decide)) rfl T.f_lowest_first.g T.f_lowest_first.F.kp T.f_lowest_first.b .nil pass0 (pa_cons (pe_fld (pv 1) rfl) (pa_cons pe_int pa_nil))) (pe_lst (pa_cons (pe_fld (pv 1) rfl) pa_nil))))
    (pss_cons (ps_set (i := 2) sc_row_of.nd rfl (Or.inl rfl) (pe_op op_catS (pe_op op_catS (pv 2) (pe_call G_lowest_first (hr.mono (by decide)) rfl T.f_lowest_first.g T.f_lowest_first.F.kp T.f_lowest_first.b .nil pass0 (pa_cons (pe_fld (pv 1) rfl) (pa_cons pe_int pa_nil)))) (pe_call G_lowest_first (hr.mono (by decide)) rfl T.f_lowest_first.g T.f_lowest_first.F.kp T.f_lowest_first.b .nil pass0 (pa_cons (pe_fld (pv 1) rfl) (pa_cons pe_int pa_nil)))))
    (pss_cons (ps_set (i := 2) sc_row_of.nd rfl (Or.inl rfl) (pe_op op_catS (pe_op op_catS (pv 2) (pe_call G_lowest_first (hr.mono (by decide)) rfl T.f_lowest_first.g T.f_lowest_first.F.kp T.f_lowest_first.b .nil pass0 (pa_cons (pe_fld (pv 1) rfl) (pa_cons pe_int pa_nil)))) (pe_fld (pv 1) rfl)))
    (pss_cons (ps_set (i := 2) sc_row_of.nd rfl (Or.inl rfl) (pe_op op_catS (pv 2) (pe_call G_lowest_first (hr.mono (by decide)) rfl T.f_lowest_first.g T.f_lowest_first.F.kp T.f_lowest_first.b .nil pass0 (pa_cons (pe_call G_crc_of (hr.mono (by decide)) rfl T.f_crc_of.g T.f_crc_of.F.kp T.f_crc_of.b .nil pass0 (pa_cons (pv 2) pa_nil)) (pa_cons (pe_glob (v := .int 4) rfl T.g_SUM ⟨_, rfl⟩) pa_nil)))))
    (pss_one (ps_ret (pe_op op_catS (pv 2) (pe_meth (pv 0) T.c_Code.cl T.f_Code_parity_of.m G_Code_parity_of (hr.mono (by decide)) T.f_Code_parity_of.b .nil pass0 (pa_cons (pv 2) pa_nil))))))))), ?_⟩
  obtain ⟨o, ⟨dx, h1⟩, h2⟩ := id hP
  refine ⟨_, rfl, _, _, _, _, _, rfl, h1, T.c_Packet.cl, T.c_Packet.n_name, lk_Packet_name, _, 4, rfl, by decide, fun p1 H1 n1 x1 e1 => ?_⟩
  refine ⟨_, rfl, _, _, _, _, _, rfl, (x1 _ _ h1), T.c_Packet.cl, T.c_Packet.n_kind, lk_Packet_kind, by show 1 ≤ sizeLine; decide, fun p2 n2 => ?_⟩
  have x2 := Ex.new (o := .lst [.int (k.kind : Nat)]) n2
  refine ⟨p1, p2, _, _, rfl, rfl, .of (x2 _ _ e1), .of upd_same, by rw [nv_length, Gf.le_length]; show 4 + 1 ≤ sizeLine; decide, fun p3 n3 => ?_⟩
  have e3 : nv (Fm11.le 4 k.name) ++ [.int (k.kind : Nat)] = nv (Fm11.le 4 k.name ++ [k.kind]) := by rw [nv_append]; rfl
  rw [e3]
  generalize hL3 : Fm11.le 4 k.name ++ [k.kind] = L3
  have l3 : L3.length = 5 := by rw [← hL3, List.length_append, Gf.le_length]; rfl
  have x3 := (x1.trans x2).trans (Ex.new (o := .lst (nv L3)) n3)
  have v3 : upd (upd H1 p2 (.lst [.int (k.kind : Nat)])) p3 (.lst (nv L3)) p3 = some (.lst (nv L3)) := upd_same
  generalize upd (upd H1 p2 (.lst [.int (k.kind : Nat)])) p3 (.lst (nv L3)) = H3 at x3 v3
  -- number, wanted
  refine ⟨_, rfl, _, rfl, _, _, _, _, _, rfl, (x3 _ _ h1), T.c_Packet.cl, T.c_Packet.n_number, lk_Packet_number, _, 8, rfl, by decide, fun p4 H4 n4 x4 e4 => ?_⟩
  refine ⟨p3, p4, _, _, rfl, rfl, .of (x4 _ _ v3), .of e4, by rw [nv_length, nv_length, Gf.le_length, l3]; decide, fun p5 n5 => ?_⟩
  rw [← nv_append]
  have x5 := (x3.trans x4).trans (Ex.new (o := .lst (nv (L3 ++ Fm11.le 8 k.seq))) n5)
  have v5 : upd H4 p5 (.lst (nv (L3 ++ Fm11.le 8 k.seq))) p5 = some (.lst (nv (L3 ++ Fm11.le 8 k.seq))) := upd_same
  have l5 : (L3 ++ Fm11.le 8 k.seq).length = 13 := by rw [List.length_append, Gf.le_length, l3]
  generalize hL5 : L3 ++ Fm11.le 8 k.seq = L5 at x5 v5 l5
  generalize upd H4 p5 (.lst (nv L5)) = H5 at x5 v5
  refine ⟨_, rfl, _, _, _, _, _, rfl, (x5 _ _ h1), T.c_Packet.cl, T.c_Packet.n_wanted, lk_Packet_wanted, _, 8, rfl, by decide, fun p6 H6 n6 x6 e6 => ?_⟩
  refine ⟨p5, p6, _, _, rfl, rfl, .of (x6 _ _ v5), .of e6, by rw [nv_length, nv_length, Gf.le_length, l5]; decide, fun p7 n7 => ?_⟩
  rw [← nv_append]
  have x7 := (x5.trans x6).trans (Ex.new (o := .lst (nv (L5 ++ Fm11.le 8 k.ack))) n7)
  have v7 : upd H6 p7 (.lst (nv (L5 ++ Fm11.le 8 k.ack))) p7 = some (.lst (nv (L5 ++ Fm11.le 8 k.ack))) := upd_same
  have l7 : (L5 ++ Fm11.le 8 k.ack).length = 21 := by rw [List.length_append, Gf.le_length, l5]
  generalize hL7 : L5 ++ Fm11.le 8 k.ack = L7 at x7 v7 l7
  generalize upd H6 p7 (.lst (nv L7)) = H7 at x7 v7
  -- room, bytes
  refine ⟨_, rfl, _, rfl, _, _, _, _, _, rfl, (x7 _ _ h1), T.c_Packet.cl, T.c_Packet.n_room, lk_Packet_room, _, 2, rfl, by decide, fun p8 H8 n8 x8 e8 => ?_⟩
  refine ⟨p7, p8, _, _, rfl, rfl, .of (x8 _ _ v7), .of e8, by rw [nv_length, nv_length, Gf.le_length, l7]; decide, fun p9 n9 => ?_⟩
  rw [← nv_append]
  have x9 := (x7.trans x8).trans (Ex.new (o := .lst (nv (L7 ++ Fm11.le 2 k.room))) n9)
  have v9 : upd H8 p9 (.lst (nv (L7 ++ Fm11.le 2 k.room))) p9 = some (.lst (nv (L7 ++ Fm11.le 2 k.room))) := upd_same
  have l9 : (L7 ++ Fm11.le 2 k.room).length = 23 := by rw [List.length_append, Gf.le_length, l7]
  generalize hL9 : L7 ++ Fm11.le 2 k.room = L9 at x9 v9 l9
  generalize upd H8 p9 (.lst (nv L9)) = H9 at x9 v9
  refine ⟨_, rfl, _, _, _, _, _, rfl, (x9 _ _ h1), T.c_Packet.cl, T.c_Packet.n_octets, lk_Packet_octets, p9, o, _, _, rfl, rfl, .of v9, ex_l x9 h2, by rw [nv_length, nv_length, l9]; exact sz_of (by omega), fun p10 n10 => ?_⟩
  rw [← nv_append]
  have hhead : L9 ++ k.bytes = k.head := by rw [← head_is, ← hL9, ← hL7, ← hL5, ← hL3]
  rw [hhead]
  have x10 := x9.trans (Ex.new (o := .lst (nv k.head)) n10)
  have v10 : upd H9 p10 (.lst (nv k.head)) p10 = some (.lst (nv k.head)) := upd_same
  generalize upd H9 p10 (.lst (nv k.head)) = H10 at x10 v10
  have hhb := head_by hby hk
  have hhl := head_length k
  -- the sum
  refine ⟨_, rfl, _, rfl, p10, k.head, rfl, SqL.of v10, hhb, Fm11.sum k.head, 4, rfl, by decide, fun p11 H11 n11 x11 e11 => ?_⟩
  refine ⟨p10, p11, _, _, rfl, rfl, .of (x11 _ _ v10), .of e11, by rw [nv_length, nv_length, Gf.le_length]; exact sz_of (by omega), fun p12 n12 => ?_⟩
  rw [← nv_append]
  have x12 := (x10.trans x11).trans (Ex.new (o := .lst (nv (k.head ++ Fm11.le 4 (Fm11.sum k.head)))) n12)
  have v12 : upd H11 p12 (.lst (nv (k.head ++ Fm11.le 4 (Fm11.sum k.head)))) p12 = some (.lst (nv (k.head ++ Fm11.le 4 (Fm11.sum k.head)))) := upd_same
  have l12 : (k.head ++ Fm11.le 4 (Fm11.sum k.head)).length = 27 + k.bytes.length := by rw [List.length_append, Gf.le_length, hhl]; omega
  have b12 : Gf.By (k.head ++ Fm11.le 4 (Fm11.sum k.head)) := hhb.append (Gf.le_by _ _)
  have hw : k.wire = (k.head ++ Fm11.le 4 (Fm11.sum k.head)) ++ Fm11.parity (k.head ++ Fm11.le 4 (Fm11.sum k.head)) := rfl
  rw [hw] at q
  generalize k.head ++ Fm11.le 4 (Fm11.sum k.head) = L12 at x12 v12 l12 b12 q
  generalize upd H11 p12 (.lst (nv L12)) = H12 at x12 v12
  -- the parity
  obtain ⟨dxc, fa, dv, g1, g2, g3⟩ := id (hC.ex x12)
  refine ⟨_, rfl, _, rfl, _, _, _, rfl, g1, no_Code_parity_of, _, rfl, c, p12, L12, rfl, hC.ex x12, SqL.of v12, b12, fun p13 H13 n13 x13 e13 => ?_⟩
  refine ⟨p12, p13, _, _, rfl, rfl, .of (x13 _ _ v12), .of e13, by rw [nv_length, nv_length, Gf.parity_length b12]; exact sz_of (by omega), fun p14 n14 => ?_⟩
  rw [← nv_append]
  exact q p14 _ (fresh_back (x12.trans x13) n14) ((x12.trans x13).trans (Ex.new n14)) upd_same
theorem ok_kind_fits (T : Top K mg A) : FnOk P w K mg base CX0 1 A.f_kind_fits A.d_kind_fits ["packet"] (sp_kind_fits K A) := by
  refine T.f_kind_fits.F.ok sc_kind_fits (fun vs H Q E h => by obtain ⟨_, _, rfl, _⟩ := h; rfl) (fun cdv Ar outer s H vs Q E hr h => ?_)
  obtain ⟨a, k, rfl, ⟨dx, o, h1, h2⟩, q⟩ := h
  refine ⟨_, (pss_cons (ps_if (pt_cmpR op_eq (pe_fld (pv 0) rfl) (pe_glob (v := .int 1) rfl T.g_BYTES ⟨_, rfl⟩) (nomark _)) (pss_one (ps_ret (pe_cmpR op_gt (pe_callB call_len_seq (by rfl) T.b_len PySem.boot_len (pa_cons (pe_fld (pv 0) rfl) pa_nil)) pe_int (nomark _)))) pss_nil)
    (pss_one (ps_ret (pe_and (pe_cmpR op_le (pe_fld (pv 0) rfl) (pe_glob (v := .int 3) rfl T.g_QUESTION ⟨_, rfl⟩) (nomark _)) (pe_one (pe_cmpR op_eq (pe_callB call_len_seq (by rfl) T.b_len PySem.boot_len (pa_cons (pe_fld (pv 0) rfl) pa_nil)) pe_int (nomark _))))))), ?_⟩
  have hlen : (nv k.bytes).length = k.bytes.length := nv_length _
  have hne : k.bytes ≠ [] ↔ 0 < k.bytes.length := by
    rw [List.length_pos_iff]
  unfold fitsKind at q
  refine ⟨_, rfl, _, _, _, _, _, rfl, h1, T.c_Packet.cl, T.c_Packet.n_kind, lk_Packet_kind, rfl, _, rfl, ite2 (fun z => ?_) (fun z => ?_)⟩
  · have hz : k.kind = 1 := by have := V.int.inj (of_decide_eq_true z); omega
    refine ⟨_, rfl, _, _, _, _, _, rfl, h1, T.c_Packet.cl, T.c_Packet.n_octets, lk_Packet_octets, o, _, rfl, .inl (SqL.of h2), _, _, rfl, rfl, ?_⟩
    have e : decide (k.kind ≤ 3 ∧ (k.kind = 1 ↔ k.bytes ≠ [])) = decide ((0 : Int) < ((nv k.bytes).length : Nat)) := by
      rw [decide_eq_decide, hlen, hne]
      omega
    rw [e] at q
    exact q
  · have hz : ¬ k.kind = 1 := fun y => z (decide_eq_true (by rw [y]; rfl))
    refine ⟨_, rfl, _, _, _, _, _, rfl, h1, T.c_Packet.cl, T.c_Packet.n_kind, lk_Packet_kind, _, _, rfl, rfl, _, rfl, ?_⟩
    by_cases c : k.kind ≤ 3
    · have e0 : decide ((k.kind : Int) ≤ 3) = true := decide_eq_true (by omega)
      rw [e0]
      refine iteT ⟨_, rfl, _, _, _, _, _, rfl, h1, T.c_Packet.cl, T.c_Packet.n_octets, lk_Packet_octets, o, _, rfl, .inl (SqL.of h2), rfl, ?_⟩
      have e : decide (k.kind ≤ 3 ∧ (k.kind = 1 ↔ k.bytes ≠ [])) = decide (V.int ((nv k.bytes).length : Nat) = V.int 0) := by
        rw [decide_eq_decide, hlen, hne]
        constructor
        · intro y
          congr 1
          omega
        · intro y
          have := V.int.inj y
          omega
      rw [e] at q
      exact q
    · have e0 : decide ((k.kind : Int) ≤ 3) = false := decide_eq_false (by omega)
      rw [e0]
      have e : decide (k.kind ≤ 3 ∧ (k.kind = 1 ↔ k.bytes ≠ [])) = false := decide_eq_false fun y => c y.1
      rw [e] at q
      exact iteF q
end
end Sl
/-! ## D10 -/
set_option Elab.async false
set_option linter.all false
set_option maxRecDepth 100000
set_option maxHeartbeats 4000000
namespace Sl
open PySem PySem.Spec PyProof.Rows L2 Evl
section
variable {P : Program} {w : World} {K : PySem.W.Frag} {mg : Str → Option Value} {base : Heap} {A : Adr}
theorem ok_parted (T : Top K mg A) (G_Packet_init : FnOk P w K mg base CX0 1 A.f_Packet_init A.d_Packet_init ["self", "name", "kind", "number", "wanted", "room", "octets"] (sp_Packet_init K A)) (G_value_of : FnOk P w K mg base CX0 1 A.f_value_of A.d_value_of ["octets"] (sp_value_of K A)) : FnOk P w K mg base CX0 3 A.f_parted A.d_parted ["body"] (sp_parted K A) := by
  refine T.f_parted.F.ok sc_parted (fun vs H Q E h => by obtain ⟨_, _, rfl, _⟩ := h; rfl) (fun cdv Ar outer s H vs Q E hr h => ?_)
  obtain ⟨b, l, rfl, hr', hz, q⟩ := h
  refine ⟨_, (pss_one (ps_ret (pe_make T.k_Packet.M G_Packet_init (hr.mono (by decide)) rfl T.k_Packet.g T.k_Packet.b .nil pass0 (pa_cons (pe_call G_value_of (hr.mono (by decide)) rfl T.f_value_of.g T.f_value_of.F.kp T.f_value_of.b .nil pass0 (pa_cons (pe_slice sl_list (pv 0) (po_some pe_int) (po_some pe_int)) pa_nil)) (pa_cons (pe_ix ix_list (pv 0) pe_int (fun _ _ => rfl)) (pa_cons (pe_call G_value_of (hr.mono (by decide)) rfl T.f_value_of.g T.f_value_of.F.kp T.f_value_of.b .nil pass0 (pa_cons (pe_slice sl_list (pv 0) (po_some pe_int) (po_some pe_int)) pa_nil)) (pa_cons (pe_call G_value_of (hr.mono (by decide)) rfl T.f_value_of.g T.f_value_of.F.kp T.f_value_of.b .nil pass0 (pa_cons (pe_slice sl_list (pv 0) (po_some pe_int) (po_some pe_int)) pa_nil)) (pa_cons (pe_call G_value_of (hr.mono (by decide)) rfl T.f_value_of.g T.f_value_of.F.kp T.f_value_of.b .nil pass0 (pa_cons (pe_slice sl_list (pv 0) (po_some pe_int) (po_some (pe_glob (v := .int 23) rfl T.g_HEAD ⟨_, rfl⟩))) pa_nil)) (pa_cons (pe_slice sl_list (pv 0) (po_some (pe_glob (v := .int 23) rfl T.g_HEAD ⟨_, rfl⟩)) po_none) pa_nil))))))))), ?_⟩
  refine ⟨_, rfl, _, rfl, _, rfl, b, _, rfl, hr', fun p1 n1 => ?_⟩
  have c1 : cutV (nv l) (some 0) (some 4) = nv (l.take 4) := cut_mid l (j := 0) (k := 4) (by decide)
  rw [c1]
  have x1 := Ex.new (o := .lst (nv (l.take 4))) n1
  refine ⟨p1, _, rfl, SqL.of upd_same, ?_⟩
  refine ⟨_, rfl, b, _, _, _, rfl, rfl, ex_l x1 hr', atI_nv (i := 4) rfl (by omega), ?_⟩
  refine ⟨_, rfl, _, rfl, _, rfl, b, _, rfl, ex_l x1 hr', fun p2 n2 => ?_⟩
  have c2 : cutV (nv l) (some 5) (some 13) = nv ((l.drop 5).take 8) := cut_mid l (j := 5) (k := 13) (by decide)
  rw [c2]
  have x2 := x1.trans (Ex.new (o := .lst (nv ((l.drop 5).take 8))) n2)
  refine ⟨p2, _, rfl, SqL.of upd_same, ?_⟩
  refine ⟨_, rfl, _, rfl, _, rfl, b, _, rfl, ex_l x2 hr', fun p3 n3 => ?_⟩
  have c3 : cutV (nv l) (some 13) (some 21) = nv ((l.drop 13).take 8) := cut_mid l (j := 13) (k := 21) (by decide)
  rw [c3]
  have x3 := x2.trans (Ex.new (o := .lst (nv ((l.drop 13).take 8))) n3)
  refine ⟨p3, _, rfl, SqL.of upd_same, ?_⟩
  refine ⟨_, rfl, _, rfl, _, rfl, b, _, rfl, ex_l x3 hr', fun p4 n4 => ?_⟩
  have c4 : cutV (nv l) (some 21) (some 23) = nv ((l.drop 21).take 2) := cut_mid l (j := 21) (k := 23) (by decide)
  rw [c4]
  have x4 := x3.trans (Ex.new (o := .lst (nv ((l.drop 21).take 2))) n4)
  refine ⟨p4, _, rfl, SqL.of upd_same, ?_⟩
  refine ⟨_, rfl, _, rfl, b, _, rfl, ex_l x4 hr', fun p5 n5 => ?_⟩
  have c5 : cutV (nv l) (some 23) none = nv (l.drop 23) := cut_from l 23
  rw [c5]
  have x5 := x4.trans (Ex.new (o := .lst (nv (l.drop 23))) n5)
  have v5 : upd (upd (upd (upd (upd H p1 (.lst (nv (l.take 4)))) p2 (.lst (nv ((l.drop 5).take 8)))) p3 (.lst (nv ((l.drop 13).take 8)))) p4 (.lst (nv ((l.drop 21).take 2)))) p5 (.lst (nv (l.drop 23))) p5 = some (.lst (nv (l.drop 23))) := upd_same
  intro x dx nx ndx nex
  have x6 := (Ex.new (o := .own x) ndx).trans (Ex.new (o := .ins A.c_Packet dx []) (by rw [upd_ne nex.symm]; exact nx))
  refine ⟨x, dx, p5, packetOf l, rfl, upd_same, fun H' hP fr => ⟨rfl, q x p5 H' (fresh_back x5 nx) (fresh_back x4 n5) ?_ (let ⟨d, e⟩ := hP; ⟨d, e, fr p5 _ (x6 _ _ v5) (ne_of_none v5 nx)⟩)⟩⟩
  intro a o ha
  refine fr a o ((x5.trans x6) _ _ ha) (ne_of_none (x5 _ _ ha) nx)
theorem mend_some {b l : List Nat} {n : Nat} (hb : Gf.By b) (h255 : b.length ≤ 255) (h : Fm11.mend b = some (l, n)) : Gf.By l ∧ l.length = b.length := by
  rw [Gf.mend_P hb h255] at h
  split at h
  · cases h
  · split at h
    · cases h
    · have := (Prod.mk.inj (Option.some.inj h)).1
      rw [← this]
      refine ⟨Gf.By.map fun j _ => ?_, Gf.fixAt_length ..⟩
      split
      · exact Gf.xlt (hb.getD _) (Gf.errP_lt _ _ _)
      · exact hb.getD _
theorem open_none {v : List Nat} (h : v.length < 43 ∨ 233 < v.length) : Fm11.open_ v = none := by
  unfold Fm11.open_
  exact if_pos h
theorem open_bad {v : List Nat} (h : ¬ (v.length < 43 ∨ 233 < v.length)) (hm : Fm11.mend v = none) : Fm11.open_ v = none := by
  unfold Fm11.open_
  rw [show (if v.length < Fm11.FRONT + 20 ∨ Fm11.FRONT + 20 + Fm11.MOST < v.length then none else _) = _ from if_neg h, hm]
theorem open_some {v b : List Nat} {n : Nat} (h : ¬ (v.length < 43 ∨ 233 < v.length)) (hm : Fm11.mend v = some (b, n)) : Fm11.open_ v =
    if Fm11.le 4 (Fm11.sum (b.take (b.length - 20))) ≠ (b.drop (b.length - 20)).take 4 then none else if fitsKind (packetOf (b.take (b.length - 20))) = true then some (packetOf (b.take (b.length - 20)), n) else none := by
  unfold Fm11.open_
  rw [show (if v.length < Fm11.FRONT + 20 ∨ Fm11.FRONT + 20 + Fm11.MOST < v.length then none else _) = _ from if_neg h, hm]
  show (if _ then none else _) = _
  by_cases c : Fm11.le 4 (Fm11.sum (b.take (b.length - 20))) ≠ (b.drop (b.length - 20)).take 4
  · rw [if_pos c, if_pos c]
  · rw [if_neg c, if_neg c]
    unfold fitsKind
    by_cases d : (packetOf (b.take (b.length - 20))).kind ≤ 3 ∧ ((packetOf (b.take (b.length - 20))).kind = 1 ↔ (packetOf (b.take (b.length - 20))).bytes ≠ [])
    · exact (if_pos d).trans (if_pos (decide_eq_true d)).symm
    · exact (if_neg d).trans (if_neg (fun z => d (of_decide_eq_true z))).symm
theorem open_len {v : List Nat} {k : Fm11.Packet} {n : Nat} (hb : Gf.By v) (h255 : v.length ≤ 255) (h : Fm11.open_ v = some (k, n)) : k.bytes.length ≤ 255 := by
  by_cases c : v.length < 43 ∨ 233 < v.length
  · rw [open_none c] at h
    cases h
  · cases hm : Fm11.mend v with
    | none =>
      rw [open_bad c hm] at h
      cases h
    | some x =>
      obtain ⟨b, m⟩ := x
      have hl := (mend_some hb h255 hm).2
      rw [open_some c hm] at h
      split at h
      · cases h
      · split at h
        · have := (Prod.mk.inj (Option.some.inj h)).1
          rw [← this]
          show ((b.take (b.length - 20)).drop 23).length ≤ 255
          rw [List.length_drop, List.length_take]
          omega
        · cases h
theorem ok_packet_of (T : Top K mg A) (G_Code_mend_row : FnOk P w K mg base CX0 4 A.f_Code_mend_row A.d_Code_mend_row ["self", "row"] (sp_Code_mend_row K A)) (G_crc_of : FnOk P w K mg base CX0 1 A.f_crc_of A.d_crc_of ["octets"] (sp_crc_of K A)) (G_kind_fits : FnOk P w K mg base CX0 1 A.f_kind_fits A.d_kind_fits ["packet"] (sp_kind_fits K A)) (G_parted : FnOk P w K mg base CX0 3 A.f_parted A.d_parted ["body"] (sp_parted K A)) (G_value_of : FnOk P w K mg base CX0 1 A.f_value_of A.d_value_of ["octets"] (sp_value_of K A)) : FnOk P w K mg base CX0 5 A.f_packet_of A.d_packet_of ["code", "row"] (sp_packet_of K A) := by
  refine T.f_packet_of.F.ok sc_packet_of (fun vs H Q E h => by obtain ⟨_, _, _, rfl, _⟩ := h; rfl) (fun cdv Ar outer s H vs Q E hr h => ?_)
  obtain ⟨c, r, v, rfl, hC, hr', hby, qn, qs⟩ := h
  refine ⟨_, (pss_cons (ps_if (PW.pt (pw_or (pt_cmpR op_lt (pe_callB call_len_seq (by rfl) T.b_len PySem.boot_len (pa_cons (pv 1) pa_nil)) (pe_glob (v := .int 43) rfl T.g_SHORTEST ⟨_, rfl⟩) (nomark _)) (pw_or1 (pt_cmpR op_gt (pe_callB call_len_seq (by rfl) T.b_len PySem.boot_len (pa_cons (pv 1) pa_nil)) (pe_glob (v := .int 233) rfl T.g_LONGEST ⟨_, rfl⟩) (nomark _))))) (pss_one (ps_ret pe_non)) pss_nil)
    (pss_cons (ps_set (i := 2) sc_packet_of.nd rfl (Or.inl rfl) (pe_meth (pv 0) T.c_Code.cl T.f_Code_mend_row.m G_Code_mend_row (hr.mono (by decide)) T.f_Code_mend_row.b .nil pass0 (pa_cons (pv 1) pa_nil)))
    (pss_cons (ps_if (pt_cmp (pc_isN (pv 2))) (pss_one (ps_ret pe_non)) pss_nil)
    (pss_cons (ps_set (i := 3) sc_packet_of.nd rfl (Or.inl rfl) (pe_slice sl_list (pe_ix ix_tup (pv 2) pe_int (fun _ _ => rfl)) po_none (po_some (pe_op op_sub (pe_callB call_len_seq (by rfl) T.b_len PySem.boot_len (pa_cons (pv 1) pa_nil)) (pe_glob (v := .int 16) rfl T.g_PARITY ⟨_, rfl⟩)))))
    (pss_cons (ps_set (i := 4) sc_packet_of.nd rfl (Or.inl rfl) (pe_slice sl_list (pv 3) po_none (po_some (pe_op op_sub (pe_callB call_len_seq (by rfl) T.b_len PySem.boot_len (pa_cons (pv 3) pa_nil)) (pe_glob (v := .int 4) rfl T.g_SUM ⟨_, rfl⟩)))))
    (pss_cons (ps_set (i := 5) sc_packet_of.nd rfl (Or.inl rfl) (pe_call G_parted (hr.mono (by decide)) rfl T.f_parted.g T.f_parted.F.kp T.f_parted.b .nil pass0 (pa_cons (pv 4) pa_nil)))
    (pss_cons (ps_if (PW.pt (pw_or (pt_cmpR op_ne (pe_call G_value_of (hr.mono (by decide)) rfl T.f_value_of.g T.f_value_of.F.kp T.f_value_of.b .nil pass0 (pa_cons (pe_slice sl_list (pv 3) (po_some (pe_callB call_len_seq (by rfl) T.b_len PySem.boot_len (pa_cons (pv 4) pa_nil))) po_none) pa_nil)) (pe_call G_crc_of (hr.mono (by decide)) rfl T.f_crc_of.g T.f_crc_of.F.kp T.f_crc_of.b .nil pass0 (pa_cons (pv 4) pa_nil)) (nomark _)) (pw_or1 (pt_not (pt_val (pe_call G_kind_fits (hr.mono (by decide)) rfl T.f_kind_fits.g T.f_kind_fits.F.kp T.f_kind_fits.b .nil pass0 (pa_cons (pv 5) pa_nil))))))) (pss_one (ps_ret pe_non)) pss_nil)
    (pss_one (ps_ret (pe_tup (pa_cons (pe_ix ix_tup (pv 2) pe_int (fun _ _ => rfl)) (pa_cons (pv 5) pa_nil)))))))))))), ?_⟩
  obtain ⟨dx, fa, dv, g1, g2, g3⟩ := id hC
  have hvl : (nv v).length = v.length := nv_length _
  refine ⟨_, rfl, r, _, rfl, .inl hr', _, _, rfl, rfl, _, rfl, ite2 (fun z => ?_) (fun z => ?_)⟩
  · have hz := of_decide_eq_true z
    rw [hvl] at hz
    exact iteT (qn (open_none (.inl (by omega))) H (Ex.refl H))
  have hz : ¬ v.length < 43 := fun y => z (decide_eq_true (by rw [hvl]; omega))
  refine ⟨_, rfl, r, _, rfl, .inl hr', _, _, rfl, rfl, _, rfl, ite2 (fun z2 => ?_) (fun z2 => ?_)⟩
  · have hz2 := of_decide_eq_true z2
    rw [hvl] at hz2
    exact qn (open_none (.inr (by omega))) H (Ex.refl H)
  have hz2 : ¬ 233 < v.length := fun y => z2 (decide_eq_true (by rw [hvl]; omega))
  have hin : ¬ (v.length < 43 ∨ 233 < v.length) := fun y => y.elim hz hz2
  refine ⟨_, rfl, _, _, _, rfl, g1, no_Code_mend_row, _, rfl, c, r, v, rfl, hC, hr', hby, by omega, by omega, fun hm H1 x1 => ?_, fun b n hm t H1 ⟨o, nt, no, x1, e1, e2⟩ => ?_⟩
  · exact ⟨_, rfl, _, rfl, iteT (qn (open_bad hin hm) H1 x1)⟩
  obtain ⟨hbb, hbl⟩ := mend_some hby (by omega) hm
  have hop := open_some hin hm
  rw [hop] at qn qs
  refine ⟨_, rfl, _, rfl, iteF ?_⟩
  refine ⟨_, rfl, t, _, _, _, rfl, rfl, SqT.of e1, atI_nat (j := 1) rfl, _, rfl, r, _, rfl, .inl (ex_l x1 hr'), _, _, rfl, rfl, _, rfl, o, _, rfl, SqL.of e2, fun p1 n1 => ?_⟩
  have c1 : cutV (nv b) none (some (((nv v).length : Int) - 16)) = nv (b.take (b.length - 16)) := by
    rw [← cut_to, hvl, hbl]
    congr 2
    omega
  rw [c1]
  have x2 := x1.trans (Ex.new (o := .lst (nv (b.take (b.length - 16)))) n1)
  have v1 : upd H1 p1 (.lst (nv (b.take (b.length - 16)))) p1 = some (.lst (nv (b.take (b.length - 16)))) := upd_same
  have hfl : (b.take (b.length - 16)).length = b.length - 16 := by rw [List.length_take]; omega
  have e1' := (Ex.new (o := .lst (nv (b.take (b.length - 16)))) n1) _ _ e1
  generalize upd H1 p1 (.lst (nv (b.take (b.length - 16)))) = H2 at x2 v1 e1'
  refine ⟨_, rfl, _, rfl, p1, _, rfl, .inl (SqL.of v1), _, _, rfl, rfl, _, rfl, p1, _, rfl, SqL.of v1, fun p2 n2 => ?_⟩
  have c2 : cutV (nv (b.take (b.length - 16))) none (some (((nv (b.take (b.length - 16))).length : Int) - 4)) = nv (b.take (b.length - 20)) := by
    have : (((nv (b.take (b.length - 16))).length : Int) - 4) = ((b.length - 20 : Nat) : Int) := by rw [nv_length, hfl]; omega
    rw [this, cut_to, List.take_take]
    congr 2
    omega
  rw [c2]
  have y3 := Ex.new (o := .lst (nv (b.take (b.length - 20)))) n2
  have x3 := x2.trans y3
  have v2 : upd H2 p2 (.lst (nv (b.take (b.length - 20)))) p2 = some (.lst (nv (b.take (b.length - 20)))) := upd_same
  have v1' := y3 _ _ v1
  have e1'' := y3 _ _ e1'
  have hbl2 : (b.take (b.length - 20)).length = b.length - 20 := by rw [List.length_take]; omega
  generalize upd H2 p2 (.lst (nv (b.take (b.length - 20)))) = H3 at x3 v2 v1' e1''
  refine ⟨_, rfl, p2, _, rfl, SqL.of v2, by omega, fun pk po H4 npk npo x4 hP => ?_⟩
  have npo' : H po = none := fresh_back x3 npo
  have x34 := x3.trans x4
  have npk' : H pk = none := fresh_back x3 npk
  have v2' := x4 _ _ v2
  refine ⟨_, rfl, _, rfl, p2, _, rfl, .inl (SqL.of v2'), _, rfl, p1, _, rfl, SqL.of (x4 _ _ v1'), fun p3 n3 => ?_⟩
  have c3 : cutV (nv (b.take (b.length - 16))) (some ((nv (b.take (b.length - 20))).length : Int)) none = nv ((b.drop (b.length - 20)).take 4) := by
    rw [nv_length, hbl2, cut_from, List.drop_take]
    congr 2
    omega
  rw [c3]
  have x5 := Ex.new (o := .lst (nv ((b.drop (b.length - 20)).take 4))) n3
  have hP5 := hP.ex x5
  have l4 : ((b.drop (b.length - 20)).take 4).length = 4 := by rw [List.length_take, List.length_drop]; omega
  have hsb := Gf.sum_bytes (l := b.take (b.length - 20)) (m := (b.drop (b.length - 20)).take 4) ((hbb.drop _).take _) l4
  refine ⟨p3, _, rfl, SqL.of upd_same, _, rfl, p2, _, rfl, SqL.of (x5 _ _ v2'), hbb.take _, rfl, _, rfl, ?_⟩
  by_cases s1 : Fm11.number ((b.drop (b.length - 20)).take 4) = Fm11.sum (b.take (b.length - 20))
  · have d1 : (!decide (V.int (Fm11.number ((b.drop (b.length - 20)).take 4) : Nat) = V.int (Fm11.sum (b.take (b.length - 20)) : Nat))) = false := by
      rw [s1]
      simp
    rw [d1]
    rw [if_neg (fun y => y (hsb.mpr s1))] at qn qs
    refine iteF ⟨_, rfl, pk, packetOf (b.take (b.length - 20)), rfl, hP5.at_, _, rfl, ?_⟩
    by_cases s2 : fitsKind (packetOf (b.take (b.length - 20))) = true
    · rw [if_pos s2] at qs
      rw [s2]
      refine iteF ?_
      have e5 := x5 _ _ (x4 _ _ e1'')
      refine ⟨_, rfl, t, _, _, _, rfl, rfl, SqT.of e5, atI_nat (j := 0) rfl, _, rfl, by show 2 ≤ sizeLine; decide, fun tt ntt => ?_⟩
      exact qs _ _ rfl tt pk po _ (fresh_back (x34.trans x5) ntt) npk' npo' ((x34.trans x5).trans (Ex.new ntt)) upd_same (hP5.ex (Ex.new ntt))
    · rw [if_neg s2] at qn
      have s3 : fitsKind (packetOf (b.take (b.length - 20))) = false := by simpa using s2
      rw [s3]
      exact iteT (qn rfl _ (x34.trans x5))
  · have d1 : (!decide (V.int (Fm11.number ((b.drop (b.length - 20)).take 4) : Nat) = V.int (Fm11.sum (b.take (b.length - 20)) : Nat))) = true := by
      simp
      intro y
      exact s1 (by omega)
    rw [d1]
    rw [if_pos (fun y => s1 (hsb.mp y))] at qn
    exact iteT (qn rfl _ (x34.trans x5))
end
end Sl
/-! ## Min3 -/
set_option Elab.async false
set_option linter.all false
set_option maxRecDepth 100000
set_option maxHeartbeats 4000000
/-! min of three whole numbers, a rule of my own -/
namespace L2
open PySem PySem.Spec PyProof.Rows
section
variable {X : Cx}
def least3 (i j k : Int) : Int := if j < i then (if k < j then k else j) else if k < i then k else i
theorem call_min3 (hc : X.calm = true) : CallR X (.builtin "min") (fun xs H Q => ∃ i j k, xs = [.int i, .int j, .int k] ∧ Q (.int (least3 i j k)) H) := fun pins s σ H xs us Q I r ⟨i, j, k, e, q⟩ => by
  subst e
  obtain ⟨u, us1, rfl, ⟨t1, rfl⟩, r1⟩ : ∃ u us1, us = u :: us1 ∧ RelV (.int i) u ∧ Vals [.int j, .int k] us1 := by
    cases r with | cons h1 h2 => exact ⟨_, _, rfl, h1, h2⟩
  obtain ⟨u2, us2, rfl, ⟨t2, rfl⟩, r2⟩ : ∃ u us2, us1 = u :: us2 ∧ RelV (.int j) u ∧ Vals [.int k] us2 := by
    cases r1 with | cons h1 h2 => exact ⟨_, _, rfl, h1, h2⟩
  obtain ⟨u3, rfl, t3, rfl⟩ := vals1 r2
  refine min_three_ints (I.ok.hd hc) fun h' tk kept => ⟨.int (least3 i j k), H, I.kept kept, ?_, q⟩
  unfold least3
  by_cases a : j < i <;> by_cases b : k < j <;> by_cases c : k < i <;> simp only [a, b, c, if_true, if_false] <;> exact ⟨_, rfl⟩
end
end L2
/-! ## Bt -/
set_option Elab.async false
set_option linter.all false
set_option maxRecDepth 100000
set_option maxHeartbeats 4000000
namespace Sl
open PySem PySem.Spec PyProof.Rows L2 Evl
/-! ### what lies outside a footprint -/
def Out (F : List Addr) (H : Hp) : Hp := fun b => if b ∈ F then none else H b
theorem out_in {F : List Addr} {H : Hp} {b : Addr} (h : b ∈ F) : Out F H b = none := if_pos h
theorem out_of {F : List Addr} {H : Hp} {b : Addr} (h : b ∉ F) : Out F H b = H b := if_neg h
theorem out_some {F : List Addr} {H : Hp} {b : Addr} {o : HO} (h : Out F H b = some o) : b ∉ F ∧ H b = some o := by
  by_cases c : b ∈ F
  · rw [out_in c] at h
    cases h
  · rw [out_of c] at h
    exact ⟨c, h⟩
theorem out_mk {F : List Addr} {H : Hp} {b : Addr} {o : HO} (h : b ∉ F) (e : H b = some o) : Out F H b = some o := by
  rw [out_of h]
  exact e
theorem out_le (F : List Addr) (H : Hp) : Ex (Out F H) H := fun b o h => (out_some h).2
/-- what's outside stays, and stays outside -/
def Grow (F : List Addr) (H : Hp) (F' : List Addr) (H' : Hp) : Prop := Ex (Out F H) (Out F' H')
theorem Grow.mk {F F' : List Addr} {H H' : Hp} (h : ∀ b o, b ∉ F → H b = some o → b ∉ F' ∧ H' b = some o) : Grow F H F' H' := fun b o e => by
  obtain ⟨h1, h2⟩ := out_some e
  obtain ⟨h3, h4⟩ := h b o h1 h2
  exact out_mk h3 h4
theorem Grow.get {F F' : List Addr} {H H' : Hp} (g : Grow F H F' H') {b : Addr} {o : HO} (h : b ∉ F) (e : H b = some o) : b ∉ F' ∧ H' b = some o := out_some (g b o (out_mk h e))
theorem Grow.refl (F : List Addr) (H : Hp) : Grow F H F H := Ex.refl _
theorem Grow.trans {F F1 F2 : List Addr} {H H1 H2 : Hp} (a : Grow F H F1 H1) (b : Grow F1 H1 F2 H2) : Grow F H F2 H2 := Ex.trans a b
theorem Grow.ex {F : List Addr} {H H' : Hp} (e : Ex H H') : Grow F H F H' := Grow.mk fun b o h1 h2 => ⟨h1, e b o h2⟩
theorem Grow.put {F : List Addr} {H : Hp} {b : Addr} (o : HO) (h : b ∈ F) : Grow F H F (upd H b o) := Grow.mk fun c u h1 h2 => ⟨h1, by
  rw [upd_ne (fun e => h1 (by rw [e]; exact h))]
  exact h2⟩
theorem Grow.new {F : List Addr} {H : Hp} {p : Addr} (o : HO) (h : H p = none) : Grow F H (p :: F) (upd H p o) := Grow.mk fun c u h1 h2 => by
  have hc := ne_of_none h2 h
  exact ⟨fun z => (List.mem_cons.mp z).elim hc h1, by rw [upd_ne hc]; exact h2⟩
/-- a footprint that has no more than fresh places besides -/
theorem Grow.into {F F' : List Addr} {H : Hp} (h : ∀ b, b ∈ F' → b ∈ F ∨ H b = none) : Grow F H F' H := Grow.mk fun b o h1 h2 => ⟨fun z => (h b z).elim h1 fun e => (by rw [e] at h2; cases h2), h2⟩
/-- the same seen from a larger footprint -/
theorem Grow.left {F F' G : List Addr} {H H' : Hp} (g : Grow F H F' H') : Grow (F ++ G) H (F' ++ G) H' := Grow.mk fun b o h1 h2 => by
  have hF : b ∉ F := fun z => h1 (List.mem_append.mpr (.inl z))
  obtain ⟨h3, h4⟩ := g.get hF h2
  exact ⟨fun z => (List.mem_append.mp z).elim h3 fun y => h1 (List.mem_append.mpr (.inr y)), h4⟩
theorem Grow.right {F F' G : List Addr} {H H' : Hp} (g : Grow F H F' H') : Grow (G ++ F) H (G ++ F') H' := Grow.mk fun b o h1 h2 => by
  have hF : b ∉ F := fun z => h1 (List.mem_append.mpr (.inr z))
  obtain ⟨h3, h4⟩ := g.get hF h2
  exact ⟨fun z => (List.mem_append.mp z).elim (fun y => h1 (List.mem_append.mpr (.inl y))) h3, h4⟩
theorem Grow.cons {F F' : List Addr} {H H' : Hp} (a : Addr) (g : Grow F H F' H') : Grow (a :: F) H (a :: F') H' := g.right (G := [a])
/-- what's new since -/
def New (H H' : Hp) : Hp := fun b => match H b with
  | none => H' b
  | some _ => none
theorem new_mk {H H' : Hp} {b : Addr} {o : HO} (h : H b = none) (e : H' b = some o) : New H H' b = some o := by
  unfold New
  rw [h]
  exact e
theorem new_some {H H' : Hp} {b : Addr} {o : HO} (e : New H H' b = some o) : H b = none ∧ H' b = some o := by
  unfold New at e
  cases h : H b with
  | none => rw [h] at e; exact ⟨rfl, e⟩
  | some u => rw [h] at e; cases e
theorem new_out {F : List Addr} {H H' : Hp} (h : ∀ b ∈ F, H b ≠ none) : Ex (New H H') (Out F H') := fun b o e => by
  obtain ⟨h1, h2⟩ := new_some e
  exact out_mk (fun z => h b z h1) h2
theorem new_le {H H' : Hp} : Ex (New H H') H' := fun b o e => (new_some e).2
/-- new since later is new since earlier -/
theorem new_back {H H1 H2 : Hp} (e : Ex H H1) : Ex (New H1 H2) (New H H2) := fun b o k => by
  obtain ⟨h1, h2⟩ := new_some k
  exact new_mk (fresh_back e h1) h2
/-! ### pieces, parts, the sending side -/
def kindN (p : Fm11.Piece) : Nat := if p.len = 0 then 2 else 1
def pieceV (p : Fm11.Piece) : List (Str × V) := fl_Piece (.int (kindN p : Nat)) (.int (p.seq : Nat)) (.int ((max p.len 1 : Nat) : Int)) (.int (p.due : Nat)) (.int (p.often : Nat))
def PieceAt (A : Adr) (H : Hp) (a : Addr) (p : Fm11.Piece) : Prop := ∃ dx, H a = some (.ins A.c_Piece dx (pieceV p))
theorem PieceAt.ex {A : Adr} {H H' : Hp} {a : Addr} {p : Fm11.Piece} (e : Ex H H') (h : PieceAt A H a p) : PieceAt A H' a p := by
  obtain ⟨dx, h1⟩ := h
  exact ⟨dx, e _ _ h1⟩
def PartAt (A : Adr) (H : Hp) (a : Addr) (k : Fm11.Packet) : Prop := ∃ dx q, H a = some (.ins A.c_Part dx (fl_Part (.int (k.kind : Nat)) (.int (k.seq : Nat)) (.ref q))) ∧ H q = some (.lst (nv k.bytes))
theorem PartAt.ex {A : Adr} {H H' : Hp} {a : Addr} {k : Fm11.Packet} (e : Ex H H') (h : PartAt A H a k) : PartAt A H' a k := by
  obtain ⟨dx, q, h1, h2⟩ := h
  exact ⟨dx, q, e _ _ h1, e _ _ h2⟩
/-- a list of parts, they outside of it -/
def PartsL (A : Adr) (H : Hp) (l : Addr) (out : List Fm11.Packet) : Prop := ∃ qs : List (Addr × Fm11.Packet), H l = some (.lst (qs.map fun y => V.ref y.1)) ∧ (∀ y ∈ qs, PartAt A (Out [l] H) y.1 y.2) ∧ out = qs.map (·.2)
theorem PartsL.ex {A : Adr} {H H' : Hp} {l : Addr} {out : List Fm11.Packet} (e : Ex H H') (h : PartsL A H l out) : PartsL A H' l out := by
  obtain ⟨qs, h1, h2, h3⟩ := h
  exact ⟨qs, e _ _ h1, fun y hy => (h2 y hy).ex (Grow.ex (F := [l]) e), h3⟩
theorem PartsL.more {A : Adr} {H H2 : Hp} {l q : Addr} {out : List Fm11.Packet} {k : Fm11.Packet} {xs : List V} (h : PartsL A H l out) (hl : H l = some (.lst xs)) (e : Ex H H2) (hp : PartAt A (New H H2) q k) :
    PartsL A (upd H2 l (.lst (xs ++ [.ref q]))) l (out ++ [k]) := by
  obtain ⟨qs, h1, h2, h3⟩ := h
  have hx : xs = qs.map fun y => V.ref y.1 := by
    rw [h1] at hl
    exact (HO.lst.inj (Option.some.inj hl)).symm
  refine ⟨qs ++ [(q, k)], by rw [upd_same, hx, List.map_append]; rfl, fun y hy => ?_, by rw [h3, List.map_append]; rfl⟩
  rcases List.mem_append.mp hy with hy | hy
  · refine (h2 y hy).ex fun b o k => ?_
    obtain ⟨k1, k2⟩ := out_some k
    have hb : b ≠ l := fun z => k1 (by rw [z]; exact List.mem_singleton.mpr rfl)
    exact out_mk k1 (by rw [upd_ne hb]; exact e _ _ k2)
  · rw [List.mem_singleton.mp hy]
    refine hp.ex fun b o k => ?_
    obtain ⟨k1, k2⟩ := new_some k
    have hb : b ≠ l := fun z => by rw [z, hl] at k1; cases k1
    exact out_mk (fun z => hb (List.mem_singleton.mp z)) (by rw [upd_ne hb]; exact k2)
theorem PartsL.step {A : Adr} {H H' U H3 : Hp} {l q : Addr} {out : List Fm11.Packet} {k : Fm11.Packet} {xs : List V} (pl : PartsL A (New H H') l out) (nl : H l = none) (e1 : Ex (New H H') (New H U)) (hl : U l = some (.lst xs))
    (dm : ∀ b o, H b = some o → U b ≠ none) (e3 : Ex U H3) (hp : PartAt A (New U H3) q k) : PartsL A (New H (upd H3 l (.lst (xs ++ [.ref q])))) l (out ++ [k]) := by
  have e2 : Ex (New H U) (New H H3) := fun b o z => by
    obtain ⟨z1, z2⟩ := new_some z
    exact new_mk z1 (e3 _ _ z2)
  have := (pl.ex e1).more (new_mk nl hl) e2 (hp.ex fun b o z => by
    obtain ⟨z1, z2⟩ := new_some z
    have hb : H b = none := by
      cases c : H b with
      | none => rfl
      | some u => exact absurd z1 (dm b u c)
    refine new_mk ?_ (new_mk hb z2)
    show (match H b with | none => U b | some _ => none) = none
    rw [hb]
    exact z1)
  refine this.ex fun b o z => ?_
  by_cases c : b = l
  · rw [c, upd_same] at z
    rw [c]
    exact new_mk nl (by rw [upd_same]; exact z)
  · rw [upd_ne c] at z
    obtain ⟨z1, z2⟩ := new_some z
    exact new_mk z1 (by rw [upd_ne c]; exact z2)
def SendW (A : Adr) (H : Hp) (a dx so sp : Addr) (ps : List (Addr × Fm11.Piece)) (x : Fm11.Link) : Prop :=
  H a = some (.ins A.c_Sending dx (fl_Sending (.int (x.base : Nat)) (.ref so) (.int (x.sent : Nat)) (.ref sp) (.int (x.limit : Nat)) (.bl x.told) (.bl x.ending) (.int (x.asks : Nat)))) ∧
  H so = some (.lst (nv x.rest)) ∧ H sp = some (.lst (ps.map fun y => V.ref y.1)) ∧ (∀ y ∈ ps, PieceAt A H y.1 y.2) ∧ x.flight = ps.map (·.2) ∧ (a :: so :: sp :: ps.map (·.1)).Nodup
def SendAt (A : Adr) (H : Hp) (a : Addr) (F : List Addr) (x : Fm11.Link) : Prop := ∃ dx so sp ps, SendW A H a dx so sp ps x ∧ F = a :: so :: sp :: ps.map (·.1)
/-- what's told of it is told by its footprint alone -/
theorem SendAt.on {A : Adr} {H H' : Hp} {a : Addr} {F : List Addr} {x : Fm11.Link} (h : SendAt A H a F x) (e : ∀ b o, b ∈ F → H b = some o → H' b = some o) : SendAt A H' a F x := by
  obtain ⟨dx, so, sp, ps, ⟨h1, h2, h3, h4, h5, h6⟩, rfl⟩ := h
  refine ⟨dx, so, sp, ps, ⟨e _ _ (List.mem_cons_self ..) h1, e _ _ (by simp) h2, e _ _ (by simp) h3, fun y hy => ?_, h5, h6⟩, rfl⟩
  obtain ⟨dy, k⟩ := h4 y hy
  exact ⟨dy, e _ _ (List.mem_cons_of_mem _ (List.mem_cons_of_mem _ (List.mem_cons_of_mem _ (List.mem_map.mpr ⟨y, hy, rfl⟩)))) k⟩
theorem SendAt.ex {A : Adr} {H H' : Hp} {a : Addr} {F : List Addr} {x : Fm11.Link} (h : SendAt A H a F x) (e : Ex H H') : SendAt A H' a F x := h.on fun b o _ k => e b o k
theorem SendAt.dom {A : Adr} {H : Hp} {a : Addr} {F : List Addr} {x : Fm11.Link} (h : SendAt A H a F x) : ∀ b ∈ F, H b ≠ none := by
  obtain ⟨dx, so, sp, ps, ⟨h1, h2, h3, h4, h5, h6⟩, rfl⟩ := h
  intro b hb
  rcases List.mem_cons.mp hb with e | hb
  · rw [e, h1]; exact fun z => by cases z
  rcases List.mem_cons.mp hb with e | hb
  · rw [e, h2]; exact fun z => by cases z
  rcases List.mem_cons.mp hb with e | hb
  · rw [e, h3]; exact fun z => by cases z
  obtain ⟨y, hy, rfl⟩ := List.mem_map.mp hb
  obtain ⟨dy, k⟩ := h4 y hy
  rw [k]; exact fun z => by cases z
theorem SendAt.fresh {A : Adr} {H : Hp} {a : Addr} {F : List Addr} {x : Fm11.Link} (h : SendAt A H a F x) {b : Addr} (hb : H b = none) : b ∉ F := fun z => h.dom b z hb
/-! ### promises of the sending side -/
def sp_Piece_init (K : PySem.W.Frag) (A : Adr) : Sp := fun vs H Q _ => ∃ (p dx : Addr) (k : Fm11.Piece), vs = [.ref p, .int (kindN k : Nat), .int (k.seq : Nat), .int ((max k.len 1 : Nat) : Int), .int (k.due : Nat)] ∧ H p = some (.ins A.c_Piece dx []) ∧ k.often = 1 ∧
  ∀ H' : Hp, PieceAt A H' p k → (∀ b o, H b = some o → b ≠ p → H' b = some o) → Q .non H'
def sp_Part_init (K : PySem.W.Frag) (A : Adr) : Sp := fun vs H Q _ => ∃ (p dx q : Addr) (k : Fm11.Packet), vs = [.ref p, .int (k.kind : Nat), .int (k.seq : Nat), .ref q] ∧ H p = some (.ins A.c_Part dx []) ∧ H q = some (.lst (nv k.bytes)) ∧
  ∀ H' : Hp, (∃ dx', H' p = some (.ins A.c_Part dx' (fl_Part (.int (k.kind : Nat)) (.int (k.seq : Nat)) (.ref q))) ∧ H' q = some (.lst (nv k.bytes))) → (∀ b o, H b = some o → b ≠ p → H' b = some o) → Q .non H'
def sp_wait_after (K : PySem.W.Frag) (A : Adr) : Sp := fun vs H Q _ => ∃ n : Nat, vs = [.int (n : Int)] ∧ 1 ≤ n ∧ n < 2 ^ 61 ∧ Q (.int (Fm11.wait n : Nat)) H
def sp_Sending_init (K : PySem.W.Frag) (A : Adr) : Sp := fun vs H Q _ => ∃ p dx : Addr, vs = [.ref p] ∧ H p = some (.ins A.c_Sending dx []) ∧
  ∀ (H' : Hp) (F : List Addr) (n : Nat), SendAt A H' p F (Fm11.begin_ n) → Grow [p] H F H' → Q .non H'
def putCode (x : Fm11.Link) (l : List Nat) : Int := if 65536 < l.length then -1 else if x.told = true then -6 else if 65536 < x.rest.length + l.length then -5 else 0
def putLink (x : Fm11.Link) (l : List Nat) : Fm11.Link := if 65536 < l.length then x else if x.told = true then x else if 65536 < x.rest.length + l.length then x else x.put l
def sp_Sending_put (K : PySem.W.Frag) (A : Adr) : Sp := fun vs H Q _ => ∃ (s o : Addr) (F : List Addr) (x : Fm11.Link) (l : List Nat), vs = [.ref s, .ref o] ∧ SendAt A H s F x ∧ Out F H o = some (.lst (nv l)) ∧ x.rest.length ≤ 100000 ∧ l.length ≤ 100000 ∧
  ∀ H', SendAt A H' s F (putLink x l) → Grow F H F H' → Q (.int (putCode x l)) H'
def finCode (x : Fm11.Link) : Int := if x.told = true then -6 else 0
def finLink (x : Fm11.Link) : Fm11.Link := if x.told = true then x else x.finish
def sp_Sending_finish (K : PySem.W.Frag) (A : Adr) : Sp := fun vs H Q _ => ∃ (s : Addr) (F : List Addr) (x : Fm11.Link), vs = [.ref s] ∧ SendAt A H s F x ∧
  ∀ H', SendAt A H' s F (finLink x) → Grow F H F H' → Q (.int (finCode x)) H'
def unsent (x : Fm11.Link) : Int := (x.base : Int) + (x.rest.length : Int) - (x.sent : Int)
def sp_Sending_bytes_unsent (K : PySem.W.Frag) (A : Adr) : Sp := fun vs H Q _ => ∃ (s : Addr) (F : List Addr) (x : Fm11.Link), vs = [.ref s] ∧ SendAt A H s F x ∧ Q (.int (unsent x)) H
def sp_Sending_answer_part (K : PySem.W.Frag) (A : Adr) : Sp := fun vs H Q _ => ∃ (s : Addr) (F : List Addr) (x : Fm11.Link), vs = [.ref s] ∧ SendAt A H s F x ∧
  ∀ q H', H q = none → Ex H H' → PartAt A (New H H') q (x.plain 0) → Q (.ref q) H'
def sp_Sending_part_of (K : PySem.W.Frag) (A : Adr) : Sp := fun vs H Q _ => ∃ (s a : Addr) (F : List Addr) (x : Fm11.Link) (p : Fm11.Piece), vs = [.ref s, .ref a] ∧ SendAt A H s F x ∧ PieceAt A H a p ∧
  ∀ q H', H q = none → Ex H H' → PartAt A (New H H') q (x.piece p) → Q (.ref q) H'
/-- the pieces that are due, again -/
def onceMore (t : Nat) (p : Fm11.Piece) : Fm11.Piece := if p.due ≤ t then { p with due := t + Fm11.wait (p.often + 1), often := p.often + 1 } else p
def againLink (x : Fm11.Link) (t : Nat) : Fm11.Link := { x with flight := x.flight.map (onceMore t) }
def againOut (x : Fm11.Link) (t : Nat) : List Fm11.Packet := (x.flight.filter fun p => decide (p.due ≤ t)).map x.piece
def sp_Sending_parts_again (K : PySem.W.Frag) (A : Adr) : Sp := fun vs H Q _ => ∃ (s : Addr) (t : Nat) (F : List Addr) (x : Fm11.Link), vs = [.ref s, .int (t : Nat)] ∧ SendAt A H s F x ∧ x.flight.length ≤ 1000 ∧ (∀ p ∈ x.flight, p.often < 2 ^ 60) ∧
  ∀ l H', H l = none → SendAt A H' s F (againLink x t) → Grow F H F H' → PartsL A (New H H') l (againOut x t) → Q (.ref l) H'
/-- a new piece, or none -/
def newLen (x : Fm11.Link) : Nat := min Fm11.MOST (min (x.total - x.sent) (x.limit - x.sent))
def mayNew (x : Fm11.Link) : Prop := 0 < newLen x ∨ (x.told = true ∧ x.ending = false ∧ x.sent = x.total)
instance (x : Fm11.Link) : Decidable (mayNew x) := by unfold mayNew; exact inferInstance
def sp_Sending_new_piece (K : PySem.W.Frag) (A : Adr) : Sp := fun vs H Q _ => ∃ (s : Addr) (d : Nat) (F : List Addr) (x : Fm11.Link), vs = [.ref s, .int (d : Nat)] ∧ SendAt A H s F x ∧
  (¬ mayNew x → Q .non H) ∧ (mayNew x → ∀ p H', SendAt A H' s F { x with ending := x.ending || newLen x == 0 } → Grow F H F H' → PieceAt A (New H H') p ⟨x.sent, newLen x, d, 1⟩ → Q (.ref p) H')
/-- new pieces at a time -/
def newLink (x : Fm11.Link) (d : Nat) : Fm11.Link := { x with flight := x.flight ++ [⟨x.sent, newLen x, d, 1⟩], sent := (⟨x.sent, newLen x, d, 1⟩ : Fm11.Piece).next, ending := x.ending || newLen x == 0 }
def moreAt (d : Nat) : Nat → Fm11.Link → Fm11.Link × List Fm11.Packet
  | 0, x => (x, [])
  | k + 1, x => if Fm11.FLIGHT ≤ x.flight.length then (x, []) else if mayNew x then ((moreAt d k (newLink x d)).1, x.piece ⟨x.sent, newLen x, d, 1⟩ :: (moreAt d k (newLink x d)).2) else (x, [])
def sp_Sending_new_parts (K : PySem.W.Frag) (A : Adr) : Sp := fun vs H Q _ => ∃ (s : Addr) (t : Nat) (F : List Addr) (x : Fm11.Link), vs = [.ref s, .int (t : Nat)] ∧ SendAt A H s F x ∧ x.flight.length ≤ 1000 ∧
  ∀ l H' F', H l = none → SendAt A H' s F' (moreAt (t + 4) 8 x).1 → Grow F H F' H' → PartsL A (Out F' (New H H')) l (moreAt (t + 4) 8 x).2 → (∀ b ∈ F, b ∈ F') → Q (.ref l) H'
def asking (x : Fm11.Link) (t : Nat) : Bool := x.flight.isEmpty && (decide (x.sent < x.total) && decide (x.asks ≤ t))
def partsLink (x : Fm11.Link) (t : Nat) : Fm11.Link := { (moreAt (t + 4) 8 (againLink x t)).1 with asks := if asking (moreAt (t + 4) 8 (againLink x t)).1 t = true then t + 16 else (moreAt (t + 4) 8 (againLink x t)).1.asks }
def partsOut (x : Fm11.Link) (t : Nat) : List Fm11.Packet := againOut x t ++ ((moreAt (t + 4) 8 (againLink x t)).2 ++ if asking (moreAt (t + 4) 8 (againLink x t)).1 t = true then [(moreAt (t + 4) 8 (againLink x t)).1.plain 3] else [])
def sp_Sending_parts_at (K : PySem.W.Frag) (A : Adr) : Sp := fun vs H Q _ => ∃ (s : Addr) (t : Nat) (F : List Addr) (x : Fm11.Link), vs = [.ref s, .int (t : Nat)] ∧ SendAt A H s F x ∧ x.flight.length ≤ 1000 ∧ (∀ p ∈ x.flight, p.often < 2 ^ 60) ∧
  ∀ l H' F', H l = none → SendAt A H' s F' (partsLink x t) → Grow F H F' H' → PartsL A (Out F' (New H H')) l (partsOut x t) → (∀ b ∈ F, b ∈ F') → Q (.ref l) H'
def sp_Sending_answered (K : PySem.W.Frag) (A : Adr) : Sp := fun vs H Q _ => ∃ (s : Addr) (ack room : Nat) (F : List Addr) (x : Fm11.Link), vs = [.ref s, .int (ack : Nat), .int (room : Nat)] ∧ SendAt A H s F x ∧ x.flight.length ≤ 1000 ∧
  ∀ H' F', SendAt A H' s F' (x.heard ack room) → Grow F H F' H' → Q .non H'
end Sl
/-! ## D11 -/
set_option Elab.async false
set_option linter.all false
set_option maxRecDepth 100000
set_option maxHeartbeats 4000000
namespace Sl
open PySem PySem.Spec PyProof.Rows L2 Evl
section
variable {P : Program} {w : World} {K : PySem.W.Frag} {mg : Str → Option Value} {base : Heap} {A : Adr}
theorem ok_Piece_init (T : Top K mg A) : FnOk P w K mg base CX0 1 A.f_Piece_init A.d_Piece_init ["self", "kind", "number", "size", "due"] (sp_Piece_init K A) := by
  refine T.k_Piece.F.ok sc_Piece_init (fun vs H Q E h => by obtain ⟨_, _, _, rfl, _⟩ := h; rfl) (fun cdv Ar outer s H vs Q E hr h => ?_)
  obtain ⟨p, dx, k, rfl, hp, ho, q⟩ := h
  refine ⟨_, (pss_cons (ps_fld (pv 0) (pv 1) rfl)
    (pss_cons (ps_fld (pv 0) (pv 2) rfl)
    (pss_cons (ps_fld (pv 0) (pv 3) rfl)
    (pss_cons (ps_fld (pv 0) (pv 4) rfl)
    (pss_one (ps_fld (pv 0) pe_int rfl)))))), ?_⟩
  refine ⟨_, rfl, _, rfl, p, A.c_Piece, dx, [], rfl, hp, T.c_Piece.cl, T.c_Piece.n_kind, by decide, ?_⟩
  refine ⟨_, rfl, _, rfl, p, A.c_Piece, dx, _, rfl, upd_same, T.c_Piece.cl, T.c_Piece.n_number, by show 1 < 1000; decide, ?_⟩
  refine ⟨_, rfl, _, rfl, p, A.c_Piece, dx, _, rfl, upd_same, T.c_Piece.cl, T.c_Piece.n_size, by show 2 < 1000; decide, ?_⟩
  refine ⟨_, rfl, _, rfl, p, A.c_Piece, dx, _, rfl, upd_same, T.c_Piece.cl, T.c_Piece.n_due, by show 3 < 1000; decide, ?_⟩
  refine ⟨_, rfl, p, A.c_Piece, dx, _, rfl, upd_same, T.c_Piece.cl, T.c_Piece.n_times_sent, by show 4 < 1000; decide, ?_⟩
  refine q _ ⟨dx, by rw [upd_same]; unfold pieceV; rw [ho]; rfl⟩ fun b o' hb hbp => ?_
  rw [upd_ne hbp, upd_ne hbp, upd_ne hbp, upd_ne hbp, upd_ne hbp]
  exact hb
theorem ok_Part_init (T : Top K mg A) : FnOk P w K mg base CX0 1 A.f_Part_init A.d_Part_init ["self", "kind", "number", "octets"] (sp_Part_init K A) := by
  refine T.k_Part.F.ok sc_Part_init (fun vs H Q E h => by obtain ⟨_, _, _, _, rfl, _⟩ := h; rfl) (fun cdv Ar outer s H vs Q E hr h => ?_)
  obtain ⟨p, dx, o, k, rfl, hp, ho, q⟩ := h
  refine ⟨_, (pss_cons (ps_fld (pv 0) (pv 1) rfl)
    (pss_cons (ps_fld (pv 0) (pv 2) rfl)
    (pss_one (ps_fld (pv 0) (pv 3) rfl)))), ?_⟩
  refine ⟨_, rfl, _, rfl, p, A.c_Part, dx, [], rfl, hp, T.c_Part.cl, T.c_Part.n_kind, by decide, ?_⟩
  refine ⟨_, rfl, _, rfl, p, A.c_Part, dx, _, rfl, upd_same, T.c_Part.cl, T.c_Part.n_number, by show 1 < 1000; decide, ?_⟩
  refine ⟨_, rfl, _, rfl, p, A.c_Part, dx, _, rfl, upd_same, T.c_Part.cl, T.c_Part.n_octets, by show 2 < 1000; decide, ?_⟩
  have po : o ≠ p := fun e => by rw [e, hp] at ho; cases ho
  refine q _ ⟨dx, by rw [upd_same]; rfl, by rw [upd_ne po, upd_ne po, upd_ne po]; exact ho⟩ fun b o' hb hbp => ?_
  rw [upd_ne hbp, upd_ne hbp, upd_ne hbp]
  exact hb
theorem wait_step (i : Nat) : (if (64 : Int) < ((4 * 2 ^ min i 4 : Nat) : Int) * 2 then (64 : Int) else ((4 * 2 ^ min i 4 : Nat) : Int) * 2) = ((4 * 2 ^ min (i + 1) 4 : Nat) : Int) := by
  by_cases h : i < 4
  · have : i = 0 ∨ i = 1 ∨ i = 2 ∨ i = 3 := by omega
    rcases this with e | e | e | e <;> rw [e] <;> decide
  · rw [Nat.min_eq_right (by omega), Nat.min_eq_right (by omega)]
    decide
theorem ok_wait_after (T : Top K mg A) : FnOk P w K mg base CX0 1 A.f_wait_after A.d_wait_after ["times_sent"] (sp_wait_after K A) := by
  refine T.f_wait_after.F.ok sc_wait_after (fun vs H Q E h => by obtain ⟨_, rfl, _⟩ := h; rfl) (fun cdv Ar outer s H vs Q E hr h => ?_)
  obtain ⟨n, rfl, h1, h2, q⟩ := h
  refine ⟨_, (pss_cons (ps_set (i := 1) sc_wait_after.nd rfl (Or.inl rfl) (pe_glob (v := .int 4) rfl T.g_FIRST_WAIT ⟨_, rfl⟩))
    (pss_cons (ps_for PassesOwn.never rfl (pi_range1 rfl T.b_range (pa_cons (pe_op op_sub (pv 0) pe_int) pa_nil)) (pg_name (i := 2) sc_wait_after.nd rfl (Or.inl rfl))
    (pss_one (ps_set (i := 1) sc_wait_after.nd rfl (Or.inl rfl) (pe_callB (call_min2 rfl) (by rfl) T.b_min (by decide +kernel) (pa_cons (pe_op op_mul (pv 1) pe_int) (pa_cons (pe_glob (v := .int 64) rfl T.g_LONGEST_WAIT ⟨_, rfl⟩) pa_nil))))))
    (pss_one (ps_ret (pv 1))))), ?_⟩
  refine ⟨_, rfl, _, _, rfl, rfl, _, rfl, by omega, by omega, ?_⟩
  have e1 : ((n : Int) - 1).toNat = n - 1 := by omega
  rw [e1]
  refine for_range (lo := 0) (n := n - 1) (fun i σ H' => H' = H ∧ ∃ v : Option V, σ = [some (.int (n : Int)), some (.int ((4 * 2 ^ min i 4 : Nat) : Int)), v]) ⟨rfl, none, rfl⟩ ?_ ?_
  · rintro i σ H' hi ⟨rfl, v, rfl⟩
    refine ⟨_, rfl, _, _, rfl, rfl, .inr ⟨by decide, by decide⟩, _, _, rfl, rfl, some (.int (0 + (i : Int))), ?_⟩
    rw [← wait_step]
    rfl
  · rintro σ H' ⟨rfl, v, rfl⟩
    refine ⟨_, rfl, ?_⟩
    exact q
theorem ok_Sending_init (T : Top K mg A) : FnOk P w K mg base CX0 1 A.f_Sending_init A.d_Sending_init ["self"] (sp_Sending_init K A) := by
  refine T.k_Sending.F.ok sc_Sending_init (fun vs H Q E h => by obtain ⟨_, _, rfl, _⟩ := h; rfl) (fun cdv Ar outer s H vs Q E hr h => ?_)
  obtain ⟨p, dx, rfl, hp, q⟩ := h
  refine ⟨_, (pss_cons (ps_fld (pv 0) pe_int rfl)
    (pss_cons (ps_fld (pv 0) (pe_lst pa_nil) rfl)
    (pss_cons (ps_fld (pv 0) pe_int rfl)
    (pss_cons (ps_fld (pv 0) (pe_lst pa_nil) rfl)
    (pss_cons (ps_fld (pv 0) (pe_glob (v := .int 4096) rfl T.g_FIRST_LIMIT ⟨_, rfl⟩) rfl)
    (pss_cons (ps_fld (pv 0) pe_bl rfl)
    (pss_cons (ps_fld (pv 0) pe_bl rfl)
    (pss_one (ps_fld (pv 0) pe_int rfl))))))))), ?_⟩
  refine ⟨_, rfl, p, A.c_Sending, dx, [], rfl, hp, T.c_Sending.cl, T.c_Sending.n_first, by decide, ?_⟩
  refine ⟨by decide, fun so n1 => ?_⟩
  have so_p : so ≠ p := fun e => by rw [e, upd_same] at n1; cases n1
  rw [upd_ne so_p] at n1
  refine ⟨_, rfl, p, A.c_Sending, dx, _, rfl, by rw [upd_ne so_p.symm]; exact upd_same, T.c_Sending.cl, T.c_Sending.n_octets, by show 1 < 1000; decide, ?_⟩
  refine ⟨_, rfl, p, A.c_Sending, dx, _, rfl, upd_same, T.c_Sending.cl, T.c_Sending.n_unsent, by show 2 < 1000; decide, ?_⟩
  refine ⟨by decide, fun sp n2 => ?_⟩
  have sp_p : sp ≠ p := fun e => by rw [e, upd_same] at n2; cases n2
  rw [upd_ne sp_p, upd_ne sp_p] at n2
  have sp_so : sp ≠ so := fun e => by rw [e, upd_same] at n2; cases n2
  rw [upd_ne sp_so, upd_ne sp_p] at n2
  refine ⟨_, rfl, p, A.c_Sending, dx, _, rfl, by rw [upd_ne sp_p.symm]; exact upd_same, T.c_Sending.cl, T.c_Sending.n_pieces, by show 3 < 1000; decide, ?_⟩
  refine ⟨_, rfl, p, A.c_Sending, dx, _, rfl, upd_same, T.c_Sending.cl, T.c_Sending.n_limit, by show 4 < 1000; decide, ?_⟩
  refine ⟨_, rfl, p, A.c_Sending, dx, _, rfl, upd_same, T.c_Sending.cl, T.c_Sending.n_told, by show 5 < 1000; decide, ?_⟩
  refine ⟨_, rfl, p, A.c_Sending, dx, _, rfl, upd_same, T.c_Sending.cl, T.c_Sending.n_end_sent, by show 6 < 1000; decide, ?_⟩
  refine ⟨_, rfl, p, A.c_Sending, dx, _, rfl, upd_same, T.c_Sending.cl, T.c_Sending.n_ask_time, by show 7 < 1000; decide, ?_⟩
  refine q _ [p, so, sp] 0 ⟨dx, so, sp, [], ⟨by rw [upd_same]; rfl, ?_, ?_, fun y hy => absurd hy List.not_mem_nil, rfl, ?_⟩, rfl⟩ (Grow.mk fun b o hb e => ?_)
  · rw [upd_ne so_p, upd_ne so_p, upd_ne so_p, upd_ne so_p, upd_ne so_p, upd_ne sp_so.symm, upd_ne so_p, upd_ne so_p, upd_same]
    rfl
  · rw [upd_ne sp_p, upd_ne sp_p, upd_ne sp_p, upd_ne sp_p, upd_ne sp_p, upd_same]
    rfl
  · simp only [List.nodup_cons, List.mem_cons, List.map_nil, List.not_mem_nil, not_or, List.nodup_nil, and_true, not_false_eq_true, or_false]
    exact ⟨⟨so_p.symm, sp_p.symm⟩, sp_so.symm⟩
  · have hbp : b ≠ p := fun z => hb (by rw [z]; exact List.mem_singleton.mpr rfl)
    have h1 : b ≠ so := ne_of_none e n1
    have h2 : b ≠ sp := ne_of_none e n2
    refine ⟨fun z => ?_, ?_⟩
    · rcases List.mem_cons.mp z with z | z
      · exact hbp z
      rcases List.mem_cons.mp z with z | z
      · exact h1 z
      · exact h2 (List.mem_singleton.mp z)
    · rw [upd_ne hbp, upd_ne hbp, upd_ne hbp, upd_ne hbp, upd_ne hbp, upd_ne h2, upd_ne hbp, upd_ne hbp, upd_ne h1, upd_ne hbp]
      exact e
theorem ok_Sending_bytes_unsent (T : Top K mg A) : FnOk P w K mg base CX0 1 A.f_Sending_bytes_unsent A.d_Sending_bytes_unsent ["self"] (sp_Sending_bytes_unsent K A) := by
  refine T.f_Sending_bytes_unsent.F.ok sc_Sending_bytes_unsent (fun vs H Q E h => by obtain ⟨_, _, _, rfl, _⟩ := h; rfl) (fun cdv Ar outer s H vs Q E hr h => ?_)
  obtain ⟨s, F, x, rfl, ⟨dx, so, sp, ps, ⟨h1, h2, h3, h4, h5, h6⟩, rfl⟩, q⟩ := h
  refine ⟨_, (pss_one (ps_ret (pe_op op_sub (pe_op op_add (pe_fld (pv 0) rfl) (pe_callB call_len_seq (by rfl) T.b_len PySem.boot_len (pa_cons (pe_fld (pv 0) rfl) pa_nil))) (pe_fld (pv 0) rfl)))), ?_⟩
  refine ⟨_, rfl, _, _, _, _, _, rfl, h1, T.c_Sending.cl, T.c_Sending.n_first, lk_Sending_first, _, rfl, _, _, _, _, _, rfl, h1, T.c_Sending.cl, T.c_Sending.n_octets, lk_Sending_octets, so, _, rfl, .inl (SqL.of h2), _, _, rfl, rfl, _, rfl, _, _, _, _, _, rfl, h1, T.c_Sending.cl, T.c_Sending.n_unsent, lk_Sending_unsent, _, _, rfl, rfl, ?_⟩
  rw [nv_length]
  exact q
theorem ok_Sending_finish (T : Top K mg A) : FnOk P w K mg base CX0 1 A.f_Sending_finish A.d_Sending_finish ["self"] (sp_Sending_finish K A) := by
  refine T.f_Sending_finish.F.ok sc_Sending_finish (fun vs H Q E h => by obtain ⟨_, _, _, rfl, _⟩ := h; rfl) (fun cdv Ar outer s H vs Q E hr h => ?_)
  obtain ⟨s, F, x, rfl, ⟨dx, so, sp, ps, ⟨h1, h2, h3, h4, h5, h6⟩, rfl⟩, q⟩ := h
  refine ⟨_, (pss_cons (ps_if (pt_val (pe_fld (pv 0) rfl)) (pss_one (ps_ret (pe_un un_neg pe_int))) pss_nil)
    (pss_cons (ps_fld (pv 0) pe_bl rfl)
    (pss_one (ps_ret pe_int)))), ?_⟩
  refine ⟨_, rfl, _, _, _, _, _, rfl, h1, T.c_Sending.cl, T.c_Sending.n_told, lk_Sending_told, _, rfl, ?_⟩
  unfold finCode finLink at q
  by_cases t : x.told = true
  · rw [if_pos t, if_pos t] at q
    rw [t]
    refine iteT ?_
    exact ⟨_, rfl, q H ⟨dx, so, sp, ps, ⟨h1, h2, h3, h4, h5, h6⟩, rfl⟩ (Grow.refl _ _)⟩
  · have t' : x.told = false := by simpa using t
    rw [if_neg t, if_neg t] at q
    rw [t']
    refine iteF ?_
    refine ⟨_, rfl, s, A.c_Sending, dx, _, rfl, h1, T.c_Sending.cl, T.c_Sending.n_told, by show 8 < 1000; decide, ?_⟩
    have hn := List.nodup_cons.mp h6
    have n1 : so ≠ s := fun e => hn.1 (by rw [e]; exact List.mem_cons_self ..)
    have n2 : sp ≠ s := fun e => hn.1 (by rw [e]; simp)
    refine q _ ⟨dx, so, sp, ps, ⟨by rw [upd_same, pt_Sending_told]; rfl, by rw [upd_ne n1]; exact h2, by rw [upd_ne n2]; exact h3, fun y hy => ?_, h5, h6⟩, rfl⟩ (Grow.put _ (List.mem_cons_self ..))
    obtain ⟨dy, k⟩ := h4 y hy
    refine ⟨dy, ?_⟩
    rw [upd_ne (fun e => hn.1 (by rw [← e]; exact List.mem_cons_of_mem _ (List.mem_cons_of_mem _ (List.mem_map.mpr ⟨y, hy, rfl⟩))))]
    exact k
theorem ok_Sending_put (T : Top K mg A) : FnOk P w K mg base CX0 1 A.f_Sending_put A.d_Sending_put ["self", "octets"] (sp_Sending_put K A) := by
  refine T.f_Sending_put.F.ok sc_Sending_put (fun vs H Q E h => by obtain ⟨_, _, _, _, _, rfl, _⟩ := h; rfl) (fun cdv Ar outer s H vs Q E hr h => ?_)
  obtain ⟨s, o, F, x, l, rfl, ⟨dx, so, sp, ps, ⟨h1, h2, h3, h4, h5, h6⟩, rfl⟩, ho, hr1, hl1, q⟩ := h
  refine ⟨_, (pss_cons (ps_if (pt_cmpR op_gt (pe_callB call_len_seq (by rfl) T.b_len PySem.boot_len (pa_cons (pv 1) pa_nil)) (pe_glob (v := .int 65536) rfl T.g_UNANSWERED ⟨_, rfl⟩) (nomark _)) (pss_one (ps_ret (pe_un un_neg pe_int))) pss_nil)
    (pss_cons (ps_if (pt_val (pe_fld (pv 0) rfl)) (pss_one (ps_ret (pe_un un_neg pe_int))) pss_nil)
    (pss_cons (ps_if (pt_cmpR op_gt (pe_op op_add (pe_callB call_len_seq (by rfl) T.b_len PySem.boot_len (pa_cons (pe_fld (pv 0) rfl) pa_nil)) (pe_callB call_len_seq (by rfl) T.b_len PySem.boot_len (pa_cons (pv 1) pa_nil))) (pe_glob (v := .int 65536) rfl T.g_UNANSWERED ⟨_, rfl⟩) (nomark _)) (pss_one (ps_ret (pe_un un_neg pe_int))) pss_nil)
    (pss_cons (ps_expr (pe_bm PySem.F.plainAttrs_list PySem.F.slot_list_extend PySem.F.type_list_extend mt_extend (pe_fld (pv 0) rfl) (pa_cons (pv 1) pa_nil)))
    (pss_one (ps_ret pe_int)))))), ?_⟩
  obtain ⟨hoF, ho'⟩ := out_some ho
  unfold putCode putLink at q
  have hS : SendAt A H s (s :: so :: sp :: ps.map (·.1)) x := ⟨dx, so, sp, ps, ⟨h1, h2, h3, h4, h5, h6⟩, rfl⟩
  have hll : (nv l).length = l.length := nv_length _
  have hrl : (nv x.rest).length = x.rest.length := nv_length _
  refine ⟨_, rfl, o, _, rfl, .inl (SqL.of ho'), _, _, rfl, rfl, _, rfl, ite2 (fun z => ?_) (fun z => ?_)⟩
  · have hz : 65536 < l.length := by have := of_decide_eq_true z; rw [hll] at this; omega
    rw [if_pos hz, if_pos hz] at q
    exact ⟨_, rfl, q H hS (Grow.refl _ _)⟩
  have hz : ¬ 65536 < l.length := fun y => z (decide_eq_true (by rw [hll]; omega))
  rw [if_neg hz, if_neg hz] at q
  refine ⟨_, rfl, _, _, _, _, _, rfl, h1, T.c_Sending.cl, T.c_Sending.n_told, lk_Sending_told, _, rfl, ?_⟩
  by_cases t : x.told = true
  · rw [if_pos t, if_pos t] at q
    rw [t]
    exact iteT ⟨_, rfl, q H hS (Grow.refl _ _)⟩
  have t' : x.told = false := by simpa using t
  rw [if_neg t, if_neg t] at q
  rw [t']
  refine iteF ?_
  refine ⟨_, rfl, _, _, _, _, _, rfl, h1, T.c_Sending.cl, T.c_Sending.n_octets, lk_Sending_octets, so, _, rfl, .inl (SqL.of h2), _, rfl, o, _, rfl, .inl (SqL.of ho'), _, _, rfl, rfl, _, _, rfl, rfl, _, rfl, ite2 (fun z2 => ?_) (fun z2 => ?_)⟩
  · have hz2 : 65536 < x.rest.length + l.length := by have := of_decide_eq_true z2; rw [hll, hrl] at this; omega
    rw [if_pos hz2, if_pos hz2] at q
    exact ⟨_, rfl, q H hS (Grow.refl _ _)⟩
  have hz2 : ¬ 65536 < x.rest.length + l.length := fun y => z2 (decide_eq_true (by rw [hll, hrl]; omega))
  rw [if_neg hz2, if_neg hz2] at q
  refine ⟨_, rfl, _, _, _, _, _, rfl, h1, T.c_Sending.cl, T.c_Sending.n_octets, lk_Sending_octets, .inl ⟨rfl, _, SqL.of h2⟩, _, rfl, so, o, _, _, rfl, rfl, h2, ho', by rw [hll, hrl]; exact sz_of (by omega), ?_⟩
  rw [← nv_append]
  have hn := List.nodup_cons.mp h6
  have hn2 := List.nodup_cons.mp hn.2
  have n1 : s ≠ so := fun e => hn.1 (by rw [e]; exact List.mem_cons_self ..)
  have n2 : sp ≠ so := fun e => hn2.1 (by rw [← e]; exact List.mem_cons_self ..)
  refine q _ ⟨dx, so, sp, ps, ⟨by rw [upd_ne n1]; exact h1, by rw [upd_same]; rfl, by rw [upd_ne n2]; exact h3, fun y hy => ?_, h5, h6⟩, rfl⟩ (Grow.put _ (by simp))
  obtain ⟨dy, k⟩ := h4 y hy
  refine ⟨dy, ?_⟩
  rw [upd_ne (fun e => hn2.1 (by rw [← e]; exact List.mem_cons_of_mem _ (List.mem_map.mpr ⟨y, hy, rfl⟩)))]
  exact k
theorem ok_Sending_answer_part (T : Top K mg A) (G_Part_init : FnOk P w K mg base CX0 1 A.f_Part_init A.d_Part_init ["self", "kind", "number", "octets"] (sp_Part_init K A)) : FnOk P w K mg base CX0 3 A.f_Sending_answer_part A.d_Sending_answer_part ["self"] (sp_Sending_answer_part K A) := by
  refine T.f_Sending_answer_part.F.ok sc_Sending_answer_part (fun vs H Q E h => by obtain ⟨_, _, _, rfl, _⟩ := h; rfl) (fun cdv Ar outer s H vs Q E hr h => ?_)
  obtain ⟨s, F, x, rfl, hS, q⟩ := h
  refine ⟨_, (pss_one (ps_ret (pe_make T.k_Part.M G_Part_init (hr.mono (by decide)) rfl T.k_Part.g T.k_Part.b .nil pass0 (pa_cons (pe_glob (v := .int 0) rfl T.g_ANSWER ⟨_, rfl⟩) (pa_cons (pe_fld (pv 0) rfl) (pa_cons (pe_lst pa_nil) pa_nil)))))), ?_⟩
  have hS0 := hS
  obtain ⟨dx, so, sp, ps, ⟨h1, h2, h3, h4, h5, h6⟩, hFF⟩ := hS
  refine ⟨_, rfl, _, _, _, _, _, rfl, h1, T.c_Sending.cl, T.c_Sending.n_unsent, lk_Sending_unsent, by decide, fun o no => ?_⟩
  intro a dy na ndy nex
  have x1 := Ex.new (o := .lst []) no
  have x2 := (Ex.new (o := .own a) ndy).trans (Ex.new (o := .ins A.c_Part dy []) (by rw [upd_ne nex.symm]; exact na))
  have no2 := fresh_back x1 na
  have oF := hS0.fresh no
  have aF := hS0.fresh no2
  refine ⟨a, dy, o, x.plain 0, rfl, upd_same, x2 _ _ upd_same, fun H' ⟨dy', g1, g2⟩ fr => ⟨rfl, q a H' no2 (fun b u hb => ?_) ⟨dy', o, new_mk no2 g1, new_mk no g2⟩⟩⟩
  exact fr b u ((x1.trans x2) _ _ hb) (ne_of_none hb no2)
theorem ok_Sending_part_of (T : Top K mg A) (G_Part_init : FnOk P w K mg base CX0 1 A.f_Part_init A.d_Part_init ["self", "kind", "number", "octets"] (sp_Part_init K A)) : FnOk P w K mg base CX0 3 A.f_Sending_part_of A.d_Sending_part_of ["self", "piece"] (sp_Sending_part_of K A) := by
  refine T.f_Sending_part_of.F.ok sc_Sending_part_of (fun vs H Q E h => by obtain ⟨_, _, _, _, _, rfl, _⟩ := h; rfl) (fun cdv Ar outer s H vs Q E hr h => ?_)
  obtain ⟨s, pa, F, x, p, rfl, hS, hP, q⟩ := h
  refine ⟨_, (pss_cons (ps_if (pt_cmpR op_eq (pe_fld (pv 1) rfl) (pe_glob (v := .int 2) rfl T.g_END ⟨_, rfl⟩) (nomark _)) (pss_one (ps_ret (pe_make T.k_Part.M G_Part_init (hr.mono (by decide)) rfl T.k_Part.g T.k_Part.b .nil pass0 (pa_cons (pe_glob (v := .int 2) rfl T.g_END ⟨_, rfl⟩) (pa_cons (pe_fld (pv 1) rfl) (pa_cons (pe_lst pa_nil) pa_nil)))))) pss_nil)
    (pss_cons (ps_set (i := 2) sc_Sending_part_of.nd rfl (Or.inl rfl) (pe_callB (call_max2 rfl) (by rfl) T.b_max (by decide +kernel) (pa_cons (pe_op op_sub (pe_fld (pv 1) rfl) (pe_fld (pv 0) rfl)) (pa_cons pe_int pa_nil))))
    (pss_one (ps_ret (pe_make T.k_Part.M G_Part_init (hr.mono (by decide)) rfl T.k_Part.g T.k_Part.b .nil pass0 (pa_cons (pe_glob (v := .int 1) rfl T.g_BYTES ⟨_, rfl⟩) (pa_cons (pe_fld (pv 1) rfl) (pa_cons (pe_slice sl_list (pe_fld (pv 0) rfl) (po_some (pv 2)) (po_some (pe_op op_add (pv 2) (pe_fld (pv 1) rfl)))) pa_nil)))))))), ?_⟩
  have hS0 := hS
  obtain ⟨dx, so, sp, ps, ⟨h1, h2, h3, h4, h5, h6⟩, hFF⟩ := hS
  obtain ⟨dp, hp⟩ := hP
  unfold pieceV at hp
  refine ⟨_, rfl, _, _, _, _, _, rfl, hp, T.c_Piece.cl, T.c_Piece.n_kind, lk_Piece_kind, rfl, _, rfl, ite2 (fun z => ?_) (fun z => ?_)⟩
  · have hz : p.len = 0 := by
      have e := V.int.inj (of_decide_eq_true z)
      unfold kindN at e
      by_cases c : p.len = 0
      · exact c
      · rw [if_neg c] at e
        exact absurd e (by decide)
    refine ⟨_, rfl, _, _, _, _, _, rfl, hp, T.c_Piece.cl, T.c_Piece.n_number, lk_Piece_number, by decide, fun o no => ?_⟩
    intro a dy na ndy nex
    have x1 := Ex.new (o := .lst []) no
    have x2 := (Ex.new (o := .own a) ndy).trans (Ex.new (o := .ins A.c_Part dy []) (by rw [upd_ne nex.symm]; exact na))
    have no2 := fresh_back x1 na
    have hk : x.piece p = ⟨x.name, 2, p.seq, x.next, x.room, []⟩ := by
      unfold Fm11.Link.piece
      rw [hz, if_pos rfl, List.take_zero]
    rw [hk] at q
    refine ⟨a, dy, o, ⟨x.name, 2, p.seq, x.next, x.room, []⟩, rfl, upd_same, x2 _ _ upd_same, fun H' ⟨dy', g1, g2⟩ fr => ⟨rfl, q a H' no2 (fun b u hb => ?_) ⟨dy', o, new_mk no2 g1, new_mk no g2⟩⟩⟩
    exact fr b u ((x1.trans x2) _ _ hb) (ne_of_none hb no2)
  · have hz : ¬ p.len = 0 := fun y => z (decide_eq_true (by unfold kindN; rw [if_pos y]; rfl))
    refine ⟨_, rfl, _, _, _, _, _, rfl, hp, T.c_Piece.cl, T.c_Piece.n_number, lk_Piece_number, _, rfl, _, _, _, _, _, rfl, h1, T.c_Sending.cl, T.c_Sending.n_first, lk_Sending_first, _, _, rfl, rfl, _, _, rfl, ?_⟩
    have e1 : (if (0 : Int) > (p.seq : Int) - (x.base : Int) then (0 : Int) else (p.seq : Int) - (x.base : Int)) = ((p.seq - x.base : Nat) : Int) := by
      by_cases c : x.base ≤ p.seq
      · rw [if_neg (by omega)]
        omega
      · rw [if_pos (by omega)]
        omega
    have hmax : max p.len 1 = p.len := by omega
    rw [hmax] at hp
    refine ⟨_, rfl, _, _, _, _, _, rfl, hp, T.c_Piece.cl, T.c_Piece.n_number, lk_Piece_number, _, rfl, _, _, _, _, _, rfl, h1, T.c_Sending.cl, T.c_Sending.n_octets, lk_Sending_octets, _, rfl, _, rfl, _, rfl, _, rfl, _, _, _, _, _, rfl, hp, T.c_Piece.cl, T.c_Piece.n_size, lk_Piece_size, _, _, rfl, rfl, _, rfl, so, _, rfl, SqL.of h2, fun o no => ?_⟩
    rw [e1]
    have e2 : cutV (nv x.rest) (some ((p.seq - x.base : Nat) : Int)) (some (((p.seq - x.base : Nat) : Int) + (p.len : Int))) = nv ((x.rest.drop (p.seq - x.base)).take p.len) := by
      have := cut_mid x.rest (j := p.seq - x.base) (k := p.seq - x.base + p.len) (by omega)
      rw [show p.seq - x.base + p.len - (p.seq - x.base) = p.len by omega] at this
      rw [← this]
      congr 2
    rw [e2]
    intro a dy na ndy nex
    have x1 := Ex.new (o := .lst (nv ((x.rest.drop (p.seq - x.base)).take p.len))) no
    have x2 := (Ex.new (o := .own a) ndy).trans (Ex.new (o := .ins A.c_Part dy []) (by rw [upd_ne nex.symm]; exact na))
    have no2 := fresh_back x1 na
    have hk : x.piece p = ⟨x.name, 1, p.seq, x.next, x.room, (x.rest.drop (p.seq - x.base)).take p.len⟩ := by
      unfold Fm11.Link.piece
      rw [if_neg hz]
    rw [hk] at q
    refine ⟨a, dy, o, ⟨x.name, 1, p.seq, x.next, x.room, (x.rest.drop (p.seq - x.base)).take p.len⟩, rfl, upd_same, x2 _ _ upd_same, fun H' ⟨dy', g1, g2⟩ fr => ⟨rfl, q a H' no2 (fun b u hb => ?_) ⟨dy', o, new_mk no2 g1, new_mk no g2⟩⟩⟩
    exact fr b u ((x1.trans x2) _ _ hb) (ne_of_none hb no2)
end
end Sl
/-! ## D12 -/
set_option Elab.async false
set_option linter.all false
set_option maxRecDepth 100000
set_option maxHeartbeats 4000000
namespace Sl
open PySem PySem.Spec PyProof.Rows L2 Evl
section
variable {P : Program} {w : World} {K : PySem.W.Frag} {mg : Str → Option Value} {base : Heap} {A : Adr}
theorem due_one (x : Fm11.Link) (t : Nat) (p : Fm11.Piece) : (([p] : List Fm11.Piece).filter fun p => decide (p.due ≤ t)).map x.piece = if p.due ≤ t then [x.piece p] else [] := by
  by_cases c : p.due ≤ t <;> simp [c]
/-- the first i pieces gone through -/
def upto (t i : Nat) (ps : List (Addr × Fm11.Piece)) : List (Addr × Fm11.Piece) := (ps.take i).map (fun y => (y.1, onceMore t y.2)) ++ ps.drop i
theorem upto_zero (t : Nat) (ps : List (Addr × Fm11.Piece)) : upto t 0 ps = ps := by
  unfold upto
  rw [List.take_zero, List.drop_zero]
  rfl
theorem upto_all (t : Nat) (ps : List (Addr × Fm11.Piece)) : upto t ps.length ps = ps.map fun y => (y.1, onceMore t y.2) := by
  unfold upto
  rw [List.take_length, List.drop_length, List.append_nil]
theorem upto_fst (t i : Nat) (ps : List (Addr × Fm11.Piece)) : (upto t i ps).map (·.1) = ps.map (·.1) := by
  unfold upto
  rw [List.map_append, List.map_map]
  conv => rhs; rw [← List.take_append_drop i ps, List.map_append]
  rfl
theorem upto_ref (t i : Nat) (ps : List (Addr × Fm11.Piece)) : (upto t i ps).map (fun y => V.ref y.1) = ps.map fun y => V.ref y.1 := by
  have := congrArg (List.map V.ref) (upto_fst t i ps)
  rwa [List.map_map, List.map_map] at this
theorem upto_step {t i : Nat} {ps : List (Addr × Fm11.Piece)} {y : Addr × Fm11.Piece} (h : ps[i]? = some y) : upto t i ps = (ps.take i).map (fun y => (y.1, onceMore t y.2)) ++ y :: ps.drop (i + 1) ∧
    upto t (i + 1) ps = (ps.take i).map (fun y => (y.1, onceMore t y.2)) ++ (y.1, onceMore t y.2) :: ps.drop (i + 1) := by
  obtain ⟨hi, e⟩ := List.getElem?_eq_some_iff.mp h
  unfold upto
  constructor
  · rw [List.drop_eq_getElem_cons hi, e]
  · rw [List.take_add_one, h, List.map_append, List.append_assoc]
    rfl
theorem upto_mem {t i : Nat} {ps : List (Addr × Fm11.Piece)} {y : Addr × Fm11.Piece} (h : ps[i]? = some y) : y ∈ upto t i ps := by
  rw [(upto_step h).1]
  exact List.mem_append.mpr (.inr (List.mem_cons_self ..))
theorem piece_same (x : Fm11.Link) (fl : List Fm11.Piece) (p : Fm11.Piece) (t : Nat) : ({ x with flight := fl } : Fm11.Link).piece (onceMore t p) = x.piece p := by
  unfold onceMore
  split <;> rfl
theorem ok_Sending_parts_again (T : Top K mg A) (G_Sending_part_of : FnOk P w K mg base CX0 3 A.f_Sending_part_of A.d_Sending_part_of ["self", "piece"] (sp_Sending_part_of K A)) (G_wait_after : FnOk P w K mg base CX0 1 A.f_wait_after A.d_wait_after ["times_sent"] (sp_wait_after K A)) : FnOk P w K mg base CX0 4 A.f_Sending_parts_again A.d_Sending_parts_again ["self", "time"] (sp_Sending_parts_again K A) := by
  refine T.f_Sending_parts_again.F.ok sc_Sending_parts_again (fun vs H Q E h => by obtain ⟨_, _, _, _, rfl, _⟩ := h; rfl) (fun cdv Ar outer s H vs Q E hr h => ?_)
  obtain ⟨s, t, F, x, rfl, ⟨dx, so, sp, ps, ⟨h1, h2, h3, h4, h5, h6⟩, rfl⟩, hlen, hoft, q⟩ := h
  refine ⟨_, (pss_cons (ps_set (i := 2) sc_Sending_parts_again.nd rfl (Or.inl rfl) (pe_lst pa_nil))
    (pss_cons (ps_for PassesOwn.never rfl (pi_list (pe_fld (pv 0) rfl)) (pg_name (i := 3) sc_Sending_parts_again.nd rfl (Or.inl rfl))
    (pss_one (ps_if (pt_cmpR op_le (pe_fld (pv 3) rfl) (pv 1) (nomark _)) (pss_cons (ps_fldaug (pv 3) pe_int in_add)
    (pss_cons (ps_fld (pv 3) (pe_op op_add (pv 1) (pe_call G_wait_after (hr.mono (by decide)) rfl T.f_wait_after.g T.f_wait_after.F.kp T.f_wait_after.b .nil pass0 (pa_cons (pe_fld (pv 3) rfl) pa_nil))) rfl)
    (pss_one (ps_expr (pe_bm PySem.F.plainAttrs_list PySem.F.slot_list_append PySem.F.type_list_append mt_append (pv 2) (pa_cons (pe_meth (pv 0) T.c_Sending.cl T.f_Sending_part_of.m G_Sending_part_of (hr.mono (by decide)) T.f_Sending_part_of.b .nil pass0 (pa_cons (pv 3) pa_nil)) pa_nil)))))) pss_nil)))
    (pss_one (ps_ret (pv 2))))), ?_⟩
  have hlp : ps.length ≤ 1000 := by rw [h5, List.length_map] at hlen; exact hlen
  refine ⟨by decide, fun l nl => ?_⟩
  have x0 := Ex.new (o := .lst []) nl
  have domF : ∀ b ∈ s :: so :: sp :: ps.map (·.1), H b ≠ none := SendAt.dom (x := x) ⟨dx, so, sp, ps, ⟨h1, h2, h3, h4, h5, h6⟩, rfl⟩
  have lF : l ∉ s :: so :: sp :: ps.map (·.1) := fun z => domF l z nl
  have hn := List.nodup_cons.mp h6
  have hn2 := List.nodup_cons.mp hn.2
  have hn3 := List.nodup_cons.mp hn2.2
  refine ⟨_, rfl, _, _, _, _, _, rfl, (x0 _ _ h1), T.c_Sending.cl, T.c_Sending.n_pieces, lk_Sending_pieces, sp, rfl, ⟨_, SqL.of (x0 _ _ h3)⟩, for_list (K := K) (a := sp) (xs := ps.map fun y => V.ref y.1) (fun i σ H' => ∃ v3 : Option V, σ = [some (.ref s), some (.int (t : Nat)), some (.ref l), v3] ∧
    SendW A H' s dx so sp (upto t i ps) { x with flight := (upto t i ps).map (·.2) } ∧ Grow (s :: so :: sp :: ps.map (·.1)) H (s :: so :: sp :: ps.map (·.1)) H' ∧
    PartsL A (New H H') l ((((ps.take i).map (·.2)).filter fun p => decide (p.due ≤ t)).map x.piece)) ⟨none, rfl, ⟨x0 _ _ h1, x0 _ _ h2, by rw [upto_zero]; exact x0 _ _ h3, fun y hy => by rw [upto_zero] at hy; exact (h4 y hy).ex x0, rfl, by rw [upto_fst]; exact h6⟩, Grow.ex x0, ⟨[], new_mk nl upd_same, fun y hy => absurd hy List.not_mem_nil, rfl⟩⟩ ?_ ?_ ?_⟩
  · rintro i σ H' hi ⟨v3, rfl, ⟨g1, g2, g3, g4, g5, g6⟩, gr, pl⟩
    rw [upto_ref] at g3
    exact SqL.of g3
  · rintro i y σ H' hi ⟨v3, rfl, ⟨g1, g2, g3, g4, g5, g6⟩, gr, pl⟩
    rw [List.getElem?_map] at hi
    obtain ⟨⟨a, p⟩, hy, rfl⟩ : ∃ z, ps[i]? = some z ∧ y = V.ref z.1 := by
      cases e : ps[i]? with
      | none => rw [e] at hi; cases hi
      | some z => rw [e] at hi; exact ⟨z, rfl, (Option.some.inj hi).symm⟩
    have hmem : (a, p) ∈ ps := List.mem_of_getElem? hy
    have haF : a ∈ s :: so :: sp :: ps.map (·.1) := List.mem_cons_of_mem _ (List.mem_cons_of_mem _ (List.mem_cons_of_mem _ (List.mem_map.mpr ⟨_, hmem, rfl⟩)))
    have ham : a ∈ ps.map (·.1) := List.mem_map.mpr ⟨_, hmem, rfl⟩
    obtain ⟨dp, hp⟩ := g4 _ (upto_mem hy)
    change H' a = some (.ins A.c_Piece dp (pieceV p)) at hp
    have hpo : p.often < 2 ^ 60 := hoft p (by rw [h5]; exact List.mem_map.mpr ⟨_, hmem, rfl⟩)
    have htake : (((ps.take (i + 1)).map (·.2)).filter fun p => decide (p.due ≤ t)).map x.piece = (((ps.take i).map (·.2)).filter fun p => decide (p.due ≤ t)).map x.piece ++ (if p.due ≤ t then [x.piece p] else []) := by
      rw [List.take_add_one, hy, List.map_append, List.filter_append, List.map_append]
      congr 1
      show (([p] : List Fm11.Piece).filter fun p => decide (p.due ≤ t)).map x.piece = _
      exact due_one x t p
    have hups := upto_step (t := t) hy
    have sa : s ≠ a := fun e => hn.1 (by rw [e]; exact List.mem_cons_of_mem _ (List.mem_cons_of_mem _ ham))
    have soa : so ≠ a := fun e => hn2.1 (by rw [e]; exact List.mem_cons_of_mem _ ham)
    have spa : sp ≠ a := fun e => hn3.1 (by rw [e]; exact ham)
    obtain ⟨qs0, k1, k2, k3⟩ := id pl
    have hl' := (new_some k1).2
    have la : l ≠ a := fun e => lF (by rw [e]; exact haF)
    refine ⟨_, rfl, _, _, _, _, _, rfl, hp, T.c_Piece.cl, T.c_Piece.n_due, lk_Piece_due, _, rfl, _, _, rfl, rfl, _, rfl, ite2 (fun z => ?_) (fun z => ?_)⟩
    · have hz : p.due ≤ t := by have := of_decide_eq_true z; omega
      have honce : onceMore t p = { p with due := t + Fm11.wait (p.often + 1), often := p.often + 1 } := if_pos hz
      rw [if_pos hz] at htake
      refine ⟨_, rfl, a, A.c_Piece, dp, _, _, rfl, hp, T.c_Piece.cl, T.c_Piece.n_times_sent, lk_Piece_times_sent, _, _, rfl, rfl, dp, _, hp, by show 5 < 1000; decide, ?_⟩
      unfold pieceV
      rw [pt_Piece_times_sent]
      refine ⟨_, rfl, _, rfl, a, _, _, _, _, rfl, upd_same, T.c_Piece.cl, T.c_Piece.n_times_sent, lk_Piece_times_sent, p.often + 1, rfl, by omega, by omega, _, _, rfl, rfl, ?_⟩
      refine ⟨_, rfl, a, A.c_Piece, dp, _, rfl, upd_same, T.c_Piece.cl, T.c_Piece.n_due, by show 5 < 1000; decide, ?_⟩
      rw [pt_Piece_due]
      have hwait : (t : Int) + (Fm11.wait (p.often + 1) : Nat) = ((t + Fm11.wait (p.often + 1) : Nat) : Int) := by omega
      have hpv : fl_Piece (.int (kindN p : Nat)) (.int (p.seq : Nat)) (.int ((max p.len 1 : Nat) : Int)) (.int ((t : Int) + (Fm11.wait (p.often + 1) : Nat))) (.int ((p.often : Int) + 1)) = pieceV (onceMore t p) := by
        rw [hwait, honce]
        rfl
      rw [show (fl_Piece (.int (kindN p : Nat)) (.int (p.seq : Nat)) (.int ((max p.len 1 : Nat) : Int)) ((fun i j => V.int (i + j)) (t : Int) (Fm11.wait (p.often + 1) : Nat)) ((V.int ((p.often : Int) + 1)))) = pieceV (onceMore t p) from hpv]
      generalize hu1 : upd H' a (.ins A.c_Piece dp (fl_Piece (.int (kindN p : Nat)) (.int (p.seq : Nat)) (.int ((max p.len 1 : Nat) : Int)) (.int (p.due : Nat)) (.int ((p.often : Int) + 1)))) = U1
      have hU : ∀ b, b ≠ a → upd U1 a (.ins A.c_Piece dp (pieceV (onceMore t p))) b = H' b := fun b hb => by rw [upd_ne hb, ← hu1, upd_ne hb]
      have hUa : upd U1 a (.ins A.c_Piece dp (pieceV (onceMore t p))) a = some (.ins A.c_Piece dp (pieceV (onceMore t p))) := upd_same
      generalize upd U1 a (.ins A.c_Piece dp (pieceV (onceMore t p))) = U2 at hU hUa
      have hSW : SendW A U2 s dx so sp (upto t (i + 1) ps) { x with flight := (upto t (i + 1) ps).map (·.2) } := by
        refine ⟨by rw [hU s sa]; exact g1, by rw [hU so soa]; exact g2, by rw [hU sp spa, upto_ref]; rw [upto_ref] at g3; exact g3, fun y hy' => ?_, rfl, by rw [upto_fst]; exact h6⟩
        have hcase : y = (a, onceMore t p) ∨ (y ∈ upto t i ps ∧ y.1 ≠ a) := by
          rw [hups.2] at hy'
          have nd : ((upto t i ps).map (·.1)).Nodup := by rw [upto_fst]; exact hn3.2
          rw [hups.1, List.map_append, List.map_cons] at nd
          rcases List.mem_append.mp hy' with m | m
          · refine .inr ⟨by rw [hups.1]; exact List.mem_append.mpr (.inl m), fun e => ?_⟩
            exact (List.nodup_append.mp nd).2.2 _ (List.mem_map.mpr ⟨y, m, rfl⟩) a (List.mem_cons_self ..) e
          · rcases List.mem_cons.mp m with m | m
            · exact .inl m
            · refine .inr ⟨by rw [hups.1]; exact List.mem_append.mpr (.inr (List.mem_cons_of_mem _ m)), fun e => ?_⟩
              have := (List.nodup_cons.mp (List.nodup_append.mp nd).2.1).1
              exact this (by rw [← e]; exact List.mem_map.mpr ⟨y, m, rfl⟩)
        rcases hcase with e | ⟨m, e⟩
        · rw [e]
          exact ⟨dp, hUa⟩
        · obtain ⟨dy, ky⟩ := g4 y m
          exact ⟨dy, by rw [hU _ e]; exact ky⟩
      have hF2 : (s :: so :: sp :: ps.map (·.1)) = s :: so :: sp :: (upto t (i + 1) ps).map (·.1) := by rw [upto_fst]
      have hSA : SendAt A U2 s (s :: so :: sp :: ps.map (·.1)) { x with flight := (upto t (i + 1) ps).map (·.2) } := ⟨dx, so, sp, _, hSW, hF2⟩
      have gr2 : Grow (s :: so :: sp :: ps.map (·.1)) H (s :: so :: sp :: ps.map (·.1)) U2 := gr.trans (Grow.mk fun b o h1 h2 => ⟨h1, by
        rw [hU b (fun e => h1 (by rw [e]; exact haF))]
        exact h2⟩)
      have hlU : U2 l = some (.lst (qs0.map fun y => V.ref y.1)) := by rw [hU l la]; exact hl'
      refine ⟨_, rfl, .inl ⟨rfl, _, SqL.of hlU⟩, _, rfl, _, _, _, rfl, hSW.1, no_Sending_part_of, _, rfl, s, a, _, _, onceMore t p, rfl, hSA, ⟨dp, hUa⟩, fun qq H3 nq e3 hpart => ?_⟩
      rw [piece_same] at hpart
      have hl3 := e3 _ _ hlU
      refine ⟨l, _, _, rfl, rfl, hl3, ?_, ?_⟩
      · rw [List.length_map]
        have : qs0.length ≤ ps.length := by
          have e := congrArg List.length k3
          rw [List.length_map, List.length_map] at e
          have e2 := List.length_filter_le (fun p : Fm11.Piece => decide (p.due ≤ t)) ((ps.take i).map (·.2))
          rw [List.length_map, List.length_take] at e2
          omega
        exact sz_lt (by omega)
      refine ⟨some (.ref a), rfl, ?_, ?_, ?_⟩
      · have hon : ∀ b o, b ∈ (s :: so :: sp :: ps.map (·.1)) → U2 b = some o → (upd H3 l (.lst (qs0.map (fun y => V.ref y.1) ++ [V.ref qq]))) b = some o := fun b o hb hu => by
          rw [upd_ne (fun z => lF (by rw [← z]; exact hb))]
          exact e3 _ _ hu
        obtain ⟨w1, w2, w3, w4, w5, w6⟩ := hSW
        refine ⟨hon _ _ (List.mem_cons_self ..) w1, hon _ _ (by simp) w2, hon _ _ (by simp) w3, fun y hy' => ?_, w5, w6⟩
        obtain ⟨dy, ky⟩ := w4 y hy'
        refine ⟨dy, hon _ _ ?_ ky⟩
        rw [hF2]
        exact List.mem_cons_of_mem _ (List.mem_cons_of_mem _ (List.mem_cons_of_mem _ (List.mem_map.mpr ⟨y, hy', rfl⟩)))
      · refine Grow.mk fun b o h1 h2 => ⟨h1, ?_⟩
        rw [upd_ne (ne_of_none h2 nl)]
        exact e3 _ _ (gr2.get h1 h2).2
      · rw [htake]
        refine pl.step nl (fun b o z => ?_) hlU (fun b o z => ?_) e3 hpart
        · obtain ⟨z1, z2⟩ := new_some z
          exact new_mk z1 (by rw [hU b (fun e => domF a haF (by rw [← e]; exact z1))]; exact z2)
        · by_cases c : b ∈ s :: so :: sp :: ps.map (·.1)
          · exact hSA.dom b c
          · rw [(gr2.get c z).2]
            exact fun y => by cases y
    · have hz : ¬ p.due ≤ t := fun y => z (decide_eq_true (by omega))
      have honce : onceMore t p = p := if_neg hz
      rw [if_neg hz, List.append_nil] at htake
      refine ⟨some (.ref a), rfl, ?_, gr, by rw [htake]; exact pl⟩
      rw [hups.2, honce]
      rw [hups.1] at g1 g3 g4 g6
      exact ⟨g1, g2, g3, g4, rfl, g6⟩
  · rintro σ H' ⟨v3, rfl, g, gr, pl⟩
    rw [List.length_map] at g pl
    rw [List.take_length] at pl
    have hfl : (upto t ps.length ps).map (·.2) = x.flight.map (onceMore t) := by
      rw [upto_all, h5, List.map_map, List.map_map]
      rfl
    rw [hfl] at g
    refine ⟨_, rfl, q l H' nl ⟨dx, so, sp, _, g, by rw [upto_fst]⟩ gr ?_⟩
    unfold againOut
    rw [h5]
    exact pl
end
end Sl
/-! ## D13 -/
set_option Elab.async false
set_option linter.all false
set_option maxRecDepth 100000
set_option maxHeartbeats 4000000
namespace Sl
open PySem PySem.Spec PyProof.Rows L2 Evl
section
variable {P : Program} {w : World} {K : PySem.W.Frag} {mg : Str → Option Value} {base : Heap} {A : Adr}
theorem least_new (x : Fm11.Link) : (0 < least3 (unsent x) ((x.limit : Int) - (x.sent : Int)) 190 ↔ 0 < newLen x) ∧ (0 < newLen x → least3 (unsent x) ((x.limit : Int) - (x.sent : Int)) 190 = (newLen x : Int)) := by
  unfold least3 unsent newLen Fm11.Link.total Fm11.MOST
  constructor
  · split <;> split <;> omega
  · intro h
    split <;> split <;> omega
theorem ok_Sending_new_piece (T : Top K mg A) (G_Piece_init : FnOk P w K mg base CX0 1 A.f_Piece_init A.d_Piece_init ["self", "kind", "number", "size", "due"] (sp_Piece_init K A)) (G_Sending_bytes_unsent : FnOk P w K mg base CX0 1 A.f_Sending_bytes_unsent A.d_Sending_bytes_unsent ["self"] (sp_Sending_bytes_unsent K A)) : FnOk P w K mg base CX0 3 A.f_Sending_new_piece A.d_Sending_new_piece ["self", "due"] (sp_Sending_new_piece K A) := by
  refine T.f_Sending_new_piece.F.ok sc_Sending_new_piece (fun vs H Q E h => by obtain ⟨_, _, _, _, rfl, _⟩ := h; rfl) (fun cdv Ar outer s H vs Q E hr h => ?_)
  obtain ⟨s, d, F, x, rfl, hS, qn, qs⟩ := h
  refine ⟨_, (pss_cons (ps_set (i := 2) sc_Sending_new_piece.nd rfl (Or.inl rfl) (pe_callB (call_min3 rfl) (by rfl) T.b_min (by decide +kernel) (pa_cons (pe_meth0 (pv 0) T.c_Sending.cl T.f_Sending_bytes_unsent.m G_Sending_bytes_unsent (hr.mono (by decide)) T.f_Sending_bytes_unsent.b .nil pass0) (pa_cons (pe_op op_sub (pe_fld (pv 0) rfl) (pe_fld (pv 0) rfl)) (pa_cons (pe_glob (v := .int 190) rfl T.g_PIECE ⟨_, rfl⟩) pa_nil)))))
    (pss_cons (ps_if (pt_cmpR op_gt (pv 2) pe_int (nomark _)) (pss_one (ps_ret (pe_make T.k_Piece.M G_Piece_init (hr.mono (by decide)) rfl T.k_Piece.g T.k_Piece.b .nil pass0 (pa_cons (pe_glob (v := .int 1) rfl T.g_BYTES ⟨_, rfl⟩) (pa_cons (pe_fld (pv 0) rfl) (pa_cons (pv 2) (pa_cons (pv 1) pa_nil))))))) pss_nil)
    (pss_cons (ps_if (PW.pt (pw_and (pt_val (pe_fld (pv 0) rfl)) (pw_and (pt_cmpR op_eq (pe_meth0 (pv 0) T.c_Sending.cl T.f_Sending_bytes_unsent.m G_Sending_bytes_unsent (hr.mono (by decide)) T.f_Sending_bytes_unsent.b .nil pass0) pe_int (nomark _)) (pw_and1 (pt_not (pt_val (pe_fld (pv 0) rfl))))))) (pss_cons (ps_fld (pv 0) pe_bl rfl)
    (pss_one (ps_ret (pe_make T.k_Piece.M G_Piece_init (hr.mono (by decide)) rfl T.k_Piece.g T.k_Piece.b .nil pass0 (pa_cons (pe_glob (v := .int 2) rfl T.g_END ⟨_, rfl⟩) (pa_cons (pe_fld (pv 0) rfl) (pa_cons pe_int (pa_cons (pv 1) pa_nil)))))))) pss_nil)
    (pss_one (ps_ret pe_non))))), ?_⟩
  have hS0 := hS
  obtain ⟨dx, so, sp, ps, ⟨h1, h2, h3, h4, h5, h6⟩, hFF⟩ := hS
  obtain ⟨l1, l2⟩ := least_new x
  refine ⟨_, rfl, _, _, _, rfl, h1, no_Sending_bytes_unsent, s, F, x, rfl, hS0, _, rfl, _, _, _, _, _, rfl, h1, T.c_Sending.cl, T.c_Sending.n_limit, lk_Sending_limit, _, rfl, _, _, _, _, _, rfl, h1, T.c_Sending.cl, T.c_Sending.n_unsent, lk_Sending_unsent, _, _, rfl, rfl, _, _, _, rfl, ?_⟩
  refine ⟨_, rfl, _, _, rfl, rfl, _, rfl, ite2 (fun z => ?_) (fun z => ?_)⟩
  · have hz : 0 < newLen x := l1.mp (of_decide_eq_true z)
    have hm : mayNew x := .inl hz
    have he : (newLen x == 0) = false := beq_eq_false_iff_ne.mpr (by omega)
    refine ⟨_, rfl, _, _, _, _, _, rfl, h1, T.c_Sending.cl, T.c_Sending.n_unsent, lk_Sending_unsent, _, rfl, _, rfl, ?_⟩
    intro a dy na ndy nex
    have x2 := (Ex.new (o := .own a) ndy).trans (Ex.new (o := .ins A.c_Piece dy []) (by rw [upd_ne nex.symm]; exact na))
    refine ⟨a, dy, ⟨x.sent, newLen x, d, 1⟩, ?_, upd_same, rfl, fun H' hP fr => ⟨rfl, ?_⟩⟩
    · have e1 : kindN ⟨x.sent, newLen x, d, 1⟩ = 1 := by unfold kindN; exact if_neg (by show ¬ newLen x = 0; omega)
      have e2 : max (newLen x) 1 = newLen x := by omega
      show _ = [V.ref a, .int (kindN ⟨x.sent, newLen x, d, 1⟩ : Nat), .int (x.sent : Nat), .int ((max (newLen x) 1 : Nat) : Int), .int (d : Nat)]
      rw [e1, e2, ← l2 hz]
      rfl
    · have ex : Ex H H' := fun b o hb => fr b o (x2 _ _ hb) (ne_of_none hb na)
      obtain ⟨dp, hp⟩ := hP
      refine qs hm a H' (hS0.ex ex |> fun z => ?_) (Grow.ex ex) ⟨dp, new_mk na hp⟩
      rw [he, Bool.or_false]
      exact z
  · have hz : ¬ 0 < newLen x := fun y => z (decide_eq_true (l1.mpr y))
    have he : (newLen x == 0) = true := beq_iff_eq.mpr (by omega)
    refine ⟨_, rfl, _, _, _, _, _, rfl, h1, T.c_Sending.cl, T.c_Sending.n_told, lk_Sending_told, _, rfl, ?_⟩
    by_cases t1 : x.told = true
    · rw [t1]
      refine iteT ⟨_, rfl, _, _, _, rfl, h1, no_Sending_bytes_unsent, s, F, x, rfl, hS0, rfl, _, rfl, ite2 (fun z2 => ?_) (fun z2 => ?_)⟩
      · have hu : x.sent = x.total := by
          have := V.int.inj (of_decide_eq_true z2)
          unfold unsent at this
          unfold Fm11.Link.total
          omega
        refine ⟨_, rfl, _, _, _, _, _, rfl, h1, T.c_Sending.cl, T.c_Sending.n_end_sent, lk_Sending_end_sent, _, rfl, ?_⟩
        by_cases t2 : x.ending = true
        · rw [t2]
          refine iteF ?_
          refine qn fun m => ?_
          rcases m with m | m
          · exact hz m
          · rw [t2] at m
            exact absurd m.2.1 (by decide)
        · have t2' : x.ending = false := by simpa using t2
          rw [t2']
          refine iteT ?_
          have hm : mayNew x := .inr ⟨t1, t2', hu⟩
          refine ⟨_, rfl, s, A.c_Sending, dx, _, rfl, h1, T.c_Sending.cl, T.c_Sending.n_end_sent, by show 8 < 1000; decide, ?_⟩
          rw [pt_Sending_end_sent]
          refine ⟨_, rfl, _, _, _, _, _, rfl, upd_same, T.c_Sending.cl, T.c_Sending.n_unsent, lk_Sending_unsent, _, rfl, ?_⟩
          have hn := List.nodup_cons.mp h6
          have sF : s ∈ F := by rw [hFF]; exact List.mem_cons_self ..
          intro a dy na ndy nex
          have ha : a ≠ s := fun e => by rw [e, upd_same] at na; cases na
          have na' := na
          rw [upd_ne ha] at na
          have x2 := (Ex.new (o := .own a) ndy).trans (Ex.new (o := .ins A.c_Piece dy []) (by rw [upd_ne nex.symm]; exact na'))
          refine ⟨a, dy, ⟨x.sent, newLen x, d, 1⟩, ?_, upd_same, rfl, fun H' hP fr => ⟨rfl, ?_⟩⟩
          · have e0 : newLen x = 0 := by omega
            rw [e0]
            rfl
          · have ex : Ex (upd H s (.ins A.c_Sending dx (fl_Sending (.int (x.base : Nat)) (.ref so) (.int (x.sent : Nat)) (.ref sp) (.int (x.limit : Nat)) (.bl x.told) (.bl true) (.int (x.asks : Nat))))) H' := fun b o hb => fr b o (x2 _ _ hb) (ne_of_none hb na')
            obtain ⟨dp, hp⟩ := hP
            refine qs hm a H' ?_ ((Grow.put _ sF).trans (Grow.ex ex)) ⟨dp, new_mk na hp⟩
            refine SendAt.ex ?_ ex
            refine ⟨dx, so, sp, ps, ⟨by rw [upd_same, he, Bool.or_true], ?_, ?_, fun y hy => ?_, h5, h6⟩, hFF⟩
            · rw [upd_ne (fun e => hn.1 (by rw [← e]; exact List.mem_cons_self ..))]
              exact h2
            · rw [upd_ne (fun e => hn.1 (by rw [← e]; simp))]
              exact h3
            · obtain ⟨dy', k⟩ := h4 y hy
              refine ⟨dy', ?_⟩
              rw [upd_ne (fun e => hn.1 (by rw [← e]; exact List.mem_cons_of_mem _ (List.mem_cons_of_mem _ (List.mem_map.mpr ⟨y, hy, rfl⟩))))]
              exact k
      · have hu : ¬ x.sent = x.total := fun y => z2 (decide_eq_true (by
          congr 1
          unfold unsent
          unfold Fm11.Link.total at y
          omega))
        exact qn fun m => m.elim hz fun m => hu m.2.2
    · have t1' : x.told = false := by simpa using t1
      rw [t1']
      refine iteF ?_
      exact qn fun m => m.elim hz fun m => t1 m.1
end
end Sl
/-! ## D14 -/
set_option Elab.async false
set_option linter.all false
set_option maxRecDepth 100000
set_option maxHeartbeats 4000000
namespace Sl
open PySem PySem.Spec PyProof.Rows L2 Evl
section
variable {P : Program} {w : World} {K : PySem.W.Frag} {mg : Str → Option Value} {base : Heap} {A : Adr}
theorem more_full {d k : Nat} {y : Fm11.Link} (h : 8 ≤ y.flight.length) : moreAt d k y = (y, []) := by
  cases k with
  | zero => rfl
  | succ k => exact if_pos h
theorem more_none {d k : Nat} {y : Fm11.Link} (h : ¬ 8 ≤ y.flight.length) (hm : ¬ mayNew y) : moreAt d k y = (y, []) := by
  cases k with
  | zero => rfl
  | succ k => exact (if_neg h).trans (if_neg hm)
theorem more_one {d k : Nat} {y : Fm11.Link} (h : ¬ 8 ≤ y.flight.length) (hm : mayNew y) : moreAt d (k + 1) y = ((moreAt d k (newLink y d)).1, y.piece ⟨y.sent, newLen y, d, 1⟩ :: (moreAt d k (newLink y d)).2) := (if_neg h).trans (if_pos hm)
theorem ok_Sending_new_parts (T : Top K mg A) (G_Sending_new_piece : FnOk P w K mg base CX0 3 A.f_Sending_new_piece A.d_Sending_new_piece ["self", "due"] (sp_Sending_new_piece K A)) (G_Sending_part_of : FnOk P w K mg base CX0 3 A.f_Sending_part_of A.d_Sending_part_of ["self", "piece"] (sp_Sending_part_of K A)) : FnOk P w K mg base CX0 4 A.f_Sending_new_parts A.d_Sending_new_parts ["self", "time"] (sp_Sending_new_parts K A) := by
  refine T.f_Sending_new_parts.F.ok sc_Sending_new_parts (fun vs H Q E h => by obtain ⟨_, _, _, _, rfl, _⟩ := h; rfl) (fun cdv Ar outer s H vs Q E hr h => ?_)
  obtain ⟨s, t, F, x, rfl, hS, hfl, q⟩ := h
  refine ⟨_, (pss_cons (ps_set (i := 2) sc_Sending_new_parts.nd rfl (Or.inl rfl) (pe_lst pa_nil))
    (pss_cons (ps_while PassesOwn.never (pt_cmpR op_lt (pe_callB call_len_seq (by rfl) T.b_len PySem.boot_len (pa_cons (pe_fld (pv 0) rfl) pa_nil)) (pe_glob (v := .int 8) rfl T.g_ON_THEIR_WAY ⟨_, rfl⟩) (nomark _))
    (pss_cons (ps_set (i := 3) sc_Sending_new_parts.nd rfl (Or.inl rfl) (pe_meth (pv 0) T.c_Sending.cl T.f_Sending_new_piece.m G_Sending_new_piece (hr.mono (by decide)) T.f_Sending_new_piece.b .nil pass0 (pa_cons (pe_op op_add (pv 1) (pe_glob (v := .int 4) rfl T.g_FIRST_WAIT ⟨_, rfl⟩)) pa_nil)))
    (pss_cons (ps_if (pt_cmp (pc_isN (pv 3))) (pss_one ps_break) pss_nil)
    (pss_cons (ps_expr (pe_bm PySem.F.plainAttrs_list PySem.F.slot_list_append PySem.F.type_list_append mt_append (pe_fld (pv 0) rfl) (pa_cons (pv 3) pa_nil)))
    (pss_cons (ps_fldaug (pv 0) (pe_fld (pv 3) rfl) in_add)
    (pss_one (ps_expr (pe_bm PySem.F.plainAttrs_list PySem.F.slot_list_append PySem.F.type_list_append mt_append (pv 2) (pa_cons (pe_meth (pv 0) T.c_Sending.cl T.f_Sending_part_of.m G_Sending_part_of (hr.mono (by decide)) T.f_Sending_part_of.b .nil pass0 (pa_cons (pv 3) pa_nil)) pa_nil)))))))))
    (pss_one (ps_ret (pv 2))))), ?_⟩
  refine ⟨by decide, fun l nl => ?_⟩
  have x0 := Ex.new (o := .lst []) nl
  refine ⟨fun m σ H' => ∃ (y : Fm11.Link) (F' : List Addr) (out : List Fm11.Packet) (v : Option V), σ = [some (.ref s), some (.int (t : Nat)), some (.ref l), v] ∧ 8 ≤ m + y.flight.length ∧ m ≤ 8 ∧ y.flight.length ≤ 1000 + (8 - m) ∧
    moreAt (t + 4) 8 x = ((moreAt (t + 4) m y).1, out ++ (moreAt (t + 4) m y).2) ∧ out.length + m ≤ 8 ∧
    SendAt A H' s F' y ∧ Grow F H F' H' ∧ PartsL A (Out F' (New H H')) l out ∧ ∀ b ∈ F, b ∈ F', ⟨8, x, F, [], none, rfl, by omega, by omega, by omega, rfl, by decide, hS.ex x0, Grow.ex x0, ⟨[], out_mk (hS.fresh nl) (new_mk nl upd_same), fun y hy => absurd hy List.not_mem_nil, rfl⟩, fun b hb => hb⟩, ?_⟩
  rintro m σ H' ⟨y, F', out, v, rfl, i1, i2, i3, i4, i5, hY, gr, pl, sub⟩
  have hY0 := hY
  obtain ⟨dx, so, sp, ps, ⟨h1, h2, h3, h4, h5, h6⟩, hFF⟩ := hY
  have hpl : (ps.map fun z => V.ref z.1).length = y.flight.length := by rw [h5, List.length_map, List.length_map]
  obtain ⟨qs0, k1, k2, k3⟩ := id pl
  have lF := (out_some k1).1
  have hl' := (new_some (out_some k1).2).2
  refine ⟨_, rfl, _, _, _, _, _, rfl, h1, T.c_Sending.cl, T.c_Sending.n_pieces, lk_Sending_pieces, sp, _, rfl, .inl (SqL.of h3), _, _, rfl, rfl, _, rfl, ?_⟩
  by_cases hfull : 8 ≤ y.flight.length
  · have hd : decide ((((ps.map fun z => V.ref z.1).length : Nat) : Int) < 8) = false := decide_eq_false (by rw [hpl]; omega)
    rw [hd]
    refine iteF ⟨_, rfl, ?_⟩
    rw [more_full hfull] at i4
    exact q l H' F' nl (by rw [i4]; exact hY0) gr (by rw [i4, List.append_nil]; exact pl) sub
  have hd : decide ((((ps.map fun z => V.ref z.1).length : Nat) : Int) < 8) = true := decide_eq_true (by rw [hpl]; omega)
  rw [hd]
  obtain ⟨k, rfl⟩ : ∃ k, m = k + 1 := ⟨m - 1, by omega⟩
  refine iteT ⟨fun σ2 H2 => ∃ (y : Fm11.Link) (F' : List Addr) (out : List Fm11.Packet) (v : Option V), σ2 = [some (.ref s), some (.int (t : Nat)), some (.ref l), v] ∧ 8 ≤ k + y.flight.length ∧ k ≤ 8 ∧ y.flight.length ≤ 1000 + (8 - k) ∧
    moreAt (t + 4) 8 x = ((moreAt (t + 4) k y).1, out ++ (moreAt (t + 4) k y).2) ∧ out.length + k ≤ 8 ∧
    SendAt A H2 s F' y ∧ Grow F H F' H2 ∧ PartsL A (Out F' (New H H2)) l out ∧ ∀ b ∈ F, b ∈ F', fun σ2 H2 hN => ⟨k, by omega, hN⟩, ?_⟩
  refine ⟨_, rfl, _, _, _, rfl, h1, no_Sending_new_piece, _, rfl, _, _, rfl, rfl, s, t + 4, F', y, rfl, hY0, fun hm => ?_, fun hm p H1 hS1 gr1 hP1 => ?_⟩
  · refine ⟨_, rfl, _, rfl, iteT ⟨_, rfl, ?_⟩⟩
    rw [more_none hfull hm] at i4
    exact q l H' F' nl (by rw [i4]; exact hY0) gr (by rw [i4, List.append_nil]; exact pl) sub
  rw [more_one hfull hm] at i4
  have np : H' p = none := by
    obtain ⟨dp, hp⟩ := hP1
    exact (new_some hp).1
  have pF : p ∉ F' := hY0.fresh np
  have pl_ne : l ≠ p := ne_of_none hl' np
  have hl1 : H1 l = some (.lst (qs0.map fun z => V.ref z.1)) := (gr1.get lF hl').2
  obtain ⟨dx1, so1, sp1, ps1, ⟨g1, g2, g3, g4, g5, g6⟩, hFF1⟩ := hS1
  change H1 s = some (.ins A.c_Sending dx1 (fl_Sending (.int (y.base : Nat)) (.ref so1) (.int (y.sent : Nat)) (.ref sp1) (.int (y.limit : Nat)) (.bl y.told) (.bl (y.ending || newLen y == 0)) (.int (y.asks : Nat)))) at g1
  have hpl1 : ps1.length = y.flight.length := by
    have := congrArg List.length g5
    rw [List.length_map] at this
    exact this.symm
  have spF : sp1 ∈ F' := by rw [hFF1]; simp
  have sF : s ∈ F' := by rw [hFF1]; simp
  refine ⟨_, rfl, _, rfl, iteF ?_⟩
  refine ⟨_, rfl, _, _, _, _, _, rfl, g1, T.c_Sending.cl, T.c_Sending.n_pieces, lk_Sending_pieces, .inl ⟨rfl, _, SqL.of g3⟩, _, rfl, sp1, _, _, rfl, rfl, g3, by rw [List.length_map, hpl1]; exact sz_lt (by omega), ?_⟩
  have hn := List.nodup_cons.mp g6
  have hn2 := List.nodup_cons.mp hn.2
  have hn3 := List.nodup_cons.mp hn2.2
  have s_sp : s ≠ sp1 := fun e => hn.1 (by rw [e]; simp)
  have so_s : so1 ≠ s := fun e => hn.1 (by rw [← e]; simp)
  have so_sp : so1 ≠ sp1 := fun e => hn2.1 (by rw [e]; simp)
  have p_sp : p ≠ sp1 := fun e => pF (by rw [e]; exact spF)
  have p_s : p ≠ s := fun e => pF (by rw [e]; exact sF)
  obtain ⟨dp, hp0⟩ := hP1
  have hp1 := (new_some hp0).2
  change H1 p = some (.ins A.c_Piece dp (fl_Piece (.int (kindN ⟨y.sent, newLen y, t + 4, 1⟩ : Nat)) (.int (y.sent : Nat)) (.int ((max (newLen y) 1 : Nat) : Int)) (.int ((t + 4 : Nat) : Int)) (.int ((1 : Nat) : Int)))) at hp1
  have hU1 : (upd H1 sp1 (.lst ((ps1.map fun z => V.ref z.1) ++ [.ref p]))) s = _ := (upd_ne s_sp).trans g1
  have hU2 : (upd H1 sp1 (.lst ((ps1.map fun z => V.ref z.1) ++ [.ref p]))) p = _ := (upd_ne p_sp).trans hp1
  refine ⟨_, rfl, s, _, _, _, _, rfl, hU1, T.c_Sending.cl, T.c_Sending.n_unsent, lk_Sending_unsent, _, rfl, _, _, _, _, _, rfl, hU2, T.c_Piece.cl, T.c_Piece.n_size, lk_Piece_size, _, _, rfl, rfl, _, _, hU1, by show 8 < 1000; decide, ?_⟩
  rw [pt_Sending_unsent]
  have hsent : (y.sent : Int) + ((max (newLen y) 1 : Nat) : Int) = (((⟨y.sent, newLen y, t + 4, 1⟩ : Fm11.Piece).next : Nat) : Int) := by
    show _ = ((y.sent + max (newLen y) 1 : Nat) : Int)
    omega
  -- the heap now
  generalize hHH : upd (upd H1 sp1 (.lst ((ps1.map fun z => V.ref z.1) ++ [.ref p]))) s (.ins A.c_Sending dx1 (fl_Sending (.int (y.base : Nat)) (.ref so1) (.int ((y.sent : Int) + ((max (newLen y) 1 : Nat) : Int))) (.ref sp1) (.int (y.limit : Nat)) (.bl y.told) (.bl (y.ending || newLen y == 0)) (.int (y.asks : Nat)))) = U
  have hoth : ∀ b, b ≠ s → b ≠ sp1 → U b = H1 b := fun b c1 c2 => by rw [← hHH, upd_ne c1, upd_ne c2]
  have hUs : U s = some (.ins A.c_Sending dx1 (fl_Sending (.int (y.base : Nat)) (.ref so1) (.int ((y.sent : Int) + ((max (newLen y) 1 : Nat) : Int))) (.ref sp1) (.int (y.limit : Nat)) (.bl y.told) (.bl (y.ending || newLen y == 0)) (.int (y.asks : Nat)))) := by rw [← hHH, upd_same]
  have hUsp : U sp1 = some (.lst ((ps1.map fun z => V.ref z.1) ++ [.ref p])) := by rw [← hHH, upd_ne s_sp.symm, upd_same]
  have hFn : F' ++ [p] = s :: so1 :: sp1 :: (ps1 ++ [(p, (⟨y.sent, newLen y, t + 4, 1⟩ : Fm11.Piece))]).map (·.1) := by
    rw [hFF1, List.map_append]
    rfl
  have hS2 : SendAt A U s (F' ++ [p]) (newLink y (t + 4)) := by
    refine ⟨dx1, so1, sp1, ps1 ++ [(p, ⟨y.sent, newLen y, t + 4, 1⟩)], ⟨by rw [hUs, hsent]; rfl, by rw [hoth _ so_s so_sp]; exact g2, by rw [hUsp, List.map_append]; rfl, fun z hz => ?_, ?_, ?_⟩, hFn⟩
    · rcases List.mem_append.mp hz with hz | hz
      · obtain ⟨dz, kz⟩ := g4 z hz
        have hzm : z.1 ∈ ps1.map (·.1) := List.mem_map.mpr ⟨z, hz, rfl⟩
        exact ⟨dz, by rw [hoth _ (fun e => hn.1 (by rw [← e]; exact List.mem_cons_of_mem _ (List.mem_cons_of_mem _ hzm))) (fun e => hn3.1 (by rw [← e]; exact hzm))]; exact kz⟩
      · rw [List.mem_singleton.mp hz]
        exact ⟨dp, by rw [hoth _ p_s p_sp]; exact hp1⟩
    · show y.flight ++ _ = _
      rw [List.map_append]
      exact congrArg (· ++ _) g5
    · rw [← hFn]
      have hnd : F'.Nodup := by rw [hFF1]; exact g6
      rw [List.nodup_append]
      exact ⟨hnd, List.nodup_cons.mpr ⟨List.not_mem_nil, List.nodup_nil⟩, fun a ha b hb e => pF (by rw [← List.mem_singleton.mp hb, ← e]; exact ha)⟩
  have hPU : PieceAt A U p ⟨y.sent, newLen y, t + 4, 1⟩ := ⟨dp, by rw [hoth _ p_s p_sp]; exact hp1⟩
  have l_s : l ≠ s := fun e => lF (by rw [e]; exact sF)
  have l_sp : l ≠ sp1 := fun e => lF (by rw [e]; exact spF)
  have hlU : U l = some (.lst (qs0.map fun z => V.ref z.1)) := by rw [hoth _ l_s l_sp]; exact hl1
  have grU : Grow F' H' (F' ++ [p]) U := Grow.mk fun b o c1 c2 => ⟨fun z => by
    rcases List.mem_append.mp z with z | z
    · exact c1 z
    · exact ne_of_none c2 np (List.mem_singleton.mp z), by
    rw [hoth b (fun e => c1 (by rw [e]; exact sF)) (fun e => c1 (by rw [e]; exact spF))]
    exact (gr1.get c1 c2).2⟩
  refine ⟨_, rfl, .inl ⟨rfl, _, SqL.of hlU⟩, _, rfl, s, _, _, rfl, hUs, no_Sending_part_of, _, rfl, s, p, _, _, _, rfl, hS2, hPU, fun qq H3 nq e3 hpart => ?_⟩
  change PartAt A (New U H3) qq (y.piece ⟨y.sent, newLen y, t + 4, 1⟩) at hpart
  have hl3 := e3 _ _ hlU
  have houtl : qs0.length = out.length := by
    have := congrArg List.length k3
    rw [List.length_map] at this
    exact this.symm
  have lF2 : l ∉ F' ++ [p] := fun z => by
    rcases List.mem_append.mp z with z | z
    · exact lF z
    · exact pl_ne (List.mem_singleton.mp z)
  refine ⟨l, _, _, rfl, rfl, hl3, by rw [List.length_map]; exact sz_lt (by omega), ?_⟩
  refine ⟨newLink y (t + 4), F' ++ [p], out ++ [y.piece ⟨y.sent, newLen y, t + 4, 1⟩], some (.ref p), rfl, ?_, by omega, ?_, ?_, ?_, ?_, ?_, ?_, fun b hb => List.mem_append.mpr (.inl (sub b hb))⟩
  · show 8 ≤ k + (y.flight ++ _).length
    rw [List.length_append]
    show 8 ≤ k + (y.flight.length + 1)
    omega
  · show (y.flight ++ _).length ≤ _
    rw [List.length_append]
    show y.flight.length + 1 ≤ _
    omega
  · rw [i4, List.append_assoc]
    rfl
  · rw [List.length_append]
    show out.length + 1 + k ≤ 8
    omega
  · exact hS2.on fun b o hb hu => by
      rw [upd_ne (fun z => lF2 (by rw [← z]; exact hb))]
      exact e3 _ _ hu
  · refine Grow.mk fun b o c1 c2 => ?_
    obtain ⟨d1, d2⟩ := (gr.trans grU).get c1 c2
    exact ⟨d1, by rw [upd_ne (ne_of_none c2 nl)]; exact e3 _ _ d2⟩
  · have eR : Ex (Out F' (New H H')) (Out (F' ++ [p]) (New H H3)) := fun b o z => by
      obtain ⟨z1, z2⟩ := out_some z
      obtain ⟨z3, z4⟩ := new_some z2
      obtain ⟨z5, z6⟩ := grU.get z1 z4
      exact out_mk z5 (new_mk z3 (e3 _ _ z6))
    have hp' : PartAt A (New (Out F' (New H H')) (Out (F' ++ [p]) (New H H3))) qq (y.piece ⟨y.sent, newLen y, t + 4, 1⟩) := hpart.ex fun b o z => by
      obtain ⟨z1, z2⟩ := new_some z
      have z3 : b ∉ F' ++ [p] := hS2.fresh z1
      have z4 : H b = none := by
        cases c : H b with
        | none => rfl
        | some u =>
          exfalso
          by_cases d : b ∈ F
          · exact z3 (List.mem_append.mpr (.inl (sub b d)))
          · rw [((gr.trans grU).get d c).2] at z1
            cases z1
      refine new_mk ?_ (out_mk z3 (new_mk z4 z2))
      cases c : Out F' (New H H') b with
      | none => rfl
      | some u =>
        obtain ⟨c1, c2⟩ := out_some c
        obtain ⟨c3, c4⟩ := new_some c2
        rw [(grU.get c1 c4).2] at z1
        cases z1
    refine (pl.more k1 eR hp').ex fun b o z => ?_
    by_cases c : b = l
    · rw [c, upd_same] at z
      rw [c]
      exact out_mk lF2 (new_mk nl (by rw [upd_same]; exact z))
    · rw [upd_ne c] at z
      obtain ⟨z1, z2⟩ := out_some z
      obtain ⟨z3, z4⟩ := new_some z2
      exact out_mk z1 (new_mk z3 (by rw [upd_ne c]; exact z4))
end
end Sl
/-! ## D15 -/
set_option Elab.async false
set_option linter.all false
set_option maxRecDepth 100000
set_option maxHeartbeats 4000000
namespace Sl
open PySem PySem.Spec PyProof.Rows L2 Evl
section
variable {P : Program} {w : World} {K : PySem.W.Frag} {mg : Str → Option Value} {base : Heap} {A : Adr}
theorem again_len (x : Fm11.Link) (t : Nat) : (againLink x t).flight.length = x.flight.length := List.length_map _
theorem againOut_len (x : Fm11.Link) (t : Nat) : (againOut x t).length ≤ x.flight.length := by
  unfold againOut
  rw [List.length_map]
  exact List.length_filter_le _ _
theorem moreAt_len (d : Nat) : ∀ (k : Nat) (x : Fm11.Link), (moreAt d k x).2.length ≤ k ∧ (moreAt d k x).1.flight.length ≤ x.flight.length + k
  | 0, x => ⟨Nat.le_refl _, Nat.le_refl _⟩
  | k + 1, x => by
    unfold moreAt
    split
    · exact ⟨Nat.zero_le _, Nat.le_add_right _ _⟩
    · split
      · obtain ⟨h1, h2⟩ := moreAt_len d k (newLink x d)
        have e : (newLink x d).flight.length = x.flight.length + 1 := by
          show (x.flight ++ _).length = _
          rw [List.length_append]
          rfl
        exact ⟨Nat.succ_le_succ h1, by rw [e] at h2; show (moreAt d k (newLink x d)).1.flight.length ≤ _; omega⟩
      · exact ⟨Nat.zero_le _, Nat.le_add_right _ _⟩
theorem PartsL.join {A : Adr} {R1 R2 R : Hp} {l l2 : Addr} {o1 o2 : List Fm11.Packet} {xs zs : List V} (p1 : PartsL A R1 l o1) (p2 : PartsL A R2 l2 o2) (h1 : R1 l = some (.lst xs)) (h2 : R2 l2 = some (.lst zs)) (hR : R l = some (.lst (xs ++ zs)))
    (e1 : ∀ b o, b ≠ l → R1 b = some o → R b = some o) (e2 : ∀ b o, b ≠ l2 → R2 b = some o → b ≠ l ∧ R b = some o) : PartsL A R l (o1 ++ o2) := by
  obtain ⟨q1, a1, a2, a3⟩ := p1
  obtain ⟨q2, b1, b2, b3⟩ := p2
  have hx : xs = q1.map fun y => V.ref y.1 := by rw [a1] at h1; exact (HO.lst.inj (Option.some.inj h1)).symm
  have hz : zs = q2.map fun y => V.ref y.1 := by rw [b1] at h2; exact (HO.lst.inj (Option.some.inj h2)).symm
  refine ⟨q1 ++ q2, by rw [hR, hx, hz, List.map_append], fun y hy => ?_, by rw [a3, b3, List.map_append]⟩
  rcases List.mem_append.mp hy with hy | hy
  · refine (a2 y hy).ex fun b o z => ?_
    obtain ⟨z1, z2⟩ := out_some z
    exact out_mk z1 (e1 b o (fun e => z1 (List.mem_singleton.mpr e)) z2)
  · refine (b2 y hy).ex fun b o z => ?_
    obtain ⟨z1, z2⟩ := out_some z
    obtain ⟨z3, z4⟩ := e2 b o (fun e => z1 (List.mem_singleton.mpr e)) z2
    exact out_mk (fun e => z3 (List.mem_singleton.mp e)) z4
theorem ok_Sending_parts_at (T : Top K mg A) (G_Part_init : FnOk P w K mg base CX0 1 A.f_Part_init A.d_Part_init ["self", "kind", "number", "octets"] (sp_Part_init K A)) (G_Sending_bytes_unsent : FnOk P w K mg base CX0 1 A.f_Sending_bytes_unsent A.d_Sending_bytes_unsent ["self"] (sp_Sending_bytes_unsent K A)) (G_Sending_new_parts : FnOk P w K mg base CX0 4 A.f_Sending_new_parts A.d_Sending_new_parts ["self", "time"] (sp_Sending_new_parts K A)) (G_Sending_parts_again : FnOk P w K mg base CX0 4 A.f_Sending_parts_again A.d_Sending_parts_again ["self", "time"] (sp_Sending_parts_again K A)) : FnOk P w K mg base CX0 5 A.f_Sending_parts_at A.d_Sending_parts_at ["self", "time"] (sp_Sending_parts_at K A) := by
  refine T.f_Sending_parts_at.F.ok sc_Sending_parts_at (fun vs H Q E h => by obtain ⟨_, _, _, _, rfl, _⟩ := h; rfl) (fun cdv Ar outer s H vs Q E hr h => ?_)
  obtain ⟨s, t, F, x, rfl, hS, hfl, hof, q⟩ := h
  refine ⟨_, (pss_cons (ps_set (i := 2) sc_Sending_parts_at.nd rfl (Or.inl rfl) (pe_meth (pv 0) T.c_Sending.cl T.f_Sending_parts_again.m G_Sending_parts_again (hr.mono (by decide)) T.f_Sending_parts_again.b .nil pass0 (pa_cons (pv 1) pa_nil)))
    (pss_cons (ps_expr (pe_bm PySem.F.plainAttrs_list PySem.F.slot_list_extend PySem.F.type_list_extend mt_extend (pv 2) (pa_cons (pe_meth (pv 0) T.c_Sending.cl T.f_Sending_new_parts.m G_Sending_new_parts (hr.mono (by decide)) T.f_Sending_new_parts.b .nil pass0 (pa_cons (pv 1) pa_nil)) pa_nil)))
    (pss_cons (ps_if (PW.pt (pw_and (pt_cmpR op_eq (pe_callB call_len_seq (by rfl) T.b_len PySem.boot_len (pa_cons (pe_fld (pv 0) rfl) pa_nil)) pe_int (nomark _)) (pw_and (pt_cmpR op_gt (pe_meth0 (pv 0) T.c_Sending.cl T.f_Sending_bytes_unsent.m G_Sending_bytes_unsent (hr.mono (by decide)) T.f_Sending_bytes_unsent.b .nil pass0) pe_int (nomark _)) (pw_and1 (pt_cmpR op_le (pe_fld (pv 0) rfl) (pv 1) (nomark _)))))) (pss_cons (ps_fld (pv 0) (pe_op op_add (pv 1) (pe_glob (v := .int 16) rfl T.g_ASK_WAIT ⟨_, rfl⟩)) rfl)
    (pss_one (ps_expr (pe_bm PySem.F.plainAttrs_list PySem.F.slot_list_append PySem.F.type_list_append mt_append (pv 2) (pa_cons (pe_make T.k_Part.M G_Part_init (hr.mono (by decide)) rfl T.k_Part.g T.k_Part.b .nil pass0 (pa_cons (pe_glob (v := .int 3) rfl T.g_QUESTION ⟨_, rfl⟩) (pa_cons (pe_fld (pv 0) rfl) (pa_cons (pe_lst pa_nil) pa_nil)))) pa_nil))))) pss_nil)
    (pss_one (ps_ret (pv 2)))))), ?_⟩
  have hS0 := hS
  obtain ⟨dx, so, sp, ps, ⟨h1, h2, h3, h4, h5, h6⟩, hFF⟩ := hS
  refine ⟨_, rfl, _, _, _, rfl, h1, no_Sending_parts_again, _, rfl, s, t, F, x, rfl, hS0, hfl, hof, fun l H1 nl hS1 gr1 pl1 => ?_⟩
  have hS1' := hS1
  obtain ⟨dx1, so1, sp1, ps1, ⟨g1, g2, g3, g4, g5, g6⟩, hFF1⟩ := hS1
  obtain ⟨qs1, k1, k2, k3⟩ := id pl1
  have hl1 := (new_some k1).2
  refine ⟨_, rfl, .inl ⟨rfl, _, SqL.of hl1⟩, _, rfl, _, _, _, rfl, g1, no_Sending_new_parts, _, rfl, s, t, F, _, rfl, hS1', by rw [again_len]; exact hfl, fun l2 H2 F' nl2 hS2 gr2 pl2 sub => ?_⟩
  obtain ⟨qs2, j1, j2, j3⟩ := id pl2
  have hl2 := (new_some (out_some j1).2).2
  have lF : l ∉ F := hS0.fresh nl
  obtain ⟨lF', hl2'⟩ := gr2.get lF hl1
  have ln1 : qs1.length ≤ 1000 := by
    have := congrArg List.length k3
    rw [List.length_map] at this
    have := againOut_len x t
    omega
  obtain ⟨mo1, mo2⟩ := moreAt_len (t + 4) 8 (againLink x t)
  have ln2 : qs2.length ≤ 8 := by
    have := congrArg List.length j3
    rw [List.length_map] at this
    omega
  refine ⟨l, l2, _, _, rfl, rfl, hl2', hl2, by rw [List.length_map, List.length_map]; exact sz_of (by omega), ?_⟩
  -- the heap behind the list's growing
  have pl3 : PartsL A (Out F' (New H (upd H2 l (.lst ((qs1.map fun y => V.ref y.1) ++ qs2.map fun y => V.ref y.1))))) l (againOut x t ++ (moreAt (t + 4) 8 (againLink x t)).2) := by
    refine pl1.join pl2 k1 j1 (out_mk lF' (new_mk nl upd_same)) (fun b o c z => ?_) (fun b o c z => ?_)
    · obtain ⟨z1, z2⟩ := new_some z
      obtain ⟨z3, z4⟩ := gr2.get (hS0.fresh z1) z2
      exact out_mk z3 (new_mk z1 (by rw [upd_ne c]; exact z4))
    · obtain ⟨z1, z2⟩ := out_some z
      obtain ⟨z3, z4⟩ := new_some z2
      have bl : b ≠ l := fun e => by rw [e, hl1] at z3; cases z3
      have hb : H b = none := by
        cases d : H b with
        | none => rfl
        | some u =>
          exfalso
          by_cases f : b ∈ F
          · exact hS1'.dom b f z3
          · rw [(gr1.get f d).2] at z3
            cases z3
      exact ⟨bl, out_mk z1 (new_mk hb (by rw [upd_ne bl]; exact z4))⟩
  have gr3 : Grow F H F' (upd H2 l (.lst ((qs1.map fun y => V.ref y.1) ++ qs2.map fun y => V.ref y.1))) := Grow.mk fun b o c1 c2 => by
    obtain ⟨d1, d2⟩ := (gr1.trans gr2).get c1 c2
    exact ⟨d1, by rw [upd_ne (ne_of_none c2 nl)]; exact d2⟩
  have hS3 : SendAt A (upd H2 l (.lst ((qs1.map fun y => V.ref y.1) ++ qs2.map fun y => V.ref y.1))) s F' (moreAt (t + 4) 8 (againLink x t)).1 := hS2.on fun b o hb hu => by
    rw [upd_ne (fun z => lF' (by rw [← z]; exact hb))]
    exact hu
  have hl3 : upd H2 l (.lst ((qs1.map fun y => V.ref y.1) ++ qs2.map fun y => V.ref y.1)) l = some (.lst ((qs1.map fun y => V.ref y.1) ++ qs2.map fun y => V.ref y.1)) := upd_same
  have ln3 : ((qs1.map fun y => V.ref y.1) ++ qs2.map fun y => V.ref y.1).length ≤ 2000 := by
    rw [List.length_append, List.length_map, List.length_map]
    omega
  generalize ((qs1.map fun y => V.ref y.1) ++ qs2.map fun y => V.ref y.1) = xs3 at hl3 ln3 pl3 gr3 hS3
  generalize upd H2 l (.lst xs3) = H3 at hl3 pl3 gr3 hS3
  unfold partsLink partsOut at q
  generalize moreAt (t + 4) 8 (againLink x t) = yo at hS3 pl3 q
  obtain ⟨y, out⟩ := yo
  have hS3' := hS3
  obtain ⟨dx3, so3, sp3, ps3, ⟨m1, m2, m3, m4, m5, m6⟩, hFF3⟩ := hS3
  change H3 s = some (.ins A.c_Sending dx3 (fl_Sending (.int (y.base : Nat)) (.ref so3) (.int (y.sent : Nat)) (.ref sp3) (.int (y.limit : Nat)) (.bl y.told) (.bl y.ending) (.int (y.asks : Nat)))) at m1
  change y.flight = _ at m5
  have hno : asking y t = false → Q (.ref l) H3 := fun ha => by
    refine q l H3 F' nl ?_ gr3 ?_ ?_
    · show SendAt A H3 s F' { y with asks := if asking y t = true then t + 16 else y.asks }
      rw [ha]
      exact hS3'
    · show PartsL A _ l (againOut x t ++ (out ++ if asking y t = true then [y.plain 3] else []))
      rw [ha, if_neg Bool.false_ne_true, List.append_nil]
      exact pl3
    · exact sub
  have hask : asking y t = (y.flight.isEmpty && (decide (y.sent < y.total) && decide (y.asks ≤ t))) := rfl
  refine ⟨_, rfl, _, _, _, _, _, rfl, m1, T.c_Sending.cl, T.c_Sending.n_pieces, lk_Sending_pieces, sp3, _, rfl, .inl (SqL.of m3), rfl, _, rfl, ?_⟩
  by_cases c1 : ps3 = []
  · have d1 : decide (V.int ((ps3.map fun y => V.ref y.1).length : Nat) = V.int 0) = true := by rw [c1]; rfl
    have e1 : y.flight.isEmpty = true := by rw [m5, c1]; rfl
    rw [d1]
    refine iteT ⟨_, rfl, _, _, _, rfl, m1, no_Sending_bytes_unsent, s, F', y, rfl, hS3', _, _, rfl, rfl, _, rfl, ?_⟩
    by_cases c2 : y.sent < y.total
    · have d2 : decide ((0 : Int) < unsent y) = true := decide_eq_true (by unfold unsent; unfold Fm11.Link.total at c2; omega)
      rw [d2]
      refine iteT ⟨_, rfl, _, _, _, _, _, rfl, m1, T.c_Sending.cl, T.c_Sending.n_ask_time, lk_Sending_ask_time, _, rfl, _, _, rfl, rfl, _, rfl, ?_⟩
      by_cases c3 : y.asks ≤ t
      · have d3 : decide ((y.asks : Int) ≤ (t : Int)) = true := decide_eq_true (by omega)
        rw [d3]
        refine iteT ?_
        have ha : asking y t = true := by rw [hask, e1, decide_eq_true c2, decide_eq_true c3]; rfl
        refine ⟨_, rfl, _, _, rfl, rfl, _, rfl, s, A.c_Sending, dx3, _, rfl, m1, T.c_Sending.cl, T.c_Sending.n_ask_time, by show 8 < 1000; decide, ?_⟩
        rw [pt_Sending_ask_time]
        have sF : s ∈ F' := by rw [hFF3]; exact List.mem_cons_self ..
        have hn := List.nodup_cons.mp m6
        have ls : l ≠ s := fun e => lF' (by rw [e]; exact sF)
        have hS4 : SendAt A (upd H3 s (.ins A.c_Sending dx3 (fl_Sending (.int (y.base : Nat)) (.ref so3) (.int (y.sent : Nat)) (.ref sp3) (.int (y.limit : Nat)) (.bl y.told) (.bl y.ending) (.int ((t : Int) + 16))))) s F' { y with asks := t + 16 } := by
          refine ⟨dx3, so3, sp3, ps3, ⟨by rw [upd_same]; rfl, ?_, ?_, fun z hz => ?_, m5, m6⟩, hFF3⟩
          · rw [upd_ne (fun e => hn.1 (by rw [← e]; exact List.mem_cons_self ..))]
            exact m2
          · rw [upd_ne (fun e => hn.1 (by rw [← e]; simp))]
            exact m3
          · obtain ⟨dy', k⟩ := m4 z hz
            refine ⟨dy', ?_⟩
            rw [upd_ne (fun e => hn.1 (by rw [← e]; exact List.mem_cons_of_mem _ (List.mem_cons_of_mem _ (List.mem_map.mpr ⟨z, hz, rfl⟩))))]
            exact k
        have gr4 : Grow F H F' (upd H3 s (.ins A.c_Sending dx3 (fl_Sending (.int (y.base : Nat)) (.ref so3) (.int (y.sent : Nat)) (.ref sp3) (.int (y.limit : Nat)) (.bl y.told) (.bl y.ending) (.int ((t : Int) + 16))))) := gr3.trans (Grow.put _ sF)
        have hU : ∀ b, b ≠ s → upd H3 s (.ins A.c_Sending dx3 (fl_Sending (.int (y.base : Nat)) (.ref so3) (.int (y.sent : Nat)) (.ref sp3) (.int (y.limit : Nat)) (.bl y.told) (.bl y.ending) (.int ((t : Int) + 16)))) b = H3 b := fun b c => upd_ne c
        have hUs : upd H3 s (.ins A.c_Sending dx3 (fl_Sending (.int (y.base : Nat)) (.ref so3) (.int (y.sent : Nat)) (.ref sp3) (.int (y.limit : Nat)) (.bl y.told) (.bl y.ending) (.int ((t : Int) + 16)))) s = _ := upd_same
        generalize upd H3 s (.ins A.c_Sending dx3 (fl_Sending (.int (y.base : Nat)) (.ref so3) (.int (y.sent : Nat)) (.ref sp3) (.int (y.limit : Nat)) (.bl y.told) (.bl y.ending) (.int ((t : Int) + 16)))) = U at hS4 gr4 hU hUs
        have hl4 : U l = some (.lst xs3) := by rw [hU l ls]; exact hl3
        refine ⟨_, rfl, .inl ⟨rfl, _, SqL.of hl4⟩, _, rfl, _, _, _, _, _, rfl, hUs, T.c_Sending.cl, T.c_Sending.n_unsent, lk_Sending_unsent, by decide, fun o no => ?_⟩
        intro a dy na ndy nex
        have x1 := Ex.new (o := .lst []) no
        have x2 := (Ex.new (o := .own a) ndy).trans (Ex.new (o := .ins A.c_Part dy []) (by rw [upd_ne nex.symm]; exact na))
        have no2 := fresh_back x1 na
        refine ⟨a, dy, o, y.plain 3, rfl, upd_same, x2 _ _ upd_same, fun H5 ⟨dy', w1, w2⟩ fr => ⟨rfl, ?_⟩⟩
        have ex5 : Ex U H5 := fun b u hb => fr b u ((x1.trans x2) _ _ hb) (ne_of_none hb no2)
        refine ⟨l, _, _, rfl, rfl, ex5 _ _ hl4, sz_lt (by omega), ?_⟩
        refine ⟨_, rfl, ?_⟩
        refine q l _ F' nl ?_ ?_ ?_ sub
        · show SendAt A _ s F' { y with asks := if asking y t = true then t + 16 else y.asks }
          rw [ha]
          exact hS4.on fun b o hb hu => by
            rw [upd_ne (fun z => lF' (by rw [← z]; exact hb))]
            exact ex5 _ _ hu
        · refine Grow.mk fun b o c1 c2 => ?_
          obtain ⟨d1, d2⟩ := gr4.get c1 c2
          exact ⟨d1, by rw [upd_ne (ne_of_none c2 nl)]; exact ex5 _ _ d2⟩
        · show PartsL A _ l (againOut x t ++ (out ++ if asking y t = true then [y.plain 3] else []))
          rw [ha, if_pos rfl, ← List.append_assoc]
          have hlR : Out F' (New H H3) l = some (.lst xs3) := out_mk lF' (new_mk nl hl3)
          have eR : Ex (Out F' (New H H3)) (Out F' (New H H5)) := fun b o z => by
            obtain ⟨z1, z2⟩ := out_some z
            obtain ⟨z3, z4⟩ := new_some z2
            exact out_mk z1 (new_mk z3 (ex5 _ _ (by rw [hU b (fun e => z1 (by rw [e]; exact sF))]; exact z4)))
          have fresh : ∀ b o', U b = none → H5 b = some o' → New (Out F' (New H H3)) (Out F' (New H H5)) b = some o' := fun b o' z1 z2 => by
            have z3 : b ∉ F' := hS4.fresh z1
            have bs : b ≠ s := fun e => z3 (by rw [e]; exact sF)
            have z5 : H3 b = none := by rw [← hU b bs]; exact z1
            have z4 : H b = none := by
              cases c : H b with
              | none => rfl
              | some u =>
                exfalso
                by_cases d : b ∈ F
                · exact z3 (sub b d)
                · rw [(gr4.get d c).2] at z1
                  cases z1
            refine new_mk ?_ (out_mk z3 (new_mk z4 z2))
            rw [out_of z3]
            show (match H b with | none => H3 b | some _ => none) = none
            rw [z4]
            exact z5
          refine (pl3.more hlR eR ⟨dy', o, fresh a _ no2 w1, fresh o _ no w2⟩).ex fun b o' z => ?_
          by_cases c : b = l
          · rw [c, upd_same] at z
            rw [c]
            exact out_mk lF' (new_mk nl (by rw [upd_same]; exact z))
          · rw [upd_ne c] at z
            obtain ⟨z1, z2⟩ := out_some z
            obtain ⟨z3, z4⟩ := new_some z2
            exact out_mk z1 (new_mk z3 (by rw [upd_ne c]; exact z4))
      · have d3 : decide ((y.asks : Int) ≤ (t : Int)) = false := decide_eq_false (by omega)
        rw [d3]
        exact iteF ⟨_, rfl, hno (by rw [hask, decide_eq_false c3, Bool.and_false, Bool.and_false])⟩
    · have d2 : decide ((0 : Int) < unsent y) = false := decide_eq_false (by unfold unsent; unfold Fm11.Link.total at c2; omega)
      rw [d2]
      exact iteF (iteF ⟨_, rfl, hno (by rw [hask, decide_eq_false c2, Bool.false_and, Bool.and_false])⟩)
  · have d1 : decide (V.int ((ps3.map fun y => V.ref y.1).length : Nat) = V.int 0) = false := decide_eq_false fun z => by
      have := V.int.inj z
      rw [List.length_map] at this
      have h0 := List.length_pos_iff.mpr c1
      omega
    have e1 : y.flight.isEmpty = false := by
      rw [m5]
      cases ps3 with
      | nil => exact absurd rfl c1
      | cons a b => rfl
    rw [d1]
    exact iteF (iteF ⟨_, rfl, hno (by rw [hask, e1, Bool.false_and])⟩)
end
end Sl
/-! ## D16 -/
set_option Elab.async false
set_option linter.all false
set_option maxRecDepth 100000
set_option maxHeartbeats 4000000
namespace Sl
open PySem PySem.Spec PyProof.Rows L2 Evl
section
variable {P : Program} {w : World} {K : PySem.W.Frag} {mg : Str → Option Value} {base : Heap} {A : Adr}
theorem max_int (a b : Nat) : (if (b : Int) > (a : Int) then (b : Int) else (a : Int)) = ((max a b : Nat) : Int) := by
  by_cases h : b > a
  · rw [if_pos (by omega)]
    congr 1
    omega
  · rw [if_neg (by omega)]
    congr 1
    omega
theorem ok_Sending_answered (T : Top K mg A) : FnOk P w K mg base CX0 1 A.f_Sending_answered A.d_Sending_answered ["self", "wanted", "room"] (sp_Sending_answered K A) := by
  refine T.f_Sending_answered.F.ok sc_Sending_answered (fun vs H Q E h => by obtain ⟨_, _, _, _, _, rfl, _⟩ := h; rfl) (fun cdv Ar outer s H vs Q E hr h => ?_)
  obtain ⟨s, ack, room, F, x, rfl, hS, hfl, q⟩ := h
  refine ⟨_, (pss_cons (ps_if (PW.pt (pw_or (pt_cmpR op_lt (pv 1) (pe_fld (pv 0) rfl) (nomark _)) (pw_or1 (pt_cmpR op_gt (pv 1) (pe_fld (pv 0) rfl) (nomark _))))) (pss_one ps_retN) pss_nil)
    (pss_cons (ps_fld (pv 0) (pe_slice sl_list (pe_fld (pv 0) rfl) (po_some (pe_op op_sub (pv 1) (pe_fld (pv 0) rfl))) po_none) rfl)
    (pss_cons (ps_fld (pv 0) (pv 1) rfl)
    (pss_cons (ps_fld (pv 0) (pe_lc (own := [("piece", 3)]) (g := gName 3) (te := (tVar 3)) (tt := (tTest (tOp (rI0 fun i j => .bl (decide (j < i))) (tOp (rI0 fun i j => .int (i + j)) (tFld K (tVar 3) "number") (tFld K (tVar 3) "size")) (tVar 1)))) rfl sc_Sending_answered.nd (pi_list (pe_fld (pv 0) rfl)) (blkOk_by (own := [("piece", 3)]) (N := ["self", "wanted", "room", "piece"]) (sc := defScope s_Sending_answered) (by decide +kernel)) (fun _ _ _ _ _ => (pg_name (i := 3) sc_Sending_answered.nd rfl (Or.inl rfl))) (fun _ _ _ _ _ => (pts_one (pt_cmpR op_gt (pe_op op_add (pe_fld (pv 3) rfl) (pe_fld (pv 3) rfl)) (pv 1) (nomark _)))) (fun _ _ _ _ _ => (pv 3))) rfl)
    (pss_one (ps_fld (pv 0) (pe_callB (call_max2 rfl) (by rfl) T.b_max (by decide +kernel) (pa_cons (pe_fld (pv 0) rfl) (pa_cons (pe_op op_add (pv 1) (pv 2)) pa_nil))) rfl)))))), ?_⟩
  have hS0 := hS
  obtain ⟨dx, so, sp, ps, ⟨h1, h2, h3, h4, h5, h6⟩, hFF⟩ := hS
  have hlp : ps.length ≤ 1000 := by rw [h5, List.length_map] at hfl; exact hfl
  refine ⟨_, rfl, _, rfl, _, _, _, _, _, rfl, h1, T.c_Sending.cl, T.c_Sending.n_first, lk_Sending_first, _, _, rfl, rfl, _, rfl, ite2 (fun z => ?_) (fun z => ?_)⟩
  · have hz : ack < x.base := by have := of_decide_eq_true z; omega
    refine iteT ?_
    have : x.heard ack room = x := by
      unfold Fm11.Link.heard
      rw [if_neg (by omega)]
    rw [this] at q
    exact q H F hS0 (Grow.refl _ _)
  have hz : x.base ≤ ack := by
    have : ¬ (ack : Int) < (x.base : Int) := fun y => z (decide_eq_true y)
    omega
  refine ⟨_, rfl, _, rfl, _, _, _, _, _, rfl, h1, T.c_Sending.cl, T.c_Sending.n_unsent, lk_Sending_unsent, _, _, rfl, rfl, _, rfl, ite2 (fun z2 => ?_) (fun z2 => ?_)⟩
  · have hz2 : x.sent < ack := by have := of_decide_eq_true z2; omega
    have : x.heard ack room = x := by
      unfold Fm11.Link.heard
      rw [if_neg (by omega)]
    rw [this] at q
    exact q H F hS0 (Grow.refl _ _)
  have hz2 : ack ≤ x.sent := by
    have : ¬ (x.sent : Int) < (ack : Int) := fun y => z2 (decide_eq_true y)
    omega
  have hheard : x.heard ack room = { x with base := ack, rest := x.rest.drop (ack - x.base), flight := x.flight.filter fun p => decide (ack < p.next), limit := max x.limit (ack + room) } := by
    unfold Fm11.Link.heard
    rw [if_pos ⟨hz, hz2⟩]
  rw [hheard] at q
  refine ⟨_, rfl, _, _, _, _, _, rfl, h1, T.c_Sending.cl, T.c_Sending.n_octets, lk_Sending_octets, _, rfl, _, rfl, _, _, _, _, _, rfl, h1, T.c_Sending.cl, T.c_Sending.n_first, lk_Sending_first, _, _, rfl, rfl, _, rfl, so, _, rfl, SqL.of h2, fun o no => ?_⟩
  have e1 : cutV (nv x.rest) (some ((ack : Int) - (x.base : Int))) none = nv (x.rest.drop (ack - x.base)) := by
    rw [← cut_from]
    congr 2
    omega
  rw [e1]
  have os : o ≠ s := (ne_of_none h1 no).symm
  have osp : o ≠ sp := (ne_of_none h3 no).symm
  have x1 := Ex.new (o := .lst (nv (x.rest.drop (ack - x.base)))) no
  refine ⟨_, rfl, s, A.c_Sending, dx, _, rfl, x1 _ _ h1, T.c_Sending.cl, T.c_Sending.n_octets, by show 8 < 1000; decide, ?_⟩
  rw [pt_Sending_octets]
  refine ⟨_, rfl, _, rfl, s, A.c_Sending, dx, _, rfl, upd_same, T.c_Sending.cl, T.c_Sending.n_first, by show 8 < 1000; decide, ?_⟩
  rw [pt_Sending_first]
  have hn := List.nodup_cons.mp h6
  have hn2 := List.nodup_cons.mp hn.2
  have hn3 := List.nodup_cons.mp hn2.2
  have sps : sp ≠ s := fun e => hn.1 (by rw [← e]; simp)
  generalize hU : upd (upd (upd H o (.lst (nv (x.rest.drop (ack - x.base))))) s (.ins A.c_Sending dx (fl_Sending (.int (x.base : Nat)) (.ref o) (.int (x.sent : Nat)) (.ref sp) (.int (x.limit : Nat)) (.bl x.told) (.bl x.ending) (.int (x.asks : Nat))))) s (.ins A.c_Sending dx (fl_Sending (.int (ack : Nat)) (.ref o) (.int (x.sent : Nat)) (.ref sp) (.int (x.limit : Nat)) (.bl x.told) (.bl x.ending) (.int (x.asks : Nat)))) = U
  have hUs : U s = some (.ins A.c_Sending dx (fl_Sending (.int (ack : Nat)) (.ref o) (.int (x.sent : Nat)) (.ref sp) (.int (x.limit : Nat)) (.bl x.told) (.bl x.ending) (.int (x.asks : Nat)))) := by rw [← hU, upd_same]
  have hUo : U o = some (.lst (nv (x.rest.drop (ack - x.base)))) := by rw [← hU, upd_ne os, upd_ne os, upd_same]
  have hUr : ∀ b u, b ≠ s → H b = some u → U b = some u := fun b u c1 c2 => by rw [← hU, upd_ne c1, upd_ne c1]; exact x1 _ _ c2
  have hUp : ∀ y ∈ ps, PieceAt A U y.1 y.2 := fun y hy => by
    obtain ⟨dy, k⟩ := h4 y hy
    exact ⟨dy, hUr _ _ (fun e => hn.1 (by rw [← e]; exact List.mem_cons_of_mem _ (List.mem_cons_of_mem _ (List.mem_map.mpr ⟨y, hy, rfl⟩)))) k⟩
  have nU : ∀ b, U b = none → H b = none := fun b z => by
    cases c : H b with
    | none => rfl
    | some u =>
      by_cases d : b = s
      · rw [d, hUs] at z; cases z
      · rw [hUr b u d c] at z; cases z
  refine ⟨_, rfl, _, _, _, _, _, rfl, hUs, T.c_Sending.cl, T.c_Sending.n_pieces, lk_Sending_pieces, sp, rfl, lc_ft (fun y : Addr × Fm11.Piece => V.ref y.1) (fun y => decide (ack < y.2.next)) (SqL.of (hUr _ _ sps h3)) (by omega) (fun i y H1 R hy e1 k => ?_) (fun p H1 np e1 hp => ?_)⟩
  · obtain ⟨dy, ky⟩ := (hUp y (List.mem_of_getElem? hy)).ex e1
    unfold pieceV at ky
    have hd : decide ((ack : Int) < (y.2.seq : Int) + ((max y.2.len 1 : Nat) : Int)) = decide (ack < y.2.next) := by
      rw [decide_eq_decide]
      unfold Fm11.Piece.next
      omega
    refine ⟨rfl, _, rfl, _, _, _, _, _, rfl, ky, T.c_Piece.cl, T.c_Piece.n_number, lk_Piece_number, _, rfl, _, _, _, _, _, rfl, ky, T.c_Piece.cl, T.c_Piece.n_size, lk_Piece_size, _, _, rfl, rfl, _, rfl, _, _, rfl, rfl, _, rfl, ?_⟩
    rw [hd]
    exact k _ H1 (Ex.refl _) rfl (fun H3 S hS => ⟨_, rfl, hS⟩)
  have ps_ : p ≠ s := (ne_of_none hUs np).symm
  have po : p ≠ o := (ne_of_none hUo np).symm
  refine ⟨_, rfl, s, A.c_Sending, dx, _, rfl, e1 _ _ hUs, T.c_Sending.cl, T.c_Sending.n_pieces, by show 8 < 1000; decide, ?_⟩
  rw [pt_Sending_pieces]
  refine ⟨_, rfl, s, A.c_Sending, dx, _, _, rfl, upd_same, T.c_Sending.cl, T.c_Sending.n_limit, lk_Sending_limit, _, rfl, _, rfl, _, _, rfl, rfl, _, _, rfl, ?_⟩
  refine ⟨_, rfl, s, A.c_Sending, dx, _, rfl, upd_same, T.c_Sending.cl, T.c_Sending.n_limit, by show 8 < 1000; decide, ?_⟩
  rw [pt_Sending_limit]
  have hlim : (if (ack : Int) + (room : Int) > (x.limit : Int) then (ack : Int) + (room : Int) else (x.limit : Int)) = ((max x.limit (ack + room) : Nat) : Int) := by
    rw [← max_int, Int.natCast_add]
  rw [hlim]
  have npH := nU p np
  refine q _ (s :: o :: p :: (ps.filter fun y => decide (ack < y.2.next)).map (·.1)) ⟨dx, o, p, ps.filter fun y => decide (ack < y.2.next), ⟨by rw [upd_same], ?_, ?_, fun y hy => ?_, ?_, ?_⟩, rfl⟩ (Grow.mk fun b u c1 c2 => ?_)
  · rw [upd_ne os, upd_ne os]
    exact e1 _ _ hUo
  · rw [upd_ne ps_, upd_ne ps_]
    exact hp
  · have hy' := (List.mem_filter.mp hy).1
    obtain ⟨dy, ky⟩ := hUp y hy'
    have ys : y.1 ≠ s := fun e => hn.1 (by rw [← e]; exact List.mem_cons_of_mem _ (List.mem_cons_of_mem _ (List.mem_map.mpr ⟨y, hy', rfl⟩)))
    exact ⟨dy, by rw [upd_ne ys, upd_ne ys]; exact e1 _ _ ky⟩
  · show x.flight.filter _ = _
    rw [h5, List.filter_map]
    rfl
  · have sub : ∀ a, a ∈ (ps.filter fun y => decide (ack < y.2.next)).map (·.1) → a ∈ ps.map (·.1) := fun a ha => by
      obtain ⟨y, hy, rfl⟩ := List.mem_map.mp ha
      exact List.mem_map.mpr ⟨y, (List.mem_filter.mp hy).1, rfl⟩
    have dom : ∀ a, a ∈ ps.map (·.1) → H a ≠ none := fun a ha => hS0.dom a (by rw [hFF]; exact List.mem_cons_of_mem _ (List.mem_cons_of_mem _ (List.mem_cons_of_mem _ ha)))
    refine List.nodup_cons.mpr ⟨fun z => ?_, List.nodup_cons.mpr ⟨fun z => ?_, List.nodup_cons.mpr ⟨fun z => ?_, ?_⟩⟩⟩
    · rcases List.mem_cons.mp z with z | z
      · exact os z.symm
      rcases List.mem_cons.mp z with z | z
      · exact ps_ z.symm
      · exact hn.1 (List.mem_cons_of_mem _ (List.mem_cons_of_mem _ (sub _ z)))
    · rcases List.mem_cons.mp z with z | z
      · exact po z.symm
      · exact dom _ (sub _ z) no
    · exact dom _ (sub _ z) npH
    · exact List.Nodup.sublist (List.Sublist.map _ List.filter_sublist) hn3.2
  · have bs : b ≠ s := fun e => c1 (by rw [hFF, e]; exact List.mem_cons_self ..)
    refine ⟨fun z => ?_, by rw [upd_ne bs, upd_ne bs]; exact e1 _ _ (hUr _ _ bs c2)⟩
    rcases List.mem_cons.mp z with z | z
    · exact bs z
    rcases List.mem_cons.mp z with z | z
    · exact ne_of_none c2 no z
    rcases List.mem_cons.mp z with z | z
    · exact ne_of_none c2 npH z
    · obtain ⟨y, hy, e⟩ := List.mem_map.mp z
      exact c1 (by rw [hFF, ← e]; exact List.mem_cons_of_mem _ (List.mem_cons_of_mem _ (List.mem_cons_of_mem _ (List.mem_map.mpr ⟨y, (List.mem_filter.mp hy).1, rfl⟩))))
end
end Sl
/-! ## Bu -/
set_option Elab.async false
set_option linter.all false
set_option maxRecDepth 100000
set_option maxHeartbeats 4000000
namespace Sl
open PySem PySem.Spec PyProof.Rows L2 Evl
/-! ### the receiving side -/
def lastV : Option Nat → V
  | none => .non
  | some n => .int (n : Int)
abbrev Hold := Nat × Addr × List Nat
def kvOf (y : Hold) : Key × V := (Sum.inl (y.1 : Int), V.ref y.2.1)
def RecvW (A : Adr) (H : Hp) (a dx kd rd : Addr) (hs : List Hold) (x : Fm11.Link) : Prop :=
  H a = some (.ins A.c_Receiving dx (fl_Receiving (.int (x.next : Nat)) (.ref kd) (.ref rd) (lastV x.last) (.bl x.ended))) ∧
  H kd = some (.dK (hs.map kvOf)) ∧ H rd = some (.lst (nv x.got)) ∧ (∀ y ∈ hs, H y.2.1 = some (.lst (nv y.2.2))) ∧ x.held = hs.map (fun y => (y.1, y.2.2)) ∧ (a :: kd :: rd :: hs.map (·.2.1)).Nodup
def RecvAt (A : Adr) (H : Hp) (a : Addr) (F : List Addr) (x : Fm11.Link) : Prop := ∃ dx kd rd hs, RecvW A H a dx kd rd hs x ∧ F = a :: kd :: rd :: hs.map (·.2.1)
theorem RecvAt.on {A : Adr} {H H' : Hp} {a : Addr} {F : List Addr} {x : Fm11.Link} (h : RecvAt A H a F x) (e : ∀ b o, b ∈ F → H b = some o → H' b = some o) : RecvAt A H' a F x := by
  obtain ⟨dx, kd, rd, hs, ⟨h1, h2, h3, h4, h5, h6⟩, rfl⟩ := h
  refine ⟨dx, kd, rd, hs, ⟨e _ _ (List.mem_cons_self ..) h1, e _ _ (by simp) h2, e _ _ (by simp) h3, fun y hy => ?_, h5, h6⟩, rfl⟩
  exact e _ _ (List.mem_cons_of_mem _ (List.mem_cons_of_mem _ (List.mem_cons_of_mem _ (List.mem_map.mpr ⟨y, hy, rfl⟩)))) (h4 y hy)
theorem RecvAt.ex {A : Adr} {H H' : Hp} {a : Addr} {F : List Addr} {x : Fm11.Link} (h : RecvAt A H a F x) (e : Ex H H') : RecvAt A H' a F x := h.on fun b o _ k => e b o k
theorem RecvAt.dom {A : Adr} {H : Hp} {a : Addr} {F : List Addr} {x : Fm11.Link} (h : RecvAt A H a F x) : ∀ b ∈ F, H b ≠ none := by
  obtain ⟨dx, kd, rd, hs, ⟨h1, h2, h3, h4, h5, h6⟩, rfl⟩ := h
  intro b hb
  rcases List.mem_cons.mp hb with e | hb
  · rw [e, h1]; exact fun z => by cases z
  rcases List.mem_cons.mp hb with e | hb
  · rw [e, h2]; exact fun z => by cases z
  rcases List.mem_cons.mp hb with e | hb
  · rw [e, h3]; exact fun z => by cases z
  obtain ⟨y, hy, rfl⟩ := List.mem_map.mp hb
  rw [h4 y hy]; exact fun z => by cases z
theorem RecvAt.fresh {A : Adr} {H : Hp} {a : Addr} {F : List Addr} {x : Fm11.Link} (h : RecvAt A H a F x) {b : Addr} (hb : H b = none) : b ∉ F := fun z => h.dom b z hb
/-- there's room for what's held -/
def RecvOk (x : Fm11.Link) : Prop := x.got.length ≤ 4096 ∧ ∀ y ∈ x.held, y.1 + y.2.length ≤ x.next + x.room
def sp_Receiving_init (K : PySem.W.Frag) (A : Adr) : Sp := fun vs H Q _ => ∃ p dx : Addr, vs = [.ref p] ∧ H p = some (.ins A.c_Receiving dx []) ∧
  ∀ (H' : Hp) (F : List Addr) (n : Nat), RecvAt A H' p F (Fm11.begin_ n) → Grow [p] H F H' → Q .non H'
def sp_Receiving_room_left (K : PySem.W.Frag) (A : Adr) : Sp := fun vs H Q _ => ∃ (r : Addr) (F : List Addr) (x : Fm11.Link), vs = [.ref r] ∧ RecvAt A H r F x ∧ x.got.length ≤ 4096 ∧ Q (.int (x.room : Nat)) H
def sp_Receiving_is_short (K : PySem.W.Frag) (A : Adr) : Sp := fun vs H Q _ => ∃ (r : Addr) (F : List Addr) (x : Fm11.Link), vs = [.ref r] ∧ RecvAt A H r F x ∧ x.got.length ≤ 4096 ∧ Q (.bl (decide (x.room < 190))) H
def keepLink (x : Fm11.Link) (p : Fm11.Packet) : Fm11.Link := if x.next ≤ p.seq ∧ p.seq + p.bytes.length ≤ x.next + x.room ∧ (x.held.any fun q => q.1 == p.seq) = false ∧ x.ended = false then { x with held := x.held ++ [(p.seq, p.bytes)] } else x
def sp_Receiving_keep (K : PySem.W.Frag) (A : Adr) : Sp := fun vs H Q _ => ∃ (r pk q : Addr) (F : List Addr) (x : Fm11.Link) (k : Fm11.Packet), vs = [.ref r, .ref pk] ∧ RecvAt A H r F x ∧ PacketW A (Out F H) pk q k ∧ x.got.length ≤ 4096 ∧ x.held.length ≤ 100000 ∧
  ∀ H' F', RecvAt A H' r F' (keepLink x k) → Grow (q :: F) H F' H' → Q .non H'
def noteLink (x : Fm11.Link) (n : Nat) : Fm11.Link := if x.next ≤ n ∧ x.ended = false then { x with last := some n } else x
def sp_Receiving_note_end (K : PySem.W.Frag) (A : Adr) : Sp := fun vs H Q _ => ∃ (r : Addr) (n : Nat) (F : List Addr) (x : Fm11.Link), vs = [.ref r, .int (n : Nat)] ∧ RecvAt A H r F x ∧
  ∀ H', RecvAt A H' r F (noteLink x n) → Grow F H F H' → Q .non H'
def sp_Receiving_bring_to_turn (K : PySem.W.Frag) (A : Adr) : Sp := fun vs H Q _ => ∃ (r : Addr) (F : List Addr) (x : Fm11.Link), vs = [.ref r] ∧ RecvAt A H r F x ∧ RecvOk x ∧
  ∀ H' F', RecvAt A H' r F' (x.settle 65) → Grow F H F' H' → Q .non H'
def acceptLink (x : Fm11.Link) (p : Fm11.Packet) : Fm11.Link := if p.kind = 1 then (keepLink x p).settle 65 else if p.kind = 2 then (noteLink x p.seq).settle 65 else x
def sp_Receiving_accept (K : PySem.W.Frag) (A : Adr) : Sp := fun vs H Q _ => ∃ (r pk q : Addr) (F : List Addr) (x : Fm11.Link) (k : Fm11.Packet), vs = [.ref r, .ref pk] ∧ RecvAt A H r F x ∧ PacketW A (Out F H) pk q k ∧ RecvOk x ∧ x.held.length ≤ 100000 ∧
  ∀ H' F', RecvAt A H' r F' (acceptLink x k) → Grow (q :: F) H F' H' → Q .non H'
def sp_Receiving_take (K : PySem.W.Frag) (A : Adr) : Sp := fun vs H Q _ => ∃ (r : Addr) (n : Nat) (F : List Addr) (x : Fm11.Link), vs = [.ref r, .int (n : Nat)] ∧ RecvAt A H r F x ∧
  (x.got = [] ∧ x.ended = true → Q .non H) ∧ (¬ (x.got = [] ∧ x.ended = true) → ∀ l H' F', RecvAt A H' r F' { x with got := x.got.drop n } → Grow F H F' H' → H l = none → l ∉ F' → H' l = some (.lst (nv (x.got.take n))) → Q (.ref l) H')
end Sl
/-! ## D17 -/
set_option Elab.async false
set_option linter.all false
set_option maxRecDepth 100000
set_option maxHeartbeats 4000000
namespace Sl
open PySem PySem.Spec PyProof.Rows L2 Evl
section
variable {P : Program} {w : World} {K : PySem.W.Frag} {mg : Str → Option Value} {base : Heap} {A : Adr}
theorem ok_Receiving_init (T : Top K mg A) : FnOk P w K mg base CX0 1 A.f_Receiving_init A.d_Receiving_init ["self"] (sp_Receiving_init K A) := by
  refine T.k_Receiving.F.ok sc_Receiving_init (fun vs H Q E h => by obtain ⟨_, _, rfl, _⟩ := h; rfl) (fun cdv Ar outer s H vs Q E hr h => ?_)
  obtain ⟨p, dx, rfl, hp, q⟩ := h
  refine ⟨_, (pss_cons (ps_fld (pv 0) pe_int rfl)
    (pss_cons (ps_fld (pv 0) pe_dnewK rfl)
    (pss_cons (ps_fld (pv 0) (pe_lst pa_nil) rfl)
    (pss_cons (ps_fld (pv 0) pe_non rfl)
    (pss_one (ps_fld (pv 0) pe_bl rfl)))))), ?_⟩
  refine ⟨_, rfl, p, A.c_Receiving, dx, [], rfl, hp, T.c_Receiving.cl, T.c_Receiving.n_wanted, by decide, ?_⟩
  intro kd n1
  have kd_p : kd ≠ p := fun e => by rw [e, upd_same] at n1; cases n1
  rw [upd_ne kd_p] at n1
  refine ⟨_, rfl, p, A.c_Receiving, dx, _, rfl, by rw [upd_ne kd_p.symm]; exact upd_same, T.c_Receiving.cl, T.c_Receiving.n_kept, by show 1 < 1000; decide, ?_⟩
  refine ⟨by decide, fun rd n2 => ?_⟩
  have rd_p : rd ≠ p := fun e => by rw [e, upd_same] at n2; cases n2
  rw [upd_ne rd_p] at n2
  have rd_kd : rd ≠ kd := fun e => by rw [e, upd_same] at n2; cases n2
  rw [upd_ne rd_kd, upd_ne rd_p] at n2
  refine ⟨_, rfl, p, A.c_Receiving, dx, _, rfl, by rw [upd_ne rd_p.symm]; exact upd_same, T.c_Receiving.cl, T.c_Receiving.n_ready, by show 2 < 1000; decide, ?_⟩
  refine ⟨_, rfl, p, A.c_Receiving, dx, _, rfl, upd_same, T.c_Receiving.cl, T.c_Receiving.n_end_number, by show 3 < 1000; decide, ?_⟩
  refine ⟨_, rfl, p, A.c_Receiving, dx, _, rfl, upd_same, T.c_Receiving.cl, T.c_Receiving.n_complete, by show 4 < 1000; decide, ?_⟩
  refine q _ [p, kd, rd] 0 ⟨dx, kd, rd, [], ⟨by rw [upd_same]; rfl, ?_, ?_, fun y hy => absurd hy List.not_mem_nil, rfl, ?_⟩, rfl⟩ (Grow.mk fun b o hb e => ?_)
  · rw [upd_ne kd_p, upd_ne kd_p, upd_ne kd_p, upd_ne rd_kd.symm, upd_ne kd_p, upd_same]
    rfl
  · rw [upd_ne rd_p, upd_ne rd_p, upd_ne rd_p, upd_same]
    rfl
  · simp only [List.nodup_cons, List.mem_cons, List.map_nil, List.not_mem_nil, not_or, List.nodup_nil, and_true, not_false_eq_true, or_false]
    exact ⟨⟨kd_p.symm, rd_p.symm⟩, rd_kd.symm⟩
  · have hbp : b ≠ p := fun z => hb (by rw [z]; exact List.mem_singleton.mpr rfl)
    have h1 : b ≠ kd := ne_of_none e n1
    have h2 : b ≠ rd := ne_of_none e n2
    refine ⟨fun z => ?_, ?_⟩
    · rcases List.mem_cons.mp z with z | z
      · exact hbp z
      rcases List.mem_cons.mp z with z | z
      · exact h1 z
      · exact h2 (List.mem_singleton.mp z)
    · rw [upd_ne hbp, upd_ne hbp, upd_ne hbp, upd_ne h2, upd_ne hbp, upd_ne h1, upd_ne hbp]
      exact e
theorem ok_Receiving_room_left (T : Top K mg A) : FnOk P w K mg base CX0 1 A.f_Receiving_room_left A.d_Receiving_room_left ["self"] (sp_Receiving_room_left K A) := by
  refine T.f_Receiving_room_left.F.ok sc_Receiving_room_left (fun vs H Q E h => by obtain ⟨_, _, _, rfl, _⟩ := h; rfl) (fun cdv Ar outer s H vs Q E hr h => ?_)
  obtain ⟨r, F, x, rfl, ⟨dx, kd, rd, hs, ⟨h1, h2, h3, h4, h5, h6⟩, rfl⟩, hg, q⟩ := h
  refine ⟨_, (pss_one (ps_ret (pe_op op_sub (pe_glob (v := .int 4096) rfl T.g_ROOM ⟨_, rfl⟩) (pe_callB call_len_seq (by rfl) T.b_len PySem.boot_len (pa_cons (pe_fld (pv 0) rfl) pa_nil))))), ?_⟩
  refine ⟨_, rfl, _, _, _, _, _, rfl, h1, T.c_Receiving.cl, T.c_Receiving.n_ready, lk_Receiving_ready, rd, _, rfl, .inl (SqL.of h3), _, _, rfl, rfl, ?_⟩
  have e : (4096 : Int) - ((nv x.got).length : Int) = ((x.room : Nat) : Int) := by
    rw [nv_length]
    unfold Fm11.Link.room Fm11.ROOM
    omega
  show Q (.int ((4096 : Int) - ((nv x.got).length : Int))) H
  rw [e]
  exact q
theorem ok_Receiving_is_short (T : Top K mg A) (G_Receiving_room_left : FnOk P w K mg base CX0 1 A.f_Receiving_room_left A.d_Receiving_room_left ["self"] (sp_Receiving_room_left K A)) : FnOk P w K mg base CX0 2 A.f_Receiving_is_short A.d_Receiving_is_short ["self"] (sp_Receiving_is_short K A) := by
  refine T.f_Receiving_is_short.F.ok sc_Receiving_is_short (fun vs H Q E h => by obtain ⟨_, _, _, rfl, _⟩ := h; rfl) (fun cdv Ar outer s H vs Q E hr h => ?_)
  obtain ⟨r, F, x, rfl, hR, hg, q⟩ := h
  refine ⟨_, (pss_one (ps_ret (pe_cmpR op_lt (pe_meth0 (pv 0) T.c_Receiving.cl T.f_Receiving_room_left.m G_Receiving_room_left (hr.mono (by decide)) T.f_Receiving_room_left.b .nil pass0) (pe_glob (v := .int 190) rfl T.g_PIECE ⟨_, rfl⟩) (nomark _)))), ?_⟩
  have hR0 := hR
  obtain ⟨dx, kd, rd, hs, ⟨h1, h2, h3, h4, h5, h6⟩, rfl⟩ := hR
  refine ⟨_, rfl, _, _, _, rfl, h1, no_Receiving_room_left, r, _, x, rfl, hR0, hg, _, _, rfl, rfl, ?_⟩
  have e : decide (((x.room : Nat) : Int) < 190) = decide (x.room < 190) := by
    rw [decide_eq_decide]
    omega
  show Q (.bl (decide (((x.room : Nat) : Int) < 190))) H
  rw [e]
  exact q
theorem valV_hold (hs : List Hold) (n : Nat) : valV (hs.map kvOf) (Sum.inl (n : Int)) = (hs.find? fun y => y.1 == n).map fun y => V.ref y.2.1 := by
  induction hs with
  | nil => rfl
  | cons y hs ih =>
    rw [List.map_cons]
    by_cases c : y.1 = n
    · rw [valV_pos (by show Sum.inl (y.1 : Int) = _; rw [c]), List.find?_cons_of_pos (p := fun y : Hold => y.1 == n) (beq_iff_eq.mpr c)]
      rfl
    · rw [valV_neg (by
        show ¬ (Sum.inl (y.1 : Int) : Key) = _
        intro e
        have := Sum.inl.inj e
        omega), List.find?_cons_of_neg (p := fun y : Hold => y.1 == n) (by rw [beq_iff_eq]; exact c)]
      exact ih
theorem any_hold (hs : List Hold) (n : Nat) : ((hs.map fun y => (y.1, y.2.2)).any fun q => q.1 == n) = (hs.find? fun y => y.1 == n).isSome := by
  induction hs with
  | nil => rfl
  | cons y hs ih =>
    rw [List.map_cons, List.any_cons]
    by_cases c : y.1 = n
    · rw [List.find?_cons_of_pos (p := fun y : Hold => y.1 == n) (beq_iff_eq.mpr c)]
      show (y.1 == n || _) = true
      rw [beq_iff_eq.mpr c]
      rfl
    · rw [List.find?_cons_of_neg (p := fun y : Hold => y.1 == n) (by rw [beq_iff_eq]; exact c), ih]
      show (y.1 == n || _) = _
      rw [beq_eq_false_iff_ne.mpr c]
      rfl
theorem ok_Receiving_note_end (T : Top K mg A) : FnOk P w K mg base CX0 1 A.f_Receiving_note_end A.d_Receiving_note_end ["self", "number"] (sp_Receiving_note_end K A) := by
  refine T.f_Receiving_note_end.F.ok sc_Receiving_note_end (fun vs H Q E h => by obtain ⟨_, _, _, _, rfl, _⟩ := h; rfl) (fun cdv Ar outer s H vs Q E hr h => ?_)
  obtain ⟨r, n, F, x, rfl, hR, q⟩ := h
  refine ⟨_, (pss_one (ps_if (PW.pt (pw_and (pt_cmpR op_ge (pv 1) (pe_fld (pv 0) rfl) (nomark _)) (pw_and1 (pt_not (pt_val (pe_fld (pv 0) rfl)))))) (pss_one (ps_fld (pv 0) (pv 1) rfl)) pss_nil)), ?_⟩
  have hR0 := hR
  obtain ⟨dx, kd, rd, hs, ⟨h1, h2, h3, h4, h5, h6⟩, rfl⟩ := hR
  unfold noteLink at q
  refine ⟨_, rfl, _, rfl, _, _, _, _, _, rfl, h1, T.c_Receiving.cl, T.c_Receiving.n_wanted, lk_Receiving_wanted, _, _, rfl, rfl, _, rfl, ?_⟩
  by_cases c : x.next ≤ n
  · have d : decide ((x.next : Int) ≤ (n : Int)) = true := decide_eq_true (by omega)
    rw [d]
    refine iteT ⟨_, rfl, _, _, _, _, _, rfl, h1, T.c_Receiving.cl, T.c_Receiving.n_complete, lk_Receiving_complete, _, rfl, ?_⟩
    by_cases e : x.ended = true
    · rw [if_neg (fun z => by rw [e] at z; exact absurd z.2 (by decide))] at q
      rw [e]
      exact iteF (q H hR0 (Grow.refl _ _))
    · have e' : x.ended = false := by simpa using e
      rw [if_pos ⟨c, e'⟩] at q
      rw [e']
      refine iteT ?_
      refine ⟨_, rfl, _, rfl, r, A.c_Receiving, dx, _, rfl, h1, T.c_Receiving.cl, T.c_Receiving.n_end_number, by show 5 < 1000; decide, ?_⟩
      rw [pt_Receiving_end_number]
      have hn := List.nodup_cons.mp h6
      refine q _ ⟨dx, kd, rd, hs, ⟨by rw [upd_same, e']; rfl, ?_, ?_, fun y hy => ?_, h5, h6⟩, rfl⟩ (Grow.put _ (List.mem_cons_self ..))
      · rw [upd_ne (fun z => hn.1 (by rw [← z]; exact List.mem_cons_self ..))]
        exact h2
      · rw [upd_ne (fun z => hn.1 (by rw [← z]; simp))]
        exact h3
      · rw [upd_ne (fun z => hn.1 (by rw [← z]; exact List.mem_cons_of_mem _ (List.mem_cons_of_mem _ (List.mem_map.mpr ⟨y, hy, rfl⟩))))]
        exact h4 y hy
  · have d : decide ((x.next : Int) ≤ (n : Int)) = false := decide_eq_false (by omega)
    rw [if_neg (fun z => c z.1)] at q
    rw [d]
    exact iteF (iteF (q H hR0 (Grow.refl _ _)))
theorem ok_Receiving_keep (T : Top K mg A) (G_Receiving_room_left : FnOk P w K mg base CX0 1 A.f_Receiving_room_left A.d_Receiving_room_left ["self"] (sp_Receiving_room_left K A)) : FnOk P w K mg base CX0 2 A.f_Receiving_keep A.d_Receiving_keep ["self", "packet"] (sp_Receiving_keep K A) := by
  refine T.f_Receiving_keep.F.ok sc_Receiving_keep (fun vs H Q E h => by obtain ⟨_, _, _, _, _, _, rfl, _⟩ := h; rfl) (fun cdv Ar outer s H vs Q E hr h => ?_)
  obtain ⟨r, pk, o, F, x, k, rfl, hR, ⟨dp, hpk, ho⟩, hg, hh, q⟩ := h
  refine ⟨_, (pss_cons (ps_set (i := 2) sc_Receiving_keep.nd rfl (Or.inl rfl) (pe_op op_add (pe_fld (pv 1) rfl) (pe_callB call_len_seq (by rfl) T.b_len PySem.boot_len (pa_cons (pe_fld (pv 1) rfl) pa_nil))))
    (pss_cons (ps_if (PW.pt (pw_or (pt_cmpR op_lt (pe_fld (pv 1) rfl) (pe_fld (pv 0) rfl) (nomark _)) (pw_or1 (pt_cmpR op_gt (pv 2) (pe_op op_add (pe_fld (pv 0) rfl) (pe_meth0 (pv 0) T.c_Receiving.cl T.f_Receiving_room_left.m G_Receiving_room_left (hr.mono (by decide)) T.f_Receiving_room_left.b .nil pass0)) (nomark _))))) (pss_one ps_retN) pss_nil)
    (pss_cons (ps_if (PW.pt (pw_or (pt_cmp (pc_din (hu_of hr) (pe_fld (pv 1) rfl) (pe_fld (pv 0) rfl))) (pw_or1 (pt_val (pe_fld (pv 0) rfl))))) (pss_one ps_retN) pss_nil)
    (pss_one (ps_dput (hu_of hr) (pe_fld (pv 0) rfl) (pe_fld (pv 1) rfl) (pe_fld (pv 1) rfl) rfl))))), ?_⟩
  have hR0 := hR
  obtain ⟨dx, kd, rd, hs, ⟨h1, h2, h3, h4, h5, h6⟩, hFF⟩ := hR
  obtain ⟨pkF, hpk'⟩ := out_some hpk
  obtain ⟨oF, ho'⟩ := out_some ho
  unfold keepLink at q
  have same : x.next ≤ k.seq ∧ k.seq + k.bytes.length ≤ x.next + x.room ∧ (x.held.any fun q => q.1 == k.seq) = false ∧ x.ended = false ∨ Q .non H := by
    by_cases c : x.next ≤ k.seq ∧ k.seq + k.bytes.length ≤ x.next + x.room ∧ (x.held.any fun q => q.1 == k.seq) = false ∧ x.ended = false
    · exact .inl c
    · refine .inr ?_
      rw [if_neg c] at q
      exact q H F hR0 (Grow.into fun b hb => .inl (List.mem_cons_of_mem _ hb))
  have stays : ¬ (x.next ≤ k.seq ∧ k.seq + k.bytes.length ≤ x.next + x.room ∧ (x.held.any fun q => q.1 == k.seq) = false ∧ x.ended = false) → Q .non H := fun c => same.elim (fun z => absurd z c) id
  refine ⟨_, rfl, _, _, _, _, _, rfl, hpk', T.c_Packet.cl, T.c_Packet.n_number, lk_Packet_number, _, rfl, _, _, _, _, _, rfl, hpk', T.c_Packet.cl, T.c_Packet.n_octets, lk_Packet_octets, o, _, rfl, .inl (SqL.of ho'), _, _, rfl, rfl, ?_⟩
  refine ⟨_, rfl, _, _, _, _, _, rfl, hpk', T.c_Packet.cl, T.c_Packet.n_number, lk_Packet_number, _, rfl, _, _, _, _, _, rfl, h1, T.c_Receiving.cl, T.c_Receiving.n_wanted, lk_Receiving_wanted, _, _, rfl, rfl, _, rfl, ite2 (fun z => ?_) (fun z => ?_)⟩
  · have := of_decide_eq_true z
    exact iteT (stays fun y => by have := y.1; omega)
  have c1 : x.next ≤ k.seq := by
    have : ¬ (k.seq : Int) < (x.next : Int) := fun y => z (decide_eq_true y)
    omega
  refine ⟨_, rfl, _, rfl, _, _, _, _, _, rfl, h1, T.c_Receiving.cl, T.c_Receiving.n_wanted, lk_Receiving_wanted, _, rfl, _, _, _, rfl, h1, no_Receiving_room_left, r, F, x, rfl, hR0, hg, _, _, rfl, rfl, _, _, rfl, rfl, _, rfl, ite2 (fun z2 => ?_) (fun z2 => ?_)⟩
  · have := of_decide_eq_true z2
    rw [nv_length] at this
    exact stays fun y => by have := y.2.1; omega
  have c2 : k.seq + k.bytes.length ≤ x.next + x.room := by
    have : ¬ ((x.next : Int) + (x.room : Nat) < (k.seq : Int) + ((nv k.bytes).length : Nat)) := fun y => z2 (decide_eq_true y)
    rw [nv_length] at this
    omega
  refine ⟨_, rfl, _, _, _, _, _, rfl, hpk', T.c_Packet.cl, T.c_Packet.n_number, lk_Packet_number, _, rfl, _, _, _, _, _, rfl, h1, T.c_Receiving.cl, T.c_Receiving.n_kept, lk_Receiving_kept, kd, _, rfl, DGet.k (k := Sum.inl (k.seq : Int)) h2, _, rfl, ?_⟩
  rw [valV_hold]
  have hany := any_hold hs k.seq
  rw [← h5] at hany
  cases hf : hs.find? fun y => y.1 == k.seq with
  | some y =>
    rw [hf] at hany
    refine iteT (iteT (stays fun y => ?_))
    rw [hany] at y
    exact absurd y.2.2.1 (by simp)
  | none =>
    rw [hf] at hany
    refine iteF ⟨_, rfl, _, _, _, _, _, rfl, h1, T.c_Receiving.cl, T.c_Receiving.n_complete, lk_Receiving_complete, _, rfl, ?_⟩
    by_cases e : x.ended = true
    · rw [e]
      exact iteT (stays fun y => by rw [e] at y; exact absurd y.2.2.2 (by decide))
    · have e' : x.ended = false := by simpa using e
      rw [e']
      refine iteF ?_
      rw [if_pos ⟨c1, c2, hany, e'⟩] at q
      have hlen : (hs.map kvOf).length < sizeLine := by
        have := congrArg List.length h5
        rw [List.length_map] at this
        rw [List.length_map, ← this]
        exact Nat.lt_of_le_of_lt hh (by decide)
      refine ⟨_, rfl, _, _, _, _, _, rfl, hpk', T.c_Packet.cl, T.c_Packet.n_octets, lk_Packet_octets, _, rfl, _, _, _, _, _, rfl, h1, T.c_Receiving.cl, T.c_Receiving.n_kept, lk_Receiving_kept, _, rfl, _, _, _, _, _, rfl, hpk', T.c_Packet.cl, T.c_Packet.n_number, lk_Packet_number, kd, _, rfl, DPut.k (k := Sum.inl (k.seq : Int)) h2 hlen, ?_⟩
      have hput : putK (hs.map kvOf) (Sum.inl (k.seq : Int)) (V.ref o) = (hs ++ [(k.seq, o, k.bytes)]).map kvOf := by
        unfold putK
        rw [valV_any, valV_hold, hf]
        rw [List.map_append]
        rfl
      rw [hput]
      have hn := List.nodup_cons.mp h6
      have hn2 := List.nodup_cons.mp hn.2
      have ra : r ≠ kd := fun z => hn.1 (by rw [z]; exact List.mem_cons_self ..)
      have rda : rd ≠ kd := fun z => hn2.1 (by rw [← z]; exact List.mem_cons_self ..)
      have oa : o ≠ kd := fun z => oF (by rw [hFF, z]; simp)
      refine q _ (F ++ [o]) ⟨dx, kd, rd, hs ++ [(k.seq, o, k.bytes)], ⟨?_, upd_same, ?_, fun y hy => ?_, ?_, ?_⟩, by rw [hFF, List.map_append]; rfl⟩ (Grow.mk fun b u d1 d2 => ?_)
      · rw [upd_ne ra]
        exact h1
      · rw [upd_ne rda]
        exact h3
      · rcases List.mem_append.mp hy with hy | hy
        · rw [upd_ne (fun z => hn2.1 (by rw [← z]; exact List.mem_cons_of_mem _ (List.mem_map.mpr ⟨y, hy, rfl⟩)))]
          exact h4 y hy
        · rw [List.mem_singleton.mp hy, upd_ne oa]
          exact ho'
      · show x.held ++ _ = _
        rw [h5, List.map_append]
        rfl
      · have : (r :: kd :: rd :: (hs ++ [(k.seq, o, k.bytes)]).map (·.2.1)) = F ++ [o] := by rw [hFF, List.map_append]; rfl
        rw [this]
        have hnd : F.Nodup := by rw [hFF]; exact h6
        rw [List.nodup_append]
        exact ⟨hnd, List.nodup_cons.mpr ⟨List.not_mem_nil, List.nodup_nil⟩, fun a ha b hb z => oF (by rw [← List.mem_singleton.mp hb, ← z]; exact ha)⟩
      · have bF : b ∉ F := fun z => d1 (List.mem_cons_of_mem _ z)
        have bo : b ≠ o := fun z => d1 (by rw [z]; exact List.mem_cons_self ..)
        refine ⟨fun z => ?_, by rw [upd_ne (fun z => bF (by rw [hFF, z]; simp))]; exact d2⟩
        rcases List.mem_append.mp z with z | z
        · exact bF z
        · exact bo (List.mem_singleton.mp z)
end
end Sl
/-! ## D18 -/
set_option Elab.async false
set_option linter.all false
set_option maxRecDepth 100000
set_option maxHeartbeats 4000000
namespace Sl
open PySem PySem.Spec PyProof.Rows L2 Evl
section
variable {P : Program} {w : World} {K : PySem.W.Frag} {mg : Str → Option Value} {base : Heap} {A : Adr}
theorem find_key {α : Type} {f : α → Nat} {n : Nat} {l : List α} {p : α} (h : (l.find? fun y => f y == n) = some p) : f p = n := beq_iff_eq.mp (List.find?_some (p := fun y => f y == n) h)
theorem valV_hold' (hs : List Hold) (n : Nat) : valV (hs.map kvOf) (Sum.inl (n : Int)) = (hs.find? fun y => y.1 == n).map fun y => V.ref y.2.1 := by
  induction hs with
  | nil => rfl
  | cons y hs ih =>
    rw [List.map_cons]
    by_cases c : y.1 = n
    · rw [valV_pos (by show Sum.inl (y.1 : Int) = _; rw [c]), List.find?_cons_of_pos (p := fun y : Hold => y.1 == n) (beq_iff_eq.mpr c)]
      rfl
    · rw [valV_neg (by
        show ¬ (Sum.inl (y.1 : Int) : Key) = _
        intro e
        have := Sum.inl.inj e
        omega), List.find?_cons_of_neg (p := fun y : Hold => y.1 == n) (by rw [beq_iff_eq]; exact c)]
      exact ih
theorem find_hold (hs : List Hold) (n : Nat) : ((hs.map fun y => (y.1, y.2.2)).find? fun p => p.1 == n) = (hs.find? fun y => y.1 == n).map fun y => (y.1, y.2.2) := by
  rw [List.find?_map]
  rfl
theorem drop_hold (hs : List Hold) (n : Nat) : dropK (hs.map kvOf) (Sum.inl (n : Int)) = (hs.filter fun y => y.1 != n).map kvOf := by
  unfold dropK
  rw [List.filter_map]
  congr 1
  apply List.filter_congr
  intro y _
  show decide (¬ (Sum.inl (y.1 : Int) : Key) = Sum.inl (n : Int)) = (y.1 != n)
  by_cases c : y.1 = n
  · rw [c, decide_eq_false (fun z => z rfl), bne_self_eq_false]
  · rw [decide_eq_true (by intro e; have := Sum.inl.inj e; omega), bne_iff_ne.mpr c]
theorem filter_hold (hs : List Hold) (n : Nat) : ((hs.map fun y => (y.1, y.2.2)).filter fun q => q.1 != n) = (hs.filter fun y => y.1 != n).map fun y => (y.1, y.2.2) := by
  rw [List.filter_map]
  rfl
/-- one piece brought to its turn -/
def oneOn (x : Fm11.Link) (b : List Nat) : Fm11.Link := { x with got := x.got ++ b, next := x.next + b.length, held := x.held.filter fun q => q.1 != x.next }
theorem settle_some {x : Fm11.Link} {k : Nat} {p : Nat × List Nat} (h : (x.held.find? fun p => p.1 == x.next) = some p) : x.settle (k + 1) = (oneOn x p.2).settle k := by
  have hp : p.1 = x.next := find_key (f := fun p : Nat × List Nat => p.1) h
  have : x.settle (k + 1) = ({ x with got := x.got ++ p.2, next := x.next + p.2.length, held := x.held.filter fun q => q.1 != p.1 } : Fm11.Link).settle k := by
    conv => lhs; unfold Fm11.Link.settle
    rw [h]
  rw [this, hp]
  rfl
theorem settle_none {x : Fm11.Link} {k : Nat} (h : (x.held.find? fun p => p.1 == x.next) = none) : x.settle (k + 1) = if x.last = some x.next then { x with next := x.next + 1, ended := true } else x := by
  conv => lhs; unfold Fm11.Link.settle
  rw [h]
theorem oneOn_ok {x : Fm11.Link} {p : Nat × List Nat} (h : RecvOk x) (hf : (x.held.find? fun p => p.1 == x.next) = some p) : RecvOk (oneOn x p.2) ∧ x.got.length + p.2.length ≤ 4096 := by
  obtain ⟨h1, h2⟩ := h
  have hp : p.1 = x.next := find_key (f := fun p : Nat × List Nat => p.1) hf
  have hm := h2 p (List.mem_of_find?_eq_some hf)
  rw [hp] at hm
  have hr : x.room = 4096 - x.got.length := rfl
  have hl : (oneOn x p.2).got.length = x.got.length + p.2.length := List.length_append
  have hr2 : (oneOn x p.2).room = 4096 - (oneOn x p.2).got.length := rfl
  refine ⟨⟨by rw [hl]; omega, fun y hy => ?_⟩, by omega⟩
  have hy' := h2 y (List.mem_filter.mp hy).1
  show y.1 + y.2.length ≤ x.next + p.2.length + (oneOn x p.2).room
  rw [hr2, hl]
  omega
theorem ok_Receiving_bring_to_turn (T : Top K mg A) : FnOk P w K mg base CX0 1 A.f_Receiving_bring_to_turn A.d_Receiving_bring_to_turn ["self"] (sp_Receiving_bring_to_turn K A) := by
  refine T.f_Receiving_bring_to_turn.F.ok sc_Receiving_bring_to_turn (fun vs H Q E h => by obtain ⟨_, _, _, rfl, _⟩ := h; rfl) (fun cdv Ar outer s H vs Q E hr h => ?_)
  obtain ⟨r, F, x, rfl, hR, hok, q⟩ := h
  refine ⟨_, (pss_cons (ps_set (i := 1) sc_Receiving_bring_to_turn.nd rfl (Or.inl rfl) pe_int)
    (pss_cons (ps_while PassesOwn.never (PW.pt (pw_and (pt_cmpR op_lt (pv 1) (pe_glob (v := .int 65) rfl T.g_TURNS ⟨_, rfl⟩) (nomark _)) (pw_and1 (pt_cmp (pc_din (hu_of hr) (pe_fld (pv 0) rfl) (pe_fld (pv 0) rfl))))))
    (pss_cons (ps_set (i := 2) sc_Receiving_bring_to_turn.nd rfl (Or.inl rfl) (pe_dpop1 (pe_fld (pv 0) rfl) (pe_fld (pv 0) rfl) (by exact ⟨rfl, rfl, rfl, rfl⟩)))
    (pss_cons (ps_expr (pe_bm PySem.F.plainAttrs_list PySem.F.slot_list_extend PySem.F.type_list_extend mt_extend (pe_fld (pv 0) rfl) (pa_cons (pv 2) pa_nil)))
    (pss_cons (ps_fldaug (pv 0) (pe_callB call_len_seq (by rfl) T.b_len PySem.boot_len (pa_cons (pv 2) pa_nil)) in_add)
    (pss_one (ps_aug (i := 1) sc_Receiving_bring_to_turn.nd rfl (Or.inl rfl) pe_int ip_add))))))
    (pss_one (ps_if (PW.pt (pw_and (pt_cmpR op_lt (pv 1) (pe_glob (v := .int 65) rfl T.g_TURNS ⟨_, rfl⟩) (nomark _)) (pw_and1 (pt_cmpR op_eq (pe_fld (pv 0) rfl) (pe_fld (pv 0) rfl) (nomark _))))) (pss_cons (ps_fld (pv 0) pe_bl rfl)
    (pss_one (ps_fldaug (pv 0) pe_int in_add))) pss_nil)))), ?_⟩
  refine ⟨fun m σ H' => ∃ (y : Fm11.Link) (F' : List Addr) (v : Option V), σ = [some (.ref r), some (.int ((65 - m : Nat) : Int)), v] ∧ m ≤ 65 ∧ RecvAt A H' r F' y ∧ RecvOk y ∧ x.settle 65 = y.settle m ∧ Grow F H F' H',
    ⟨65, x, F, none, rfl, by omega, hR, hok, rfl, Grow.refl _ _⟩, ?_⟩
  rintro m σ H' ⟨y, F', v, rfl, hm, hY, hyok, hset, gr⟩
  have hY0 := hY
  obtain ⟨dx, kd, rd, hs, ⟨h1, h2, h3, h4, h5, h6⟩, hFF⟩ := hY
  have hn := List.nodup_cons.mp h6
  have hn2 := List.nodup_cons.mp hn.2
  have hn3 := List.nodup_cons.mp hn2.2
  have r_kd : r ≠ kd := fun z => hn.1 (by rw [z]; exact List.mem_cons_self ..)
  have r_rd : r ≠ rd := fun z => hn.1 (by rw [z]; simp)
  have kd_rd : kd ≠ rd := fun z => hn2.1 (by rw [z]; exact List.mem_cons_self ..)
  have rF : r ∈ F' := by rw [hFF]; exact List.mem_cons_self ..
  -- the end of the loop
  have hfin : (m = 0 ∨ (y.held.find? fun p => p.1 == y.next) = none) → (m ≠ 0 ∧ y.last = some y.next → Q .non (upd (upd H' r (.ins A.c_Receiving dx (fl_Receiving (.int (y.next : Nat)) (.ref kd) (.ref rd) (lastV y.last) (.bl true)))) r (.ins A.c_Receiving dx (fl_Receiving (.int ((y.next : Int) + 1)) (.ref kd) (.ref rd) (lastV y.last) (.bl true))))) ∧ (¬ (m ≠ 0 ∧ y.last = some y.next) → Q .non H') := fun hz => by
    constructor
    · rintro ⟨c1, c2⟩
      have hnone := hz.resolve_left c1
      obtain ⟨k, rfl⟩ : ∃ k, m = k + 1 := ⟨m - 1, by omega⟩
      rw [settle_none hnone, if_pos c2] at hset
      refine q _ F' ?_ ((gr.trans (Grow.put _ rF)).trans (Grow.put _ rF))
      rw [hset]
      refine ⟨dx, kd, rd, hs, ⟨by rw [upd_same]; rfl, ?_, ?_, fun z hz => ?_, h5, h6⟩, hFF⟩
      · rw [upd_ne r_kd.symm, upd_ne r_kd.symm]
        exact h2
      · rw [upd_ne r_rd.symm, upd_ne r_rd.symm]
        exact h3
      · have : z.2.1 ≠ r := fun e => hn.1 (by rw [← e]; exact List.mem_cons_of_mem _ (List.mem_cons_of_mem _ (List.mem_map.mpr ⟨z, hz, rfl⟩)))
        rw [upd_ne this, upd_ne this]
        exact h4 z hz
    · intro c
      refine q H' F' ?_ gr
      rw [hset]
      cases m with
      | zero => exact hY0
      | succ k =>
        have hnone := hz.resolve_left (by omega)
        rw [settle_none hnone, if_neg (fun e => c ⟨by omega, e⟩)]
        exact hY0
  have hafter : (m = 0 ∨ (y.held.find? fun p => p.1 == y.next) = none) → (tIfS (tAnd (tTest (tOp (rI0 fun i j => .bl (decide (i < j))) (tVar 1) (tC (.int 65)))) (tTest (tOp rEq (tFld K (tVar 0) "wanted") (tFld K (tVar 0) "end_number"))))
      (tSeq (sFld K (tVar 0) (tC (.bl true)) "complete") (sFldAug K (tVar 0) (tC (.int 1)) rAdd "wanted")) tNext) { nx := fun x H' => Q V.non H', rt := Q } [some (.ref r), some (.int ((65 - m : Nat) : Int)), v] H' := fun hz => by
    obtain ⟨f1, f2⟩ := hfin hz
    refine ⟨_, rfl, _, _, rfl, rfl, _, rfl, ?_⟩
    by_cases c : m = 0
    · have d : decide (((65 - m : Nat) : Int) < 65) = false := decide_eq_false (by omega)
      rw [d]
      exact iteF (iteF (f2 fun z => z.1 c))
    · have d : decide (((65 - m : Nat) : Int) < 65) = true := decide_eq_true (by omega)
      rw [d]
      refine iteT ⟨_, rfl, _, _, _, _, _, rfl, h1, T.c_Receiving.cl, T.c_Receiving.n_wanted, lk_Receiving_wanted, _, rfl, _, _, _, _, _, rfl, h1, T.c_Receiving.cl, T.c_Receiving.n_end_number, lk_Receiving_end_number, by cases y.last <;> rfl, _, rfl, ?_⟩
      by_cases e : y.last = some y.next
      · have d2 : decide (V.int (y.next : Nat) = lastV y.last) = true := decide_eq_true (by rw [e]; rfl)
        rw [d2]
        refine iteT ?_
        refine ⟨_, rfl, r, A.c_Receiving, dx, _, rfl, h1, T.c_Receiving.cl, T.c_Receiving.n_complete, by show 5 < 1000; decide, ?_⟩
        rw [pt_Receiving_complete]
        refine ⟨_, rfl, r, A.c_Receiving, dx, _, _, rfl, upd_same, T.c_Receiving.cl, T.c_Receiving.n_wanted, lk_Receiving_wanted, _, _, rfl, rfl, dx, _, upd_same, by show 5 < 1000; decide, ?_⟩
        rw [pt_Receiving_wanted]
        exact f1 ⟨c, e⟩
      · have d2 : decide (V.int (y.next : Nat) = lastV y.last) = false := decide_eq_false fun z => by
          cases hl : y.last with
          | none => rw [hl] at z; cases z
          | some n =>
            rw [hl] at z e
            have := V.int.inj z
            exact e (by congr 1; omega)
        rw [d2]
        exact iteF (f2 fun z => e z.2)
  refine ⟨_, rfl, _, _, rfl, rfl, _, rfl, ?_⟩
  by_cases c : m = 0
  · have d : decide (((65 - m : Nat) : Int) < 65) = false := decide_eq_false (by omega)
    rw [d]
    exact iteF (iteF (hafter (.inl c)))
  have d : decide (((65 - m : Nat) : Int) < 65) = true := decide_eq_true (by omega)
  rw [d]
  obtain ⟨k, rfl⟩ : ∃ k, m = k + 1 := ⟨m - 1, by omega⟩
  refine iteT ⟨_, rfl, _, _, _, _, _, rfl, h1, T.c_Receiving.cl, T.c_Receiving.n_wanted, lk_Receiving_wanted, _, rfl, _, _, _, _, _, rfl, h1, T.c_Receiving.cl, T.c_Receiving.n_kept, lk_Receiving_kept, kd, _, rfl, DGet.k (k := Sum.inl (y.next : Int)) h2, _, rfl, ?_⟩
  rw [valV_hold']
  have hfh := find_hold hs y.next
  rw [← h5] at hfh
  cases hf : hs.find? fun z => z.1 == y.next with
  | none =>
    rw [hf] at hfh
    exact iteF (hafter (.inr hfh))
  | some z =>
    rw [hf] at hfh
    have hz1 : z.1 = y.next := find_key (f := fun p : Hold => p.1) hf
    have hzm : z ∈ hs := List.mem_of_find?_eq_some hf
    have hla := h4 z hzm
    have hlam : z.2.1 ∈ hs.map (·.2.1) := List.mem_map.mpr ⟨z, hzm, rfl⟩
    have la_r : z.2.1 ≠ r := fun e => hn.1 (by rw [← e]; exact List.mem_cons_of_mem _ (List.mem_cons_of_mem _ hlam))
    have la_kd : z.2.1 ≠ kd := fun e => hn2.1 (by rw [← e]; exact List.mem_cons_of_mem _ hlam)
    have la_rd : z.2.1 ≠ rd := fun e => hn3.1 (by rw [← e]; exact hlam)
    obtain ⟨ok2, hlen0⟩ := oneOn_ok hyok hfh
    have hlen : y.got.length + z.2.2.length ≤ 4096 := hlen0
    rw [settle_some hfh] at hset
    refine iteT ⟨fun σ' H'' => ∃ (y : Fm11.Link) (F' : List Addr) (v : Option V), σ' = [some (.ref r), some (.int ((65 - k : Nat) : Int)), v] ∧ k ≤ 65 ∧ RecvAt A H'' r F' y ∧ RecvOk y ∧ x.settle 65 = y.settle k ∧ Grow F H F' H'', fun σ' H'' hN => ⟨k, by omega, hN⟩, ?_⟩
    refine ⟨_, rfl, _, _, _, _, _, rfl, h1, T.c_Receiving.cl, T.c_Receiving.n_kept, lk_Receiving_kept, kd, rfl, .inl ⟨_, .inl h2⟩, _, rfl, _, _, _, _, _, rfl, h1, T.c_Receiving.cl, T.c_Receiving.n_wanted, lk_Receiving_wanted, _, Sum.inl (y.next : Int), V.ref z.2.1, h2, rfl, by rw [valV_hold', hf]; rfl, ?_⟩
    rw [drop_hold]
    have u1 : upd H' kd (.dK ((hs.filter fun w => w.1 != y.next).map kvOf)) r = _ := (upd_ne r_kd).trans h1
    have u3 : upd H' kd (.dK ((hs.filter fun w => w.1 != y.next).map kvOf)) rd = _ := (upd_ne kd_rd.symm).trans h3
    have u4 : upd H' kd (.dK ((hs.filter fun w => w.1 != y.next).map kvOf)) z.2.1 = _ := (upd_ne la_kd).trans hla
    refine ⟨_, rfl, _, _, _, _, _, rfl, u1, T.c_Receiving.cl, T.c_Receiving.n_ready, lk_Receiving_ready, .inl ⟨rfl, _, SqL.of u3⟩, _, rfl, rd, z.2.1, _, _, rfl, rfl, u3, u4, by rw [nv_length, nv_length]; exact sz_of (by omega), ?_⟩
    rw [← nv_append]
    have w1 : upd (upd H' kd (.dK ((hs.filter fun w => w.1 != y.next).map kvOf))) rd (.lst (nv (y.got ++ z.2.2))) r = _ := (upd_ne r_rd).trans u1
    have w4 : upd (upd H' kd (.dK ((hs.filter fun w => w.1 != y.next).map kvOf))) rd (.lst (nv (y.got ++ z.2.2))) z.2.1 = _ := (upd_ne la_rd).trans u4
    refine ⟨_, rfl, r, A.c_Receiving, dx, _, _, rfl, w1, T.c_Receiving.cl, T.c_Receiving.n_wanted, lk_Receiving_wanted, _, rfl, z.2.1, _, rfl, .inl (SqL.of w4), _, _, rfl, rfl, dx, _, w1, by show 5 < 1000; decide, ?_⟩
    rw [pt_Receiving_wanted, nv_length]
    have hnext : (y.next : Int) + (z.2.2.length : Nat) = ((y.next + z.2.2.length : Nat) : Int) := by omega
    refine ⟨_, rfl, _, _, rfl, rfl, oneOn y z.2.2, r :: kd :: rd :: (hs.filter fun w => w.1 != y.next).map (·.2.1), some (.ref z.2.1), ?_, by omega, ⟨dx, kd, rd, hs.filter fun w => w.1 != y.next, ⟨?_, ?_, ?_, fun a ha => ?_, ?_, ?_⟩, rfl⟩, ok2, hset, gr.trans (Grow.mk fun b u c1 c2 => ?_)⟩
    · have : ((65 - (k + 1) : Nat) : Int) + 1 = ((65 - k : Nat) : Int) := by omega
      rw [← this]
      rfl
    · rw [upd_same, hnext]
      rfl
    · rw [upd_ne r_kd.symm, upd_ne kd_rd, upd_same]
    · rw [upd_ne r_rd.symm, upd_same]
      rfl
    · have ham := (List.mem_filter.mp ha).1
      have ha' : a.2.1 ∈ hs.map (·.2.1) := List.mem_map.mpr ⟨a, ham, rfl⟩
      rw [upd_ne (fun e => hn.1 (by rw [← e]; exact List.mem_cons_of_mem _ (List.mem_cons_of_mem _ ha'))), upd_ne (fun e => hn3.1 (by rw [← e]; exact ha')), upd_ne (fun e => hn2.1 (by rw [← e]; exact List.mem_cons_of_mem _ ha'))]
      exact h4 a ham
    · show y.held.filter _ = _
      rw [h5]
      exact filter_hold hs y.next
    · have sl : ((hs.filter fun w => w.1 != y.next).map (·.2.1)).Sublist (hs.map (·.2.1)) := List.Sublist.map _ List.filter_sublist
      exact List.Nodup.sublist (List.Sublist.cons_cons _ (List.Sublist.cons_cons _ (List.Sublist.cons_cons _ sl))) h6
    · have br : b ≠ r := fun e => c1 (by rw [e]; exact rF)
      have bk : b ≠ kd := fun e => c1 (by rw [hFF, e]; simp)
      have bd : b ≠ rd := fun e => c1 (by rw [hFF, e]; simp)
      refine ⟨fun e => c1 ?_, by rw [upd_ne br, upd_ne bd, upd_ne bk]; exact c2⟩
      rw [hFF]
      have sl : ((hs.filter fun w => w.1 != y.next).map (·.2.1)).Sublist (hs.map (·.2.1)) := List.Sublist.map _ List.filter_sublist
      exact (List.Sublist.cons_cons _ (List.Sublist.cons_cons _ (List.Sublist.cons_cons _ sl))).subset e
end
end Sl
/-! ## D19 -/
set_option Elab.async false
set_option linter.all false
set_option maxRecDepth 100000
set_option maxHeartbeats 4000000
namespace Sl
open PySem PySem.Spec PyProof.Rows L2 Evl
section
variable {P : Program} {w : World} {K : PySem.W.Frag} {mg : Str → Option Value} {base : Heap} {A : Adr}
theorem ok_Receiving_take (T : Top K mg A) : FnOk P w K mg base CX0 1 A.f_Receiving_take A.d_Receiving_take ["self", "most"] (sp_Receiving_take K A) := by
  refine T.f_Receiving_take.F.ok sc_Receiving_take (fun vs H Q E h => by obtain ⟨_, _, _, _, rfl, _⟩ := h; rfl) (fun cdv Ar outer s H vs Q E hr h => ?_)
  obtain ⟨r, n, F, x, rfl, hR, qn, qs⟩ := h
  refine ⟨_, (pss_cons (ps_if (PW.pt (pw_and (pt_cmpR op_eq (pe_callB call_len_seq (by rfl) T.b_len PySem.boot_len (pa_cons (pe_fld (pv 0) rfl) pa_nil)) pe_int (nomark _)) (pw_and1 (pt_val (pe_fld (pv 0) rfl))))) (pss_one (ps_ret pe_non)) pss_nil)
    (pss_cons (ps_set (i := 2) sc_Receiving_take.nd rfl (Or.inl rfl) (pe_slice sl_list (pe_fld (pv 0) rfl) po_none (po_some (pv 1))))
    (pss_cons (ps_fld (pv 0) (pe_slice sl_list (pe_fld (pv 0) rfl) (po_some (pv 1)) po_none) rfl)
    (pss_one (ps_ret (pv 2)))))), ?_⟩
  have hR0 := hR
  obtain ⟨dx, kd, rd, hs, ⟨h1, h2, h3, h4, h5, h6⟩, hFF⟩ := hR
  have hgl : (nv x.got).length = x.got.length := nv_length _
  have go : ¬ (x.got = [] ∧ x.ended = true) → tSeq (tAsg (tSl (rSlL K) (tFld K (tVar 0) "ready") tNoPart (tPart (tVar 1))) (gName 2)) (tSeq (sFld K (tVar 0) (tSl (rSlL K) (tFld K (tVar 0) "ready") (tPart (tVar 1)) tNoPart) "ready") (tRet (tVar 2))) { nx := fun x H' => Q V.non H', rt := Q } (L2.start ["self", "most", "taken"] [V.ref r, V.int (n : Nat)]) H := fun hc => by
    refine ⟨_, rfl, _, _, _, _, _, rfl, h1, T.c_Receiving.cl, T.c_Receiving.n_ready, lk_Receiving_ready, _, rfl, _, rfl, rd, _, rfl, SqL.of h3, fun l nl => ?_⟩
    rw [cut_to]
    have x1 := Ex.new (o := .lst (nv (x.got.take n))) nl
    have k1 := x1 _ _ h1
    refine ⟨_, rfl, _, _, _, _, _, rfl, k1, T.c_Receiving.cl, T.c_Receiving.n_ready, lk_Receiving_ready, _, rfl, _, rfl, rd, _, rfl, SqL.of (x1 _ _ h3), fun rd2 n2 => ?_⟩
    rw [cut_from]
    have x2 := x1.trans (Ex.new (o := .lst (nv (x.got.drop n))) n2)
    refine ⟨_, rfl, r, A.c_Receiving, dx, _, rfl, x2 _ _ h1, T.c_Receiving.cl, T.c_Receiving.n_ready, by show 5 < 1000; decide, ?_⟩
    rw [pt_Receiving_ready]
    have n2H := fresh_back x1 n2
    have rd2_l : rd2 ≠ l := fun e => by rw [e, upd_same] at n2; cases n2
    have rd2_r : rd2 ≠ r := (ne_of_none h1 n2H).symm
    have l_r : l ≠ r := (ne_of_none h1 nl).symm
    have hn := List.nodup_cons.mp h6
    have hn2 := List.nodup_cons.mp hn.2
    have hn3 := List.nodup_cons.mp hn2.2
    refine ⟨_, rfl, qs hc l _ (r :: kd :: rd2 :: hs.map (·.2.1)) ⟨dx, kd, rd2, hs, ⟨by rw [upd_same], ?_, ?_, fun y hy => ?_, h5, ?_⟩, rfl⟩ (Grow.mk fun b u c1 c2 => ?_) nl (fun z => ?_) ?_⟩
    · rw [upd_ne (fun e => hn.1 (by rw [← e]; exact List.mem_cons_self ..))]
      exact x2 _ _ h2
    · rw [upd_ne rd2_r, upd_same]
    · rw [upd_ne (fun e => hn.1 (by rw [← e]; exact List.mem_cons_of_mem _ (List.mem_cons_of_mem _ (List.mem_map.mpr ⟨y, hy, rfl⟩))))]
      exact x2 _ _ (h4 y hy)
    · refine List.nodup_cons.mpr ⟨fun z => ?_, List.nodup_cons.mpr ⟨fun z => ?_, List.nodup_cons.mpr ⟨fun z => ?_, hn3.2⟩⟩⟩
      · rcases List.mem_cons.mp z with z | z
        · exact hn.1 (by rw [z]; exact List.mem_cons_self ..)
        rcases List.mem_cons.mp z with z | z
        · exact rd2_r z.symm
        · exact hn.1 (List.mem_cons_of_mem _ (List.mem_cons_of_mem _ z))
      · rcases List.mem_cons.mp z with z | z
        · exact ne_of_none h2 n2H z
        · exact hn2.1 (List.mem_cons_of_mem _ z)
      · obtain ⟨y, hy, e⟩ := List.mem_map.mp z
        exact ne_of_none (h4 y hy) n2H e
    · have br : b ≠ r := fun e => c1 (by rw [hFF, e]; exact List.mem_cons_self ..)
      refine ⟨fun z => ?_, by rw [upd_ne br]; exact x2 _ _ c2⟩
      rcases List.mem_cons.mp z with z | z
      · exact br z
      rcases List.mem_cons.mp z with z | z
      · exact c1 (by rw [hFF, z]; simp)
      rcases List.mem_cons.mp z with z | z
      · exact ne_of_none c2 n2H z
      · exact c1 (by rw [hFF]; exact List.mem_cons_of_mem _ (List.mem_cons_of_mem _ (List.mem_cons_of_mem _ z)))
    · rcases List.mem_cons.mp z with z | z
      · exact l_r z
      rcases List.mem_cons.mp z with z | z
      · exact ne_of_none h2 nl z.symm
      rcases List.mem_cons.mp z with z | z
      · exact rd2_l z.symm
      · obtain ⟨y, hy, e⟩ := List.mem_map.mp z
        exact ne_of_none (h4 y hy) nl e
    · rw [upd_ne l_r, upd_ne rd2_l.symm, upd_same]
  refine ⟨_, rfl, _, _, _, _, _, rfl, h1, T.c_Receiving.cl, T.c_Receiving.n_ready, lk_Receiving_ready, rd, _, rfl, .inl (SqL.of h3), rfl, _, rfl, ?_⟩
  by_cases c : x.got = []
  · have d : decide (V.int ((nv x.got).length : Nat) = V.int 0) = true := by rw [c]; rfl
    rw [d]
    refine iteT ⟨_, rfl, _, _, _, _, _, rfl, h1, T.c_Receiving.cl, T.c_Receiving.n_complete, lk_Receiving_complete, _, rfl, ?_⟩
    by_cases e : x.ended = true
    · rw [e]
      exact iteT (qn ⟨c, e⟩)
    · have e' : x.ended = false := by simpa using e
      rw [e']
      exact iteF (go fun z => e z.2)
  · have d : decide (V.int ((nv x.got).length : Nat) = V.int 0) = false := decide_eq_false fun z => by
      have := V.int.inj z
      rw [hgl] at this
      have h0 := List.length_pos_iff.mpr c
      omega
    rw [d]
    exact iteF (iteF (go fun z => c z.1))
theorem keep_ok {x : Fm11.Link} {k : Fm11.Packet} (h : RecvOk x) : RecvOk (keepLink x k) := by
  unfold keepLink
  split
  · rename_i c
    refine ⟨h.1, fun y hy => ?_⟩
    rcases List.mem_append.mp hy with hy | hy
    · exact h.2 y hy
    · rw [List.mem_singleton.mp hy]
      exact c.2.1
  · exact h
theorem note_ok {x : Fm11.Link} {n : Nat} (h : RecvOk x) : RecvOk (noteLink x n) := by
  unfold noteLink
  split
  · exact h
  · exact h
theorem ok_Receiving_accept (T : Top K mg A) (G_Receiving_bring_to_turn : FnOk P w K mg base CX0 1 A.f_Receiving_bring_to_turn A.d_Receiving_bring_to_turn ["self"] (sp_Receiving_bring_to_turn K A)) (G_Receiving_keep : FnOk P w K mg base CX0 2 A.f_Receiving_keep A.d_Receiving_keep ["self", "packet"] (sp_Receiving_keep K A)) (G_Receiving_note_end : FnOk P w K mg base CX0 1 A.f_Receiving_note_end A.d_Receiving_note_end ["self", "number"] (sp_Receiving_note_end K A)) : FnOk P w K mg base CX0 3 A.f_Receiving_accept A.d_Receiving_accept ["self", "packet"] (sp_Receiving_accept K A) := by
  refine T.f_Receiving_accept.F.ok sc_Receiving_accept (fun vs H Q E h => by obtain ⟨_, _, _, _, _, _, rfl, _⟩ := h; rfl) (fun cdv Ar outer s H vs Q E hr h => ?_)
  obtain ⟨r, pk, o, F, x, k, rfl, hR, hP, hok, hh, q⟩ := h
  refine ⟨_, (pss_cons (ps_if (pt_cmpR op_eq (pe_fld (pv 1) rfl) (pe_glob (v := .int 1) rfl T.g_BYTES ⟨_, rfl⟩) (nomark _)) (pss_cons (ps_expr (pe_meth (pv 0) T.c_Receiving.cl T.f_Receiving_keep.m G_Receiving_keep (hr.mono (by decide)) T.f_Receiving_keep.b .nil pass0 (pa_cons (pv 1) pa_nil)))
    (pss_one (ps_expr (pe_meth0 (pv 0) T.c_Receiving.cl T.f_Receiving_bring_to_turn.m G_Receiving_bring_to_turn (hr.mono (by decide)) T.f_Receiving_bring_to_turn.b .nil pass0)))) pss_nil)
    (pss_one (ps_if (pt_cmpR op_eq (pe_fld (pv 1) rfl) (pe_glob (v := .int 2) rfl T.g_END ⟨_, rfl⟩) (nomark _)) (pss_cons (ps_expr (pe_meth (pv 0) T.c_Receiving.cl T.f_Receiving_note_end.m G_Receiving_note_end (hr.mono (by decide)) T.f_Receiving_note_end.b .nil pass0 (pa_cons (pe_fld (pv 1) rfl) pa_nil)))
    (pss_one (ps_expr (pe_meth0 (pv 0) T.c_Receiving.cl T.f_Receiving_bring_to_turn.m G_Receiving_bring_to_turn (hr.mono (by decide)) T.f_Receiving_bring_to_turn.b .nil pass0)))) pss_nil))), ?_⟩
  have hR0 := hR
  obtain ⟨dx, kd, rd, hs, ⟨h1, h2, h3, h4, h5, h6⟩, hFF⟩ := hR
  have hP0 := hP
  obtain ⟨dp, hpk, ho⟩ := hP
  obtain ⟨pkF, hpk'⟩ := out_some hpk
  obtain ⟨oF, ho'⟩ := out_some ho
  have pko : pk ≠ o := fun e => by rw [e, ho'] at hpk'; cases hpk'
  have pkG : pk ∉ o :: F := fun z => by
    rcases List.mem_cons.mp z with z | z
    · exact pko z
    · exact pkF z
  unfold acceptLink at q
  refine ⟨_, rfl, _, _, _, _, _, rfl, hpk', T.c_Packet.cl, T.c_Packet.n_kind, lk_Packet_kind, rfl, _, rfl, ite2 (fun z => ?_) (fun z => ?_)⟩
  · have hk : k.kind = 1 := by have := V.int.inj (of_decide_eq_true z); omega
    rw [if_pos hk] at q
    refine ⟨_, rfl, _, _, _, rfl, h1, no_Receiving_keep, _, rfl, r, pk, o, F, x, k, rfl, hR0, hP0, hok.1, hh, fun H1 F1 hR1 gr1 => ?_⟩
    have hR1' := hR1
    obtain ⟨dx1, kd1, rd1, hs1, ⟨k1, k2, k3, k4, k5, k6⟩, hFF1⟩ := hR1
    refine ⟨_, rfl, _, _, _, rfl, k1, no_Receiving_bring_to_turn, r, F1, _, rfl, hR1', keep_ok hok, fun H2 F2 hR2 gr2 => ?_⟩
    have hpk2 := ((gr1.trans gr2).get pkG hpk').2
    refine ⟨_, rfl, _, _, _, _, _, rfl, hpk2, T.c_Packet.cl, T.c_Packet.n_kind, lk_Packet_kind, rfl, _, rfl, ?_⟩
    have d : decide (V.int (k.kind : Nat) = V.int 2) = false := decide_eq_false fun z => by have := V.int.inj z; omega
    rw [d]
    exact iteF (q H2 F2 hR2 (gr1.trans gr2))
  · have hk : ¬ k.kind = 1 := fun y => z (decide_eq_true (by rw [y]; rfl))
    rw [if_neg hk] at q
    refine ⟨_, rfl, _, _, _, _, _, rfl, hpk', T.c_Packet.cl, T.c_Packet.n_kind, lk_Packet_kind, rfl, _, rfl, ite2 (fun z2 => ?_) (fun z2 => ?_)⟩
    · have hk2 : k.kind = 2 := by have := V.int.inj (of_decide_eq_true z2); omega
      rw [if_pos hk2] at q
      refine ⟨_, rfl, _, _, _, rfl, h1, no_Receiving_note_end, _, rfl, _, _, _, _, _, rfl, hpk', T.c_Packet.cl, T.c_Packet.n_number, lk_Packet_number, r, k.seq, F, x, rfl, hR0, fun H1 hR1 gr1 => ?_⟩
      have hR1' := hR1
      obtain ⟨dx1, kd1, rd1, hs1, ⟨k1, k2, k3, k4, k5, k6⟩, hFF1⟩ := hR1
      refine ⟨_, rfl, _, _, _, rfl, k1, no_Receiving_bring_to_turn, r, F, _, rfl, hR1', note_ok hok, fun H2 F2 hR2 gr2 => ?_⟩
      exact q H2 F2 hR2 ((Grow.into fun b hb => .inl (List.mem_cons_of_mem _ hb)).trans (gr1.trans gr2))
    · have hk2 : ¬ k.kind = 2 := fun y => z2 (decide_eq_true (by rw [y]; rfl))
      rw [if_neg hk2] at q
      exact q H F hR0 (Grow.into fun b hb => .inl (List.mem_cons_of_mem _ hb))
end
end Sl
/-! ## Bv -/
set_option Elab.async false
set_option linter.all false
set_option maxRecDepth 100000
set_option maxHeartbeats 4000000
namespace Sl
open PySem PySem.Spec PyProof.Rows L2 Evl
/-! ### an end -/
def endV (ca s r : Addr) (x : Fm11.Link) : List (Str × V) := fl_LinkEnd (.ref ca) (.int (x.name : Nat)) (.int (x.now : Nat)) (.ref s) (.ref r) (.bl x.owes) (.int (x.dropped : Nat)) (.int (x.mended : Nat))
def EndAt (A : Adr) (H : Hp) (a : Addr) (F : List Addr) (ca : Addr) (x : Fm11.Link) : Prop := ∃ dx s r Fs Fr, H a = some (.ins A.c_LinkEnd dx (endV ca s r x)) ∧ SendAt A H s Fs x ∧ RecvAt A H r Fr x ∧ F = a :: (Fs ++ Fr) ∧ a ∉ Fs ∧ a ∉ Fr ∧ ∀ b ∈ Fs, b ∉ Fr
theorem EndAt.on {A : Adr} {H H' : Hp} {a ca : Addr} {F : List Addr} {x : Fm11.Link} (h : EndAt A H a F ca x) (e : ∀ b o, b ∈ F → H b = some o → H' b = some o) : EndAt A H' a F ca x := by
  obtain ⟨dx, s, r, Fs, Fr, h1, h2, h3, rfl, h5, h6, h7⟩ := h
  exact ⟨dx, s, r, Fs, Fr, e _ _ (List.mem_cons_self ..) h1, h2.on fun b o hb k => e b o (List.mem_cons_of_mem _ (List.mem_append.mpr (.inl hb))) k, h3.on fun b o hb k => e b o (List.mem_cons_of_mem _ (List.mem_append.mpr (.inr hb))) k, rfl, h5, h6, h7⟩
theorem EndAt.ex {A : Adr} {H H' : Hp} {a ca : Addr} {F : List Addr} {x : Fm11.Link} (h : EndAt A H a F ca x) (e : Ex H H') : EndAt A H' a F ca x := h.on fun b o _ k => e b o k
theorem EndAt.dom {A : Adr} {H : Hp} {a ca : Addr} {F : List Addr} {x : Fm11.Link} (h : EndAt A H a F ca x) : ∀ b ∈ F, H b ≠ none := by
  obtain ⟨dx, s, r, Fs, Fr, h1, h2, h3, rfl, h5, h6, h7⟩ := h
  intro b hb
  rcases List.mem_cons.mp hb with e | hb
  · rw [e, h1]; exact fun z => by cases z
  rcases List.mem_append.mp hb with hb | hb
  · exact h2.dom b hb
  · exact h3.dom b hb
theorem EndAt.fresh {A : Adr} {H : Hp} {a ca : Addr} {F : List Addr} {x : Fm11.Link} (h : EndAt A H a F ca x) {b : Addr} (hb : H b = none) : b ∉ F := fun z => h.dom b z hb
/-- the sending side has become another -/
theorem EndAt.sent {A : Adr} {H H' : Hp} {a dx s r ca : Addr} {Fs Fs' Fr : List Addr} {x x' : Fm11.Link} (h1 : H a = some (.ins A.c_LinkEnd dx (endV ca s r x))) (h2 : SendAt A H s Fs x) (h3 : RecvAt A H r Fr x) (h5 : a ∉ Fs) (h6 : a ∉ Fr) (h7 : ∀ b ∈ Fs, b ∉ Fr)
    (g2 : SendAt A H' s Fs' x') (gr : Grow Fs H Fs' H') (hv : endV ca s r x' = endV ca s r x) (hr : RecvAt A H' r Fr x → RecvAt A H' r Fr x') : EndAt A H' a (a :: (Fs' ++ Fr)) ca x' ∧ Grow (a :: (Fs ++ Fr)) H (a :: (Fs' ++ Fr)) H' := by
  have k3 : RecvAt A H' r Fr x := h3.on fun b o hb e => (gr.get (fun z => h7 b z hb) e).2
  obtain ⟨c1, c2⟩ := gr.get h5 h1
  refine ⟨⟨dx, s, r, Fs', Fr, by rw [hv]; exact c2, g2, hr k3, rfl, c1, h6, fun b hb hf => ?_⟩, (gr.left (G := Fr)).cons a⟩
  cases e : H b with
  | none => exact h3.dom b hf e
  | some o => exact (gr.get (fun z => h7 b z hf) e).1 hb
/-- the receiving side has become another, handed something from outside -/
theorem EndAt.recv {A : Adr} {H H' : Hp} {a dx s r ca : Addr} {Fs Fr Fr' G : List Addr} {x x' : Fm11.Link} (h1 : H a = some (.ins A.c_LinkEnd dx (endV ca s r x))) (h2 : SendAt A H s Fs x) (h3 : RecvAt A H r Fr x) (h5 : a ∉ Fs) (h6 : a ∉ Fr) (h7 : ∀ b ∈ Fs, b ∉ Fr)
    (hG : ∀ b ∈ G, b ∉ a :: (Fs ++ Fr)) (g3 : RecvAt A H' r Fr' x') (gr : Grow (G ++ Fr) H Fr' H') (hv : endV ca s r x' = endV ca s r x) (hs : SendAt A H' s Fs x → SendAt A H' s Fs x') :
    EndAt A H' a (a :: (Fs ++ Fr')) ca x' ∧ Grow (G ++ a :: (Fs ++ Fr)) H (a :: (Fs ++ Fr')) H' := by
  have nG : ∀ b, b ∈ Fs → b ∉ G ++ Fr := fun b hb z => by
    rcases List.mem_append.mp z with z | z
    · exact hG b z (List.mem_cons_of_mem _ (List.mem_append.mpr (.inl hb)))
    · exact h7 b hb z
  have aG : a ∉ G ++ Fr := fun z => by
    rcases List.mem_append.mp z with z | z
    · exact hG a z (List.mem_cons_self ..)
    · exact h6 z
  have k2 : SendAt A H' s Fs x := h2.on fun b o hb e => (gr.get (nG b hb) e).2
  obtain ⟨c1, c2⟩ := gr.get aG h1
  refine ⟨⟨dx, s, r, Fs, Fr', by rw [hv]; exact c2, hs k2, g3, rfl, h5, c1, fun b hb hf => ?_⟩, Grow.mk fun b o d1 d2 => ?_⟩
  · cases e : H b with
    | none => exact h2.dom b hb e
    | some o => exact (gr.get (nG b hb) e).1 hf
  · have dG : b ∉ G := fun z => d1 (List.mem_append.mpr (.inl z))
    have dF : b ∉ a :: (Fs ++ Fr) := fun z => d1 (List.mem_append.mpr (.inr z))
    have da : b ≠ a := fun z => dF (by rw [z]; exact List.mem_cons_self ..)
    have ds : b ∉ Fs := fun z => dF (List.mem_cons_of_mem _ (List.mem_append.mpr (.inl z)))
    have dr : b ∉ Fr := fun z => dF (List.mem_cons_of_mem _ (List.mem_append.mpr (.inr z)))
    obtain ⟨e1, e2⟩ := gr.get (fun z => by
      rcases List.mem_append.mp z with z | z
      · exact dG z
      · exact dr z) d2
    refine ⟨fun z => ?_, e2⟩
    rcases List.mem_cons.mp z with z | z
    · exact da z
    rcases List.mem_append.mp z with z | z
    · exact ds z
    · exact e1 z
/-- a field of its own is set -/
theorem EndAt.field {A : Adr} {H : Hp} {a dx s r ca : Addr} {Fs Fr : List Addr} {x x' : Fm11.Link} {fs : List (Str × V)} (h2 : SendAt A H s Fs x) (h3 : RecvAt A H r Fr x) (h5 : a ∉ Fs) (h6 : a ∉ Fr) (h7 : ∀ b ∈ Fs, b ∉ Fr)
    (hv : fs = endV ca s r x') (hs : ∀ H', SendAt A H' s Fs x → SendAt A H' s Fs x') (hr : ∀ H', RecvAt A H' r Fr x → RecvAt A H' r Fr x') : EndAt A (upd H a (.ins A.c_LinkEnd dx fs)) a (a :: (Fs ++ Fr)) ca x' :=
  ⟨dx, s, r, Fs, Fr, by rw [upd_same, hv], hs _ (h2.on fun b o hb e => by rw [upd_ne (fun z => h5 (by rw [← z]; exact hb))]; exact e), hr _ (h3.on fun b o hb e => by rw [upd_ne (fun z => h6 (by rw [← z]; exact hb))]; exact e), rfl, h5, h6, h7⟩
/-- how a call on an end comes back: a new list of numbers, the end another -/
def EndRes (A : Adr) (H : Hp) (F : List Addr) (a ca : Addr) (x' : Fm11.Link) (out : List Int) (Q : VK) : Prop := ∀ l H' F', EndAt A H' a F' ca x' → Grow F H F' H' → Out F H l = none → l ∉ F' → H' l = some (.lst (iv out)) → Q (.ref l) H'
theorem grow_none {F F' : List Addr} {H H' : Hp} {l : Addr} (gr : Grow F H F' H') (h : H' l = none) : Out F H l = none := by
  cases e : Out F H l with
  | none => rfl
  | some o =>
    obtain ⟨e1, e2⟩ := out_some e
    rw [(gr.get e1 e2).2] at h
    cases h
/-- the answer is laid -/
theorem EndRes.lay {A : Adr} {H H1 : Hp} {F F1 : List Addr} {a ca l : Addr} {x' : Fm11.Link} {out : List Int} {Q : VK} (q : EndRes A H F a ca x' out Q) (hE : EndAt A H1 a F1 ca x') (gr : Grow F H F1 H1) (nl : H1 l = none) {xs : List V} (hx : xs = iv out) : Q (.ref l) (upd H1 l (.lst xs)) :=
  q l _ F1 (hE.ex (Ex.new nl)) (gr.trans (Grow.ex (Ex.new nl))) (grow_none gr nl) (hE.fresh nl) (by rw [upd_same, hx])
theorem tIf_bit {σ : L2.St} {H : Hp} {Q : VK} {c : Bool} (h : Q (.int (Fm11.bit c : Nat)) H) : if c = true then tC (.int 1) σ H Q else tC (.int 0) σ H Q := by cases c <;> exact h
/-- what holds of an end behind n calls -/
structure LinkOk (n : Nat) (x : Fm11.Link) : Prop where
  fl : x.flight.length ≤ 8
  pc : ∀ p ∈ x.flight, p.len ≤ 190 ∧ p.often ≤ n + 1
  rb : Gf.By x.rest
  rl : x.rest.length ≤ 65536
  rv : RecvOk x
  hl : x.held.length ≤ n
def sp_LinkEnd_init (K : PySem.W.Frag) (A : Adr) : Sp := fun vs H Q _ => ∃ (p dx ca : Addr) (n : Nat), vs = [.ref p, .ref ca, .int (n : Nat)] ∧ H p = some (.ins A.c_LinkEnd dx []) ∧
  ∀ (H' : Hp) (F : List Addr), EndAt A H' p F ca (Fm11.begin_ n) → Grow [p] H F H' → Q .non H'
def sp_LinkEnd_put (K : PySem.W.Frag) (A : Adr) : Sp := fun vs H Q _ => ∃ (a o ca : Addr) (F : List Addr) (x : Fm11.Link) (l : List Nat), vs = [.ref a, .ref o] ∧ EndAt A H a F ca x ∧ Out F H o = some (.lst (nv l)) ∧ x.rest.length ≤ 100000 ∧ l.length ≤ 100000 ∧
  EndRes A H F a ca (putLink x l) [putCode x l] Q
def sp_LinkEnd_finish (K : PySem.W.Frag) (A : Adr) : Sp := fun vs H Q _ => ∃ (a ca : Addr) (F : List Addr) (x : Fm11.Link), vs = [.ref a] ∧ EndAt A H a F ca x ∧ EndRes A H F a ca (finLink x) [finCode x] Q
def sp_LinkEnd_tell (K : PySem.W.Frag) (A : Adr) : Sp := fun vs H Q _ => ∃ (a ca : Addr) (F : List Addr) (x : Fm11.Link), vs = [.ref a] ∧ EndAt A H a F ca x ∧
  EndRes A H F a ca x [0, 7, x.rest.length, x.flight.length, x.got.length, Fm11.bit x.told, Fm11.bit x.ended, x.dropped, x.mended] Q
def takeOut (x : Fm11.Link) (n : Nat) : List Int := if x.got = [] ∧ x.ended = true then [-7] else ((x.got.take n).length : Int) :: ((x.got.take n).length : Int) :: (x.got.take n).map fun (n : Nat) => (n : Int)
def takeLink (x : Fm11.Link) (n : Nat) : Fm11.Link := if x.got = [] ∧ x.ended = true then x else (x.take n).1
def sp_LinkEnd_take (K : PySem.W.Frag) (A : Adr) : Sp := fun vs H Q _ => ∃ (a ca : Addr) (n : Nat) (F : List Addr) (x : Fm11.Link), vs = [.ref a, .int (n : Nat)] ∧ EndAt A H a F ca x ∧ x.got.length ≤ 4096 ∧ EndRes A H F a ca (takeLink x n) (takeOut x n) Q
def sp_LinkEnd_sent_as (K : PySem.W.Frag) (A : Adr) : Sp := fun vs H Q _ => ∃ (a ca pa : Addr) (F : List Addr) (x : Fm11.Link) (k : Fm11.Packet), vs = [.ref a, .ref pa] ∧ EndAt A H a F ca x ∧ CodeAt A H ca ∧ PartAt A H pa k ∧ x.got.length ≤ 4096 ∧ Gf.By k.bytes ∧ k.bytes.length ≤ 1000 ∧ k.kind < 256 ∧
  ∀ p H', H p = none → Ex H H' → H' p = some (.lst (nv (Fm11.Packet.wire ⟨x.name, k.kind, k.seq, x.next, x.room, k.bytes⟩))) → Q (.ref p) H'
def tickOut (x : Fm11.Link) : List Int := (x.tick.2.length : Int) :: x.tick.2.flatMap fun p => (p.wire.length : Int) :: p.wire.map fun (n : Nat) => (n : Int)
def sp_LinkEnd_tick (K : PySem.W.Frag) (A : Adr) : Sp := fun vs H Q _ => ∃ (a ca : Addr) (n : Nat) (F : List Addr) (x : Fm11.Link), vs = [.ref a] ∧ EndAt A H a F ca x ∧ CodeAt A (Out F H) ca ∧ n ≤ 1000 ∧ LinkOk n x ∧ EndRes A H F a ca x.tick.1 (tickOut x) Q
def sp_LinkEnd_accept_packet (K : PySem.W.Frag) (A : Adr) : Sp := fun vs H Q _ => ∃ (a ca pk q : Addr) (F : List Addr) (x : Fm11.Link) (k : Fm11.Packet), vs = [.ref a, .ref pk] ∧ EndAt A H a F ca x ∧ PacketW A (Out F H) pk q k ∧ RecvOk x ∧ x.held.length ≤ 100000 ∧ x.flight.length ≤ 1000 ∧
  ∀ H' F', EndAt A H' a F' ca (x.packet k) → Grow (q :: F) H F' H' → Q .non H'
def cameCode (x : Fm11.Link) (l : List Nat) : Int := if 255 < l.length then -1 else if (x.came l).1 = true then 0 else -6
def cameLink (x : Fm11.Link) (l : List Nat) : Fm11.Link := if 255 < l.length then x else (x.came l).2
def sp_LinkEnd_came (K : PySem.W.Frag) (A : Adr) : Sp := fun vs H Q _ => ∃ (a ca o : Addr) (F : List Addr) (x : Fm11.Link) (l : List Nat), vs = [.ref a, .ref o] ∧ EndAt A H a F ca x ∧ CodeAt A (Out F H) ca ∧ Out F H o = some (.lst (nv l)) ∧ Gf.By l ∧ RecvOk x ∧ x.held.length ≤ 100000 ∧ x.flight.length ≤ 1000 ∧
  EndRes A H F a ca (cameLink x l) [cameCode x l] Q
end Sl
/-! ## D20 -/
set_option Elab.async false
set_option linter.all false
set_option maxRecDepth 100000
set_option maxHeartbeats 4000000
namespace Sl
open PySem PySem.Spec PyProof.Rows L2 Evl
section
variable {P : Program} {w : World} {K : PySem.W.Frag} {mg : Str → Option Value} {base : Heap} {A : Adr}
theorem ok_LinkEnd_init (T : Top K mg A) (G_Receiving_init : FnOk P w K mg base CX0 1 A.f_Receiving_init A.d_Receiving_init ["self"] (sp_Receiving_init K A)) (G_Sending_init : FnOk P w K mg base CX0 1 A.f_Sending_init A.d_Sending_init ["self"] (sp_Sending_init K A)) : FnOk P w K mg base CX0 3 A.f_LinkEnd_init A.d_LinkEnd_init ["self", "code", "name"] (sp_LinkEnd_init K A) := by
  refine T.k_LinkEnd.F.ok sc_LinkEnd_init (fun vs H Q E h => by obtain ⟨_, _, _, _, rfl, _⟩ := h; rfl) (fun cdv Ar outer s H vs Q E hr h => ?_)
  obtain ⟨p, dx, ca, n, rfl, hp, q⟩ := h
  refine ⟨_, (pss_cons (ps_fld (pv 0) (pv 1) rfl)
    (pss_cons (ps_fld (pv 0) (pv 2) rfl)
    (pss_cons (ps_fld (pv 0) pe_int rfl)
    (pss_cons (ps_fld (pv 0) (pe_make0 T.k_Sending.M G_Sending_init (hr.mono (by decide)) rfl T.k_Sending.g T.k_Sending.b .nil pass0) rfl)
    (pss_cons (ps_fld (pv 0) (pe_make0 T.k_Receiving.M G_Receiving_init (hr.mono (by decide)) rfl T.k_Receiving.g T.k_Receiving.b .nil pass0) rfl)
    (pss_cons (ps_fld (pv 0) pe_bl rfl)
    (pss_cons (ps_fld (pv 0) pe_int rfl)
    (pss_one (ps_fld (pv 0) pe_int rfl))))))))), ?_⟩
  refine ⟨_, rfl, _, rfl, p, A.c_LinkEnd, dx, [], rfl, hp, T.c_LinkEnd.cl, T.c_LinkEnd.n_code, by decide, ?_⟩
  refine ⟨_, rfl, _, rfl, p, A.c_LinkEnd, dx, _, rfl, upd_same, T.c_LinkEnd.cl, T.c_LinkEnd.n_name, by show 1 < 1000; decide, ?_⟩
  refine ⟨_, rfl, p, A.c_LinkEnd, dx, _, rfl, upd_same, T.c_LinkEnd.cl, T.c_LinkEnd.n_time, by show 2 < 1000; decide, ?_⟩
  have hp3 : (upd (upd (upd H p (.ins A.c_LinkEnd dx (putF "code" (.ref ca) []))) p (.ins A.c_LinkEnd dx (putF "name" (.int (n : Nat)) (putF "code" (.ref ca) [])))) p (.ins A.c_LinkEnd dx (putF "time" (.int 0) (putF "name" (.int (n : Nat)) (putF "code" (.ref ca) []))))) p = some (.ins A.c_LinkEnd dx (putF "time" (.int 0) (putF "name" (.int (n : Nat)) (putF "code" (.ref ca) [])))) := upd_same
  have g3 : Grow [p] H [p] (upd (upd (upd H p (.ins A.c_LinkEnd dx (putF "code" (.ref ca) []))) p (.ins A.c_LinkEnd dx (putF "name" (.int (n : Nat)) (putF "code" (.ref ca) [])))) p (.ins A.c_LinkEnd dx (putF "time" (.int 0) (putF "name" (.int (n : Nat)) (putF "code" (.ref ca) []))))) := ((Grow.put _ (List.mem_singleton.mpr rfl)).trans (Grow.put _ (List.mem_singleton.mpr rfl))).trans (Grow.put _ (List.mem_singleton.mpr rfl))
  generalize (upd (upd (upd H p (.ins A.c_LinkEnd dx (putF "code" (.ref ca) []))) p (.ins A.c_LinkEnd dx (putF "name" (.int (n : Nat)) (putF "code" (.ref ca) [])))) p (.ins A.c_LinkEnd dx (putF "time" (.int 0) (putF "name" (.int (n : Nat)) (putF "code" (.ref ca) []))))) = H3 at hp3 g3
  intro s ds ns nds nex
  have ps : p ≠ s := ne_of_none hp3 ns
  have x1 := (Ex.new (o := .own s) nds).trans (Ex.new (o := .ins A.c_Sending ds []) (by rw [upd_ne nex.symm]; exact ns))
  refine ⟨s, ds, rfl, upd_same, fun H4 Fs m hS gS => ⟨rfl, ?_⟩⟩
  obtain ⟨pFs, hp4⟩ := gS.get (fun z => ps (List.mem_singleton.mp z)) (x1 _ _ hp3)
  refine ⟨_, rfl, p, A.c_LinkEnd, dx, _, rfl, hp4, T.c_LinkEnd.cl, T.c_LinkEnd.n_sending, by show 3 < 1000; decide, ?_⟩
  have hS5 := hS.on (H' := upd H4 p (.ins A.c_LinkEnd dx (putF "sending" (.ref s) (putF "time" (.int 0) (putF "name" (.int (n : Nat)) (putF "code" (.ref ca) [])))))) fun b o hb e => by
    rw [upd_ne (fun z => pFs (by rw [← z]; exact hb))]
    exact e
  have hp5 : (upd H4 p (.ins A.c_LinkEnd dx (putF "sending" (.ref s) (putF "time" (.int 0) (putF "name" (.int (n : Nat)) (putF "code" (.ref ca) [])))))) p = some _ := upd_same
  have g5 : Grow [p] H (p :: Fs) (upd H4 p (.ins A.c_LinkEnd dx (putF "sending" (.ref s) (putF "time" (.int 0) (putF "name" (.int (n : Nat)) (putF "code" (.ref ca) [])))))) := by
    refine g3.trans (Grow.mk fun b o c1 c2 => ?_)
    have bp : b ≠ p := fun z => c1 (List.mem_singleton.mpr z)
    have bs : b ≠ s := ne_of_none c2 ns
    obtain ⟨d1, d2⟩ := gS.get (fun z => bs (List.mem_singleton.mp z)) (x1 _ _ c2)
    exact ⟨fun z => (List.mem_cons.mp z).elim bp d1, by rw [upd_ne bp]; exact d2⟩
  generalize (upd H4 p (.ins A.c_LinkEnd dx (putF "sending" (.ref s) (putF "time" (.int 0) (putF "name" (.int (n : Nat)) (putF "code" (.ref ca) [])))))) = H5 at hS5 hp5 g5
  intro r dr nr ndr nexr
  have pr : p ≠ r := ne_of_none hp5 nr
  have x2 := (Ex.new (o := .own r) ndr).trans (Ex.new (o := .ins A.c_Receiving dr []) (by rw [upd_ne nexr.symm]; exact nr))
  refine ⟨r, dr, rfl, upd_same, fun H6 Fr m2 hR gR => ⟨rfl, ?_⟩⟩
  obtain ⟨pFr, hp6⟩ := gR.get (fun z => pr (List.mem_singleton.mp z)) (x2 _ _ hp5)
  have rFs : r ∉ Fs := hS5.fresh nr
  have hS6 := hS5.on (H' := H6) fun b o hb e => (gR.get (fun z => rFs (by rw [← List.mem_singleton.mp z]; exact hb)) (x2 _ _ e)).2
  have dis : ∀ b ∈ Fs, b ∉ Fr := fun b hb => by
    cases e : H5 b with
    | none => exact absurd e (hS5.dom b hb)
    | some o => exact (gR.get (fun z => rFs (by rw [← List.mem_singleton.mp z]; exact hb)) (x2 _ _ e)).1
  refine ⟨_, rfl, p, A.c_LinkEnd, dx, _, rfl, hp6, T.c_LinkEnd.cl, T.c_LinkEnd.n_receiving, by show 4 < 1000; decide, ?_⟩
  refine ⟨_, rfl, p, A.c_LinkEnd, dx, _, rfl, upd_same, T.c_LinkEnd.cl, T.c_LinkEnd.n_owes, by show 5 < 1000; decide, ?_⟩
  refine ⟨_, rfl, p, A.c_LinkEnd, dx, _, rfl, upd_same, T.c_LinkEnd.cl, T.c_LinkEnd.n_dropped, by show 6 < 1000; decide, ?_⟩
  refine ⟨_, rfl, p, A.c_LinkEnd, dx, _, rfl, upd_same, T.c_LinkEnd.cl, T.c_LinkEnd.n_mended, by show 7 < 1000; decide, ?_⟩
  have keep : ∀ (v1 v2 v3 v4 : HO) (b : Addr) (o : HO), b ≠ p → H6 b = some o → upd (upd (upd (upd H6 p v1) p v2) p v3) p v4 b = some o := fun v1 v2 v3 v4 b o c e => by
    rw [upd_ne c, upd_ne c, upd_ne c, upd_ne c]
    exact e
  refine q _ (p :: (Fs ++ Fr)) ⟨dx, s, r, Fs, Fr, by rw [upd_same]; rfl, ?_, ?_, rfl, pFs, pFr, dis⟩ (g5.trans (Grow.mk fun b o c1 c2 => ?_))
  · exact hS6.on fun b o hb e => keep _ _ _ _ b o (fun z => pFs (by rw [← z]; exact hb)) e
  · exact hR.on fun b o hb e => keep _ _ _ _ b o (fun z => pFr (by rw [← z]; exact hb)) e
  · have bp : b ≠ p := fun z => c1 (by rw [z]; exact List.mem_cons_self ..)
    have bs : b ∉ Fs := fun z => c1 (List.mem_cons_of_mem _ z)
    have br : b ≠ r := ne_of_none c2 nr
    obtain ⟨d1, d2⟩ := gR.get (fun z => br (List.mem_singleton.mp z)) (x2 _ _ c2)
    refine ⟨fun z => ?_, keep _ _ _ _ b o bp d2⟩
    rcases List.mem_cons.mp z with z | z
    · exact bp z
    rcases List.mem_append.mp z with z | z
    · exact bs z
    · exact d1 z
theorem ok_LinkEnd_put (T : Top K mg A) (G_Sending_put : FnOk P w K mg base CX0 1 A.f_Sending_put A.d_Sending_put ["self", "octets"] (sp_Sending_put K A)) : FnOk P w K mg base CX0 2 A.f_LinkEnd_put A.d_LinkEnd_put ["self", "octets"] (sp_LinkEnd_put K A) := by
  refine T.f_LinkEnd_put.F.ok sc_LinkEnd_put (fun vs H Q E h => by obtain ⟨_, _, _, _, _, _, rfl, _⟩ := h; rfl) (fun cdv Ar outer s H vs Q E hr h => ?_)
  obtain ⟨a, o, ca, F, x, l, rfl, ⟨dx, s, r, Fs, Fr, h1, h2, h3, rfl, h5, h6, h7⟩, ho, hr1, hl1, q⟩ := h
  refine ⟨_, (pss_one (ps_ret (pe_lst (pa_cons (pe_meth (pe_fld (pv 0) rfl) T.c_Sending.cl T.f_Sending_put.m G_Sending_put (hr.mono (by decide)) T.f_Sending_put.b .nil pass0 (pa_cons (pv 1) pa_nil)) pa_nil)))), ?_⟩
  have h2' := h2
  obtain ⟨dxs, so, sp, ps, ⟨k1, k2, k3, k4, k5, k6⟩, hFF⟩ := h2
  obtain ⟨oF, ho'⟩ := out_some ho
  have oFs : o ∉ Fs := fun z => oF (List.mem_cons_of_mem _ (List.mem_append.mpr (.inl z)))
  have hv : endV ca s r (putLink x l) = endV ca s r x := by unfold putLink; split; rfl; split; rfl; split; rfl; rfl
  have hrr : ∀ H', RecvAt A H' r Fr x → RecvAt A H' r Fr (putLink x l) := fun H' z => by unfold putLink; split; exact z; split; exact z; split; exact z; exact z
  refine ⟨_, rfl, _, _, _, _, _, rfl, h1, T.c_LinkEnd.cl, T.c_LinkEnd.n_sending, lk_LinkEnd_sending, _, _, _, rfl, k1, no_Sending_put, _, rfl, s, o, Fs, x, l, rfl, h2', out_mk oFs ho', hr1, hl1, fun H1 hS1 gr => ⟨by show 1 ≤ sizeLine; decide, fun p np => ?_⟩⟩
  obtain ⟨e1, e2⟩ := EndAt.sent h1 h2' h3 h5 h6 h7 hS1 gr hv (hrr H1)
  exact q.lay e1 e2 np rfl
theorem ok_LinkEnd_finish (T : Top K mg A) (G_Sending_finish : FnOk P w K mg base CX0 1 A.f_Sending_finish A.d_Sending_finish ["self"] (sp_Sending_finish K A)) : FnOk P w K mg base CX0 2 A.f_LinkEnd_finish A.d_LinkEnd_finish ["self"] (sp_LinkEnd_finish K A) := by
  refine T.f_LinkEnd_finish.F.ok sc_LinkEnd_finish (fun vs H Q E h => by obtain ⟨_, _, _, _, rfl, _⟩ := h; rfl) (fun cdv Ar outer s H vs Q E hr h => ?_)
  obtain ⟨a, ca, F, x, rfl, ⟨dx, s, r, Fs, Fr, h1, h2, h3, rfl, h5, h6, h7⟩, q⟩ := h
  refine ⟨_, (pss_one (ps_ret (pe_lst (pa_cons (pe_meth0 (pe_fld (pv 0) rfl) T.c_Sending.cl T.f_Sending_finish.m G_Sending_finish (hr.mono (by decide)) T.f_Sending_finish.b .nil pass0) pa_nil)))), ?_⟩
  have h2' := h2
  obtain ⟨dxs, so, sp, ps, ⟨k1, k2, k3, k4, k5, k6⟩, hFF⟩ := h2
  have hv : endV ca s r (finLink x) = endV ca s r x := by unfold finLink; split; rfl; rfl
  have hrr : ∀ H', RecvAt A H' r Fr x → RecvAt A H' r Fr (finLink x) := fun H' z => by unfold finLink; split; exact z; exact z
  refine ⟨_, rfl, _, _, _, _, _, rfl, h1, T.c_LinkEnd.cl, T.c_LinkEnd.n_sending, lk_LinkEnd_sending, _, _, _, rfl, k1, no_Sending_finish, s, Fs, x, rfl, h2', fun H1 hS1 gr => ⟨by show 1 ≤ sizeLine; decide, fun p np => ?_⟩⟩
  obtain ⟨e1, e2⟩ := EndAt.sent h1 h2' h3 h5 h6 h7 hS1 gr hv (hrr H1)
  exact q.lay e1 e2 np rfl
theorem ok_LinkEnd_tell (T : Top K mg A) : FnOk P w K mg base CX0 1 A.f_LinkEnd_tell A.d_LinkEnd_tell ["self"] (sp_LinkEnd_tell K A) := by
  refine T.f_LinkEnd_tell.F.ok sc_LinkEnd_tell (fun vs H Q E h => by obtain ⟨_, _, _, _, rfl, _⟩ := h; rfl) (fun cdv Ar outer s H vs Q E hr h => ?_)
  obtain ⟨a, ca, F, x, rfl, hE, q⟩ := h
  refine ⟨_, (pss_cons (ps_set (i := 1) sc_LinkEnd_tell.nd rfl (Or.inl rfl) (pe_ifExp (pt_val (pe_fld (pe_fld (pv 0) rfl) rfl)) pe_int pe_int))
    (pss_cons (ps_set (i := 2) sc_LinkEnd_tell.nd rfl (Or.inl rfl) (pe_ifExp (pt_val (pe_fld (pe_fld (pv 0) rfl) rfl)) pe_int pe_int))
    (pss_cons (ps_set (i := 3) sc_LinkEnd_tell.nd rfl (Or.inl rfl) (pe_lst (pa_cons (pe_callB call_len_seq (by rfl) T.b_len PySem.boot_len (pa_cons (pe_fld (pe_fld (pv 0) rfl) rfl) pa_nil)) (pa_cons (pe_callB call_len_seq (by rfl) T.b_len PySem.boot_len (pa_cons (pe_fld (pe_fld (pv 0) rfl) rfl) pa_nil)) (pa_cons (pe_callB call_len_seq (by rfl) T.b_len PySem.boot_len (pa_cons (pe_fld (pe_fld (pv 0) rfl) rfl) pa_nil)) (pa_cons (pv 1) (pa_cons (pv 2) (pa_cons (pe_fld (pv 0) rfl) (pa_cons (pe_fld (pv 0) rfl) pa_nil)))))))))
    (pss_one (ps_ret (pe_op op_cat (pe_lst (pa_cons pe_int (pa_cons (pe_callB call_len_seq (by rfl) T.b_len PySem.boot_len (pa_cons (pv 3) pa_nil)) pa_nil))) (pv 3))))))), ?_⟩
  have hE0 := hE
  obtain ⟨dx, s, r, Fs, Fr, h1, h2, h3, rfl, h5, h6, h7⟩ := hE
  obtain ⟨dxs, so, sp, ps, ⟨k1, k2, k3, k4, k5, k6⟩, hFF⟩ := h2
  obtain ⟨dxr, kd, rd, hs, ⟨j1, j2, j3, j4, j5, j6⟩, hFR⟩ := h3
  refine ⟨_, rfl, _, _, _, _, _, rfl, h1, T.c_LinkEnd.cl, T.c_LinkEnd.n_sending, lk_LinkEnd_sending, _, _, _, _, _, rfl, k1, T.c_Sending.cl, T.c_Sending.n_told, lk_Sending_told, _, rfl, tIf_bit ?_⟩
  refine ⟨_, rfl, _, _, _, _, _, rfl, h1, T.c_LinkEnd.cl, T.c_LinkEnd.n_receiving, lk_LinkEnd_receiving, _, _, _, _, _, rfl, j1, T.c_Receiving.cl, T.c_Receiving.n_complete, lk_Receiving_complete, _, rfl, tIf_bit ?_⟩
  refine ⟨_, rfl, _, _, _, _, _, rfl, h1, T.c_LinkEnd.cl, T.c_LinkEnd.n_sending, lk_LinkEnd_sending, _, _, _, _, _, rfl, k1, T.c_Sending.cl, T.c_Sending.n_octets, lk_Sending_octets, so, _, rfl, .inl (SqL.of k2), ?_⟩
  refine ⟨_, rfl, _, _, _, _, _, rfl, h1, T.c_LinkEnd.cl, T.c_LinkEnd.n_sending, lk_LinkEnd_sending, _, _, _, _, _, rfl, k1, T.c_Sending.cl, T.c_Sending.n_pieces, lk_Sending_pieces, sp, _, rfl, .inl (SqL.of k3), ?_⟩
  refine ⟨_, rfl, _, _, _, _, _, rfl, h1, T.c_LinkEnd.cl, T.c_LinkEnd.n_receiving, lk_LinkEnd_receiving, _, _, _, _, _, rfl, j1, T.c_Receiving.cl, T.c_Receiving.n_ready, lk_Receiving_ready, rd, _, rfl, .inl (SqL.of j3), _, rfl, _, rfl, ?_⟩
  refine ⟨_, rfl, _, _, _, _, _, rfl, h1, T.c_LinkEnd.cl, T.c_LinkEnd.n_dropped, lk_LinkEnd_dropped, _, rfl, _, _, _, _, _, rfl, h1, T.c_LinkEnd.cl, T.c_LinkEnd.n_mended, lk_LinkEnd_mended, by show 7 ≤ sizeLine; decide, fun t nt => ?_⟩
  refine ⟨_, rfl, t, _, rfl, .inl (SqL.of upd_same), by show 2 ≤ sizeLine; decide, fun p1 n1 => ?_⟩
  have e1 := fun o' => (Ex.new (o := o') n1) _ _ (show _ = some (HO.lst [V.int ((nv x.rest).length : Nat), V.int ((ps.map fun y => V.ref y.1).length : Nat), V.int ((nv x.got).length : Nat), V.int (Fm11.bit x.told : Nat), V.int (Fm11.bit x.ended : Nat), V.int (x.dropped : Nat), V.int (x.mended : Nat)]) from upd_same (a := t))
  refine ⟨_, rfl, p1, t, _, _, rfl, rfl, upd_same, e1 _, by show 2 + 7 ≤ sizeLine; decide, fun p np => ?_⟩
  have ex2 := fun o' => (Ex.new nt).trans (Ex.new (o := o') n1)
  refine q.lay (hE0.ex (ex2 _)) (Grow.ex (ex2 _)) np ?_
  have e5 : (ps.map fun y => V.ref y.1).length = x.flight.length := by rw [k5, List.length_map, List.length_map]
  rw [nv_length, nv_length, e5]
  rfl
end
end Sl
/-! ## D21 -/
set_option Elab.async false
set_option linter.all false
set_option maxRecDepth 100000
set_option maxHeartbeats 4000000
namespace Sl
open PySem PySem.Spec PyProof.Rows L2 Evl
section
variable {P : Program} {w : World} {K : PySem.W.Frag} {mg : Str → Option Value} {base : Heap} {A : Adr}
theorem ok_LinkEnd_sent_as (T : Top K mg A) (G_Packet_init : FnOk P w K mg base CX0 1 A.f_Packet_init A.d_Packet_init ["self", "name", "kind", "number", "wanted", "room", "octets"] (sp_Packet_init K A)) (G_Receiving_room_left : FnOk P w K mg base CX0 1 A.f_Receiving_room_left A.d_Receiving_room_left ["self"] (sp_Receiving_room_left K A)) (G_row_of : FnOk P w K mg base CX0 3 A.f_row_of A.d_row_of ["code", "packet"] (sp_row_of K A)) : FnOk P w K mg base CX0 4 A.f_LinkEnd_sent_as A.d_LinkEnd_sent_as ["self", "part"] (sp_LinkEnd_sent_as K A) := by
  refine T.f_LinkEnd_sent_as.F.ok sc_LinkEnd_sent_as (fun vs H Q E h => by obtain ⟨_, _, _, _, _, _, rfl, _⟩ := h; rfl) (fun cdv Ar outer s H vs Q E hr h => ?_)
  obtain ⟨a, ca, pa, F, x, k, rfl, hE, hC, hP, hg, hby, hz, hk, q⟩ := h
  refine ⟨_, (pss_cons (ps_set (i := 2) sc_LinkEnd_sent_as.nd rfl (Or.inl rfl) (pe_make T.k_Packet.M G_Packet_init (hr.mono (by decide)) rfl T.k_Packet.g T.k_Packet.b .nil pass0 (pa_cons (pe_fld (pv 0) rfl) (pa_cons (pe_fld (pv 1) rfl) (pa_cons (pe_fld (pv 1) rfl) (pa_cons (pe_fld (pe_fld (pv 0) rfl) rfl) (pa_cons (pe_meth0 (pe_fld (pv 0) rfl) T.c_Receiving.cl T.f_Receiving_room_left.m G_Receiving_room_left (hr.mono (by decide)) T.f_Receiving_room_left.b .nil pass0) (pa_cons (pe_fld (pv 1) rfl) pa_nil))))))))
    (pss_one (ps_ret (pe_call G_row_of (hr.mono (by decide)) rfl T.f_row_of.g T.f_row_of.F.kp T.f_row_of.b .nil pass0 (pa_cons (pe_fld (pv 0) rfl) (pa_cons (pv 2) pa_nil)))))), ?_⟩
  obtain ⟨dx, s, r, Fs, Fr, h1, h2, h3, rfl, h5, h6, h7⟩ := hE
  obtain ⟨dp, o, p1, p2⟩ := hP
  have h3' := h3
  obtain ⟨dxr, kd, rd, hs, ⟨j1, j2, j3, j4, j5, j6⟩, hFR⟩ := h3
  refine ⟨_, rfl, _, _, _, _, _, rfl, h1, T.c_LinkEnd.cl, T.c_LinkEnd.n_name, lk_LinkEnd_name, _, rfl, _, _, _, _, _, rfl, p1, T.c_Part.cl, T.c_Part.n_kind, lk_Part_kind, _, rfl, _, _, _, _, _, rfl, p1, T.c_Part.cl, T.c_Part.n_number, lk_Part_number, _, rfl, _, _, _, _, _, rfl, h1, T.c_LinkEnd.cl, T.c_LinkEnd.n_receiving, lk_LinkEnd_receiving, _, _, _, _, _, rfl, j1, T.c_Receiving.cl, T.c_Receiving.n_wanted, lk_Receiving_wanted, ?_⟩
  refine ⟨_, rfl, _, _, _, _, _, rfl, h1, T.c_LinkEnd.cl, T.c_LinkEnd.n_receiving, lk_LinkEnd_receiving, _, _, _, rfl, j1, no_Receiving_room_left, r, Fr, x, rfl, h3', hg, _, rfl, _, _, _, _, _, rfl, p1, T.c_Part.cl, T.c_Part.n_octets, lk_Part_octets, ?_⟩
  intro pk dk npk ndk nex
  have x1 := (Ex.new (o := .own pk) ndk).trans (Ex.new (o := .ins A.c_Packet dk []) (by rw [upd_ne nex.symm]; exact npk))
  refine ⟨pk, dk, o, ⟨x.name, k.kind, k.seq, x.next, x.room, k.bytes⟩, rfl, upd_same, fun H1 hPk fr => ⟨rfl, ?_⟩⟩
  have ex : Ex H H1 := fun b u hb => fr b u (x1 _ _ hb) (ne_of_none hb npk)
  have k1 := ex _ _ h1
  refine ⟨_, rfl, _, _, _, _, _, rfl, k1, T.c_LinkEnd.cl, T.c_LinkEnd.n_code, lk_LinkEnd_code, _, rfl, ca, pk, ⟨x.name, k.kind, k.seq, x.next, x.room, k.bytes⟩, rfl, hC.ex ex, ⟨o, hPk, .of (ex _ _ p2)⟩, hby, hz, hk, fun p H2 np e2 hp => ?_⟩
  exact q p H2 (fresh_back ex np) (ex.trans e2) hp
theorem ok_LinkEnd_take (T : Top K mg A) (G_Receiving_is_short : FnOk P w K mg base CX0 2 A.f_Receiving_is_short A.d_Receiving_is_short ["self"] (sp_Receiving_is_short K A)) (G_Receiving_take : FnOk P w K mg base CX0 1 A.f_Receiving_take A.d_Receiving_take ["self", "most"] (sp_Receiving_take K A)) : FnOk P w K mg base CX0 3 A.f_LinkEnd_take A.d_LinkEnd_take ["self", "most"] (sp_LinkEnd_take K A) := by
  refine T.f_LinkEnd_take.F.ok sc_LinkEnd_take (fun vs H Q E h => by obtain ⟨_, _, _, _, _, rfl, _⟩ := h; rfl) (fun cdv Ar outer s H vs Q E hr h => ?_)
  obtain ⟨a, ca, n, F, x, rfl, hE, hg, q⟩ := h
  refine ⟨_, (pss_cons (ps_set (i := 2) sc_LinkEnd_take.nd rfl (Or.inl rfl) (pe_meth0 (pe_fld (pv 0) rfl) T.c_Receiving.cl T.f_Receiving_is_short.m G_Receiving_is_short (hr.mono (by decide)) T.f_Receiving_is_short.b .nil pass0))
    (pss_cons (ps_set (i := 3) sc_LinkEnd_take.nd rfl (Or.inl rfl) (pe_meth (pe_fld (pv 0) rfl) T.c_Receiving.cl T.f_Receiving_take.m G_Receiving_take (hr.mono (by decide)) T.f_Receiving_take.b .nil pass0 (pa_cons (pv 1) pa_nil)))
    (pss_cons (ps_if (pt_cmp (pc_isN (pv 3))) (pss_one (ps_ret (pe_lst (pa_cons (pe_un un_neg pe_int) pa_nil)))) pss_nil)
    (pss_cons (ps_if (PW.pt (pw_and (pt_val (pv 2)) (pw_and1 (pt_not (pt_val (pe_meth0 (pe_fld (pv 0) rfl) T.c_Receiving.cl T.f_Receiving_is_short.m G_Receiving_is_short (hr.mono (by decide)) T.f_Receiving_is_short.b .nil pass0)))))) (pss_one (ps_fld (pv 0) pe_bl rfl)) pss_nil)
    (pss_one (ps_ret (pe_op op_cat (pe_lst (pa_cons (pe_callB call_len_seq (by rfl) T.b_len PySem.boot_len (pa_cons (pv 3) pa_nil)) (pa_cons (pe_callB call_len_seq (by rfl) T.b_len PySem.boot_len (pa_cons (pv 3) pa_nil)) pa_nil))) (pv 3)))))))), ?_⟩
  have hE0 := hE
  obtain ⟨dx, s, r, Fs, Fr, h1, h2, h3, rfl, h5, h6, h7⟩ := hE
  have h3' := h3
  obtain ⟨dxr, kd, rd, hs, ⟨j1, j2, j3, j4, j5, j6⟩, hFR⟩ := h3
  unfold takeOut takeLink at q
  refine ⟨_, rfl, _, _, _, _, _, rfl, h1, T.c_LinkEnd.cl, T.c_LinkEnd.n_receiving, lk_LinkEnd_receiving, _, _, _, rfl, j1, no_Receiving_is_short, r, Fr, x, rfl, h3', hg, ?_⟩
  refine ⟨_, rfl, _, _, _, _, _, rfl, h1, T.c_LinkEnd.cl, T.c_LinkEnd.n_receiving, lk_LinkEnd_receiving, _, _, _, rfl, j1, no_Receiving_take, _, rfl, r, n, Fr, x, rfl, h3', fun c => ?_, fun c l H1 Fr' hR1 gr1 nl lF hl => ?_⟩
  · rw [if_pos c, if_pos c] at q
    refine ⟨_, rfl, _, rfl, iteT ⟨_, rfl, by show 1 ≤ sizeLine; decide, fun p np => ?_⟩⟩
    exact q.lay hE0 (Grow.refl _ _) np rfl
  rw [if_neg c, if_neg c] at q
  have hR1' := hR1
  obtain ⟨dxr1, kd1, rd1, hs1, ⟨m1, m2, m3, m4, m5, m6⟩, hFR1⟩ := hR1
  obtain ⟨e1, e2⟩ := EndAt.recv (G := []) (x' := { x with got := x.got.drop n }) h1 h2 h3' h5 h6 h7 (fun b hb => absurd hb List.not_mem_nil) hR1' gr1 rfl (fun z => z)
  have k1 := (gr1.get h6 h1).2
  have lE : l ∉ a :: (Fs ++ Fr') := fun z => by
    rcases List.mem_cons.mp z with z | z
    · rw [z, h1] at nl; cases nl
    rcases List.mem_append.mp z with z | z
    · exact h2.dom l z nl
    · exact lF z
  -- owes
  refine ⟨_, rfl, _, rfl, iteF ?_⟩
  have hx' : ({ x with got := x.got.drop n } : Fm11.Link).room = 4096 - (x.got.drop n).length := rfl
  have hdrop : (x.got.drop n).length ≤ 4096 := by rw [List.length_drop]; omega
  -- what's left to be done with the answer
  have fin : ∀ (H2 : Hp) (x2 : Fm11.Link), x2 = (x.take n).1 → EndAt A H2 a (a :: (Fs ++ Fr')) ca x2 → Grow (a :: (Fs ++ Fr)) H (a :: (Fs ++ Fr')) H2 → H2 l = some (.lst (nv (x.got.take n))) → (∀ b, H2 b = none → H1 b = none) →
      tRet (tOp rCat (tLst (tCons (tCB (fun xs H Q => ∃ p ys, xs = [.ref p] ∧ (SqL K H p ys ∨ SqT K H p ys) ∧ Q (.int ys.length) H) (tCons (tVar 3) tNil)) (tCons (tCB (fun xs H Q => ∃ p ys, xs = [.ref p] ∧ (SqL K H p ys ∨ SqT K H p ys) ∧ Q (.int ys.length) H) (tCons (tVar 3) tNil)) tNil))) (tVar 3)) { nx := fun x H' => Q V.non H', rt := Q } [some (.ref a), some (.int (n : Nat)), some (.bl (decide (x.room < 190))), some (.ref l)] H2 := fun H2 x2 hx2 hE2 g2 hl2 hd => by
    subst hx2
    refine ⟨_, rfl, l, _, rfl, .inl (SqL.of hl2), _, rfl, l, _, rfl, .inl (SqL.of hl2), by show 2 ≤ sizeLine; decide, fun p1 n1 => ?_⟩
    have y1 := fun o => (Ex.new (o := o) n1) _ _ hl2
    refine ⟨_, rfl, p1, l, _, _, rfl, rfl, upd_same, y1 _, by rw [nv_length, List.length_take]; exact sz_of (by show 2 + _ ≤ _; omega), fun p np => ?_⟩
    have ex := fun o => Ex.new (o := o) n1
    refine q.lay (hE2.ex (ex _)) (g2.trans (Grow.ex (ex _))) np ?_
    show [V.int ((nv (x.got.take n)).length : Nat), V.int ((nv (x.got.take n)).length : Nat)] ++ nv (x.got.take n) = V.int _ :: V.int _ :: iv _
    rw [nv_length, iv_nat]
    rfl
  have hown : (x.take n).1 = { x with got := x.got.drop n, owes := x.owes || (decide (x.room < 190) && decide (190 ≤ 4096 - (x.got.drop n).length)) } := rfl
  refine ⟨_, rfl, _, rfl, ?_⟩
  by_cases c1 : x.room < 190
  · rw [decide_eq_true c1] at hown fin ⊢
    refine iteT ⟨_, rfl, _, _, _, _, _, rfl, k1, T.c_LinkEnd.cl, T.c_LinkEnd.n_receiving, lk_LinkEnd_receiving, _, _, _, rfl, m1, no_Receiving_is_short, r, Fr', _, rfl, hR1', hdrop, _, rfl, ?_⟩
    rw [hx']
    by_cases c2 : 190 ≤ 4096 - (x.got.drop n).length
    · rw [decide_eq_true c2] at hown
      have d2 : decide (4096 - (x.got.drop n).length < 190) = false := decide_eq_false (by omega)
      rw [d2]
      refine iteT ?_
      refine ⟨_, rfl, a, A.c_LinkEnd, dx, _, rfl, k1, T.c_LinkEnd.cl, T.c_LinkEnd.n_owes, by show 8 < 1000; decide, ?_⟩
      unfold endV
      rw [pt_LinkEnd_owes]
      have h2b := h2.on (H' := H1) fun b o hb e => (gr1.get (fun z => h7 b hb z) e).2
      have aF1 : a ∉ Fr' := (gr1.get h6 h1).1
      have dis : ∀ b ∈ Fs, b ∉ Fr' := fun b hb => by
        cases e : H b with
        | none => exact absurd e (h2.dom b hb)
        | some o => exact (gr1.get (fun z => h7 b hb z) e).1
      refine fin _ { x with got := x.got.drop n, owes := true } ?_ ?_ (e2.trans (Grow.put _ (List.mem_cons_self ..))) ?_ (fun b hb => ?_)
      · rw [hown]
        congr 1
        cases x.owes <;> rfl
      · exact EndAt.field (x := { x with got := x.got.drop n }) h2b hR1' h5 aF1 dis rfl (fun _ z => z) (fun _ z => z)
      · rw [upd_ne (fun z => lE (by rw [z]; exact List.mem_cons_self ..))]
        exact hl
      · by_cases d : b = a
        · rw [d, upd_same] at hb; cases hb
        · rw [upd_ne d] at hb; exact hb
    · rw [decide_eq_false c2] at hown
      have d2 : decide (4096 - (x.got.drop n).length < 190) = true := decide_eq_true (by omega)
      rw [d2]
      refine iteF ?_
      refine fin H1 { x with got := x.got.drop n } ?_ e1 e2 hl (fun b hb => hb)
      rw [hown]
      congr 1
      cases x.owes <;> rfl
  · rw [decide_eq_false c1] at hown fin ⊢
    refine iteF (iteF ?_)
    refine fin H1 { x with got := x.got.drop n } ?_ e1 e2 hl (fun b hb => hb)
    rw [hown]
    congr 1
    cases x.owes <;> rfl
end
end Sl
/-! ## D22 -/
set_option Elab.async false
set_option linter.all false
set_option maxRecDepth 100000
set_option maxHeartbeats 4000000
namespace Sl
open PySem PySem.Spec PyProof.Rows L2 Evl
section
variable {P : Program} {w : World} {K : PySem.W.Frag} {mg : Str → Option Value} {base : Heap} {A : Adr}
theorem heard_v {x : Fm11.Link} {n m : Nat} (ca s r : Addr) : endV ca s r (x.heard n m) = endV ca s r x := by unfold Fm11.Link.heard; split <;> rfl
theorem heard_recv {x : Fm11.Link} {n m : Nat} {H : Hp} {r : Addr} {F : List Addr} (h : RecvAt A H r F x) : RecvAt A H r F (x.heard n m) := by unfold Fm11.Link.heard; split <;> exact h
theorem heard_ok {x : Fm11.Link} {n m : Nat} (h : RecvOk x) : RecvOk (x.heard n m) := by unfold Fm11.Link.heard; split <;> exact h
theorem heard_held {x : Fm11.Link} {n m : Nat} : (x.heard n m).held = x.held := by unfold Fm11.Link.heard; split <;> rfl
theorem heard_owes {x : Fm11.Link} {n m : Nat} : (x.heard n m).owes = x.owes := by unfold Fm11.Link.heard; split <;> rfl
theorem settle_v {x : Fm11.Link} (n : Nat) (ca s r : Addr) : endV ca s r (x.settle n) = endV ca s r x := by
  induction n generalizing x with
  | zero => rfl
  | succ n ih =>
    unfold Fm11.Link.settle
    split
    · rw [ih]; rfl
    · split <;> rfl
theorem settle_send {A : Adr} {x : Fm11.Link} (n : Nat) {H : Hp} {s : Addr} {F : List Addr} (h : SendAt A H s F x) : SendAt A H s F (x.settle n) := by
  induction n generalizing x with
  | zero => exact h
  | succ n ih =>
    unfold Fm11.Link.settle
    split
    · exact ih h
    · split
      · exact h
      · exact h
theorem accept_v {x : Fm11.Link} {k : Fm11.Packet} (ca s r : Addr) : endV ca s r (acceptLink x k) = endV ca s r x := by
  unfold acceptLink keepLink noteLink
  split
  · rw [settle_v]; split <;> rfl
  split
  · rw [settle_v]; split <;> rfl
  · rfl
theorem accept_send {A : Adr} {x : Fm11.Link} {k : Fm11.Packet} {H : Hp} {s : Addr} {F : List Addr} (h : SendAt A H s F x) : SendAt A H s F (acceptLink x k) := by
  unfold acceptLink keepLink noteLink
  split
  · refine settle_send _ ?_
    split <;> exact h
  split
  · refine settle_send _ ?_
    split <;> exact h
  · exact h
theorem ok_LinkEnd_accept_packet (T : Top K mg A) (G_Receiving_accept : FnOk P w K mg base CX0 3 A.f_Receiving_accept A.d_Receiving_accept ["self", "packet"] (sp_Receiving_accept K A)) (G_Sending_answered : FnOk P w K mg base CX0 1 A.f_Sending_answered A.d_Sending_answered ["self", "wanted", "room"] (sp_Sending_answered K A)) : FnOk P w K mg base CX0 4 A.f_LinkEnd_accept_packet A.d_LinkEnd_accept_packet ["self", "packet"] (sp_LinkEnd_accept_packet K A) := by
  refine T.f_LinkEnd_accept_packet.F.ok sc_LinkEnd_accept_packet (fun vs H Q E h => by obtain ⟨_, _, _, _, _, _, _, rfl, _⟩ := h; rfl) (fun cdv Ar outer s H vs Q E hr h => ?_)
  obtain ⟨a, ca, pk, o, F, x, k, rfl, hE, hP, hok, hh, hfl, q⟩ := h
  refine ⟨_, (pss_cons (ps_expr (pe_meth (pe_fld (pv 0) rfl) T.c_Sending.cl T.f_Sending_answered.m G_Sending_answered (hr.mono (by decide)) T.f_Sending_answered.b .nil pass0 (pa_cons (pe_fld (pv 1) rfl) (pa_cons (pe_fld (pv 1) rfl) pa_nil))))
    (pss_cons (ps_if (pt_cmpR op_ne (pe_fld (pv 1) rfl) (pe_glob (v := .int 0) rfl T.g_ANSWER ⟨_, rfl⟩) (nomark _)) (pss_one (ps_fld (pv 0) pe_bl rfl)) pss_nil)
    (pss_one (ps_expr (pe_meth (pe_fld (pv 0) rfl) T.c_Receiving.cl T.f_Receiving_accept.m G_Receiving_accept (hr.mono (by decide)) T.f_Receiving_accept.b .nil pass0 (pa_cons (pv 1) pa_nil)))))), ?_⟩
  have hE0 := hE
  obtain ⟨dx, s, r, Fs, Fr, h1, h2, h3, rfl, h5, h6, h7⟩ := hE
  have h2' := h2
  obtain ⟨dxs, so, sp, ps, ⟨k1, k2, k3, k4, k5, k6⟩, hFF⟩ := h2
  obtain ⟨dp, hpk, ho⟩ := hP
  obtain ⟨pkF, hpk'⟩ := out_some hpk
  obtain ⟨oF, ho'⟩ := out_some ho
  refine ⟨_, rfl, _, _, _, _, _, rfl, h1, T.c_LinkEnd.cl, T.c_LinkEnd.n_sending, lk_LinkEnd_sending, _, _, _, rfl, k1, no_Sending_answered, _, rfl, _, _, _, _, _, rfl, hpk', T.c_Packet.cl, T.c_Packet.n_wanted, lk_Packet_wanted, _, rfl, _, _, _, _, _, rfl, hpk', T.c_Packet.cl, T.c_Packet.n_room, lk_Packet_room, s, k.ack, k.room, Fs, x, rfl, h2', hfl, fun H1 Fs' hS1 gr => ?_⟩
  have hR1 : RecvAt A H1 r Fr x := h3.on fun b o hb e => (gr.get (fun z => h7 b z hb) e).2
  obtain ⟨e1, e2⟩ := EndAt.sent (x' := x.heard k.ack k.room) h1 h2' h3 h5 h6 h7 hS1 gr (heard_v ca s r) heard_recv
  obtain ⟨pk1, hpk1⟩ := e2.get pkF hpk'
  obtain ⟨o1, ho1⟩ := e2.get oF ho'
  obtain ⟨aFs', a1⟩ := gr.get h5 h1
  have dis : ∀ b ∈ Fs', b ∉ Fr := fun b hb hf => by
    cases e : H b with
    | none => exact h3.dom b hf e
    | some u => exact (gr.get (fun z => h7 b z hf) e).1 hb
  have fin : ∀ (H2 : Hp) (x2 : Fm11.Link), x2 = { x.heard k.ack k.room with owes := x.owes || k.kind != 0 } → EndAt A H2 a (a :: (Fs' ++ Fr)) ca x2 → Grow (a :: (Fs ++ Fr)) H (a :: (Fs' ++ Fr)) H2 → H2 a = some (.ins A.c_LinkEnd dx (endV ca s r x2)) → SendAt A H2 s Fs' x2 → RecvAt A H2 r Fr x2 →
      tDrop (tMeth A.c_Receiving (Str.ofString "accept") (sp_Receiving_accept K A) [] E0 (tFld K (tVar 0) (Str.ofString "receiving")) (tCons (tVar 1) tNil)) { nx := fun x H' => Q V.non H', rt := Q } (L2.start [Str.ofString "self", Str.ofString "packet"] [V.ref a, V.ref pk]) H2 := fun H2 x2 hx hE2 g2 b1 b2 b3 => by
    have b3' := b3
    obtain ⟨dxr, kd, rd, hs, ⟨j1, j2, j3, j4, j5, j6⟩, hFR⟩ := b3
    obtain ⟨pk2, hpk2⟩ := g2.get pkF hpk'
    obtain ⟨o2, ho2⟩ := g2.get oF ho'
    have pkR : pk ∉ Fr := fun z => pk2 (List.mem_cons_of_mem _ (List.mem_append.mpr (.inr z)))
    have oR : o ∉ Fr := fun z => o2 (List.mem_cons_of_mem _ (List.mem_append.mpr (.inr z)))
    have ok2 : RecvOk x2 := by rw [hx]; exact heard_ok (n := k.ack) (m := k.room) hok
    have hl2 : x2.held.length ≤ 100000 := by rw [hx]; show (x.heard k.ack k.room).held.length ≤ 100000; rw [heard_held]; exact hh
    refine ⟨_, rfl, _, _, _, _, _, rfl, b1, T.c_LinkEnd.cl, T.c_LinkEnd.n_receiving, lk_LinkEnd_receiving, _, _, _, rfl, j1, no_Receiving_accept, _, rfl, r, pk, o, Fr, x2, k, rfl, b3', ⟨dp, out_mk pkR hpk2, out_mk oR ho2⟩, ok2, hl2, fun H3 Fr' hR3 g3 => ?_⟩
    have hx' : x.packet k = acceptLink x2 k := by
      rw [hx]
      unfold Fm11.Link.packet
      rw [← heard_owes (x := x) (n := k.ack) (m := k.room)]
      rfl
    rw [hx'] at q
    have hvx : endV ca s r (acceptLink x2 k) = endV ca s r x2 := accept_v ca s r
    obtain ⟨c1, c2⟩ := EndAt.recv (G := [o]) (x' := acceptLink x2 k) b1 b2 b3' (fun z => aFs' z) h6 dis (fun b hb => by rw [List.mem_singleton.mp hb]; exact o2) hR3 g3 hvx accept_send
    refine q H3 _ c1 (Grow.trans ?_ c2)
    exact Grow.mk fun b u d1 d2 => by
      have d3 : b ∉ a :: (Fs ++ Fr) := fun z => d1 (List.mem_cons_of_mem _ z)
      obtain ⟨d4, d5⟩ := g2.get d3 d2
      exact ⟨fun z => (List.mem_cons.mp z).elim (fun z => d1 (by rw [z]; exact List.mem_cons_self ..)) d4, d5⟩
  refine ⟨_, rfl, _, _, _, _, _, rfl, hpk1, T.c_Packet.cl, T.c_Packet.n_kind, lk_Packet_kind, rfl, _, rfl, ite2 (fun z => ?_) (fun z => ?_)⟩
  · have hk : (k.kind != 0) = true := by
      cases e : k.kind with
      | zero => rw [e] at z; cases z
      | succ m => rfl
    have a2 : H1 a = some (HO.ins A.c_LinkEnd dx (endV ca s r (x.heard k.ack k.room))) := by rw [heard_v]; exact a1
    refine ⟨_, rfl, a, A.c_LinkEnd, dx, _, rfl, a2, T.c_LinkEnd.cl, T.c_LinkEnd.n_owes, by show 8 < 1000; decide, ?_⟩
    unfold endV
    rw [pt_LinkEnd_owes]
    refine fin _ { x.heard k.ack k.room with owes := true } ?_ (EndAt.field (x := x.heard k.ack k.room) hS1 (heard_recv hR1) aFs' h6 dis rfl (fun _ z => z) (fun _ z => z)) (e2.trans (Grow.put _ (List.mem_cons_self ..))) ?_ ?_ ?_
    · rw [hk]
      congr 1
      cases x.owes <;> rfl
    · rw [upd_same]
      rfl
    · exact SendAt.on (x := x.heard k.ack k.room) hS1 fun b u hb e => by rw [upd_ne (fun z => aFs' (by rw [← z]; exact hb))]; exact e
    · exact RecvAt.on (x := x.heard k.ack k.room) (heard_recv hR1) fun b u hb e => by rw [upd_ne (fun z => h6 (by rw [← z]; exact hb))]; exact e
  · have hk : (k.kind != 0) = false := by
      cases e : k.kind with
      | zero => rfl
      | succ m => 
        refine absurd ?_ z
        rw [e]
        have : decide (V.int ((m + 1 : Nat) : Int) = V.int 0) = false := decide_eq_false fun y => by have := V.int.inj y; omega
        rw [this]
        rfl
    have a2 : H1 a = some (HO.ins A.c_LinkEnd dx (endV ca s r (x.heard k.ack k.room))) := by rw [heard_v]; exact a1
    refine fin H1 (x.heard k.ack k.room) ?_ e1 e2 a2 hS1 (heard_recv hR1)
    rw [hk, ← heard_owes (x := x) (n := k.ack) (m := k.room)]
    generalize x.heard k.ack k.room = y
    cases y with
    | mk a b c d e f g h i j k l m n o p q r => cases p <;> rfl
end
end Sl
/-! ## D23 -/
set_option Elab.async false
set_option linter.all false
set_option maxRecDepth 100000
set_option maxHeartbeats 4000000
namespace Sl
open PySem PySem.Spec PyProof.Rows L2 Evl
section
variable {P : Program} {w : World} {K : PySem.W.Frag} {mg : Str → Option Value} {base : Heap} {A : Adr}
theorem settle_mended (m : Nat) (x : Fm11.Link) (n : Nat) : ({ x with mended := m } : Fm11.Link).settle n = { x.settle n with mended := m } := by
  induction n generalizing x with
  | zero => rfl
  | succ n ih =>
    unfold Fm11.Link.settle
    cases e : x.held.find? fun p => p.1 == x.next with
    | some p =>
      simp only [e]
      exact ih { x with got := x.got ++ p.2, next := x.next + p.2.length, held := x.held.filter fun q => q.1 != p.1 }
    | none =>
      simp only [e]
      split <;> rfl
theorem heard_mended (m : Nat) (x : Fm11.Link) (a b : Nat) : ({ x with mended := m } : Fm11.Link).heard a b = { x.heard a b with mended := m } := by
  unfold Fm11.Link.heard
  show (if x.base ≤ a ∧ a ≤ x.sent then _ else _) = _
  by_cases c : x.base ≤ a ∧ a ≤ x.sent
  · rw [if_pos c, if_pos c]
  · rw [if_neg c, if_neg c]
theorem ite_f {α β : Type} (f : α → β) {c : Prop} [Decidable c] (a b : α) : (if c then f a else f b) = f (if c then a else b) := by
  split <;> rfl
def setM (m : Nat) (x : Fm11.Link) : Fm11.Link := { x with mended := m }
theorem keep_mended (m : Nat) (x : Fm11.Link) (k : Fm11.Packet) : keepLink (setM m x) k = setM m (keepLink x k) := ite_f (setM m) { x with held := x.held ++ [(k.seq, k.bytes)] } x
theorem note_mended (m : Nat) (x : Fm11.Link) (n : Nat) : noteLink (setM m x) n = setM m (noteLink x n) := ite_f (setM m) { x with last := some n } x
theorem accept_mended (m : Nat) (x : Fm11.Link) (k : Fm11.Packet) : acceptLink (setM m x) k = setM m (acceptLink x k) := by
  unfold acceptLink
  rw [keep_mended, note_mended]
  have h1 : (setM m (keepLink x k)).settle 65 = setM m ((keepLink x k).settle 65) := settle_mended m _ _
  have h2 : (setM m (noteLink x k.seq)).settle 65 = setM m ((noteLink x k.seq).settle 65) := settle_mended m _ _
  rw [h1, h2]
  by_cases c : k.kind = 1
  · rw [if_pos c, if_pos c]
  rw [if_neg c, if_neg c]
  by_cases d : k.kind = 2
  · rw [if_pos d, if_pos d]
  · rw [if_neg d, if_neg d]
theorem packet_accept (x : Fm11.Link) (k : Fm11.Packet) : x.packet k = acceptLink { x.heard k.ack k.room with owes := (x.heard k.ack k.room).owes || k.kind != 0 } k := rfl
theorem packet_mended (m : Nat) (x : Fm11.Link) (k : Fm11.Packet) : ({ x with mended := m } : Fm11.Link).packet k = { x.packet k with mended := m } := by
  rw [packet_accept, packet_accept, heard_mended]
  exact accept_mended m { x.heard k.ack k.room with owes := (x.heard k.ack k.room).owes || k.kind != 0 } k
theorem ok_LinkEnd_came (T : Top K mg A) (G_LinkEnd_accept_packet : FnOk P w K mg base CX0 4 A.f_LinkEnd_accept_packet A.d_LinkEnd_accept_packet ["self", "packet"] (sp_LinkEnd_accept_packet K A)) (G_packet_of : FnOk P w K mg base CX0 5 A.f_packet_of A.d_packet_of ["code", "row"] (sp_packet_of K A)) : FnOk P w K mg base CX0 6 A.f_LinkEnd_came A.d_LinkEnd_came ["self", "octets"] (sp_LinkEnd_came K A) := by
  refine T.f_LinkEnd_came.F.ok sc_LinkEnd_came (fun vs H Q E h => by obtain ⟨_, _, _, _, _, _, rfl, _⟩ := h; rfl) (fun cdv Ar outer s H vs Q E hr h => ?_)
  obtain ⟨a, ca, o, F, x, l, rfl, hE, hC, ho, hby, hok, hh, hfl, q⟩ := h
  refine ⟨_, (pss_cons (ps_if (pt_cmpR op_gt (pe_callB call_len_seq (by rfl) T.b_len PySem.boot_len (pa_cons (pv 1) pa_nil)) (pe_glob (v := .int 255) rfl T.g_LONGEST_ROW ⟨_, rfl⟩) (nomark _)) (pss_one (ps_ret (pe_lst (pa_cons (pe_un un_neg pe_int) pa_nil)))) pss_nil)
    (pss_cons (ps_set (i := 2) sc_LinkEnd_came.nd rfl (Or.inl rfl) (pe_call G_packet_of (hr.mono (by decide)) rfl T.f_packet_of.g T.f_packet_of.F.kp T.f_packet_of.b .nil pass0 (pa_cons (pe_fld (pv 0) rfl) (pa_cons (pv 1) pa_nil))))
    (pss_cons (ps_if (PW.pt (pw_or (pt_cmp (pc_isN (pv 2))) (pw_or1 (pt_cmpR op_ne (pe_fld (pe_ix ix_tup (pv 2) pe_int (fun _ _ => rfl)) rfl) (pe_fld (pv 0) rfl) (nomark _))))) (pss_cons (ps_fldaug (pv 0) pe_int in_add)
    (pss_one (ps_ret (pe_lst (pa_cons (pe_un un_neg pe_int) pa_nil))))) pss_nil)
    (pss_cons (ps_fldaug (pv 0) (pe_ix ix_tup (pv 2) pe_int (fun _ _ => rfl)) in_add)
    (pss_cons (ps_expr (pe_meth (pv 0) T.c_LinkEnd.cl T.f_LinkEnd_accept_packet.m G_LinkEnd_accept_packet (hr.mono (by decide)) T.f_LinkEnd_accept_packet.b .nil pass0 (pa_cons (pe_ix ix_tup (pv 2) pe_int (fun _ _ => rfl)) pa_nil)))
    (pss_one (ps_ret (pe_lst (pa_cons pe_int pa_nil))))))))), ?_⟩
  have hE0 := hE
  obtain ⟨dx, s, r, Fs, Fr, h1, h2, h3, rfl, h5, h6, h7⟩ := hE
  obtain ⟨oF, ho'⟩ := out_some ho
  unfold cameCode cameLink at q
  refine ⟨_, rfl, o, _, rfl, .inl (SqL.of ho'), _, _, rfl, rfl, _, rfl, ite2 (fun z => ?_) (fun z => ?_)⟩
  · have hz : 255 < l.length := by have := of_decide_eq_true z; rw [nv_length] at this; omega
    rw [if_pos hz, if_pos hz] at q
    refine ⟨_, rfl, by show 1 ≤ sizeLine; decide, fun p np => ?_⟩
    exact q.lay hE0 (Grow.refl _ _) np rfl
  have hz : ¬ 255 < l.length := fun y => z (decide_eq_true (by rw [nv_length]; omega))
  rw [if_neg hz, if_neg hz] at q
  have drop : ∀ H1 : Hp, Ex H H1 → (x.came l) = (false, { x with dropped := x.dropped + 1 }) → ∀ σ : L2.St, σ[0]? = some (some (V.ref a)) → tSeq (sFldAug K (tVar 0) (tC (V.int 1)) rAdd (Str.ofString "dropped")) (tRet (tLst (tCons (tUn (rU fun i => V.int (-i)) (tC (V.int 6))) tNil))) { nx := fun x H' => Q V.non H', rt := Q } σ H1 := fun H1 e1 hx σ hσ => by
    rw [hx, if_neg (show ¬ (false = true) by decide)] at q
    have k1 := e1 _ _ h1
    refine ⟨_, hσ, a, A.c_LinkEnd, dx, _, _, rfl, k1, T.c_LinkEnd.cl, T.c_LinkEnd.n_dropped, lk_LinkEnd_dropped, _, _, rfl, rfl, dx, _, k1, by show 8 < 1000; decide, ?_⟩
    unfold endV
    rw [pt_LinkEnd_dropped]
    refine ⟨_, rfl, by show 1 ≤ sizeLine; decide, fun p np => ?_⟩
    refine q.lay (EndAt.field (x := x) (x' := { x with dropped := x.dropped + 1 }) (h2.ex e1) (h3.ex e1) h5 h6 h7 rfl (fun _ z => z) (fun _ z => z)) ((Grow.ex e1).trans (Grow.put _ (List.mem_cons_self ..))) np rfl
  refine ⟨_, rfl, _, _, _, _, _, rfl, h1, T.c_LinkEnd.cl, T.c_LinkEnd.n_code, lk_LinkEnd_code, _, rfl, ca, o, l, rfl, hC.ex (out_le _ _), SqL.of ho', hby, fun hN H1 e1 => ?_, fun k n hS t pk o2 H1 nt npk no2 e1 ht hP => ?_⟩
  · refine ⟨_, rfl, _, rfl, iteT (iteT ?_)⟩
    refine drop H1 e1 ?_ _ rfl
    unfold Fm11.Link.came
    rw [hN]
  have k1 := e1 _ _ h1
  obtain ⟨dp, p1, p2⟩ := hP
  refine ⟨_, rfl, _, rfl, iteF ?_⟩
  refine ⟨_, rfl, t, _, _, _, rfl, rfl, SqT.of ht, rfl, _, _, _, _, _, rfl, p1, T.c_Packet.cl, T.c_Packet.n_name, lk_Packet_name, _, rfl, _, _, _, _, _, rfl, k1, T.c_LinkEnd.cl, T.c_LinkEnd.n_name, lk_LinkEnd_name, rfl, _, rfl, ?_⟩
  by_cases c : k.name = x.name
  · have d : (!decide (V.int (k.name : Nat) = V.int (x.name : Nat))) = false := by rw [c]; simp
    rw [d]
    refine iteF ?_
    have hx : x.came l = (true, { x.packet k with mended := x.mended + n }) := by
      unfold Fm11.Link.came
      rw [hS]
      exact if_pos c
    rw [hx, if_pos (show true = true from rfl)] at q
    refine ⟨_, rfl, a, A.c_LinkEnd, dx, _, _, rfl, k1, T.c_LinkEnd.cl, T.c_LinkEnd.n_mended, lk_LinkEnd_mended, _, rfl, t, _, _, _, rfl, rfl, SqT.of ht, rfl, _, _, rfl, rfl, dx, _, k1, by show 8 < 1000; decide, ?_⟩
    unfold endV
    rw [pt_LinkEnd_mended]
    have hE2 := EndAt.field (x := x) (x' := { x with mended := x.mended + n }) (h2.ex e1) (h3.ex e1) h5 h6 h7 rfl (fun _ z => z) (fun _ z => z) (A := A) (a := a) (dx := dx) (s := s) (r := r) (ca := ca)
    have g2 : Grow (a :: (Fs ++ Fr)) H (a :: (Fs ++ Fr)) (upd H1 a (.ins A.c_LinkEnd dx (endV ca s r { x with mended := x.mended + n }))) := (Grow.ex e1).trans (Grow.put _ (List.mem_cons_self ..))
    have k2 : upd H1 a (.ins A.c_LinkEnd dx (endV ca s r { x with mended := x.mended + n })) a = some (.ins A.c_LinkEnd dx (endV ca s r { x with mended := x.mended + n })) := upd_same
    have at2 : upd H1 a (.ins A.c_LinkEnd dx (endV ca s r { x with mended := x.mended + n })) t = some (.tup [.int (n : Nat), .ref pk]) := by
      rw [upd_ne (ne_of_none h1 nt).symm]
      exact ht
    have ap2 := (upd_ne (H := H1) (o := (.ins A.c_LinkEnd dx (endV ca s r { x with mended := x.mended + n }))) (ne_of_none h1 npk).symm).trans p1
    have ao2 := (upd_ne (H := H1) (o := (.ins A.c_LinkEnd dx (endV ca s r { x with mended := x.mended + n }))) (ne_of_none h1 no2).symm).trans p2
    generalize hU : upd H1 a (.ins A.c_LinkEnd dx (endV ca s r { x with mended := x.mended + n })) = U at hE2 g2 k2 at2 ap2 ao2
    have hU' : upd H1 a (.ins A.c_LinkEnd dx (fl_LinkEnd (V.ref ca) (V.int (x.name : Nat)) (V.int (x.now : Nat)) (V.ref s) (V.ref r) (V.bl x.owes) (V.int (x.dropped : Nat)) (V.int ((x.mended : Int) + (n : Int))))) = U := hU
    rw [hU']
    refine ⟨_, rfl, _, _, _, rfl, k2, no_LinkEnd_accept_packet, _, rfl, t, _, _, _, rfl, rfl, SqT.of at2, rfl, a, ca, pk, o2, a :: (Fs ++ Fr), { x with mended := x.mended + n }, k, rfl, hE2, ⟨dp, out_mk (hE0.fresh npk) ap2, out_mk (hE0.fresh no2) ao2⟩, hok, hh, hfl, fun H3 F3 hE3 g3 => ?_⟩
    refine ⟨by show 1 ≤ sizeLine; decide, fun p np => ?_⟩
    rw [packet_mended] at hE3
    refine q.lay hE3 (Grow.trans ?_ g3) np rfl
    exact Grow.mk fun b u d1 d2 => by
      obtain ⟨d4, d5⟩ := g2.get d1 d2
      exact ⟨fun z => (List.mem_cons.mp z).elim (ne_of_none d2 no2) d4, d5⟩
  · have d : (!decide (V.int (k.name : Nat) = V.int (x.name : Nat))) = true := by
      rw [decide_eq_false fun y => c (by have := V.int.inj y; omega)]
      rfl
    rw [d]
    refine iteT ?_
    refine drop H1 e1 ?_ _ rfl
    unfold Fm11.Link.came
    rw [hS]
    exact if_neg c
end
end Sl
/-! ## D24 -/
set_option Elab.async false
set_option linter.all false
set_option maxRecDepth 100000
set_option maxHeartbeats 4000000
namespace Sl
open PySem PySem.Spec PyProof.Rows L2 Evl
section
variable {P : Program} {w : World} {K : PySem.W.Frag} {mg : Str → Option Value} {base : Heap} {A : Adr}
/-- what goes out is of this link -/
structure GoodP (x : Fm11.Link) (k : Fm11.Packet) : Prop where
  nm : k.name = x.name
  ak : k.ack = x.next
  rm : k.room = x.room
  oct : Gf.By k.bytes
  ln : k.bytes.length ≤ 190
  kd : k.kind < 256
def formL (x : Fm11.Link) (fl : List Fm11.Piece) (sn : Nat) (en : Bool) (ak : Nat) : Fm11.Link := { x with flight := fl, sent := sn, ending := en, asks := ak }
theorem moreAt_form (d k : Nat) (x : Fm11.Link) : ∃ fl sn en, (moreAt d k x).1 = formL x fl sn en x.asks ∧ (moreAt d k x).2.length ≤ k ∧ ((∀ p ∈ x.flight, p.len ≤ 190 ∧ (p.often ≤ 1 ∨ p ∈ x.flight)) → ∀ p ∈ fl, p.len ≤ 190 ∧ (p.often ≤ 1 ∨ p ∈ x.flight)) ∧ (x.flight.length ≤ 8 → fl.length ≤ 8) := by
  induction k generalizing x with
  | zero => exact ⟨x.flight, x.sent, x.ending, rfl, by simp [moreAt], fun h => h, fun h => h⟩
  | succ k ih =>
    unfold moreAt
    split
    · exact ⟨x.flight, x.sent, x.ending, rfl, by simp, fun h => h, fun h => h⟩
    rename_i c
    split
    · obtain ⟨fl, sn, en, e, e2, e3, e4⟩ := ih (newLink x d)
      refine ⟨fl, sn, en, e, by simpa using e2, fun h p hp => ?_, fun h => e4 ?_⟩
      · have hn : newLen x ≤ 190 := Nat.min_le_left ..
        have h2 : ∀ q ∈ (newLink x d).flight, q.len ≤ 190 ∧ (q.often ≤ 1 ∨ q ∈ (newLink x d).flight) := fun q hq => by
          refine ⟨?_, .inr hq⟩
          rcases List.mem_append.mp hq with hq | hq
          · exact (h q hq).1
          · rw [List.mem_singleton.mp hq]
            exact hn
        obtain ⟨f1, f2⟩ := e3 h2 p hp
        refine ⟨f1, ?_⟩
        rcases f2 with f2 | f2
        · exact .inl f2
        rcases List.mem_append.mp f2 with f2 | f2
        · exact .inr f2
        · rw [List.mem_singleton.mp f2]
          exact .inl (Nat.le_refl 1)
      · have c' : ¬ 8 ≤ x.flight.length := c
        show (x.flight ++ [_]).length ≤ 8
        rw [List.length_append]
        show x.flight.length + 1 ≤ 8
        omega
    · exact ⟨x.flight, x.sent, x.ending, rfl, by simp, fun h => h, fun h => h⟩
theorem piece_good {x : Fm11.Link} {p : Fm11.Piece} (hb : Gf.By x.rest) (hp : p.len ≤ 190) : GoodP x (x.piece p) := by
  refine ⟨rfl, rfl, rfl, (hb.drop _).take _, ?_, ?_⟩
  · show ((x.rest.drop _).take p.len).length ≤ 190
    rw [List.length_take]
    omega
  · show (if p.len = 0 then 2 else 1) < 256
    split <;> decide
theorem plain_good {x : Fm11.Link} (k : Nat) (hk : k < 256) : GoodP x (x.plain k) := ⟨rfl, rfl, rfl, Gf.By.nil, Nat.zero_le _, hk⟩
theorem good_form {x : Fm11.Link} {fl : List Fm11.Piece} {sn : Nat} {en : Bool} {ak : Nat} {k : Fm11.Packet} (h : GoodP (formL x fl sn en ak) k) : GoodP x k := ⟨h.nm, h.ak, h.rm, h.oct, h.ln, h.kd⟩
theorem moreAt_good (d k : Nat) (x : Fm11.Link) (hb : Gf.By x.rest) : ∀ p ∈ (moreAt d k x).2, GoodP x p := by
  induction k generalizing x with
  | zero => exact fun p hp => absurd hp List.not_mem_nil
  | succ k ih =>
    unfold moreAt
    split
    · exact fun p hp => absurd hp List.not_mem_nil
    split
    · intro p hp
      rcases List.mem_cons.mp hp with e | hp
      · rw [e]
        exact piece_good hb (Nat.min_le_left ..)
      · have := ih (newLink x d) hb p hp
        exact ⟨this.nm, this.ak, this.rm, this.oct, this.ln, this.kd⟩
    · exact fun p hp => absurd hp List.not_mem_nil
theorem more_is (k : Nat) (x : Fm11.Link) : x.more k = moreAt (x.now + 4) k x := by
  induction k generalizing x with
  | zero => rfl
  | succ k ih =>
    unfold Fm11.Link.more moreAt
    dsimp only
    by_cases c : Fm11.FLIGHT ≤ x.flight.length
    · rw [if_pos c, if_pos c]
    rw [if_neg c, if_neg c]
    by_cases c2 : mayNew x
    · rw [if_pos c2]
      refine (if_pos c2).trans ?_
      have e := ih (newLink x (x.now + 4))
      have e2 : (newLink x (x.now + 4)).now = x.now := rfl
      rw [e2] at e
      rw [← e]
      rfl
    · rw [if_neg c2]
      exact if_neg c2
theorem parts_form (x : Fm11.Link) (t : Nat) : ∃ fl sn en ak, partsLink x t = formL x fl sn en ak := by
  obtain ⟨fl, sn, en, e, e2⟩ := moreAt_form (t + 4) 8 (againLink x t)
  refine ⟨fl, sn, en, (partsLink x t).asks, ?_⟩
  unfold partsLink
  rw [e]
  rfl
def nowL (x : Fm11.Link) : Fm11.Link := { x with now := x.now + 1 }
def calmL (x : Fm11.Link) : Fm11.Link := { x with owes := false }
theorem tick_is (x : Fm11.Link) : x.tick = (calmL (partsLink (nowL x) (x.now + 1)), if partsOut (nowL x) (x.now + 1) = [] ∧ x.owes = true then [(partsLink (nowL x) (x.now + 1)).plain 0] else partsOut (nowL x) (x.now + 1)) := by
  have hm : (againLink (nowL x) (x.now + 1)).more Fm11.FLIGHT = moreAt (x.now + 1 + 4) 8 (againLink (nowL x) (x.now + 1)) := more_is 8 _
  obtain ⟨fl, sn, en, e, -⟩ := moreAt_form (x.now + 1 + 4) 8 (againLink (nowL x) (x.now + 1))
  have hnow : (moreAt (x.now + 1 + 4) 8 (againLink (nowL x) (x.now + 1))).1.now = x.now + 1 := by rw [e]; rfl
  have how : (moreAt (x.now + 1 + 4) 8 (againLink (nowL x) (x.now + 1))).1.owes = x.owes := by rw [e]; rfl
  unfold partsOut partsLink asking calmL
  have ht : x.tick = (let z := (againLink (nowL x) (x.now + 1)).more Fm11.FLIGHT
      let asking : Bool := z.1.flight.isEmpty && (decide (z.1.sent < z.1.total) && decide (z.1.asks ≤ z.1.now))
      let out := againOut (nowL x) (x.now + 1) ++ (z.2 ++ (if asking = true then [z.1.plain 3] else []))
      let out := if out = [] ∧ z.1.owes = true then [z.1.plain 0] else out
      ({ z.1 with owes := z.1.owes && out.isEmpty, asks := if asking = true then z.1.now + 16 else z.1.asks }, out)) := rfl
  rw [ht, hm]
  dsimp only
  generalize moreAt (x.now + 1 + 4) 8 (againLink (nowL x) (x.now + 1)) = z at *
  rw [hnow, how]
  generalize againOut (nowL x) (x.now + 1) ++ (z.2 ++ (if (z.1.flight.isEmpty && (decide (z.1.sent < z.1.total) && decide (z.1.asks ≤ x.now + 1))) = true then [z.1.plain 3] else [])) = out
  have ho : (x.owes && (if out = [] ∧ x.owes = true then [z.1.plain 0] else out).isEmpty) = false := by
    cases h : x.owes with
    | false => rfl
    | true =>
      cases out with
      | nil => rfl
      | cons q r => rfl
  rw [ho]
  rfl
theorem parts_good {x : Fm11.Link} {t : Nat} (hb : Gf.By x.rest) (hp : ∀ p ∈ x.flight, p.len ≤ 190) : ∀ k ∈ partsOut x t, GoodP x k := by
  intro k hk
  unfold partsOut at hk
  rcases List.mem_append.mp hk with hk | hk
  · obtain ⟨p, h1, rfl⟩ := List.mem_map.mp hk
    exact piece_good hb (hp p (List.mem_filter.mp h1).1)
  rcases List.mem_append.mp hk with hk | hk
  · have := moreAt_good (t + 4) 8 (againLink x t) hb k hk
    exact ⟨this.nm, this.ak, this.rm, this.oct, this.ln, this.kd⟩
  · split at hk
    · rw [List.mem_singleton.mp hk]
      obtain ⟨fl, sn, en, e, -⟩ := moreAt_form (t + 4) 8 (againLink x t)
      rw [e]
      exact ⟨rfl, rfl, rfl, Gf.By.nil, Nat.zero_le _, by show (3 : Nat) < 256; decide⟩
    · exact absurd hk List.not_mem_nil
theorem parts_len {x : Fm11.Link} {t : Nat} (hf : x.flight.length ≤ 8) : (partsOut x t).length ≤ 17 := by
  unfold partsOut againOut
  obtain ⟨fl, sn, en, e, e2, -⟩ := moreAt_form (t + 4) 8 (againLink x t)
  rw [List.length_append, List.length_append, List.length_map]
  have h1 := List.length_filter_le (fun p : Fm11.Piece => decide (p.due ≤ t)) x.flight
  have h2 : (if asking (moreAt (t + 4) 8 (againLink x t)).1 t = true then [(moreAt (t + 4) 8 (againLink x t)).1.plain 3] else []).length ≤ 1 := by split <;> simp
  omega
theorem tick_good {x : Fm11.Link} (hb : Gf.By x.rest) (hf : x.flight.length ≤ 8) (hp : ∀ p ∈ x.flight, p.len ≤ 190) : (∀ k ∈ x.tick.2, GoodP x k) ∧ x.tick.2.length ≤ 17 := by
  rw [tick_is]
  dsimp only
  have h1 := parts_good (x := nowL x) (t := x.now + 1) hb hp
  have h2 := parts_len (x := nowL x) (t := x.now + 1) hf
  split
  · obtain ⟨fl, sn, en, ak, e⟩ := parts_form (nowL x) (x.now + 1)
    refine ⟨fun k hk => ?_, by simp⟩
    rw [List.mem_singleton.mp hk, e]
    exact ⟨rfl, rfl, rfl, Gf.By.nil, Nat.zero_le _, by show (0 : Nat) < 256; decide⟩
  · refine ⟨fun k hk => ?_, h2⟩
    have := h1 k hk
    exact ⟨this.nm, this.ak, this.rm, this.oct, this.ln, this.kd⟩
theorem good_wire {x : Fm11.Link} {k : Fm11.Packet} (h : GoodP x k) : Fm11.Packet.wire ⟨x.name, k.kind, k.seq, x.next, x.room, k.bytes⟩ = k.wire := by
  rw [← h.nm, ← h.ak, ← h.rm]
theorem wire_length {k : Fm11.Packet} (h : Gf.By k.bytes) (hk : k.kind < 256) : k.wire.length = k.bytes.length + 43 := by
  unfold Fm11.Packet.wire Fm11.coded
  have h1 := (head_by h hk).append (Gf.le_by 4 (Fm11.sum k.head))
  have h2 : (Fm11.le 4 (Fm11.sum k.head)).length = 4 := by unfold Fm11.le; rw [List.length_map, List.length_range]
  rw [List.length_append, Gf.parity_length h1, List.length_append, head_length, h2]
  omega
theorem flat_len {x : Fm11.Link} {ks : List Fm11.Packet} (h : ∀ k ∈ ks, GoodP x k) : (ks.flatMap fun p => (p.wire.length : Int) :: p.wire.map fun (n : Nat) => (n : Int)).length ≤ ks.length * 234 := by
  induction ks with
  | nil => exact Nat.zero_le _
  | cons k ks ih =>
    have h1 := ih fun q hq => h q (List.mem_cons_of_mem _ hq)
    have h2 := h k (List.mem_cons_self ..)
    have h3 := h2.ln
    rw [List.flatMap_cons, List.length_append, List.length_cons, List.length_cons, List.length_map, wire_length h2.oct h2.kd]
    omega
theorem ok_LinkEnd_tick (T : Top K mg A) (G_LinkEnd_sent_as : FnOk P w K mg base CX0 4 A.f_LinkEnd_sent_as A.d_LinkEnd_sent_as ["self", "part"] (sp_LinkEnd_sent_as K A)) (G_Sending_answer_part : FnOk P w K mg base CX0 3 A.f_Sending_answer_part A.d_Sending_answer_part ["self"] (sp_Sending_answer_part K A)) (G_Sending_parts_at : FnOk P w K mg base CX0 5 A.f_Sending_parts_at A.d_Sending_parts_at ["self", "time"] (sp_Sending_parts_at K A)) : FnOk P w K mg base CX0 6 A.f_LinkEnd_tick A.d_LinkEnd_tick ["self"] (sp_LinkEnd_tick K A) := by
  refine T.f_LinkEnd_tick.F.ok sc_LinkEnd_tick (fun vs H Q E h => by obtain ⟨_, _, _, _, _, rfl, _⟩ := h; rfl) (fun cdv Ar outer s H vs Q E hr h => ?_)
  obtain ⟨a, ca, n, F, x, rfl, hE, hC, hn, hok, q⟩ := h
  refine ⟨_, (pss_cons (ps_fldaug (pv 0) pe_int in_add)
    (pss_cons (ps_set (i := 1) sc_LinkEnd_tick.nd rfl (Or.inl rfl) (pe_meth (pe_fld (pv 0) rfl) T.c_Sending.cl T.f_Sending_parts_at.m G_Sending_parts_at (hr.mono (by decide)) T.f_Sending_parts_at.b .nil pass0 (pa_cons (pe_fld (pv 0) rfl) pa_nil)))
    (pss_cons (ps_if (PW.pt (pw_and (pt_cmpR op_eq (pe_callB call_len_seq (by rfl) T.b_len PySem.boot_len (pa_cons (pv 1) pa_nil)) pe_int (nomark _)) (pw_and1 (pt_val (pe_fld (pv 0) rfl))))) (pss_one (ps_expr (pe_bm PySem.F.plainAttrs_list PySem.F.slot_list_append PySem.F.type_list_append mt_append (pv 1) (pa_cons (pe_meth0 (pe_fld (pv 0) rfl) T.c_Sending.cl T.f_Sending_answer_part.m G_Sending_answer_part (hr.mono (by decide)) T.f_Sending_answer_part.b .nil pass0) pa_nil)))) pss_nil)
    (pss_cons (ps_fld (pv 0) pe_bl rfl)
    (pss_cons (ps_set (i := 2) sc_LinkEnd_tick.nd rfl (Or.inl rfl) (pe_lst (pa_cons (pe_callB call_len_seq (by rfl) T.b_len PySem.boot_len (pa_cons (pv 1) pa_nil)) pa_nil)))
    (pss_cons (ps_for PassesOwn.never rfl (pi_list (pv 1)) (pg_name (i := 3) sc_LinkEnd_tick.nd rfl (Or.inl rfl))
    (pss_cons (ps_set (i := 4) sc_LinkEnd_tick.nd rfl (Or.inl rfl) (pe_meth (pv 0) T.c_LinkEnd.cl T.f_LinkEnd_sent_as.m G_LinkEnd_sent_as (hr.mono (by decide)) T.f_LinkEnd_sent_as.b .nil pass0 (pa_cons (pv 3) pa_nil)))
    (pss_cons (ps_expr (pe_bm PySem.F.plainAttrs_list PySem.F.slot_list_append PySem.F.type_list_append mt_append (pv 2) (pa_cons (pe_callB call_len_seq (by rfl) T.b_len PySem.boot_len (pa_cons (pv 4) pa_nil)) pa_nil)))
    (pss_one (ps_expr (pe_bm PySem.F.plainAttrs_list PySem.F.slot_list_extend PySem.F.type_list_extend mt_extend (pv 2) (pa_cons (pv 4) pa_nil)))))))
    (pss_one (ps_ret (pv 2))))))))), ?_⟩
  have hE0 := hE
  obtain ⟨dx, s, r, Fs, Fr, h1, h2, h3, rfl, h5, h6, h7⟩ := hE
  refine ⟨_, rfl, a, A.c_LinkEnd, dx, _, _, rfl, h1, T.c_LinkEnd.cl, T.c_LinkEnd.n_time, lk_LinkEnd_time, _, _, rfl, rfl, dx, _, h1, by show 8 < 1000; decide, ?_⟩
  unfold endV
  rw [pt_LinkEnd_time]
  have hE1 := EndAt.field (x := x) (x' := nowL x) h2 h3 h5 h6 h7 rfl (fun _ z => z) (fun _ z => z) (A := A) (a := a) (dx := dx) (s := s) (r := r) (ca := ca)
  have hfl : (nowL x).flight.length ≤ 1000 := Nat.le_trans hok.fl (by decide)
  have hof : ∀ p ∈ (nowL x).flight, p.often < 2 ^ 60 := fun p hp => by
    have := (hok.pc p hp).2
    omega
  have gU : Grow (a :: (Fs ++ Fr)) H (a :: (Fs ++ Fr)) (upd H a (.ins A.c_LinkEnd dx (endV ca s r (nowL x)))) := Grow.put _ (List.mem_cons_self ..)
  have k1 : upd H a (.ins A.c_LinkEnd dx (endV ca s r (nowL x))) a = some (.ins A.c_LinkEnd dx (endV ca s r (nowL x))) := upd_same
  have s1 := h2.on (H' := upd H a (.ins A.c_LinkEnd dx (endV ca s r (nowL x)))) fun b o hb e => by rw [upd_ne (fun z => h5 (by rw [← z]; exact hb))]; exact e
  have r1 := h3.on (H' := upd H a (.ins A.c_LinkEnd dx (endV ca s r (nowL x)))) fun b o hb e => by rw [upd_ne (fun z => h6 (by rw [← z]; exact hb))]; exact e
  generalize hU : upd H a (.ins A.c_LinkEnd dx (endV ca s r (nowL x))) = U at hE1 gU k1 s1 r1
  have hU' : upd H a (.ins A.c_LinkEnd dx (fl_LinkEnd (V.ref ca) (V.int (x.name : Nat)) (V.int ((x.now : Int) + 1)) (V.ref s) (V.ref r) (V.bl x.owes) (V.int (x.dropped : Nat)) (V.int (x.mended : Nat)))) = U := hU
  rw [hU']
  obtain ⟨dxs, so, sp, ps, ⟨j1, j2, j3, j4, j5, j6⟩, hFF⟩ := id s1
  refine ⟨_, rfl, _, _, _, _, _, rfl, k1, T.c_LinkEnd.cl, T.c_LinkEnd.n_sending, lk_LinkEnd_sending, _, _, _, rfl, j1, no_Sending_parts_at, _, rfl, _, _, _, _, _, rfl, k1, T.c_LinkEnd.cl, T.c_LinkEnd.n_time, lk_LinkEnd_time, s, x.now + 1, Fs, nowL x, rfl, s1, hfl, hof, fun l H1 Fs1 nl hS1 gr pl hsub => ?_⟩
  obtain ⟨tg, tlen⟩ := tick_good hok.rb hok.fl fun p hp => (hok.pc p hp).1
  rw [show tickOut x = (x.tick.2.length : Int) :: x.tick.2.flatMap fun p => (p.wire.length : Int) :: p.wire.map fun (n : Nat) => (n : Int) from rfl] at q
  have htk := tick_is x
  obtain ⟨fl, sn, en, ak, hform⟩ := parts_form (nowL x) (x.now + 1)
  generalize hout : partsOut (nowL x) (x.now + 1) = out at pl htk
  rw [hform] at hS1 htk
  obtain ⟨e1, e2⟩ := EndAt.sent (x' := formL (nowL x) fl sn en ak) k1 s1 r1 h5 h6 h7 hS1 gr rfl (fun z => z)
  have hF1 : ∀ b, b ∈ a :: (Fs1 ++ Fr) → U b = none → b ∈ Fs1 := fun b hb hn => by
    rcases List.mem_cons.mp hb with z | z
    · rw [z, k1] at hn; cases hn
    rcases List.mem_append.mp z with z | z
    · exact z
    · exact absurd hn (r1.dom b z)
  have pl1 : PartsL A (Out (a :: (Fs1 ++ Fr)) H1) l out := pl.ex fun b o e => by
    obtain ⟨e3, e4⟩ := out_some e
    obtain ⟨e5, e6⟩ := new_some e4
    exact out_mk (fun z => e3 (hF1 b z e5)) e6
  have k2 := (gr.get h5 k1).2
  have aFs1 := (gr.get h5 k1).1
  have r2 : RecvAt A H1 r Fr (formL (nowL x) fl sn en ak) := r1.on fun b o hb e => (gr.get (fun z => h7 b z hb) e).2
  have dis : ∀ b ∈ Fs1, b ∉ Fr := fun b hb hf => by
    cases e : U b with
    | none => exact r1.dom b hf e
    | some u => exact (gr.get (fun z => h7 b z hf) e).1 hb
  have g2 : Grow (a :: (Fs ++ Fr)) H (a :: (Fs1 ++ Fr)) H1 := gU.trans e2
  generalize hF : a :: (Fs1 ++ Fr) = F1 at e1 g2 pl1 hF1
  have aF1 : a ∈ F1 := by rw [← hF]; exact List.mem_cons_self ..
  have r1F : ∀ b ∈ Fr, b ∈ F1 := fun b hb => by rw [← hF]; exact List.mem_cons_of_mem _ (List.mem_append.mpr (.inr hb))
  have gotl : x.got.length ≤ 4096 := hok.rv.1
  have fin : ∀ H2 : Hp, EndAt A H2 a F1 ca (formL (nowL x) fl sn en ak) → Grow (a :: (Fs ++ Fr)) H F1 H2 → PartsL A (Out F1 H2) l x.tick.2 → H2 a = some (.ins A.c_LinkEnd dx (endV ca s r (formL (nowL x) fl sn en ak))) →
      SendAt A H2 s Fs1 (formL (nowL x) fl sn en ak) → RecvAt A H2 r Fr (formL (nowL x) fl sn en ak) →
      tSeq (sFld K (tVar 0) (tC (V.bl false)) (Str.ofString "owes")) (tSeq (tAsg (tLst (tCons (tCB (rLenS K) (tCons (tVar 1) tNil)) tNil)) (gName 2)) (tSeq (tFor (iList K (tVar 1)) (gName 3) (tSeq (tAsg (tMeth A.c_LinkEnd (Str.ofString "sent_as") (sp_LinkEnd_sent_as K A) [] E0 (tVar 0) (tCons (tVar 3) tNil)) (gName 4)) (tSeq (tDrop (tBM K "list" rAppend (tVar 2) (tCons (tCB (rLenS K) (tCons (tVar 4) tNil)) tNil))) (tDrop (tBM K "list" rExtend (tVar 2) (tCons (tVar 4) tNil)))))) (tRet (tVar 2))))
        { nx := fun x H' => Q V.non H', rt := Q } [some (V.ref a), some (V.ref l), none, none, none] H2 := fun H2 d1 d2 d3 d4 d5 d6 => by
    refine ⟨_, rfl, a, A.c_LinkEnd, dx, _, rfl, d4, T.c_LinkEnd.cl, T.c_LinkEnd.n_owes, by show 8 < 1000; decide, ?_⟩
    unfold endV
    rw [pt_LinkEnd_owes]
    generalize hyf : formL (nowL x) fl sn en ak = y at d1 d2 d3 d4 d5 d6 htk
    have hv : fl_LinkEnd (V.ref ca) (V.int (y.name : Nat)) (V.int (y.now : Nat)) (V.ref s) (V.ref r) (V.bl false) (V.int (y.dropped : Nat)) (V.int (y.mended : Nat)) = endV ca s r x.tick.1 := by rw [htk]; rfl
    rw [hv]
    have hE3 := EndAt.field (x := y) (x' := x.tick.1) (fs := endV ca s r x.tick.1) d5 d6 aFs1 h6 dis rfl (fun _ z => by rw [htk]; exact z) (fun _ z => by rw [htk]; exact z) (A := A) (a := a) (dx := dx) (s := s) (r := r) (ca := ca)
    rw [hF] at hE3
    have g3 := d2.trans (Grow.put (H := H2) (.ins A.c_LinkEnd dx (endV ca s r x.tick.1)) aF1)
    have pl3 := d3.ex (Grow.put (H := H2) (.ins A.c_LinkEnd dx (endV ca s r x.tick.1)) aF1)
    have hC3 := hC.ex g3
    generalize upd H2 a (.ins A.c_LinkEnd dx (endV ca s r x.tick.1)) = H3 at hE3 g3 pl3 hC3
    obtain ⟨qs, p1, p2, p3⟩ := pl3
    obtain ⟨lF, p1'⟩ := out_some p1
    have hql : (qs.map fun y => V.ref y.1).length = x.tick.2.length := by rw [p3, List.length_map, List.length_map]
    refine ⟨_, rfl, l, _, rfl, .inl (SqL.of p1'), by show 1 ≤ sizeLine; decide, fun an nan => ?_⟩
    rw [hql]
    have y1 := Ex.new (o := .lst [V.int (x.tick.2.length : Nat)]) nan
    refine ⟨_, rfl, l, rfl, ⟨_, SqL.of (y1 _ _ p1')⟩, for_list (K := K) (a := l) (xs := qs.map fun y => V.ref y.1) (fun i σ H' => ∃ v3 v4 : Option V, σ = [some (V.ref a), some (V.ref l), some (V.ref an), v3, v4] ∧ Ex H3 H' ∧
      H' an = some (.lst (iv ((x.tick.2.length : Int) :: (x.tick.2.take i).flatMap fun p => (p.wire.length : Int) :: p.wire.map fun (n : Nat) => (n : Int))))) ⟨none, none, rfl, y1, by rw [upd_same, List.take_zero]; rfl⟩ ?_ ?_ ?_⟩
    · rintro i σ H' hi ⟨v3, v4, rfl, e, ha⟩
      exact SqL.of (e _ _ p1')
    · rintro i y σ H' hi ⟨v3, v4, rfl, e, ha⟩
      rw [List.getElem?_map] at hi
      obtain ⟨⟨pa, k⟩, hy, rfl⟩ : ∃ z, qs[i]? = some z ∧ y = V.ref z.1 := by
        cases e : qs[i]? with
        | none => rw [e] at hi; cases hi
        | some z => rw [e] at hi; exact ⟨z, rfl, (Option.some.inj hi).symm⟩
      have hki : x.tick.2[i]? = some k := by rw [p3, List.getElem?_map, hy]; rfl
      have hkm : k ∈ x.tick.2 := List.mem_of_getElem? hki
      have gk := tg k hkm
      have hpa : PartAt A H' pa k := ((p2 _ (List.mem_of_getElem? hy)).ex (out_le _ _)).ex ((out_le _ _).trans e)
      have hCe : CodeAt A H' ca := hC3.ex ((out_le _ _).trans e)
      have hgx : (x.tick.1).got.length ≤ 4096 := by rw [htk, ← hyf]; exact gotl
      obtain ⟨dx', s', r', Fs', Fr', m1, -⟩ := hE3.ex e
      refine ⟨_, rfl, _, _, _, rfl, m1, no_LinkEnd_sent_as, _, rfl, a, ca, pa, F1, x.tick.1, k, rfl, hE3.ex e, hCe, hpa, hgx, gk.oct, by have := gk.ln; omega, gk.kd, fun pw H4 npw e4 hpw => ?_⟩
      have hwx : Fm11.Packet.wire ⟨x.tick.1.name, k.kind, k.seq, x.tick.1.next, x.tick.1.room, k.bytes⟩ = k.wire := by
        rw [← good_wire gk, htk, ← hyf]
        rfl
      rw [hwx] at hpw
      have hwl := wire_length gk.oct gk.kd
      have hwl2 := gk.ln
      have hfl2 := flat_len (ks := x.tick.2.take i) (x := x) fun k hk => tg k (List.mem_of_mem_take hk)
      have htl : (x.tick.2.take i).length ≤ 17 := by rw [List.length_take]; omega
      have apw : an ≠ pw := ne_of_none ha npw
      have e34 := e.trans e4
      have ha4 := e4 _ _ ha
      generalize hls : (x.tick.2.take i).flatMap (fun p => (p.wire.length : Int) :: p.wire.map fun (n : Nat) => (n : Int)) = ls at ha4 hfl2
      have hivl : (iv ((x.tick.2.length : Int) :: ls)).length = ls.length + 1 := by unfold iv; rw [List.length_map]; rfl
      refine ⟨_, rfl, .inl ⟨rfl, _, SqL.of ha4⟩, _, rfl, pw, _, rfl, .inl (SqL.of hpw), an, _, _, rfl, rfl, ha4, by rw [hivl]; exact sz_lt (by omega), ?_⟩
      refine ⟨_, rfl, .inl ⟨rfl, _, SqL.of upd_same⟩, _, rfl, an, pw, _, _, rfl, rfl, upd_same, (upd_ne apw.symm).trans hpw, by rw [List.length_append, hivl, nv_length]; show ls.length + 1 + 1 + _ ≤ _; exact sz_of (by omega), ?_⟩
      refine ⟨some (V.ref pa), some (V.ref pw), rfl, fun b o hb => ?_, ?_⟩
      · have hban : b ≠ an := ne_of_none hb nan
        rw [upd_ne hban, upd_ne hban]
        exact e34 _ _ hb
      · rw [upd_same, List.take_add_one, hki, nv_length]
        congr 2
        show _ = iv ((x.tick.2.length : Int) :: (x.tick.2.take i ++ [k]).flatMap _)
        rw [List.flatMap_append, hls, List.append_assoc]
        unfold iv
        rw [List.map_cons, List.map_cons, List.map_append, List.cons_append]
        congr 2
        show _ = List.map V.int (((k.wire.length : Int) :: k.wire.map fun (n : Nat) => (n : Int)) ++ [])
        rw [List.append_nil, List.map_cons]
        show _ :: nv k.wire = _ :: _
        congr 1
        exact (iv_nat _).symm
    · rintro σ H' ⟨v3, v4, rfl, e, ha⟩
      rw [hql, List.take_length] at ha
      refine ⟨_, rfl, ?_⟩
      refine q an H' F1 (hE3.ex e) (g3.trans (Grow.ex e)) ?_ (hE3.fresh nan) ha
      exact grow_none g3 nan
  have howe : (formL (nowL x) fl sn en ak).owes = x.owes := rfl
  obtain ⟨qs, p1, p2, p3⟩ := id pl1
  obtain ⟨lF, p1'⟩ := out_some p1
  refine ⟨_, rfl, l, _, rfl, .inl (SqL.of p1'), rfl, _, rfl, ?_⟩
  have hql : (qs.map fun y => V.ref y.1).length = out.length := by rw [p3, List.length_map, List.length_map]
  rw [hql]
  by_cases c : out = []
  · have dc : decide (V.int (out.length : Nat) = V.int 0) = true := by rw [c]; rfl
    rw [dc]
    refine iteT ⟨_, rfl, _, _, _, _, _, rfl, k2, T.c_LinkEnd.cl, T.c_LinkEnd.n_owes, lk_LinkEnd_owes, _, rfl, ?_⟩
    show if x.owes = true then _ else _
    by_cases d : x.owes = true
    · rw [if_pos d]
      have ht2 : x.tick.2 = [(formL (nowL x) fl sn en ak).plain 0] := by rw [htk]; exact if_pos ⟨c, d⟩
      refine ⟨_, rfl, .inl ⟨rfl, _, SqL.of p1'⟩, _, rfl, _, _, _, _, _, rfl, k2, T.c_LinkEnd.cl, T.c_LinkEnd.n_sending, lk_LinkEnd_sending, ?_⟩
      obtain ⟨dxs1, so1, sp1, ps1, ⟨n1, n2, n3, n4, n5, n6⟩, hFF1⟩ := id hS1
      refine ⟨_, _, _, rfl, n1, no_Sending_answer_part, s, Fs1, _, rfl, hS1, fun pq H2 npq e3 hpq => ?_⟩
      have hq0 : qs.length = 0 := by rw [List.length_map] at hql; rw [hql, c]; rfl
      refine ⟨l, _, _, rfl, rfl, e3 _ _ p1', by rw [List.length_map, hq0]; decide, ?_⟩
      have nlH : H l = none := by
        by_cases z : l = a
        · rw [z, k1] at nl; cases nl
        · rw [← hU, upd_ne z] at nl; exact nl
      have onF : ∀ b o, b ∈ F1 → H1 b = some o → upd H2 l (.lst (qs.map (fun y => V.ref y.1) ++ [.ref pq])) b = some o := fun b o hb k => by
        rw [upd_ne (fun z => lF (by rw [← z]; exact hb))]
        exact e3 _ _ k
      have sF : ∀ b, b ∈ Fs1 → b ∈ F1 := fun b hb => by rw [← hF]; exact List.mem_cons_of_mem _ (List.mem_append.mpr (.inl hb))
      refine fin _ (e1.on onF) (Grow.mk fun b o d1 d2 => ?_) ?_ (onF _ _ aF1 k2) (hS1.on fun b o hb k => onF b o (sF b hb) k) (r2.on fun b o hb k => onF b o (r1F b hb) k)
      · obtain ⟨d3, d4⟩ := g2.get d1 d2
        exact ⟨d3, by rw [upd_ne (ne_of_none d2 nlH)]; exact e3 _ _ d4⟩
      · rw [ht2]
        have hm := PartsL.more (H2 := Out F1 H2) (q := pq) (k := (formL (nowL x) fl sn en ak).plain 0) pl1 p1 (fun b o k => by
          obtain ⟨k3, k4⟩ := out_some k
          exact out_mk k3 (e3 _ _ k4)) (hpq.ex fun b o k => by
          obtain ⟨k3, k4⟩ := new_some k
          exact new_mk (by
            by_cases z : b ∈ F1
            · exact out_in z
            · rw [out_of z]; exact k3) (out_mk (e1.fresh k3) k4))
        rw [c] at hm
        refine PartsL.ex (fun b o k => ?_) hm
        by_cases z : b = l
        · rw [z, upd_same] at k
          rw [z]
          exact out_mk lF (by rw [upd_same]; exact k)
        · rw [upd_ne z] at k
          obtain ⟨k3, k4⟩ := out_some k
          exact out_mk k3 (by rw [upd_ne z]; exact k4)
    · rw [if_neg d]
      have ht2 : x.tick.2 = out := by rw [htk]; exact if_neg fun z => d z.2
      exact fin H1 e1 g2 (by rw [ht2]; exact pl1) k2 hS1 r2
  · have dc : decide (V.int (out.length : Nat) = V.int 0) = false := decide_eq_false fun z => by
      have := V.int.inj z
      have := List.length_pos_iff.mpr c
      omega
    rw [dc]
    have ht2 : x.tick.2 = out := by rw [htk]; exact if_neg fun z => c z.1
    exact iteF (iteF (fin H1 e1 g2 (by rw [ht2]; exact pl1) k2 hS1 r2))
end
end Sl
/-! ## Bw -/
set_option Elab.async false
set_option linter.all false
set_option maxRecDepth 100000
set_option maxHeartbeats 4000000
namespace Sl
open PySem PySem.Spec PyProof.Rows L2 Evl
/-! ### the link: two ends -/
abbrev Two := Bool → Fm11.Link
def setB (x : Two) (b : Bool) (y : Fm11.Link) : Two := fun c => if c = b then y else x c
theorem setB_same (x : Two) (b : Bool) (y : Fm11.Link) : setB x b y b = y := if_pos rfl
theorem setB_ne {x : Two} {b c : Bool} {y : Fm11.Link} (h : c ≠ b) : setB x b y c = x c := if_neg h
def TwoW (A : Adr) (H : Hp) (a dx le ca : Addr) (e : Bool → Addr) (G : Bool → List Addr) (x : Two) : Prop :=
  H a = some (.ins A.c_Link dx (fl_Link (.ref ca) (.ref le))) ∧ H le = some (.lst [.ref (e false), .ref (e true)]) ∧ (∀ b, EndAt A H (e b) (G b) ca (x b)) ∧ (∀ b, a ∉ G b) ∧ (∀ b, le ∉ G b) ∧ ∀ b c, c ∈ G b → c ∉ G (!b)
def foot (a le : Addr) (G : Bool → List Addr) : List Addr := a :: le :: (G false ++ G true)
theorem mem_foot {a le c : Addr} {G : Bool → List Addr} : c ∈ foot a le G ↔ c = a ∨ c = le ∨ ∃ b, c ∈ G b := by
  unfold foot
  rw [List.mem_cons, List.mem_cons, List.mem_append]
  constructor
  · rintro (h | h | h | h)
    · exact .inl h
    · exact .inr (.inl h)
    · exact .inr (.inr ⟨false, h⟩)
    · exact .inr (.inr ⟨true, h⟩)
  · rintro (h | h | ⟨b, h⟩)
    · exact .inl h
    · exact .inr (.inl h)
    · cases b
      · exact .inr (.inr (.inl h))
      · exact .inr (.inr (.inr h))
def TwoAt (A : Adr) (H : Hp) (a : Addr) (F : List Addr) (ca : Addr) (x : Two) : Prop := ∃ dx le e G, TwoW A H a dx le ca e G x ∧ F = foot a le G ∧ CodeAt A (Out F H) ca
theorem TwoAt.ex {A : Adr} {H H' : Hp} {a ca : Addr} {F : List Addr} {x : Two} (h : TwoAt A H a F ca x) (k : Ex H H') : TwoAt A H' a F ca x := by
  obtain ⟨dx, le, e, G, ⟨h1, h2, h3, h4, h5, h6⟩, hF, hC⟩ := h
  exact ⟨dx, le, e, G, ⟨k _ _ h1, k _ _ h2, fun b => (h3 b).ex k, h4, h5, h6⟩, hF, hC.ex (Grow.ex k)⟩
theorem TwoAt.on {A : Adr} {H H' : Hp} {a ca : Addr} {F : List Addr} {x : Two} (h : TwoAt A H a F ca x) (k : ∀ b o, b ∈ F → H b = some o → H' b = some o) (hC' : CodeAt A (Out F H') ca) : TwoAt A H' a F ca x := by
  obtain ⟨dx, le, e, G, ⟨h1, h2, h3, h4, h5, h6⟩, rfl, hC⟩ := h
  exact ⟨dx, le, e, G, ⟨k _ _ (mem_foot.mpr (.inl rfl)) h1, k _ _ (mem_foot.mpr (.inr (.inl rfl))) h2, fun b => (h3 b).on fun c o hc q => k c o (mem_foot.mpr (.inr (.inr ⟨b, hc⟩))) q, h4, h5, h6⟩, rfl, hC'⟩
theorem TwoAt.dom {A : Adr} {H : Hp} {a ca : Addr} {F : List Addr} {x : Two} (h : TwoAt A H a F ca x) : ∀ b ∈ F, H b ≠ none := by
  obtain ⟨dx, le, e, G, ⟨h1, h2, h3, h4, h5, h6⟩, rfl, hC⟩ := h
  intro c hc
  rcases mem_foot.mp hc with z | z | ⟨b, z⟩
  · rw [z, h1]; exact fun z => by cases z
  · rw [z, h2]; exact fun z => by cases z
  · exact (h3 b).dom c z
theorem TwoAt.fresh {A : Adr} {H : Hp} {a ca : Addr} {F : List Addr} {x : Two} (h : TwoAt A H a F ca x) {b : Addr} (hb : H b = none) : b ∉ F := fun z => h.dom b z hb
/-- one end has become another -/
theorem TwoW.one {A : Adr} {H H' : Hp} {a dx le ca : Addr} {e : Bool → Addr} {G : Bool → List Addr} {x : Two} {b : Bool} {G' : List Addr} {y : Fm11.Link} (h : TwoW A H a dx le ca e G x) (hC : CodeAt A (Out (foot a le G) H) ca) (hE : EndAt A H' (e b) G' ca y) (gr : Grow (G b) H G' H') :
    TwoAt A H' a (foot a le fun c => if c = b then G' else G c) ca (setB x b y) ∧ Grow (foot a le G) H (foot a le fun c => if c = b then G' else G c) H' := by
  obtain ⟨h1, h2, h3, h4, h5, h6⟩ := h
  have nb : ∀ c, c ≠ b → c = !b := fun c hc => by cases c <;> cases b <;> first | rfl | exact absurd rfl hc
  have ot : ∀ c o, c ∈ G (!b) → H c = some o → c ∉ G' ∧ H' c = some o := fun c o hc k => gr.get (fun z => h6 b c z hc) k
  have g : Grow (foot a le G) H (foot a le fun c => if c = b then G' else G c) H' := Grow.mk fun c o d1 d2 => by
    have d3 : c ∉ G b := fun z => d1 (mem_foot.mpr (.inr (.inr ⟨b, z⟩)))
    obtain ⟨d4, d5⟩ := gr.get d3 d2
    refine ⟨fun z => ?_, d5⟩
    rcases mem_foot.mp z with z | z | ⟨b', z⟩
    · exact d1 (mem_foot.mpr (.inl z))
    · exact d1 (mem_foot.mpr (.inr (.inl z)))
    · by_cases k : b' = b
      · rw [if_pos k] at z; exact d4 z
      · rw [if_neg k] at z; exact d1 (mem_foot.mpr (.inr (.inr ⟨b', z⟩)))
  refine ⟨⟨dx, le, e, _, ⟨(gr.get (h4 b) h1).2, (gr.get (h5 b) h2).2, fun c => ?_, fun c => ?_, fun c => ?_, fun c d hd => ?_⟩, rfl, hC.ex g⟩, g⟩
  · by_cases k : c = b
    · rw [k, setB_same]
      rw [if_pos rfl]
      exact hE
    · rw [setB_ne k]
      rw [if_neg k]
      refine (h3 c).on fun d o hd q => (ot d o ?_ q).2
      rw [← nb c k]
      exact hd
  · by_cases k : c = b
    · rw [if_pos k]; exact (gr.get (h4 b) h1).1
    · rw [if_neg k]; exact h4 c
  · by_cases k : c = b
    · rw [if_pos k]; exact (gr.get (h5 b) h2).1
    · rw [if_neg k]; exact h5 c
  · have key : ∀ d, d ∈ G (!b) → d ∉ G' := fun d hd => by
      cases q : H d with
      | none => exact absurd q ((h3 (!b)).dom d hd)
      | some o => exact (ot d o hd q).1
    by_cases k : c = b
    · rw [if_pos k] at hd
      have k2 : ¬ (!c) = b := by rw [k]; cases b <;> decide
      rw [if_neg k2, k]
      exact fun z => key d z hd
    · rw [if_neg k] at hd
      have k2 : (!c) = b := by rw [nb c k]; cases b <;> rfl
      rw [if_pos k2]
      rw [nb c k] at hd
      exact key d hd
/-- a call on one of the ends, as the list has it -/
def flat (b : Bool) : Fm11.Call → List Int
  | .begin_ n => [1, (Fm11.bit b : Nat), (n : Nat)]
  | .put l => 2 :: (Fm11.bit b : Nat) :: (l.length : Nat) :: natsI l
  | .finish => [3, (Fm11.bit b : Nat)]
  | .tick => [4, (Fm11.bit b : Nat)]
  | .came l => 5 :: (Fm11.bit b : Nat) :: (l.length : Nat) :: natsI l
  | .take n => [6, (Fm11.bit b : Nat), (n : Nat)]
  | .tell => [7, (Fm11.bit b : Nat)]
  | _ => []
def CallOk : Fm11.Call → Prop
  | .begin_ _ => True
  | .put l => Gf.By l ∧ l.length ≤ 70000
  | .finish => True
  | .tick => True
  | .came l => Gf.By l ∧ l.length ≤ 70000
  | .take _ => True
  | .tell => True
  | _ => False
def stepB (x : Two) (b : Bool) (c : Fm11.Call) : Two := setB x b (Fm11.does (x b) c).2
def outB (x : Two) (b : Bool) (c : Fm11.Call) : List Int := ansOut (Fm11.does (x b) c).1
def TwoRes (A : Adr) (H : Hp) (F : List Addr) (a ca : Addr) (x' : Two) (out : List Int) (Q : VK) : Prop := ∀ l H' F', TwoAt A H' a F' ca x' → Grow F H F' H' → Out F H l = none → l ∉ F' → H' l = some (.lst (iv out)) → Q (.ref l) H'
theorem TwoRes.lay {A : Adr} {H H1 : Hp} {F F1 : List Addr} {a ca l : Addr} {x' : Two} {out : List Int} {Q : VK} (q : TwoRes A H F a ca x' out Q) (hE : TwoAt A H1 a F1 ca x') (gr : Grow F H F1 H1) (nl : H1 l = none) {xs : List V} (hx : xs = iv out) : Q (.ref l) (upd H1 l (.lst xs)) :=
  q l _ F1 (hE.ex (Ex.new nl)) (gr.trans (Grow.ex (Ex.new nl))) (grow_none gr nl) (hE.fresh nl) (by rw [upd_same, hx])
def startB : Two := fun _ => Fm11.begin_ 0
def sp_Link_init (K : PySem.W.Frag) (A : Adr) : Sp := fun vs H Q _ => ∃ (p dx : Addr), vs = [.ref p] ∧ H p = some (.ins A.c_Link dx []) ∧
  ∀ (H' : Hp) (F : List Addr) (ca : Addr), TwoAt A H' p F ca startB → Grow [p] H F H' → Q .non H'
def sp_Link_begin (K : PySem.W.Frag) (A : Adr) : Sp := fun vs H Q _ => ∃ (a ca : Addr) (F : List Addr) (b : Bool) (n : Nat) (x : Two), vs = [.ref a, .int (Fm11.bit b : Nat), .int (n : Nat)] ∧ TwoAt A H a F ca x ∧
  TwoRes A H F a ca (stepB x b (.begin_ n)) (outB x b (.begin_ n)) Q
def sp_Link_answer_to (K : PySem.W.Frag) (A : Adr) : Sp := fun vs H Q _ => ∃ (a ca o : Addr) (F : List Addr) (n : Nat) (b : Bool) (c : Fm11.Call) (x : Two), vs = [.ref a, .ref o] ∧ TwoAt A H a F ca x ∧ Out F H o = some (.lst (iv (flat b c))) ∧ CallOk c ∧ n ≤ 1000 ∧ (∀ d, LinkOk n (x d)) ∧
  TwoRes A H F a ca (stepB x b c) (outB x b c) Q
def sp_size_of (K : PySem.W.Frag) (A : Adr) : Sp := fun vs H Q _ => ∃ (o : Addr) (l r : List Int) (i : Nat) (b : Bool) (c : Fm11.Call), vs = [.ref o, .int (i : Nat)] ∧ SqL K H o (iv l) ∧ l.drop i = flat b c ++ r ∧ CallOk c ∧ Q (.int ((flat b c).length : Nat)) H
/-- calls one after another, as the list has them; what's answered -/
def flatAll (cs : List (Bool × Fm11.Call)) : List Int := cs.flatMap fun y => flat y.1 y.2
def runB : Two → List (Bool × Fm11.Call) → Two
  | x, [] => x
  | x, y :: r => runB (stepB x y.1 y.2) r
def toldB : Two → List (Bool × Fm11.Call) → List Int
  | _, [] => []
  | x, y :: r => ((outB x y.1 y.2).length : Int) :: (outB x y.1 y.2 ++ toldB (stepB x y.1 y.2) r)
def sp_answers (K : PySem.W.Frag) (A : Adr) : Sp := fun vs H Q _ => ∃ (o : Addr) (cs : List (Bool × Fm11.Call)), vs = [.ref o] ∧ SqL K H o (iv (flatAll cs)) ∧ (∀ y ∈ cs, CallOk y.2) ∧ cs.length ≤ 200 ∧ (flatAll cs).length ≤ 16000 ∧
  ∀ p H', H' p = some (.lst (iv (toldB startB cs))) → Q (.ref p) H'
end Sl
/-! ## D25 -/
set_option Elab.async false
set_option linter.all false
set_option maxRecDepth 100000
set_option maxHeartbeats 4000000
namespace Sl
open PySem PySem.Spec PyProof.Rows L2 Evl
section
variable {P : Program} {w : World} {K : PySem.W.Frag} {mg : Str → Option Value} {base : Heap} {A : Adr}
theorem code_bare {A : Adr} {H : Hp} {a p C dx : Addr} (h : CodeAt A H a) (hp : H p = some (.ins C dx [])) : CodeAt A (Out [p] H) a := by
  have no : ∀ b o, H b = some o → o ≠ .ins C dx [] → Out [p] H b = some o := fun b o hb ho => out_mk (fun z => by
    rw [List.mem_singleton.mp z, hp] at hb
    exact ho (Option.some.inj hb).symm) hb
  obtain ⟨dc, f, d, h1, ⟨df, e, g, h2, h3, h4⟩, h5⟩ := h
  refine ⟨dc, f, d, no _ _ h1 (fun z => ?_), ⟨df, e, g, no _ _ h2 (fun z => ?_), no _ _ h3 (fun z => ?_), no _ _ h4 (fun z => ?_)⟩, no _ _ h5 (fun z => ?_)⟩
  · injection z with z1 z2 z3; cases z3
  · injection z with z1 z2 z3; cases z3
  · cases z
  · cases z
  · cases z
theorem ok_Link_init (T : Top K mg A) (G_Code_init : FnOk P w K mg base CX0 5 A.f_Code_init A.d_Code_init ["self"] (sp_Code_init K A)) (G_LinkEnd_init : FnOk P w K mg base CX0 3 A.f_LinkEnd_init A.d_LinkEnd_init ["self", "code", "name"] (sp_LinkEnd_init K A)) : FnOk P w K mg base CX0 7 A.f_Link_init A.d_Link_init ["self"] (sp_Link_init K A) := by
  refine T.k_Link.F.ok sc_Link_init (fun vs H Q E h => by obtain ⟨_, _, rfl, _⟩ := h; rfl) (fun cdv Ar outer s H vs Q E hr h => ?_)
  obtain ⟨p, dx, rfl, hp, q⟩ := h
  refine ⟨_, (pss_cons (ps_fld (pv 0) (pe_make0 T.k_Code.M G_Code_init (hr.mono (by decide)) rfl T.k_Code.g T.k_Code.b .nil pass0) rfl)
    (pss_one (ps_fld (pv 0) (pe_lst (pa_cons (pe_make T.k_LinkEnd.M G_LinkEnd_init (hr.mono (by decide)) rfl T.k_LinkEnd.g T.k_LinkEnd.b .nil pass0 (pa_cons (pe_fld (pv 0) rfl) (pa_cons pe_int pa_nil))) (pa_cons (pe_make T.k_LinkEnd.M G_LinkEnd_init (hr.mono (by decide)) rfl T.k_LinkEnd.g T.k_LinkEnd.b .nil pass0 (pa_cons (pe_fld (pv 0) rfl) (pa_cons pe_int pa_nil))) pa_nil))) rfl))), ?_⟩
  intro c dc nc ndc nexc
  have x1 := (Ex.new (o := .own c) ndc).trans (Ex.new (o := .ins A.c_Code dc []) (by rw [upd_ne nexc.symm]; exact nc))
  refine ⟨c, dc, rfl, upd_same, fun H1 hC fr => ⟨rfl, ?_⟩⟩
  have e1 : Ex H H1 := fun b o hb => fr b o (x1 _ _ hb) (ne_of_none hb nc)
  have hp1 := e1 _ _ hp
  refine ⟨_, rfl, p, A.c_Link, dx, [], rfl, hp1, T.c_Link.cl, T.c_Link.n_code, by decide, ?_⟩
  have hC2 := (code_bare hC hp1).ex (Grow.put (H := H1) (.ins A.c_Link dx (putF "code" (.ref c) [])) (List.mem_singleton.mpr rfl))
  have g2 : Grow [p] H [p] (upd H1 p (.ins A.c_Link dx (putF "code" (.ref c) []))) := (Grow.ex e1).trans (Grow.put _ (List.mem_singleton.mpr rfl))
  have hp2 : upd H1 p (.ins A.c_Link dx (putF "code" (.ref c) [])) p = some (.ins A.c_Link dx (putF "code" (.ref c) [])) := upd_same
  generalize upd H1 p (.ins A.c_Link dx (putF "code" (.ref c) [])) = H2 at hC2 g2 hp2
  refine ⟨_, rfl, _, _, _, _, _, rfl, hp2, T.c_Link.cl, T.c_Link.n_code, rfl, ?_⟩
  intro s ds ns nds nexs
  have ps : p ≠ s := ne_of_none hp2 ns
  have y1 := (Ex.new (o := .own s) nds).trans (Ex.new (o := .ins A.c_LinkEnd ds []) (by rw [upd_ne nexs.symm]; exact ns))
  refine ⟨s, ds, c, 0, rfl, upd_same, fun H3 F0 hE0 g0 => ⟨rfl, ?_⟩⟩
  obtain ⟨pF0, hp3⟩ := g0.get (fun z => ps (List.mem_singleton.mp z)) (y1 _ _ hp2)
  have g3 : Grow [p] H2 (p :: F0) H3 := Grow.mk fun b o d1 d2 => by
    have bs : b ≠ s := ne_of_none d2 ns
    obtain ⟨d3, d4⟩ := g0.get (fun z => bs (List.mem_singleton.mp z)) (y1 _ _ d2)
    exact ⟨fun z => (List.mem_cons.mp z).elim (fun z => d1 (List.mem_singleton.mpr z)) d3, d4⟩
  refine ⟨_, rfl, _, _, _, _, _, rfl, hp3, T.c_Link.cl, T.c_Link.n_code, rfl, ?_⟩
  intro r dr nr ndr nexr
  have pr : p ≠ r := ne_of_none hp3 nr
  have y2 := (Ex.new (o := .own r) ndr).trans (Ex.new (o := .ins A.c_LinkEnd dr []) (by rw [upd_ne nexr.symm]; exact nr))
  refine ⟨r, dr, c, 0, rfl, upd_same, fun H4 F1 hE1 g1 => ⟨rfl, ?_⟩⟩
  obtain ⟨pF1, hp4⟩ := g1.get (fun z => pr (List.mem_singleton.mp z)) (y2 _ _ hp3)
  have rF0 : r ∉ F0 := hE0.fresh nr
  have hE04 := hE0.on (H' := H4) fun b o hb e => (g1.get (fun z => rF0 (by rw [← List.mem_singleton.mp z]; exact hb)) (y2 _ _ e)).2
  have dis : ∀ b ∈ F0, b ∉ F1 := fun b hb => by
    cases e : H3 b with
    | none => exact absurd e (hE0.dom b hb)
    | some o => exact (g1.get (fun z => rF0 (by rw [← List.mem_singleton.mp z]; exact hb)) (y2 _ _ e)).1
  have g4 : Grow (p :: F0) H3 (p :: (F0 ++ F1)) H4 := Grow.mk fun b o d1 d2 => by
    have br : b ≠ r := ne_of_none d2 nr
    obtain ⟨d3, d4⟩ := g1.get (fun z => br (List.mem_singleton.mp z)) (y2 _ _ d2)
    refine ⟨fun z => ?_, d4⟩
    rcases List.mem_cons.mp z with z | z
    · exact d1 (by rw [z]; exact List.mem_cons_self ..)
    rcases List.mem_append.mp z with z | z
    · exact d1 (List.mem_cons_of_mem _ z)
    · exact d3 z
  refine ⟨by show 2 ≤ sizeLine; decide, fun le nle => ?_⟩
  have z1 := Ex.new (o := .lst [V.ref s, V.ref r]) nle
  refine ⟨_, rfl, p, A.c_Link, dx, _, rfl, z1 _ _ hp4, T.c_Link.cl, T.c_Link.n_ends, by show 1 < 1000; decide, ?_⟩
  have ple : p ≠ le := ne_of_none hp4 nle
  have lF0 : le ∉ F0 := hE04.fresh nle
  have lF1 : le ∉ F1 := hE1.fresh nle
  have keep : ∀ v b o, b ≠ p → H4 b = some o → upd (upd H4 le (.lst [V.ref s, V.ref r])) p v b = some o := fun v b o d1 d2 => by
    rw [upd_ne d1]
    exact z1 _ _ d2
  have g5 : ∀ v, Grow [p] H (foot p le fun b => if b = true then F1 else F0) (upd (upd H4 le (.lst [V.ref s, V.ref r])) p v) := fun v => ((g2.trans g3).trans g4).trans (Grow.mk fun b o d1 d2 => by
    have bp : b ≠ p := fun z => d1 (by rw [z]; exact List.mem_cons_self ..)
    refine ⟨fun z => ?_, keep v b o bp d2⟩
    rcases mem_foot.mp z with z | z | ⟨t, z⟩
    · exact bp z
    · exact ne_of_none d2 nle z
    · cases t
      · exact d1 (List.mem_cons_of_mem _ (List.mem_append.mpr (.inl z)))
      · exact d1 (List.mem_cons_of_mem _ (List.mem_append.mpr (.inr z))))
  have hC5 : ∀ v, CodeAt A (Out (foot p le fun b => if b = true then F1 else F0) (upd (upd H4 le (.lst [V.ref s, V.ref r])) p v)) c := fun v => hC2.ex ((g3.trans g4).trans (Grow.mk fun b o d1 d2 => by
    have bp : b ≠ p := fun z => d1 (by rw [z]; exact List.mem_cons_self ..)
    refine ⟨fun z => ?_, keep v b o bp d2⟩
    rcases mem_foot.mp z with z | z | ⟨t, z⟩
    · exact bp z
    · exact ne_of_none d2 nle z
    · cases t
      · exact d1 (List.mem_cons_of_mem _ (List.mem_append.mpr (.inl z)))
      · exact d1 (List.mem_cons_of_mem _ (List.mem_append.mpr (.inr z)))))
  refine q _ _ c ⟨dx, le, fun b => if b = true then r else s, fun b => if b = true then F1 else F0, ⟨by rw [upd_same]; rfl, ?_, fun b => ?_, fun b => ?_, fun b => ?_, fun b c hc => ?_⟩, rfl, hC5 _⟩ (g5 _)
  · rw [upd_ne ple.symm, upd_same]
    rfl
  · cases b
    · exact hE04.on fun b o hb e => keep _ b o (fun z => pF0 (by rw [← z]; exact hb)) e
    · exact hE1.on fun b o hb e => keep _ b o (fun z => pF1 (by rw [← z]; exact hb)) e
  · cases b
    · exact pF0
    · exact pF1
  · cases b
    · exact lF0
    · exact lF1
  · cases b
    · exact dis c hc
    · exact fun z => dis c z hc
end
end Sl
/-! ## D26 -/
set_option Elab.async false
set_option linter.all false
set_option maxRecDepth 100000
set_option maxHeartbeats 4000000
namespace Sl
open PySem PySem.Spec PyProof.Rows L2 Evl
section
variable {P : Program} {w : World} {K : PySem.W.Frag} {mg : Str → Option Value} {base : Heap} {A : Adr}
theorem setB_id (x : Two) (b : Bool) : setB x b (x b) = x := by
  funext c
  by_cases k : c = b
  · rw [k, setB_same]
  · rw [setB_ne k]
theorem ok_Link_begin (T : Top K mg A) (G_LinkEnd_init : FnOk P w K mg base CX0 3 A.f_LinkEnd_init A.d_LinkEnd_init ["self", "code", "name"] (sp_LinkEnd_init K A)) : FnOk P w K mg base CX0 5 A.f_Link_begin A.d_Link_begin ["self", "which", "name"] (sp_Link_begin K A) := by
  refine T.f_Link_begin.F.ok sc_Link_begin (fun vs H Q E h => by obtain ⟨_, _, _, _, _, _, rfl, _⟩ := h; rfl) (fun cdv Ar outer s H vs Q E hr h => ?_)
  obtain ⟨a, ca, F, b, n, x, rfl, hT, q⟩ := h
  refine ⟨_, (pss_cons (ps_if (pt_cmpR op_ge (pv 2) (pe_glob (v := .int 4294967296) rfl T.g_NAMES ⟨_, rfl⟩) (nomark _)) (pss_one (ps_ret (pe_lst (pa_cons (pe_un un_neg pe_int) pa_nil)))) pss_nil)
    (pss_cons (ps_asg (pe_make T.k_LinkEnd.M G_LinkEnd_init (hr.mono (by decide)) rfl T.k_LinkEnd.g T.k_LinkEnd.b .nil pass0 (pa_cons (pe_fld (pv 0) rfl) (pa_cons (pv 2) pa_nil))) (pg_sub (pe_fld (pv 0) rfl) (pv 1) set_list))
    (pss_one (ps_ret (pe_lst (pa_cons pe_int pa_nil)))))), ?_⟩
  have hT0 := hT
  obtain ⟨dx, le, e, G, ⟨h1, h2, h3, h4, h5, h6⟩, rfl, hC⟩ := hT
  have hstep : stepB x b (.begin_ n) = setB x b (if n < 2 ^ 32 then Fm11.begin_ n else x b) := by
    unfold stepB Fm11.does
    by_cases c : n < 2 ^ 32
    · simp only [if_pos c]
    · simp only [if_neg c]
  have hout : outB x b (.begin_ n) = [if n < 2 ^ 32 then 0 else -1] := by
    unfold outB Fm11.does
    by_cases c : n < 2 ^ 32
    · simp only [if_pos c]; rfl
    · simp only [if_neg c]; rfl
  rw [hstep, hout] at q
  refine ⟨_, rfl, _, _, rfl, rfl, _, rfl, ite2 (fun z => ?_) (fun z => ?_)⟩
  · have hz : ¬ n < 2 ^ 32 := by have := of_decide_eq_true z; omega
    rw [if_neg hz, if_neg hz, setB_id] at q
    refine ⟨_, rfl, by show 1 ≤ sizeLine; decide, fun p np => ?_⟩
    exact q.lay hT0 (Grow.refl _ _) np rfl
  have hz : n < 2 ^ 32 := by
    have : ¬ (4294967296 : Int) ≤ (n : Int) := fun y => z (decide_eq_true y)
    omega
  rw [if_pos hz, if_pos hz] at q
  refine ⟨_, rfl, _, _, _, _, _, rfl, h1, T.c_Link.cl, T.c_Link.n_code, lk_Link_code, _, rfl, ?_⟩
  intro s ds ns nds nexs
  have y1 := (Ex.new (o := .own s) nds).trans (Ex.new (o := .ins A.c_LinkEnd ds []) (by rw [upd_ne nexs.symm]; exact ns))
  refine ⟨s, ds, ca, n, rfl, upd_same, fun H1 F1 hE g => ⟨rfl, ?_⟩⟩
  have kp : ∀ c o, H c = some o → c ∉ F1 ∧ H1 c = some o := fun c o k => g.get (fun z => ne_of_none k ns (List.mem_singleton.mp z)) (y1 _ _ k)
  refine ⟨_, rfl, _, _, _, _, _, rfl, (kp _ _ h1).2, T.c_Link.cl, T.c_Link.n_ends, lk_Link_ends, _, rfl, ?_⟩
  have ale : a ≠ le := fun z => by rw [z, h2] at h1; cases h1
  refine ⟨le, _, _, Fm11.bit b, rfl, rfl, (kp _ _ h2).2, by cases b <;> rfl, ?_⟩
  refine ⟨by show 1 ≤ sizeLine; decide, fun p np => ?_⟩
  have dF : ∀ c ∈ F1, H c = none := fun c hc => by
    cases k : H c with
    | none => rfl
    | some o => exact absurd hc (kp c o k).1
  have dG : ∀ t c, c ∈ G t → c ∉ F1 := fun t c hc z => (h3 t).dom c hc (dF c z)
  have lF1 : le ∉ F1 := fun z => by rw [dF le z] at h2; cases h2
  have aF1 : a ∉ F1 := fun z => by rw [dF a z] at h1; cases h1
  have kp2 : ∀ v c o, c ≠ le → H c = some o → upd H1 le v c = some o := fun v c o d k => by
    rw [upd_ne d]
    exact (kp c o k).2
  have gr : ∀ v, Grow (foot a le G) H (foot a le fun c => if c = b then F1 else G c) (upd H1 le v) := fun v => Grow.mk fun c o d1 d2 => by
    have dl : c ≠ le := fun z => d1 (mem_foot.mpr (.inr (.inl z)))
    refine ⟨fun z => ?_, kp2 v c o dl d2⟩
    rcases mem_foot.mp z with z | z | ⟨t, z⟩
    · exact d1 (mem_foot.mpr (.inl z))
    · exact dl z
    · by_cases k : t = b
      · rw [if_pos k] at z; rw [dF c z] at d2; cases d2
      · rw [if_neg k] at z; exact d1 (mem_foot.mpr (.inr (.inr ⟨t, z⟩)))
  have nb : ∀ c, c ≠ b → c = !b := fun c hc => by cases c <;> cases b <;> first | rfl | exact absurd rfl hc
  refine q.lay (F1 := foot a le fun c => if c = b then F1 else G c) ⟨dx, le, fun c => if c = b then s else e c, fun c => if c = b then F1 else G c, ⟨kp2 _ _ _ ale h1, ?_, fun c => ?_, fun c => ?_, fun c => ?_, fun c d hd => ?_⟩, rfl, hC.ex (gr _)⟩ (gr _) np rfl
  · rw [upd_same]
    cases b <;> rfl
  · dsimp only
    by_cases k : c = b
    · rw [k, setB_same, if_pos rfl, if_pos rfl]
      exact hE.on fun d o hd k2 => by
        rw [upd_ne (fun z => lF1 (by rw [← z]; exact hd))]
        exact k2
    · rw [setB_ne k, if_neg k, if_neg k]
      exact (h3 c).on fun d o hd k2 => kp2 _ d o (fun z => h5 c (by rw [← z]; exact hd)) k2
  · dsimp only
    by_cases k : c = b
    · rw [if_pos k]; exact aF1
    · rw [if_neg k]; exact h4 c
  · dsimp only
    by_cases k : c = b
    · rw [if_pos k]; exact lF1
    · rw [if_neg k]; exact h5 c
  · dsimp only at hd ⊢
    by_cases k : c = b
    · have k2 : ¬ (!c) = b := by rw [k]; cases b <;> decide
      rw [if_pos k] at hd
      rw [if_neg k2]
      exact fun z => dG _ d z hd
    · have k2 : (!c) = b := by rw [nb c k]; cases b <;> rfl
      rw [if_neg k] at hd
      rw [if_pos k2]
      exact dG _ d hd
/-- where the rest begins -/
theorem drop_get {l m : List Int} {i : Nat} {j : Nat} {z : Int} (h : l.drop i = m) (hz : m[j]? = some z) : l[i + j]? = some z := by
  rw [← h, List.getElem?_drop] at hz
  exact hz
theorem iv_get {l : List Int} {j : Nat} {z : Int} (h : l[j]? = some z) : atI (iv l) (j : Int) = some (.int z) := atI_nat (by unfold iv; rw [List.getElem?_map, h]; rfl)
theorem ok_size_of (T : Top K mg A) : FnOk P w K mg base CX0 1 A.f_size_of A.d_size_of ["calls", "at"] (sp_size_of K A) := by
  refine T.f_size_of.F.ok sc_size_of (fun vs H Q E h => by obtain ⟨_, _, _, _, _, _, rfl, _⟩ := h; rfl) (fun cdv Ar outer s H vs Q E hr h => ?_)
  obtain ⟨o, l, r, i, b, c, rfl, hl, hd, hc, q⟩ := h
  refine ⟨_, (pss_cons (ps_set (i := 2) sc_size_of.nd rfl (Or.inl rfl) (pe_ix ix_list (pv 0) (pv 1) (fun _ _ => rfl)))
    (pss_cons (ps_if (PW.pt (pw_or (pt_cmpR op_eq (pv 2) (pe_glob (v := .int 2) rfl T.g_PUT ⟨_, rfl⟩) (nomark _)) (pw_or1 (pt_cmpR op_eq (pv 2) (pe_glob (v := .int 5) rfl T.g_CAME ⟨_, rfl⟩) (nomark _))))) (pss_one (ps_ret (pe_op op_add pe_int (pe_ix ix_list (pv 0) (pe_op op_add (pv 1) pe_int) (fun _ _ => rfl))))) pss_nil)
    (pss_cons (ps_if (PW.pt (pw_or (pt_cmpR op_eq (pv 2) (pe_glob (v := .int 1) rfl T.g_BEGIN ⟨_, rfl⟩) (nomark _)) (pw_or1 (pt_cmpR op_eq (pv 2) (pe_glob (v := .int 6) rfl T.g_TAKE ⟨_, rfl⟩) (nomark _))))) (pss_one (ps_ret pe_int)) pss_nil)
    (pss_one (ps_ret pe_int))))), ?_⟩
  have first : ∀ z, (flat b c)[0]? = some z → atI (iv l) (i : Int) = some (.int z) := fun z hz => iv_get (drop_get (j := 0) hd (by
    cases k : flat b c with
    | nil => rw [k] at hz; cases hz
    | cons y s => rw [k] at hz; exact hz))
  cases c with
  | begin_ n =>
    refine ⟨_, rfl, _, rfl, o, _, _, _, rfl, rfl, hl, first 1 rfl, _, rfl, rfl, _, rfl, iteF ⟨_, rfl, rfl, _, rfl, iteF ?_⟩⟩
    exact ⟨_, rfl, rfl, _, rfl, iteT (iteT q)⟩
  | put m =>
    have e : atI (iv l) ((i : Int) + 2) = some (.int (m.length : Nat)) := iv_get (drop_get (j := 2) hd rfl)
    have k : (3 : Int) + (m.length : Nat) = ((flat b (.put m)).length : Nat) := by
      show _ = (((natsI m).length + 3 : Nat) : Int)
      unfold natsI
      rw [List.length_map]
      omega
    refine ⟨_, rfl, _, rfl, o, _, _, _, rfl, rfl, hl, first 2 rfl, _, rfl, rfl, _, rfl, iteT (iteT ?_)⟩
    refine ⟨_, rfl, _, rfl, _, _, rfl, rfl, o, _, _, _, rfl, rfl, hl, e, _, _, rfl, rfl, ?_⟩
    show Q (.int ((3 : Int) + (m.length : Nat))) H
    rw [k]
    exact q
  | finish =>
    refine ⟨_, rfl, _, rfl, o, _, _, _, rfl, rfl, hl, first 3 rfl, _, rfl, rfl, _, rfl, iteF ⟨_, rfl, rfl, _, rfl, iteF ?_⟩⟩
    exact ⟨_, rfl, rfl, _, rfl, iteF ⟨_, rfl, rfl, _, rfl, iteF q⟩⟩
  | tick =>
    refine ⟨_, rfl, _, rfl, o, _, _, _, rfl, rfl, hl, first 4 rfl, _, rfl, rfl, _, rfl, iteF ⟨_, rfl, rfl, _, rfl, iteF ?_⟩⟩
    exact ⟨_, rfl, rfl, _, rfl, iteF ⟨_, rfl, rfl, _, rfl, iteF q⟩⟩
  | came m =>
    have e : atI (iv l) ((i : Int) + 2) = some (.int (m.length : Nat)) := iv_get (drop_get (j := 2) hd rfl)
    have k : (3 : Int) + (m.length : Nat) = ((flat b (.came m)).length : Nat) := by
      show _ = (((natsI m).length + 3 : Nat) : Int)
      unfold natsI
      rw [List.length_map]
      omega
    refine ⟨_, rfl, _, rfl, o, _, _, _, rfl, rfl, hl, first 5 rfl, _, rfl, rfl, _, rfl, iteF ⟨_, rfl, rfl, _, rfl, iteT ?_⟩⟩
    refine ⟨_, rfl, _, rfl, _, _, rfl, rfl, o, _, _, _, rfl, rfl, hl, e, _, _, rfl, rfl, ?_⟩
    show Q (.int ((3 : Int) + (m.length : Nat))) H
    rw [k]
    exact q
  | take n =>
    refine ⟨_, rfl, _, rfl, o, _, _, _, rfl, rfl, hl, first 6 rfl, _, rfl, rfl, _, rfl, iteF ⟨_, rfl, rfl, _, rfl, iteF ?_⟩⟩
    exact ⟨_, rfl, rfl, _, rfl, iteF ⟨_, rfl, rfl, _, rfl, iteT q⟩⟩
  | tell =>
    refine ⟨_, rfl, _, rfl, o, _, _, _, rfl, rfl, hl, first 7 rfl, _, rfl, rfl, _, rfl, iteF ⟨_, rfl, rfl, _, rfl, iteF ?_⟩⟩
    exact ⟨_, rfl, rfl, _, rfl, iteF ⟨_, rfl, rfl, _, rfl, iteF q⟩⟩
  | times a b => exact absurd hc id
  | parity m => exact absurd hc id
  | mend m => exact absurd hc id
  | sum m => exact absurd hc id
  | wire m => exact absurd hc id
  | open_ m => exact absurd hc id
end
end Sl
/-! ## D27 -/
set_option Elab.async false
set_option linter.all false
set_option maxRecDepth 100000
set_option maxHeartbeats 4000000
namespace Sl
open PySem PySem.Spec PyProof.Rows L2 Evl
section
variable {P : Program} {w : World} {K : PySem.W.Frag} {mg : Str → Option Value} {base : Heap} {A : Adr}
theorem EndRes.of {A : Adr} {H0 H : Hp} {a dx le ca : Addr} {e : Bool → Addr} {G : Bool → List Addr} {x : Two} {b : Bool} {y : Fm11.Link} {out : List Int} {Q : VK} (h : TwoW A H a dx le ca e G x) (hC : CodeAt A (Out (foot a le G) H) ca) (ex : Ex H0 H)
    (q : TwoRes A H0 (foot a le G) a ca (setB x b y) out Q) : EndRes A H (G b) (e b) ca y out Q := by
  intro l H' F' hE gr hn hl hv
  obtain ⟨t1, t2⟩ := h.one hC hE gr
  obtain ⟨h1, h2, h3, h4, h5, h6⟩ := h
  have ne : ∀ c o, c ∉ G b → H c = some o → l ≠ c := fun c o d1 d2 z => by
    rw [z, out_of d1, d2] at hn
    cases hn
  refine q l H' _ t1 ((Grow.ex ex).trans t2) ?_ (fun z => ?_) hv
  · cases k : Out (foot a le G) H0 l with
    | none => rfl
    | some o =>
      obtain ⟨k1, k2⟩ := out_some k
      exact absurd rfl (ne l o (fun z => k1 (mem_foot.mpr (.inr (.inr ⟨b, z⟩)))) (ex _ _ k2))
  · rcases mem_foot.mp z with z | z | ⟨t, z⟩
    · exact ne a _ (h4 b) h1 z
    · exact ne le _ (h5 b) h2 z
    · by_cases k : t = b
      · rw [if_pos k] at z
        exact hl z
      · rw [if_neg k] at z
        cases k2 : H l with
        | none => exact (h3 t).dom l z k2
        | some o =>
          refine ne l o (fun z2 => h6 b l z2 ?_) k2 rfl
          have : t = !b := by cases t <;> cases b <;> first | rfl | exact absurd rfl k
          rw [← this]
          exact z
theorem TwoW.ex {A : Adr} {H H' : Hp} {a dx le ca : Addr} {e : Bool → Addr} {G : Bool → List Addr} {x : Two} (h : TwoW A H a dx le ca e G x) (k : Ex H H') : TwoW A H' a dx le ca e G x := by
  obtain ⟨h1, h2, h3, h4, h5, h6⟩ := h
  exact ⟨k _ _ h1, k _ _ h2, fun b => (h3 b).ex k, h4, h5, h6⟩
theorem all_byte {l : List Nat} (h : Gf.By l) : l.all Fm11.isByte = true := by
  rw [List.all_eq_true]
  exact fun z hz => decide_eq_true (h z hz)
theorem bytes_ok {l : List Nat} (h : Gf.By l) (n : Nat) : Fm11.bytesOk l n = decide (l.length ≤ n) := by
  unfold Fm11.bytesOk
  rw [all_byte h]
  rfl
theorem does_put {x : Fm11.Link} {l : List Nat} (h : Gf.By l) : Fm11.does x (.put l) = (Fm11.says (putCode x l), putLink x l) := by
  unfold Fm11.does putCode putLink
  dsimp only
  rw [bytes_ok h]
  by_cases c : l.length ≤ 65536
  · have d : decide (l.length ≤ Fm11.QUEUE) = true := decide_eq_true c
    have e : ¬ 65536 < l.length := by omega
    rw [d, if_neg (by decide), if_neg e, if_neg e]
    by_cases c2 : x.told = true
    · rw [if_pos c2, if_pos c2, if_pos c2]
    · rw [if_neg c2, if_neg c2, if_neg c2]
      by_cases c3 : Fm11.QUEUE < x.rest.length + l.length
      · rw [if_pos c3]
        have c4 : 65536 < x.rest.length + l.length := c3
        rw [if_pos c4, if_pos c4]
      · rw [if_neg c3]
        have c4 : ¬ 65536 < x.rest.length + l.length := c3
        rw [if_neg c4, if_neg c4]
  · have d : decide (l.length ≤ Fm11.QUEUE) = false := decide_eq_false c
    have e : 65536 < l.length := by omega
    rw [d, if_pos rfl, if_pos e, if_pos e]
theorem does_came {x : Fm11.Link} {l : List Nat} (h : Gf.By l) : Fm11.does x (.came l) = (Fm11.says (cameCode x l), cameLink x l) := by
  unfold Fm11.does cameCode cameLink
  dsimp only
  rw [bytes_ok h]
  by_cases c : l.length ≤ 255
  · have e : ¬ 255 < l.length := by omega
    rw [decide_eq_true c, if_neg (by decide), if_neg e, if_neg e]
  · have e : 255 < l.length := by omega
    rw [decide_eq_false c, if_pos rfl, if_pos e, if_pos e]
theorem does_fin (x : Fm11.Link) : Fm11.does x .finish = (Fm11.says (finCode x), finLink x) := by
  unfold Fm11.does finCode finLink
  dsimp only
  by_cases c : x.told = true
  · rw [if_pos c, if_pos c, if_pos c]
  · rw [if_neg c, if_neg c, if_neg c]
theorem does_take (x : Fm11.Link) (n : Nat) : (Fm11.does x (.take n)).2 = takeLink x n ∧ ansOut (Fm11.does x (.take n)).1 = takeOut x n := by
  unfold Fm11.does takeLink takeOut
  dsimp only
  by_cases c : x.got = [] ∧ x.ended = true
  · rw [if_pos c, if_pos c, if_pos c]
    exact ⟨rfl, rfl⟩
  · rw [if_neg c, if_neg c, if_neg c]
    refine ⟨rfl, ?_⟩
    show _ :: (_ ++ []) = _
    rw [List.append_nil]
    rfl
theorem does_tick (x : Fm11.Link) : (Fm11.does x .tick).2 = x.tick.1 ∧ ansOut (Fm11.does x .tick).1 = tickOut x := by
  refine ⟨rfl, ?_⟩
  show _ :: (x.tick.2.map Fm11.Packet.wire).flatMap _ = _
  rw [List.flatMap_map]
  rfl
theorem says_out (z : Int) : ansOut (Fm11.says z) = [z] := rfl
theorem ok_Link_answer_to (T : Top K mg A) (G_Link_begin : FnOk P w K mg base CX0 5 A.f_Link_begin A.d_Link_begin ["self", "which", "name"] (sp_Link_begin K A)) (G_LinkEnd_came : FnOk P w K mg base CX0 6 A.f_LinkEnd_came A.d_LinkEnd_came ["self", "octets"] (sp_LinkEnd_came K A)) (G_LinkEnd_finish : FnOk P w K mg base CX0 2 A.f_LinkEnd_finish A.d_LinkEnd_finish ["self"] (sp_LinkEnd_finish K A)) (G_LinkEnd_put : FnOk P w K mg base CX0 2 A.f_LinkEnd_put A.d_LinkEnd_put ["self", "octets"] (sp_LinkEnd_put K A)) (G_LinkEnd_take : FnOk P w K mg base CX0 3 A.f_LinkEnd_take A.d_LinkEnd_take ["self", "most"] (sp_LinkEnd_take K A)) (G_LinkEnd_tell : FnOk P w K mg base CX0 1 A.f_LinkEnd_tell A.d_LinkEnd_tell ["self"] (sp_LinkEnd_tell K A)) (G_LinkEnd_tick : FnOk P w K mg base CX0 6 A.f_LinkEnd_tick A.d_LinkEnd_tick ["self"] (sp_LinkEnd_tick K A)) : FnOk P w K mg base CX0 7 A.f_Link_answer_to A.d_Link_answer_to ["self", "call"] (sp_Link_answer_to K A) := by
  refine T.f_Link_answer_to.F.ok sc_Link_answer_to (fun vs H Q E h => by obtain ⟨_, _, _, _, _, _, _, _, rfl, _⟩ := h; rfl) (fun cdv Ar outer s H vs Q E hr h => ?_)
  obtain ⟨a, ca, o, F, n, b, c, x, rfl, hT, ho, hc, hn, hx, q⟩ := h
  refine ⟨_, (pss_cons (ps_set (i := 2) sc_Link_answer_to.nd rfl (Or.inl rfl) (pe_ix ix_list (pv 1) pe_int (fun _ _ => rfl)))
    (pss_cons (ps_if (pt_cmpR op_eq (pv 2) (pe_glob (v := .int 1) rfl T.g_BEGIN ⟨_, rfl⟩) (nomark _)) (pss_one (ps_ret (pe_meth (pv 0) T.c_Link.cl T.f_Link_begin.m G_Link_begin (hr.mono (by decide)) T.f_Link_begin.b .nil pass0 (pa_cons (pe_ix ix_list (pv 1) pe_int (fun _ _ => rfl)) (pa_cons (pe_ix ix_list (pv 1) pe_int (fun _ _ => rfl)) pa_nil))))) pss_nil)
    (pss_cons (ps_set (i := 3) sc_Link_answer_to.nd rfl (Or.inl rfl) (pe_ix ix_list (pe_fld (pv 0) rfl) (pe_ix ix_list (pv 1) pe_int (fun _ _ => rfl)) (fun _ _ => rfl)))
    (pss_cons (ps_if (pt_cmpR op_eq (pv 2) (pe_glob (v := .int 2) rfl T.g_PUT ⟨_, rfl⟩) (nomark _)) (pss_one (ps_ret (pe_meth (pv 3) T.c_LinkEnd.cl T.f_LinkEnd_put.m G_LinkEnd_put (hr.mono (by decide)) T.f_LinkEnd_put.b .nil pass0 (pa_cons (pe_slice sl_list (pv 1) (po_some pe_int) po_none) pa_nil)))) pss_nil)
    (pss_cons (ps_if (pt_cmpR op_eq (pv 2) (pe_glob (v := .int 3) rfl T.g_FINISH ⟨_, rfl⟩) (nomark _)) (pss_one (ps_ret (pe_meth0 (pv 3) T.c_LinkEnd.cl T.f_LinkEnd_finish.m G_LinkEnd_finish (hr.mono (by decide)) T.f_LinkEnd_finish.b .nil pass0))) pss_nil)
    (pss_cons (ps_if (pt_cmpR op_eq (pv 2) (pe_glob (v := .int 4) rfl T.g_TICK ⟨_, rfl⟩) (nomark _)) (pss_one (ps_ret (pe_meth0 (pv 3) T.c_LinkEnd.cl T.f_LinkEnd_tick.m G_LinkEnd_tick (hr.mono (by decide)) T.f_LinkEnd_tick.b .nil pass0))) pss_nil)
    (pss_cons (ps_if (pt_cmpR op_eq (pv 2) (pe_glob (v := .int 5) rfl T.g_CAME ⟨_, rfl⟩) (nomark _)) (pss_one (ps_ret (pe_meth (pv 3) T.c_LinkEnd.cl T.f_LinkEnd_came.m G_LinkEnd_came (hr.mono (by decide)) T.f_LinkEnd_came.b .nil pass0 (pa_cons (pe_slice sl_list (pv 1) (po_some pe_int) po_none) pa_nil)))) pss_nil)
    (pss_cons (ps_if (pt_cmpR op_eq (pv 2) (pe_glob (v := .int 6) rfl T.g_TAKE ⟨_, rfl⟩) (nomark _)) (pss_one (ps_ret (pe_meth (pv 3) T.c_LinkEnd.cl T.f_LinkEnd_take.m G_LinkEnd_take (hr.mono (by decide)) T.f_LinkEnd_take.b .nil pass0 (pa_cons (pe_ix ix_list (pv 1) pe_int (fun _ _ => rfl)) pa_nil)))) pss_nil)
    (pss_one (ps_ret (pe_meth0 (pv 3) T.c_LinkEnd.cl T.f_LinkEnd_tell.m G_LinkEnd_tell (hr.mono (by decide)) T.f_LinkEnd_tell.b .nil pass0))))))))))), ?_⟩
  have hT0 := hT
  obtain ⟨dx, le, e, G, hW, rfl, hC⟩ := hT
  obtain ⟨h1, h2, h3, h4, h5, h6⟩ := id hW
  obtain ⟨oF, ho'⟩ := out_some ho
  obtain ⟨de, se, re, Fs, Fr, m1, -⟩ := id (h3 b)
  have hb : atI [V.ref (e false), V.ref (e true)] ((Fm11.bit b : Nat) : Int) = some (.ref (e b)) := by cases b <;> rfl
  have hgot : (x b).got.length ≤ 4096 := (hx b).rv.1
  have hheld : (x b).held.length ≤ 100000 := Nat.le_trans (hx b).hl (Nat.le_trans hn (by decide))
  have hfly : (x b).flight.length ≤ 1000 := Nat.le_trans (hx b).fl (by decide)
  have hrest : (x b).rest.length ≤ 100000 := Nat.le_trans (hx b).rl (by decide)
  have hres : ∀ (y : Fm11.Link) (out : List Int) (H1 : Hp), Ex H H1 → TwoRes A H (foot a le G) a ca (setB x b y) out Q → EndRes A H1 (G b) (e b) ca y out Q := fun y out H1 k q => EndRes.of (hW.ex k) (hC.ex (Grow.ex k)) k q
  have hcode : ∀ H1, Ex H H1 → CodeAt A (Out (G b) H1) ca := fun H1 k => hC.ex fun c u d => by
    obtain ⟨d1, d2⟩ := out_some d
    exact out_mk (fun z => d1 (mem_foot.mpr (.inr (.inr ⟨b, z⟩)))) (k _ _ d2)
  cases c with
  | begin_ m =>
    refine ⟨_, rfl, o, _, _, _, rfl, rfl, SqL.of ho', iv_get (j := 0) (z := 1) rfl, _, rfl, rfl, _, rfl, iteT ?_⟩
    exact ⟨_, rfl, _, _, _, rfl, h1, no_Link_begin, _, rfl, o, _, _, _, rfl, rfl, SqL.of ho', iv_get (j := 1) (z := (Fm11.bit b : Nat)) rfl, _, rfl, o, _, _, _, rfl, rfl, SqL.of ho', iv_get (j := 2) (z := (m : Nat)) rfl, a, ca, _, b, m, x, rfl, hT0, q⟩
  | finish =>
    refine ⟨_, rfl, o, _, _, _, rfl, rfl, SqL.of ho', iv_get (j := 0) (z := 3) rfl, _, rfl, rfl, _, rfl, iteF ?_⟩
    refine ⟨_, rfl, _, _, _, _, _, rfl, h1, T.c_Link.cl, T.c_Link.n_ends, lk_Link_ends, _, rfl, o, _, _, _, rfl, rfl, SqL.of ho', iv_get (j := 1) (z := (Fm11.bit b : Nat)) rfl, le, _, _, _, rfl, rfl, SqL.of h2, hb, ?_⟩
    refine ⟨_, rfl, rfl, _, rfl, iteF ?_⟩
    refine ⟨_, rfl, rfl, _, rfl, iteT ?_⟩
    have hq : TwoRes A H (foot a le G) a ca (setB x b (finLink (x b))) [finCode (x b)] Q := by
      unfold stepB outB at q
      rw [does_fin] at q
      exact q
    exact ⟨_, rfl, _, _, _, rfl, m1, no_LinkEnd_finish, e b, ca, G b, x b, rfl, h3 b, hres _ _ _ (Ex.refl H) hq⟩
  | tick =>
    refine ⟨_, rfl, o, _, _, _, rfl, rfl, SqL.of ho', iv_get (j := 0) (z := 4) rfl, _, rfl, rfl, _, rfl, iteF ?_⟩
    refine ⟨_, rfl, _, _, _, _, _, rfl, h1, T.c_Link.cl, T.c_Link.n_ends, lk_Link_ends, _, rfl, o, _, _, _, rfl, rfl, SqL.of ho', iv_get (j := 1) (z := (Fm11.bit b : Nat)) rfl, le, _, _, _, rfl, rfl, SqL.of h2, hb, ?_⟩
    refine ⟨_, rfl, rfl, _, rfl, iteF ?_⟩
    refine ⟨_, rfl, rfl, _, rfl, iteF ?_⟩
    refine ⟨_, rfl, rfl, _, rfl, iteT ?_⟩
    have hq : TwoRes A H (foot a le G) a ca (setB x b (x b).tick.1) (tickOut (x b)) Q := by
      unfold stepB outB at q
      rw [(does_tick (x b)).1, (does_tick (x b)).2] at q
      exact q
    exact ⟨_, rfl, _, _, _, rfl, m1, no_LinkEnd_tick, e b, ca, n, G b, x b, rfl, h3 b, hcode _ (Ex.refl H), hn, hx b, hres _ _ _ (Ex.refl H) hq⟩
  | take m =>
    refine ⟨_, rfl, o, _, _, _, rfl, rfl, SqL.of ho', iv_get (j := 0) (z := 6) rfl, _, rfl, rfl, _, rfl, iteF ?_⟩
    refine ⟨_, rfl, _, _, _, _, _, rfl, h1, T.c_Link.cl, T.c_Link.n_ends, lk_Link_ends, _, rfl, o, _, _, _, rfl, rfl, SqL.of ho', iv_get (j := 1) (z := (Fm11.bit b : Nat)) rfl, le, _, _, _, rfl, rfl, SqL.of h2, hb, ?_⟩
    refine ⟨_, rfl, rfl, _, rfl, iteF ?_⟩
    refine ⟨_, rfl, rfl, _, rfl, iteF ?_⟩
    refine ⟨_, rfl, rfl, _, rfl, iteF ?_⟩
    refine ⟨_, rfl, rfl, _, rfl, iteF ?_⟩
    refine ⟨_, rfl, rfl, _, rfl, iteT ?_⟩
    have hq : TwoRes A H (foot a le G) a ca (setB x b (takeLink (x b) m)) (takeOut (x b) m) Q := by
      unfold stepB outB at q
      rw [(does_take (x b) m).1, (does_take (x b) m).2] at q
      exact q
    exact ⟨_, rfl, _, _, _, rfl, m1, no_LinkEnd_take, _, rfl, o, _, _, _, rfl, rfl, SqL.of ho', iv_get (j := 2) (z := (m : Nat)) rfl, e b, ca, m, G b, x b, rfl, h3 b, hgot, hres _ _ _ (Ex.refl H) hq⟩
  | tell =>
    refine ⟨_, rfl, o, _, _, _, rfl, rfl, SqL.of ho', iv_get (j := 0) (z := 7) rfl, _, rfl, rfl, _, rfl, iteF ?_⟩
    refine ⟨_, rfl, _, _, _, _, _, rfl, h1, T.c_Link.cl, T.c_Link.n_ends, lk_Link_ends, _, rfl, o, _, _, _, rfl, rfl, SqL.of ho', iv_get (j := 1) (z := (Fm11.bit b : Nat)) rfl, le, _, _, _, rfl, rfl, SqL.of h2, hb, ?_⟩
    refine ⟨_, rfl, rfl, _, rfl, iteF ?_⟩
    refine ⟨_, rfl, rfl, _, rfl, iteF ?_⟩
    refine ⟨_, rfl, rfl, _, rfl, iteF ?_⟩
    refine ⟨_, rfl, rfl, _, rfl, iteF ?_⟩
    refine ⟨_, rfl, rfl, _, rfl, iteF ?_⟩
    have hq : TwoRes A H (foot a le G) a ca (setB x b (x b)) [0, 7, (x b).rest.length, (x b).flight.length, (x b).got.length, Fm11.bit (x b).told, Fm11.bit (x b).ended, (x b).dropped, (x b).mended] Q := q
    exact ⟨_, rfl, _, _, _, rfl, m1, no_LinkEnd_tell, e b, ca, G b, x b, rfl, h3 b, hres _ _ _ (Ex.refl H) hq⟩
  | put m =>
    refine ⟨_, rfl, o, _, _, _, rfl, rfl, SqL.of ho', iv_get (j := 0) (z := 2) rfl, _, rfl, rfl, _, rfl, iteF ?_⟩
    refine ⟨_, rfl, _, _, _, _, _, rfl, h1, T.c_Link.cl, T.c_Link.n_ends, lk_Link_ends, _, rfl, o, _, _, _, rfl, rfl, SqL.of ho', iv_get (j := 1) (z := (Fm11.bit b : Nat)) rfl, le, _, _, _, rfl, rfl, SqL.of h2, hb, ?_⟩
    refine ⟨_, rfl, rfl, _, rfl, iteT ?_⟩
    have hq : TwoRes A H (foot a le G) a ca (setB x b (putLink (x b) m)) [putCode (x b) m] Q := by
      unfold stepB outB at q
      rw [does_put hc.1] at q
      exact q
    refine ⟨_, rfl, _, _, _, rfl, m1, no_LinkEnd_put, _, rfl, _, rfl, o, _, rfl, SqL.of ho', fun p np => ?_⟩
    have hcut : cutV (iv (flat b (.put m))) (some 3) none = nv m := by
      have : iv (flat b (.put m)) = nv (2 :: Fm11.bit b :: m.length :: m) := iv_nat (2 :: Fm11.bit b :: m.length :: m)
      rw [this]
      exact cut_from _ 3
    rw [hcut]
    have ex := Ex.new (o := .lst (nv m)) np
    have pG : p ∉ G b := (h3 b).fresh np
    exact ⟨e b, p, ca, G b, x b, m, rfl, (h3 b).ex ex, out_mk pG upd_same, hrest, Nat.le_trans hc.2 (by decide), hres _ _ _ ex hq⟩
  | came m =>
    refine ⟨_, rfl, o, _, _, _, rfl, rfl, SqL.of ho', iv_get (j := 0) (z := 5) rfl, _, rfl, rfl, _, rfl, iteF ?_⟩
    refine ⟨_, rfl, _, _, _, _, _, rfl, h1, T.c_Link.cl, T.c_Link.n_ends, lk_Link_ends, _, rfl, o, _, _, _, rfl, rfl, SqL.of ho', iv_get (j := 1) (z := (Fm11.bit b : Nat)) rfl, le, _, _, _, rfl, rfl, SqL.of h2, hb, ?_⟩
    refine ⟨_, rfl, rfl, _, rfl, iteF ?_⟩
    refine ⟨_, rfl, rfl, _, rfl, iteF ?_⟩
    refine ⟨_, rfl, rfl, _, rfl, iteF ?_⟩
    refine ⟨_, rfl, rfl, _, rfl, iteT ?_⟩
    have hq : TwoRes A H (foot a le G) a ca (setB x b (cameLink (x b) m)) [cameCode (x b) m] Q := by
      unfold stepB outB at q
      rw [does_came hc.1] at q
      exact q
    refine ⟨_, rfl, _, _, _, rfl, m1, no_LinkEnd_came, _, rfl, _, rfl, o, _, rfl, SqL.of ho', fun p np => ?_⟩
    have hcut : cutV (iv (flat b (.came m))) (some 3) none = nv m := by
      have : iv (flat b (.came m)) = nv (5 :: Fm11.bit b :: m.length :: m) := iv_nat (5 :: Fm11.bit b :: m.length :: m)
      rw [this]
      exact cut_from _ 3
    rw [hcut]
    have ex := Ex.new (o := .lst (nv m)) np
    have pG : p ∉ G b := (h3 b).fresh np
    exact ⟨e b, ca, p, G b, x b, m, rfl, (h3 b).ex ex, hcode _ ex, out_mk pG upd_same, hc.1, (hx b).rv, hheld, hfly, hres _ _ _ ex hq⟩
  | times a b => exact absurd hc id
  | parity m => exact absurd hc id
  | mend m => exact absurd hc id
  | sum m => exact absurd hc id
  | wire m => exact absurd hc id
  | open_ m => exact absurd hc id
end
end Sl
/-! ## E1 -/
set_option Elab.async false
set_option linter.all false
set_option maxRecDepth 100000
set_option maxHeartbeats 4000000
namespace Sl
open PySem PySem.Spec PyProof.Rows L2 Evl
theorem settle_keep (k : Nat) (x : Fm11.Link) (h : RecvOk x) : RecvOk (x.settle k) ∧ (x.settle k).held.length ≤ x.held.length ∧ (x.settle k).flight = x.flight ∧ (x.settle k).rest = x.rest := by
  induction k generalizing x with
  | zero => exact ⟨h, Nat.le_refl _, rfl, rfl⟩
  | succ k ih =>
    cases c : x.held.find? fun p => p.1 == x.next with
    | some p =>
      rw [settle_some c]
      obtain ⟨h1, h2, h3, h4⟩ := ih (oneOn x p.2) (oneOn_ok h c).1
      refine ⟨h1, Nat.le_trans h2 ?_, h3, h4⟩
      exact List.length_filter_le _ _
    | none =>
      rw [settle_none c]
      by_cases d : x.last = some x.next
      · rw [if_pos d]
        refine ⟨⟨h.1, fun y hy => ?_⟩, Nat.le_refl _, rfl, rfl⟩
        have := h.2 y hy
        show y.1 + y.2.length ≤ x.next + 1 + x.room
        omega
      · rw [if_neg d]
        exact ⟨h, Nat.le_refl _, rfl, rfl⟩
theorem LinkOk.mono {n : Nat} {x : Fm11.Link} (h : LinkOk n x) : LinkOk (n + 1) x := ⟨h.fl, fun p hp => ⟨(h.pc p hp).1, Nat.le_succ_of_le (h.pc p hp).2⟩, h.rb, h.rl, h.rv, Nat.le_succ_of_le h.hl⟩
theorem LinkOk.begin_ (n m : Nat) : LinkOk n (Fm11.begin_ m) := ⟨Nat.zero_le _, fun p hp => absurd hp List.not_mem_nil, Gf.By.nil, Nat.zero_le _, ⟨Nat.zero_le _, fun p hp => absurd hp List.not_mem_nil⟩, Nat.zero_le _⟩
theorem LinkOk.accept {n : Nat} {x : Fm11.Link} (h : LinkOk n x) (k : Fm11.Packet) : LinkOk (n + 1) (acceptLink x k) := by
  unfold acceptLink
  split
  · have hk : (keepLink x k).held.length ≤ n + 1 ∧ (keepLink x k).flight = x.flight ∧ (keepLink x k).rest = x.rest := by
      unfold keepLink
      split
      · refine ⟨?_, rfl, rfl⟩
        show (x.held ++ [_]).length ≤ n + 1
        rw [List.length_append]
        have := h.hl
        show x.held.length + 1 ≤ n + 1
        omega
      · exact ⟨Nat.le_succ_of_le h.hl, rfl, rfl⟩
    obtain ⟨s1, s2, s3, s4⟩ := settle_keep 65 (keepLink x k) (keep_ok h.rv)
    refine ⟨?_, ?_, ?_, ?_, s1, Nat.le_trans s2 hk.1⟩
    · rw [s3, hk.2.1]; exact h.fl
    · rw [s3, hk.2.1]; exact h.mono.pc
    · rw [s4, hk.2.2]; exact h.rb
    · rw [s4, hk.2.2]; exact h.rl
  split
  · have hk : (noteLink x k.seq).held = x.held ∧ (noteLink x k.seq).flight = x.flight ∧ (noteLink x k.seq).rest = x.rest := by
      unfold noteLink
      split <;> exact ⟨rfl, rfl, rfl⟩
    obtain ⟨s1, s2, s3, s4⟩ := settle_keep 65 (noteLink x k.seq) (note_ok h.rv)
    refine ⟨?_, ?_, ?_, ?_, s1, Nat.le_trans s2 (by rw [hk.1]; exact Nat.le_succ_of_le h.hl)⟩
    · rw [s3, hk.2.1]; exact h.fl
    · rw [s3, hk.2.1]; exact h.mono.pc
    · rw [s4, hk.2.2]; exact h.rb
    · rw [s4, hk.2.2]; exact h.rl
  · exact h.mono
theorem LinkOk.heard {n : Nat} {x : Fm11.Link} (h : LinkOk n x) (a b : Nat) : LinkOk n (x.heard a b) := by
  unfold Fm11.Link.heard
  split
  · refine ⟨Nat.le_trans (List.length_filter_le _ _) h.fl, fun p hp => h.pc p (List.mem_filter.mp hp).1, h.rb.drop _, ?_, h.rv, h.hl⟩
    show (x.rest.drop _).length ≤ 65536
    rw [List.length_drop]
    have := h.rl
    omega
  · exact h
theorem LinkOk.came {n : Nat} {x : Fm11.Link} (h : LinkOk n x) (l : List Nat) : LinkOk (n + 1) (cameLink x l) := by
  unfold cameLink
  split
  · exact h.mono
  have hd : LinkOk (n + 1) { x with dropped := x.dropped + 1 } := ⟨h.fl, h.mono.pc, h.rb, h.rl, h.rv, h.mono.hl⟩
  unfold Fm11.Link.came
  split
  · rename_i p m e
    split
    · have h1 := h.heard p.ack p.room
      have h2 : LinkOk n { x.heard p.ack p.room with owes := (x.heard p.ack p.room).owes || p.kind != 0 } := ⟨h1.fl, h1.pc, h1.rb, h1.rl, h1.rv, h1.hl⟩
      have h3 := h2.accept p
      rw [← packet_accept] at h3
      exact ⟨h3.fl, h3.pc, h3.rb, h3.rl, h3.rv, h3.hl⟩
    · exact hd
  · exact hd
theorem again_ok {n : Nat} {x : Fm11.Link} (h : LinkOk n x) (t : Nat) : LinkOk (n + 1) (againLink x t) := by
  refine ⟨?_, fun p hp => ?_, h.rb, h.rl, h.rv, h.mono.hl⟩
  · show (x.flight.map _).length ≤ 8
    rw [List.length_map]
    exact h.fl
  · obtain ⟨q, hq, rfl⟩ := List.mem_map.mp hp
    have := h.pc q hq
    unfold onceMore
    split
    · exact ⟨this.1, by show q.often + 1 ≤ n + 1 + 1; omega⟩
    · exact ⟨this.1, Nat.le_succ_of_le this.2⟩
theorem LinkOk.tick {n : Nat} {x : Fm11.Link} (h : LinkOk n x) : LinkOk (n + 1) x.tick.1 := by
  rw [tick_is]
  have h1 : LinkOk n (nowL x) := ⟨h.fl, h.pc, h.rb, h.rl, h.rv, h.hl⟩
  have h2 := again_ok h1 (x.now + 1)
  obtain ⟨fl, sn, en, e, -, e3, e4⟩ := moreAt_form (x.now + 1 + 4) 8 (againLink (nowL x) (x.now + 1))
  have h3 : LinkOk (n + 1) (formL (againLink (nowL x) (x.now + 1)) fl sn en (againLink (nowL x) (x.now + 1)).asks) := by
    refine ⟨e4 h2.fl, fun p hp => ?_, h2.rb, h2.rl, h2.rv, h2.hl⟩
    obtain ⟨f1, f2⟩ := e3 (fun q hq => ⟨(h2.pc q hq).1, .inr hq⟩) p hp
    refine ⟨f1, ?_⟩
    rcases f2 with f2 | f2
    · omega
    · exact (h2.pc p f2).2
  rw [← e] at h3
  unfold calmL partsLink
  exact ⟨h3.fl, h3.pc, h3.rb, h3.rl, h3.rv, h3.hl⟩
theorem LinkOk.put {n : Nat} {x : Fm11.Link} (h : LinkOk n x) {l : List Nat} (hl : Gf.By l) : LinkOk n (putLink x l) := by
  unfold putLink
  split
  · exact h
  split
  · exact h
  split
  · exact h
  rename_i c
  refine ⟨h.fl, h.pc, h.rb.append hl, ?_, h.rv, h.hl⟩
  show (x.rest ++ l).length ≤ 65536
  rw [List.length_append]
  omega
theorem LinkOk.fin {n : Nat} {x : Fm11.Link} (h : LinkOk n x) : LinkOk n (finLink x) := by
  unfold finLink
  split
  · exact h
  · exact ⟨h.fl, h.pc, h.rb, h.rl, h.rv, h.hl⟩
theorem LinkOk.take {n : Nat} {x : Fm11.Link} (h : LinkOk n x) (m : Nat) : LinkOk n (takeLink x m) := by
  unfold takeLink
  split
  · exact h
  · have h1 := h.rv.1
    refine ⟨h.fl, h.pc, h.rb, h.rl, ⟨?_, fun y hy => ?_⟩, h.hl⟩
    · show (x.got.drop m).length ≤ 4096
      rw [List.length_drop]
      omega
    · have := h.rv.2 y hy
      show y.1 + y.2.length ≤ x.next + (4096 - (x.got.drop m).length)
      rw [List.length_drop]
      have e : x.room = 4096 - x.got.length := rfl
      omega
theorem LinkOk.does {n : Nat} {x : Fm11.Link} {c : Fm11.Call} (h : LinkOk n x) (hc : CallOk c) : LinkOk (n + 1) (Fm11.does x c).2 := by
  cases c with
  | begin_ m =>
    unfold Fm11.does
    dsimp only
    split
    · exact LinkOk.begin_ _ _
    · exact h.mono
  | put m => rw [does_put hc.1]; exact (h.put hc.1).mono
  | finish => rw [does_fin]; exact h.fin.mono
  | tick => rw [(does_tick x).1]; exact h.tick
  | came m => rw [does_came hc.1]; exact h.came m
  | take m => rw [(does_take x m).1]; exact (h.take m).mono
  | tell => exact h.mono
  | times a b => exact absurd hc id
  | parity m => exact absurd hc id
  | mend m => exact absurd hc id
  | sum m => exact absurd hc id
  | wire m => exact absurd hc id
  | open_ m => exact absurd hc id
theorem out_len {n : Nat} {x : Fm11.Link} {c : Fm11.Call} (h : LinkOk n x) (hc : CallOk c) : (ansOut (Fm11.does x c).1).length ≤ 5000 := by
  cases c with
  | begin_ m =>
    unfold Fm11.does
    dsimp only
    split <;> (rw [says_out]; show 1 ≤ 5000; decide)
  | put m => rw [does_put hc.1, says_out]; show 1 ≤ 5000; decide
  | finish => rw [does_fin, says_out]; show 1 ≤ 5000; decide
  | tick =>
    rw [(does_tick x).2]
    obtain ⟨g1, g2⟩ := tick_good h.rb h.fl fun p hp => (h.pc p hp).1
    have := flat_len g1
    unfold tickOut
    rw [List.length_cons]
    omega
  | came m => rw [does_came hc.1, says_out]; show 1 ≤ 5000; decide
  | take m =>
    rw [(does_take x m).2]
    unfold takeOut
    split
    · show 1 ≤ 5000; decide
    · rw [List.length_cons, List.length_cons, List.length_map, List.length_take]
      have := h.rv.1
      omega
  | tell => show 9 ≤ 5000; decide
  | times a b => exact absurd hc id
  | parity m => exact absurd hc id
  | mend m => exact absurd hc id
  | sum m => exact absurd hc id
  | wire m => exact absurd hc id
  | open_ m => exact absurd hc id
end Sl
/-! ## D28 -/
set_option Elab.async false
set_option linter.all false
set_option maxRecDepth 100000
set_option maxHeartbeats 4000000
namespace Sl
open PySem PySem.Spec PyProof.Rows L2 Evl
section
variable {P : Program} {w : World} {K : PySem.W.Frag} {mg : Str → Option Value} {base : Heap} {A : Adr}
theorem iv_length (l : List Int) : (iv l).length = l.length := by unfold iv; rw [List.length_map]
theorem cut_iv (l : List Int) {j k : Nat} (hjk : j ≤ k) (hk : k ≤ l.length) : cutV (iv l) (some (j : Int)) (some (k : Int)) = iv ((l.drop j).take (k - j)) := by
  unfold cutV
  rw [HT.sIx_nat, HT.sIx_nat, iv_length]
  unfold iv
  rw [List.map_take, List.map_drop, Nat.min_eq_left hk, Nat.min_eq_left (by omega)]
theorem flat_app (xs ys : List (Bool × Fm11.Call)) : flatAll (xs ++ ys) = flatAll xs ++ flatAll ys := by
  unfold flatAll
  rw [List.flatMap_append]
theorem flat_cons (y : Bool × Fm11.Call) (ys : List (Bool × Fm11.Call)) : flatAll (y :: ys) = flat y.1 y.2 ++ flatAll ys := by
  unfold flatAll
  rw [List.flatMap_cons]
theorem run_app (x : Two) (xs : List (Bool × Fm11.Call)) (y : Bool × Fm11.Call) : runB x (xs ++ [y]) = stepB (runB x xs) y.1 y.2 := by
  induction xs generalizing x with
  | nil => rfl
  | cons z zs ih => exact ih _
theorem told_app (x : Two) (xs : List (Bool × Fm11.Call)) (y : Bool × Fm11.Call) : toldB x (xs ++ [y]) = toldB x xs ++ (((outB (runB x xs) y.1 y.2).length : Int) :: outB (runB x xs) y.1 y.2) := by
  induction xs generalizing x with
  | nil =>
    show _ :: (_ ++ []) = [] ++ _
    rw [List.append_nil]
    rfl
  | cons z zs ih =>
    show _ :: (_ ++ toldB _ (zs ++ [y])) = (_ :: (_ ++ toldB _ zs)) ++ _
    rw [ih, List.cons_append, List.append_assoc]
    rfl
theorem flat_pos {b : Bool} {c : Fm11.Call} (h : CallOk c) : 0 < (flat b c).length := by
  cases c <;> first | exact Nat.succ_pos _ | exact absurd h id
theorem step_ok {n : Nat} {x : Two} (h : ∀ d, LinkOk n (x d)) (b : Bool) {c : Fm11.Call} (hc : CallOk c) : ∀ d, LinkOk (n + 1) (stepB x b c d) := fun d => by
  unfold stepB
  by_cases k : d = b
  · rw [k, setB_same]
    exact (h b).does hc
  · rw [setB_ne k]
    exact (h d).mono
theorem ok_answers (T : Top K mg A) (G_Link_init : FnOk P w K mg base CX0 7 A.f_Link_init A.d_Link_init ["self"] (sp_Link_init K A)) (G_Link_answer_to : FnOk P w K mg base CX0 7 A.f_Link_answer_to A.d_Link_answer_to ["self", "call"] (sp_Link_answer_to K A)) (G_size_of : FnOk P w K mg base CX0 1 A.f_size_of A.d_size_of ["calls", "at"] (sp_size_of K A)) : FnOk P w K mg base CX0 9 A.f_answers A.d_answers ["calls"] (sp_answers K A) := by
  refine T.f_answers.F.ok sc_answers (fun vs H Q E h => by obtain ⟨_, _, rfl, _⟩ := h; rfl) (fun cdv Ar outer s H vs Q E hr h => ?_)
  obtain ⟨o, cs, rfl, hl, hc, hn, hs, q⟩ := h
  refine ⟨_, (pss_cons (ps_set (i := 1) sc_answers.nd rfl (Or.inl rfl) (pe_make0 T.k_Link.M G_Link_init (hr.mono (by decide)) rfl T.k_Link.g T.k_Link.b .nil pass0))
    (pss_cons (ps_set (i := 2) sc_answers.nd rfl (Or.inl rfl) (pe_lst pa_nil))
    (pss_cons (ps_set (i := 3) sc_answers.nd rfl (Or.inl rfl) pe_int)
    (pss_cons (ps_while PassesOwn.never (pt_cmpR op_lt (pv 3) (pe_callB call_len_seq (by rfl) T.b_len PySem.boot_len (pa_cons (pv 0) pa_nil)) (nomark _))
    (pss_cons (ps_set (i := 4) sc_answers.nd rfl (Or.inl rfl) (pe_call G_size_of (hr.mono (by decide)) rfl T.f_size_of.g T.f_size_of.F.kp T.f_size_of.b .nil pass0 (pa_cons (pv 0) (pa_cons (pv 3) pa_nil))))
    (pss_cons (ps_set (i := 5) sc_answers.nd rfl (Or.inl rfl) (pe_meth (pv 1) T.c_Link.cl T.f_Link_answer_to.m G_Link_answer_to (hr.mono (by decide)) T.f_Link_answer_to.b .nil pass0 (pa_cons (pe_slice sl_list (pv 0) (po_some (pv 3)) (po_some (pe_op op_add (pv 3) (pv 4)))) pa_nil)))
    (pss_cons (ps_expr (pe_bm PySem.F.plainAttrs_list PySem.F.slot_list_append PySem.F.type_list_append mt_append (pv 2) (pa_cons (pe_callB call_len_seq (by rfl) T.b_len PySem.boot_len (pa_cons (pv 5) pa_nil)) pa_nil)))
    (pss_cons (ps_expr (pe_bm PySem.F.plainAttrs_list PySem.F.slot_list_extend PySem.F.type_list_extend mt_extend (pv 2) (pa_cons (pv 5) pa_nil)))
    (pss_one (ps_aug (i := 3) sc_answers.nd rfl (Or.inl rfl) (pv 4) ip_add)))))))
    (pss_one (ps_ret (pv 2))))))), ?_⟩
  intro a da na nda nexa
  have y1 := (Ex.new (o := .own a) nda).trans (Ex.new (o := .ins A.c_Link da []) (by rw [upd_ne nexa.symm]; exact na))
  refine ⟨a, da, rfl, upd_same, fun H1 F ca hT g0 => ⟨rfl, ?_⟩⟩
  refine ⟨by decide, fun g ng => ?_⟩
  have kp : ∀ b u, H b = some u → b ∉ F ∧ H1 b = some u := fun b u k => g0.get (fun z => ne_of_none k na (List.mem_singleton.mp z)) (y1 _ _ k)
  have z1 := Ex.new (o := .lst []) ng
  have hCg : CodeAt A (Out (g :: F) (upd H1 g (.lst []))) ca := by
    obtain ⟨dx, le, e, G, hW, hF, hC⟩ := id hT
    refine hC.ex (Grow.new _ ng)
  refine ⟨fun m σ H' => ∃ (done rest : List (Bool × Fm11.Call)) (F' : List Addr) (v4 v5 : Option V), cs = done ++ rest ∧ m = rest.length ∧
    σ = [some (.ref o), some (.ref a), some (.ref g), some (.int ((flatAll done).length : Nat)), v4, v5] ∧ (∀ b u, H b = some u → b ∉ F' ∧ b ≠ g ∧ H' b = some u) ∧ g ∉ F' ∧
    TwoAt A H' a F' ca (runB startB done) ∧ CodeAt A (Out (g :: F') H') ca ∧ (∀ d, LinkOk done.length (runB startB done d)) ∧ H' g = some (.lst (iv (toldB startB done))) ∧ (toldB startB done).length ≤ 5001 * done.length,
    ⟨cs.length, [], cs, F, none, none, rfl, rfl, rfl, fun b u k => ⟨(kp b u k).1, ne_of_none (kp b u k).2 ng, z1 _ _ (kp b u k).2⟩, hT.fresh ng, hT.ex z1, hCg, fun d => LinkOk.begin_ 0 0, upd_same, Nat.zero_le _⟩, ?_⟩
  rintro m σ H' ⟨done, rest, F', v4, v5, hcs, rfl, rfl, hk, gF, hT', hC', hok, hg, hlen⟩
  have exH : Ex H H' := fun b u k => (hk b u k).2.2
  have hl' := ex_l exH hl
  refine ⟨_, rfl, _, rfl, o, _, rfl, .inl hl', _, _, rfl, rfl, _, rfl, ?_⟩
  have hall : (iv (flatAll cs)).length = (flatAll done).length + (flatAll rest).length := by rw [iv_length, hcs, flat_app, List.length_append]
  cases rest with
  | nil =>
    have d : decide (((flatAll done).length : Int) < ((iv (flatAll cs)).length : Nat)) = false := decide_eq_false (by rw [hall]; show ¬ _ < (((flatAll done).length + 0 : Nat) : Int); omega)
    rw [d]
    refine iteF ⟨_, rfl, ?_⟩
    rw [List.append_nil] at hcs
    rw [← hcs] at hg
    exact q g H' hg
  | cons y rest =>
    obtain ⟨b, c⟩ := y
    have hcc : CallOk c := hc (b, c) (by rw [hcs]; exact List.mem_append.mpr (.inr (List.mem_cons_self ..)))
    have hpos := flat_pos (b := b) hcc
    have hfl : (flatAll ((b, c) :: rest)).length = (flat b c).length + (flatAll rest).length := by rw [flat_cons, List.length_append]
    have d : decide (((flatAll done).length : Int) < ((iv (flatAll cs)).length : Nat)) = true := decide_eq_true (by rw [hall, hfl]; omega)
    rw [d]
    refine iteT ⟨fun σ' H2 => ∃ (F2 : List Addr) (v4 v5 : Option V),
      σ' = [some (.ref o), some (.ref a), some (.ref g), some (.int ((flatAll (done ++ [(b, c)])).length : Nat)), v4, v5] ∧ (∀ b u, H b = some u → b ∉ F2 ∧ b ≠ g ∧ H2 b = some u) ∧ g ∉ F2 ∧
      TwoAt A H2 a F2 ca (runB startB (done ++ [(b, c)])) ∧ CodeAt A (Out (g :: F2) H2) ca ∧ (∀ d, LinkOk (done ++ [(b, c)]).length (runB startB (done ++ [(b, c)]) d)) ∧ H2 g = some (.lst (iv (toldB startB (done ++ [(b, c)])))) ∧ (toldB startB (done ++ [(b, c)])).length ≤ 5001 * (done ++ [(b, c)]).length,
      fun σ' H2 ⟨F2, v4, v5, w1, w2, w3, w4, w5, w6, w7, w8⟩ => ⟨rest.length, Nat.lt_succ_self _, done ++ [(b, c)], rest, F2, v4, v5, by rw [hcs, List.append_assoc]; rfl, rfl, w1, w2, w3, w4, w5, w6, w7, w8⟩, ?_⟩
    have hdrop : (flatAll cs).drop (flatAll done).length = flat b c ++ flatAll rest := by rw [hcs, flat_app, List.drop_left, flat_cons]
    refine ⟨_, rfl, _, rfl, o, flatAll cs, flatAll rest, (flatAll done).length, b, c, rfl, hl', hdrop, hcc, ?_⟩
    obtain ⟨dx, le, e, G, hW, hF, hC⟩ := id hT'
    refine ⟨_, rfl, _, _, _, rfl, hW.1, no_Link_answer_to, _, rfl, _, rfl, _, rfl, _, rfl, _, rfl, _, _, rfl, rfl, _, rfl, o, _, rfl, hl', fun p np => ?_⟩
    have hcut : cutV (iv (flatAll cs)) (some ((flatAll done).length : Nat)) (some (((flatAll done).length : Int) + ((flat b c).length : Nat))) = iv (flat b c) := by
      have hle : (flatAll done).length + (flat b c).length ≤ (flatAll cs).length := by rw [hcs, flat_app, List.length_append, hfl]; omega
      have := cut_iv (flatAll cs) (j := (flatAll done).length) (k := (flatAll done).length + (flat b c).length) (Nat.le_add_right _ _) hle
      rw [hdrop, Nat.add_sub_cancel_left, List.take_left] at this
      exact this
    rw [hcut]
    have ex := Ex.new (o := .lst (iv (flat b c))) np
    have hp : upd H' p (.lst (iv (flat b c))) p = some (.lst (iv (flat b c))) := upd_same
    have hg2 := ex _ _ hg
    have hk2 : ∀ b' u, H b' = some u → b' ∉ F' ∧ b' ≠ g ∧ upd H' p (.lst (iv (flat b c))) b' = some u := fun b' u k => ⟨(hk b' u k).1, (hk b' u k).2.1, ex _ _ (hk b' u k).2.2⟩
    have hC2 := hC'.ex (Grow.ex (F := g :: F') ex)
    have hT2 := hT'.ex ex
    have pF := hT'.fresh np
    generalize upd H' p (.lst (iv (flat b c))) = H2 at ex hp hg2 hk2 hC2 hT2
    have hdl : done.length ≤ 200 := by rw [hcs, List.length_append] at hn; omega
    refine ⟨a, ca, p, F', done.length, b, c, runB startB done, rfl, hT2, out_mk pF hp, hcc, by omega, hok, fun l H3 F3 hT3 g3 hn3 hl3 hv3 => ?_⟩
    obtain ⟨gF3, hg3⟩ := g3.get gF hg2
    have lg : l ≠ g := fun z => by rw [z, out_of gF, hg2] at hn3; cases hn3
    have hol : (outB (runB startB done) b c).length ≤ 5000 := out_len (hok b) hcc
    have hC3 := hC2.ex (g3.cons g)
    have hl200 : 5001 * done.length ≤ 5001 * 200 := Nat.mul_le_mul_left _ hdl
    refine ⟨_, rfl, .inl ⟨rfl, _, SqL.of hg3⟩, _, rfl, l, _, rfl, .inl (SqL.of hv3), g, _, _, rfl, rfl, hg3, ?_, ?_⟩
    · rw [iv_length]
      show _ < 16777216
      omega
    refine ⟨_, rfl, .inl ⟨rfl, _, SqL.of upd_same⟩, _, rfl, g, l, _, _, rfl, rfl, upd_same, (upd_ne lg).trans hv3, ?_, ?_⟩
    · rw [List.length_append, iv_length, iv_length]
      show _ + 1 + _ ≤ 16777216
      omega
    have htl := told_app startB done (b, c)
    have hvv : iv (toldB startB done) ++ [V.int ((iv (outB (runB startB done) b c)).length : Nat)] ++ iv (outB (runB startB done) b c) = iv (toldB startB (done ++ [(b, c)])) := by
      rw [htl, iv_length]
      unfold iv
      rw [List.map_append, List.map_cons, List.append_assoc]
      rfl
    rw [hvv]
    have kp3 : ∀ v1 v2 b' u, b' ≠ g → H3 b' = some u → upd (upd H3 g v1) g v2 b' = some u := fun v1 v2 b' u k1 k2 => by
      rw [upd_ne k1, upd_ne k1]
      exact k2
    have g4 : ∀ v1 v2, Grow (g :: F3) H3 (g :: F3) (upd (upd H3 g v1) g v2) := fun v1 v2 => (Grow.put _ (List.mem_cons_self ..)).trans (Grow.put _ (List.mem_cons_self ..))
    have hC4 := fun v1 v2 => hC3.ex (g4 v1 v2)
    refine ⟨_, rfl, _, rfl, _, _, rfl, rfl, ?_⟩
    have hat : ((flatAll (done ++ [(b, c)])).length : Nat) = (flatAll done).length + (flat b c).length := by
      rw [flat_app, List.length_append, flat_cons, List.length_append]
      rfl
    have hrun := run_app startB done (b, c)
    refine ⟨F3, some (.int ((flat b c).length : Nat)), some (.ref l), ?_, fun b' u k => ?_, gF3, ?_, hC4 _ _, ?_, upd_same, ?_⟩
    · rw [hat]
      rfl
    · obtain ⟨k1, k2, k3⟩ := hk2 b' u k
      obtain ⟨k4, k5⟩ := g3.get k1 k3
      exact ⟨k4, k2, kp3 _ _ _ _ k2 k5⟩
    · rw [hrun]
      refine hT3.on (fun b' u k1 k2 => kp3 _ _ _ _ (fun z => gF3 (by rw [← z]; exact k1)) k2) ?_
      exact (hC4 _ _).ex fun b' u k => by
        obtain ⟨k1, k2⟩ := out_some k
        exact out_mk (fun z => k1 (List.mem_cons_of_mem _ z)) k2
    · rw [hrun, List.length_append]
      exact step_ok hok b hcc
    · rw [htl, List.length_append, List.length_append, List.length_cons]
      have hol' : (outB (runB startB done) (b, c).1 (b, c).2).length ≤ 5000 := hol
      show _ + (_ + 1) ≤ 5001 * (done.length + 1)
      omega
end
end Sl
/-! ## E2 -/
set_option Elab.async false
set_option linter.all false
set_option maxRecDepth 100000
set_option maxHeartbeats 4000000
namespace Sl
open PySem PySem.Spec PyProof.Rows L2 Evl
/-! ### the list's calls -/
def form (b : Bool) : Fm11.Call → List (List Int)
  | .begin_ n => [[1, (Fm11.bit b : Nat), (n : Nat)]]
  | .put l => [[2, (Fm11.bit b : Nat)], natsI l]
  | .finish => [[3, (Fm11.bit b : Nat)]]
  | .tick => [[4, (Fm11.bit b : Nat)]]
  | .came l => [[5, (Fm11.bit b : Nat)], natsI l]
  | .take n => [[6, (Fm11.bit b : Nat), (n : Nat)]]
  | .tell => [[7, (Fm11.bit b : Nat)]]
  | _ => []
theorem nats_ints (l : List Nat) : Fm11Neutral.nats (natsI l) = l := by
  unfold Fm11Neutral.nats natsI
  rw [List.map_map]
  exact (List.map_congr_left (fun n _ => rfl)).trans (List.map_id l)
theorem bit_one (b : Bool) : (((Fm11.bit b : Nat) : Int) == 1) = b := by cases b <;> rfl
theorem call_of (b : Bool) {c : Fm11.Call} (h : CallOk c) : Fm11Neutral.callOf (form b c) = some (some b, c) := by
  cases c with
  | begin_ n =>
    show some (some _, Fm11.Call.begin_ ((n : Nat) : Int).toNat) = _
    rw [bit_one]
    rfl
  | put l =>
    show some (some _, Fm11.Call.put (Fm11Neutral.nats (natsI l))) = _
    rw [bit_one, nats_ints]
  | finish =>
    show some (some _, Fm11.Call.finish) = _
    rw [bit_one]
  | tick =>
    show some (some _, Fm11.Call.tick) = _
    rw [bit_one]
  | came l =>
    show some (some _, Fm11.Call.came (Fm11Neutral.nats (natsI l))) = _
    rw [bit_one, nats_ints]
  | take n =>
    show some (some _, Fm11.Call.take ((n : Nat) : Int).toNat) = _
    rw [bit_one]
    rfl
  | tell =>
    show some (some _, Fm11.Call.tell) = _
    rw [bit_one]
  | times a b => exact absurd h id
  | parity m => exact absurd h id
  | mend m => exact absurd h id
  | sum m => exact absurd h id
  | wire m => exact absurd h id
  | open_ m => exact absurd h id
theorem step_is (x : Two) (b : Bool) {c : Fm11.Call} (h : CallOk c) : Fm11Neutral.step (x false, x true) (form b c) = ((stepB x b c false, stepB x b c true), outB x b c) := by
  unfold Fm11Neutral.step
  rw [call_of b h]
  cases b <;> rfl
theorem play_is (x : Two) (cs : List (Bool × Fm11.Call)) (h : ∀ y ∈ cs, CallOk y.2) : PyFlat.told (PyFlat.played Fm11Neutral.step (x false, x true) (cs.map fun y => form y.1 y.2)) = toldB x cs := by
  induction cs generalizing x with
  | nil => rfl
  | cons y cs ih =>
    have h1 := step_is x y.1 (h y (List.mem_cons_self ..))
    have h2 := ih (stepB x y.1 y.2) fun z hz => h z (List.mem_cons_of_mem _ hz)
    show PyFlat.told ((Fm11Neutral.step (x false, x true) (form y.1 y.2)).2 :: PyFlat.played Fm11Neutral.step (Fm11Neutral.step (x false, x true) (form y.1 y.2)).1 (cs.map fun y => form y.1 y.2)) = _
    rw [h1]
    show (_ :: outB x y.1 y.2) ++ PyFlat.told _ = _
    rw [h2]
    rfl
theorem within_bit {z : Int} (h : NeutralIO.within z 0 1 = true) : ∃ b : Bool, z = (Fm11.bit b : Nat) := by
  unfold NeutralIO.within at h
  rw [Bool.and_eq_true] at h
  have h1 := of_decide_eq_true h.1
  have h2 := of_decide_eq_true h.2
  by_cases c : z = 0
  · exact ⟨false, c⟩
  · exact ⟨true, by show z = 1; omega⟩
theorem nat_of {z : Int} {k : Nat} (h : Fm11Neutral.natural z k = true) : ∃ n : Nat, z = (n : Nat) ∧ z < 2 ^ k := by
  unfold Fm11Neutral.natural at h
  rw [Bool.and_eq_true] at h
  have h1 := of_decide_eq_true h.1
  exact ⟨z.toNat, (Int.toNat_of_nonneg h1).symm, of_decide_eq_true h.2⟩
theorem bytes_of {l : List Int} (h : l.all (fun (z : Int) => Fm11Neutral.natural z 8) = true) : ∃ m : List Nat, l = natsI m ∧ Gf.By m := by
  induction l with
  | nil => exact ⟨[], rfl, Gf.By.nil⟩
  | cons z l ih =>
    rw [List.all_cons, Bool.and_eq_true] at h
    obtain ⟨m, h1, h2⟩ := ih h.2
    obtain ⟨n, h3, h4⟩ := nat_of h.1
    refine ⟨n :: m, by rw [h1, h3]; rfl, Gf.By.cons ?_ h2⟩
    rw [h3] at h4
    have : ((n : Nat) : Int) < 256 := h4
    omega
theorem natsI_length (l : List Nat) : (natsI l).length = l.length := by unfold natsI; rw [List.length_map]
/-- a row that's told with its length -/
theorem row_one {r : List Int} {xs : List (List Int)} {t : List Int} (h : PyFlat.rows 1 r = some (xs, t)) : ∃ (n : Int) (s : List Int), r = n :: (s ++ t) ∧ xs = [s] ∧ n = (s.length : Nat) := by
  cases r with
  | nil => cases h
  | cons n s =>
    have e : PyFlat.row (n :: s) = if 0 ≤ n ∧ n.toNat ≤ s.length then some (s.take n.toNat, s.drop n.toNat) else none := rfl
    unfold PyFlat.rows at h
    rw [e] at h
    by_cases c : 0 ≤ n ∧ n.toNat ≤ s.length
    · rw [if_pos c] at h
      have h' : (some ([s.take n.toNat], s.drop n.toNat) : Option (List (List Int) × List Int)) = some (xs, t) := h
      injection h' with h'
      injection h' with h1 h2
      refine ⟨n, s.take n.toNat, by rw [← h2, List.take_append_drop], h1.symm, ?_⟩
      rw [List.length_take, Nat.min_eq_left c.2]
      exact (Int.toNat_of_nonneg c.1).symm
    · rw [if_neg c] at h
      cases h
theorem two_of {r : List Int} (h : ¬ r.length < 2) : ∃ x y t, r = x :: y :: t := by
  match r, h with
  | [], h => exact absurd (show 0 < 2 by decide) h
  | [_], h => exact absurd (show 1 < 2 by decide) h
  | x :: y :: t, _ => exact ⟨x, y, t, rfl⟩
theorem one_of {r : List Int} (h : ¬ r.length < 1) : ∃ x t, r = x :: t := by
  match r, h with
  | [], h => exact absurd (show 0 < 1 by decide) h
  | x :: t, _ => exact ⟨x, t, rfl⟩
theorem call_shape {p : Int} {r : List Int} {c : List (List Int)} {t : List Int} {n k : Nat} (hs : PyFm11.shape p = some (n, k)) (h : PyFlat.call PyFm11.shape (p :: r) = some (c, t)) :
    ¬ r.length < n ∧ ∃ xs, PyFlat.rows k (r.drop n) = some (xs, t) ∧ c = (p :: r.take n) :: xs := by
  have e : PyFlat.call PyFm11.shape (p :: r) = match PyFm11.shape p with
    | none => none
    | some (n, k) => if r.length < n then none else match PyFlat.rows k (r.drop n) with
      | none => none
      | some (xs, t) => some ((p :: r.take n) :: xs, t) := rfl
  rw [e, hs] at h
  have h' : (if r.length < n then none else match PyFlat.rows k (r.drop n) with
      | none => none
      | some (xs, t) => some ((p :: r.take n) :: xs, t)) = some (c, t) := h
  by_cases c : r.length < n
  · rw [if_pos c] at h'
    cases h'
  · rw [if_neg c] at h'
    refine ⟨c, ?_⟩
    cases k2 : PyFlat.rows k (r.drop n) with
    | none => rw [k2] at h'; cases h'
    | some y =>
      obtain ⟨xs, t'⟩ := y
      rw [k2] at h'
      injection h' with h'
      injection h' with h1 h2
      exact ⟨xs, by rw [h2], h1.symm⟩
theorem rows_zero {r : List Int} {xs : List (List Int)} {t : List Int} (h : PyFlat.rows 0 r = some (xs, t)) : xs = [] ∧ t = r := by
  have h' : (some ([], r) : Option (List (List Int) × List Int)) = some (xs, t) := h
  injection h' with h'
  injection h' with h1 h2
  exact ⟨h1.symm, h2.symm⟩
/-- a call with one number, and no row -/
theorem shape_10 {p : Int} {r : List Int} {c : List (List Int)} {t : List Int} (hs : PyFm11.shape p = some (1, 0)) (h : PyFlat.call PyFm11.shape (p :: r) = some (c, t)) : ∃ x, r = x :: t ∧ c = [[p, x]] := by
  obtain ⟨h1, xs, h2, h3⟩ := call_shape hs h
  obtain ⟨x, s, rfl⟩ := one_of h1
  obtain ⟨rfl, rfl⟩ := rows_zero h2
  exact ⟨x, rfl, h3⟩
theorem shape_20 {p : Int} {r : List Int} {c : List (List Int)} {t : List Int} (hs : PyFm11.shape p = some (2, 0)) (h : PyFlat.call PyFm11.shape (p :: r) = some (c, t)) : ∃ x y, r = x :: y :: t ∧ c = [[p, x, y]] := by
  obtain ⟨h1, xs, h2, h3⟩ := call_shape hs h
  obtain ⟨x, y, s, rfl⟩ := two_of h1
  obtain ⟨rfl, rfl⟩ := rows_zero h2
  exact ⟨x, y, rfl, h3⟩
theorem shape_11 {p : Int} {r : List Int} {c : List (List Int)} {t : List Int} (hs : PyFm11.shape p = some (1, 1)) (h : PyFlat.call PyFm11.shape (p :: r) = some (c, t)) : ∃ (x : Int) (s : List Int), r = x :: (s.length : Nat) :: (s ++ t) ∧ c = [[p, x], s] := by
  obtain ⟨h1, xs, h2, h3⟩ := call_shape hs h
  obtain ⟨x, s, rfl⟩ := one_of h1
  obtain ⟨n, s', e1, rfl, rfl⟩ := row_one h2
  have e1' : s = _ := e1
  exact ⟨x, s', by rw [e1'], h3⟩
theorem call_is {p : Int} {r : List Int} {c : List (List Int)} {t : List Int} (h : PyFlat.call PyFm11.shape (p :: r) = some (c, t)) (ha : Fm11Neutral.asked1 (PyFm11.whole c) = true) :
    ∃ (b : Bool) (d : Fm11.Call), p :: r = flat b d ++ t ∧ PyFm11.whole c = form b d ∧ CallOk d := by
  by_cases p1 : p = 1
  · subst p1
    obtain ⟨x, y, rfl, rfl⟩ := shape_20 rfl h
    have ha' : (NeutralIO.within x 0 1 && Fm11Neutral.natural y 64) = true := ha
    rw [Bool.and_eq_true] at ha'
    obtain ⟨b, rfl⟩ := within_bit ha'.1
    obtain ⟨n, rfl, -⟩ := nat_of ha'.2
    exact ⟨b, .begin_ n, rfl, rfl, trivial⟩
  by_cases p2 : p = 2
  · subst p2
    obtain ⟨x, s, rfl, rfl⟩ := shape_11 rfl h
    have ha' : (NeutralIO.within x 0 1 && (s.all (fun (z : Int) => Fm11Neutral.natural z 8) && Fm11Neutral.short s 70000)) = true := ha
    rw [Bool.and_eq_true, Bool.and_eq_true] at ha'
    obtain ⟨b, rfl⟩ := within_bit ha'.1
    obtain ⟨m, rfl, hm⟩ := bytes_of ha'.2.1
    have hl := of_decide_eq_true ha'.2.2
    rw [natsI_length] at hl
    refine ⟨b, .put m, ?_, rfl, hm, hl⟩
    rw [natsI_length]
    rfl
  by_cases p3 : p = 3
  · subst p3
    obtain ⟨x, rfl, rfl⟩ := shape_10 rfl h
    obtain ⟨b, rfl⟩ := within_bit (show NeutralIO.within x 0 1 = true from ha)
    exact ⟨b, .finish, rfl, rfl, trivial⟩
  by_cases p4 : p = 4
  · subst p4
    obtain ⟨x, rfl, rfl⟩ := shape_10 rfl h
    obtain ⟨b, rfl⟩ := within_bit (show NeutralIO.within x 0 1 = true from ha)
    exact ⟨b, .tick, rfl, rfl, trivial⟩
  by_cases p5 : p = 5
  · subst p5
    obtain ⟨x, s, rfl, rfl⟩ := shape_11 rfl h
    have ha' : (NeutralIO.within x 0 1 && (s.all (fun (z : Int) => Fm11Neutral.natural z 8) && Fm11Neutral.short s 70000)) = true := ha
    rw [Bool.and_eq_true, Bool.and_eq_true] at ha'
    obtain ⟨b, rfl⟩ := within_bit ha'.1
    obtain ⟨m, rfl, hm⟩ := bytes_of ha'.2.1
    have hl := of_decide_eq_true ha'.2.2
    rw [natsI_length] at hl
    refine ⟨b, .came m, ?_, rfl, hm, hl⟩
    rw [natsI_length]
    rfl
  by_cases p6 : p = 6
  · subst p6
    obtain ⟨x, y, rfl, rfl⟩ := shape_20 rfl h
    have ha' : (NeutralIO.within x 0 1 && Fm11Neutral.natural y 64) = true := ha
    rw [Bool.and_eq_true] at ha'
    obtain ⟨b, rfl⟩ := within_bit ha'.1
    obtain ⟨n, rfl, -⟩ := nat_of ha'.2
    exact ⟨b, .take n, rfl, rfl, trivial⟩
  by_cases p7 : p = 7
  · subst p7
    obtain ⟨x, rfl, rfl⟩ := shape_10 rfl h
    obtain ⟨b, rfl⟩ := within_bit (show NeutralIO.within x 0 1 = true from ha)
    exact ⟨b, .tell, rfl, rfl, trivial⟩
  have e : PyFm11.shape p = none := by
    unfold PyFm11.shape
    rw [if_neg p1, if_neg p2, if_neg p3, if_neg p4, if_neg p5, if_neg p6, if_neg p7]
  have e2 : PyFlat.call PyFm11.shape (p :: r) = match PyFm11.shape p with
    | none => none
    | some (n, k) => if r.length < n then none else match PyFlat.rows k (r.drop n) with
      | none => none
      | some (xs, t) => some ((p :: r.take n) :: xs, t) := rfl
  rw [e2, e] at h
  cases h
theorem calls_are (f : Nat) {l : List Int} {cc : List (List (List Int))} (h : PyFlat.calls PyFm11.shape f l = some cc) (ha : (cc.map PyFm11.whole).all Fm11Neutral.asked1 = true) :
    ∃ cs : List (Bool × Fm11.Call), l = flatAll cs ∧ cc.map PyFm11.whole = cs.map (fun y => form y.1 y.2) ∧ ∀ y ∈ cs, CallOk y.2 := by
  induction f generalizing l cc with
  | zero =>
    cases l with
    | nil =>
      have h' : (some [] : Option (List (List (List Int)))) = some cc := h
      injection h' with h'
      exact ⟨[], rfl, by rw [← h']; rfl, fun y hy => absurd hy List.not_mem_nil⟩
    | cons p r => cases h
  | succ f ih =>
    cases l with
    | nil =>
      have h' : (some [] : Option (List (List (List Int)))) = some cc := h
      injection h' with h'
      exact ⟨[], rfl, by rw [← h']; rfl, fun y hy => absurd hy List.not_mem_nil⟩
    | cons p r =>
      unfold PyFlat.calls at h
      cases e1 : PyFlat.call PyFm11.shape (p :: r) with
      | none => rw [e1] at h; cases h
      | some y =>
        obtain ⟨c, t⟩ := y
        rw [e1] at h
        cases e2 : PyFlat.calls PyFm11.shape f t with
        | none =>
          have h' : (match PyFlat.calls PyFm11.shape f t with
            | none => none
            | some cs => some (c :: cs)) = some cc := h
          rw [e2] at h'
          cases h'
        | some cc' =>
          have h' : (match PyFlat.calls PyFm11.shape f t with
            | none => none
            | some cs => some (c :: cs)) = some cc := h
          rw [e2] at h'
          injection h' with h'
          subst h'
          rw [List.map_cons, List.all_cons, Bool.and_eq_true] at ha
          obtain ⟨b, d, k1, k2, k3⟩ := call_is e1 ha.1
          obtain ⟨cs, k4, k5, k6⟩ := ih e2 ha.2
          refine ⟨(b, d) :: cs, ?_, ?_, fun y hy => ?_⟩
          · rw [k1, k4]
            rfl
          · rw [List.map_cons, k2, k5]
            rfl
          · rcases List.mem_cons.mp hy with e | hy
            · rw [e]; exact k3
            · exact k6 y hy
theorem asked_is {l : List Int} (h : PyFm11.answers_asked l = true) : ∃ cs : List (Bool × Fm11.Call), l = flatAll cs ∧ (∀ y ∈ cs, CallOk y.2) ∧ cs.length ≤ 200 ∧ PyFm11.answers l = toldB startB cs := by
  unfold PyFm11.answers_asked at h
  cases e : PyFlat.calls PyFm11.shape l.length l with
  | none =>
    have e2 : PyFm11.calls l = none := by
      unfold PyFm11.calls
      rw [e]
    rw [e2] at h
    cases h
  | some cc =>
    have e2 : PyFm11.calls l = some (cc.map PyFm11.whole) := by
      unfold PyFm11.calls
      rw [e]
    rw [e2] at h
    have h' : (PyFlat.atMost 200 (cc.map PyFm11.whole) && Fm11Neutral.asked (cc.map PyFm11.whole)) = true := h
    rw [Bool.and_eq_true] at h'
    have h3 := h'.2
    unfold Fm11Neutral.asked at h3
    rw [Bool.and_eq_true] at h3
    obtain ⟨cs, k1, k2, k3⟩ := calls_are l.length e h3.1
    refine ⟨cs, k1, k3, ?_, ?_⟩
    · have := of_decide_eq_true h3.2
      rw [k2, List.length_map] at this
      exact this
    · unfold PyFm11.answers
      rw [e2]
      show PyFlat.told (PyFlat.played Fm11Neutral.step Fm11Neutral.start (cc.map PyFm11.whole)) = _
      rw [k2]
      exact play_is startB cs k3
end Sl
/-! ## F1 -/
set_option Elab.async false
set_option linter.all false
set_option maxRecDepth 100000
set_option maxHeartbeats 4000000
namespace Sl
open PySem PySem.Spec PyProof.Rows L2 Evl
section
variable {P : Program} {w : World} {K : PySem.W.Frag} {mg : Str → Option Value} {base : Heap} {A : Adr}
/-- every def keeps its promise -/
theorem all_ok (T : Top K mg A) : FnOk P w K mg base CX0 9 A.f_answers A.d_answers ["calls"] (sp_answers K A) := by
  have G_doubled : FnOk P w K mg base CX0 1 A.f_doubled A.d_doubled ["octet"] (sp_doubled K A) := ok_doubled T
  have G_product_of : FnOk P w K mg base CX0 2 A.f_product_of A.d_product_of ["a", "b"] (sp_product_of K A) := ok_product_of T G_doubled
  have G_Field_init : FnOk P w K mg base CX0 3 A.f_Field_init A.d_Field_init ["self"] (sp_Field_init K A) := ok_Field_init T G_product_of
  have G_Field_power : FnOk P w K mg base CX0 1 A.f_Field_power A.d_Field_power ["self", "exponent"] (sp_Field_power K A) := ok_Field_power T
  have G_Field_scaled : FnOk P w K mg base CX0 1 A.f_Field_scaled A.d_Field_scaled ["self", "row", "factor"] (sp_Field_scaled K A) := ok_Field_scaled T
  have G_added : FnOk P w K mg base CX0 1 A.f_added A.d_added ["a", "b"] (sp_added K A) := ok_added T
  have G_divisor_of : FnOk P w K mg base CX0 2 A.f_divisor_of A.d_divisor_of ["field"] (sp_divisor_of K A) := ok_divisor_of T G_Field_power G_Field_scaled G_added
  have G_Code_init : FnOk P w K mg base CX0 5 A.f_Code_init A.d_Code_init ["self"] (sp_Code_init K A) := ok_Code_init T G_Field_init G_divisor_of
  have G_Receiving_init : FnOk P w K mg base CX0 1 A.f_Receiving_init A.d_Receiving_init ["self"] (sp_Receiving_init K A) := ok_Receiving_init T
  have G_Sending_init : FnOk P w K mg base CX0 1 A.f_Sending_init A.d_Sending_init ["self"] (sp_Sending_init K A) := ok_Sending_init T
  have G_LinkEnd_init : FnOk P w K mg base CX0 3 A.f_LinkEnd_init A.d_LinkEnd_init ["self", "code", "name"] (sp_LinkEnd_init K A) := ok_LinkEnd_init T G_Receiving_init G_Sending_init
  have G_Link_init : FnOk P w K mg base CX0 7 A.f_Link_init A.d_Link_init ["self"] (sp_Link_init K A) := ok_Link_init T G_Code_init G_LinkEnd_init
  have G_Link_begin : FnOk P w K mg base CX0 5 A.f_Link_begin A.d_Link_begin ["self", "which", "name"] (sp_Link_begin K A) := ok_Link_begin T G_LinkEnd_init
  have G_Receiving_bring_to_turn : FnOk P w K mg base CX0 1 A.f_Receiving_bring_to_turn A.d_Receiving_bring_to_turn ["self"] (sp_Receiving_bring_to_turn K A) := ok_Receiving_bring_to_turn T
  have G_Receiving_room_left : FnOk P w K mg base CX0 1 A.f_Receiving_room_left A.d_Receiving_room_left ["self"] (sp_Receiving_room_left K A) := ok_Receiving_room_left T
  have G_Receiving_keep : FnOk P w K mg base CX0 2 A.f_Receiving_keep A.d_Receiving_keep ["self", "packet"] (sp_Receiving_keep K A) := ok_Receiving_keep T G_Receiving_room_left
  have G_Receiving_note_end : FnOk P w K mg base CX0 1 A.f_Receiving_note_end A.d_Receiving_note_end ["self", "number"] (sp_Receiving_note_end K A) := ok_Receiving_note_end T
  have G_Receiving_accept : FnOk P w K mg base CX0 3 A.f_Receiving_accept A.d_Receiving_accept ["self", "packet"] (sp_Receiving_accept K A) := ok_Receiving_accept T G_Receiving_bring_to_turn G_Receiving_keep G_Receiving_note_end
  have G_Sending_answered : FnOk P w K mg base CX0 1 A.f_Sending_answered A.d_Sending_answered ["self", "wanted", "room"] (sp_Sending_answered K A) := ok_Sending_answered T
  have G_LinkEnd_accept_packet : FnOk P w K mg base CX0 4 A.f_LinkEnd_accept_packet A.d_LinkEnd_accept_packet ["self", "packet"] (sp_LinkEnd_accept_packet K A) := ok_LinkEnd_accept_packet T G_Receiving_accept G_Sending_answered
  have G_Code_parity_of : FnOk P w K mg base CX0 2 A.f_Code_parity_of A.d_Code_parity_of ["self", "row"] (sp_Code_parity_of K A) := ok_Code_parity_of T G_Field_scaled G_added
  have G_Field_product : FnOk P w K mg base CX0 1 A.f_Field_product A.d_Field_product ["self", "a", "b"] (sp_Field_product K A) := ok_Field_product T
  have G_Field_value_at : FnOk P w K mg base CX0 2 A.f_Field_value_at A.d_Field_value_at ["self", "row", "point"] (sp_Field_value_at K A) := ok_Field_value_at T G_Field_product
  have G_Code_syndromes_of : FnOk P w K mg base CX0 3 A.f_Code_syndromes_of A.d_Code_syndromes_of ["self", "row"] (sp_Code_syndromes_of K A) := ok_Code_syndromes_of T G_Code_parity_of G_Field_power G_Field_value_at G_added
  have G_Field_quotient : FnOk P w K mg base CX0 1 A.f_Field_quotient A.d_Field_quotient ["self", "a", "b"] (sp_Field_quotient K A) := ok_Field_quotient T
  have G_lack_at : FnOk P w K mg base CX0 2 A.f_lack_at A.d_lack_at ["field", "locator", "syndromes", "at"] (sp_lack_at K A) := ok_lack_at T G_Field_product
  have G_errors_of : FnOk P w K mg base CX0 3 A.f_errors_of A.d_errors_of ["field", "locator", "syndromes", "places"] (sp_errors_of K A) := ok_errors_of T G_Field_power G_Field_product G_Field_quotient G_Field_value_at G_lack_at
  have G_padded : FnOk P w K mg base CX0 1 A.f_padded A.d_padded ["row", "size"] (sp_padded K A) := ok_padded T
  have G_locator_of : FnOk P w K mg base CX0 3 A.f_locator_of A.d_locator_of ["field", "syndromes"] (sp_locator_of K A) := ok_locator_of T G_Field_quotient G_Field_scaled G_added G_lack_at G_padded
  have G_places_of : FnOk P w K mg base CX0 3 A.f_places_of A.d_places_of ["field", "locator", "size"] (sp_places_of K A) := ok_places_of T G_Field_power G_Field_value_at
  have G_Code_mend_row : FnOk P w K mg base CX0 4 A.f_Code_mend_row A.d_Code_mend_row ["self", "row"] (sp_Code_mend_row K A) := ok_Code_mend_row T G_Code_syndromes_of G_errors_of G_locator_of G_places_of
  have G_crc_of : FnOk P w K mg base CX0 1 A.f_crc_of A.d_crc_of ["octets"] (sp_crc_of K A) := ok_crc_of T
  have G_kind_fits : FnOk P w K mg base CX0 1 A.f_kind_fits A.d_kind_fits ["packet"] (sp_kind_fits K A) := ok_kind_fits T
  have G_Packet_init : FnOk P w K mg base CX0 1 A.f_Packet_init A.d_Packet_init ["self", "name", "kind", "number", "wanted", "room", "octets"] (sp_Packet_init K A) := ok_Packet_init T
  have G_value_of : FnOk P w K mg base CX0 1 A.f_value_of A.d_value_of ["octets"] (sp_value_of K A) := ok_value_of T
  have G_parted : FnOk P w K mg base CX0 3 A.f_parted A.d_parted ["body"] (sp_parted K A) := ok_parted T G_Packet_init G_value_of
  have G_packet_of : FnOk P w K mg base CX0 5 A.f_packet_of A.d_packet_of ["code", "row"] (sp_packet_of K A) := ok_packet_of T G_Code_mend_row G_crc_of G_kind_fits G_parted G_value_of
  have G_LinkEnd_came : FnOk P w K mg base CX0 6 A.f_LinkEnd_came A.d_LinkEnd_came ["self", "octets"] (sp_LinkEnd_came K A) := ok_LinkEnd_came T G_LinkEnd_accept_packet G_packet_of
  have G_Sending_finish : FnOk P w K mg base CX0 1 A.f_Sending_finish A.d_Sending_finish ["self"] (sp_Sending_finish K A) := ok_Sending_finish T
  have G_LinkEnd_finish : FnOk P w K mg base CX0 2 A.f_LinkEnd_finish A.d_LinkEnd_finish ["self"] (sp_LinkEnd_finish K A) := ok_LinkEnd_finish T G_Sending_finish
  have G_Sending_put : FnOk P w K mg base CX0 1 A.f_Sending_put A.d_Sending_put ["self", "octets"] (sp_Sending_put K A) := ok_Sending_put T
  have G_LinkEnd_put : FnOk P w K mg base CX0 2 A.f_LinkEnd_put A.d_LinkEnd_put ["self", "octets"] (sp_LinkEnd_put K A) := ok_LinkEnd_put T G_Sending_put
  have G_Receiving_is_short : FnOk P w K mg base CX0 2 A.f_Receiving_is_short A.d_Receiving_is_short ["self"] (sp_Receiving_is_short K A) := ok_Receiving_is_short T G_Receiving_room_left
  have G_Receiving_take : FnOk P w K mg base CX0 1 A.f_Receiving_take A.d_Receiving_take ["self", "most"] (sp_Receiving_take K A) := ok_Receiving_take T
  have G_LinkEnd_take : FnOk P w K mg base CX0 3 A.f_LinkEnd_take A.d_LinkEnd_take ["self", "most"] (sp_LinkEnd_take K A) := ok_LinkEnd_take T G_Receiving_is_short G_Receiving_take
  have G_LinkEnd_tell : FnOk P w K mg base CX0 1 A.f_LinkEnd_tell A.d_LinkEnd_tell ["self"] (sp_LinkEnd_tell K A) := ok_LinkEnd_tell T
  have G_lowest_first : FnOk P w K mg base CX0 1 A.f_lowest_first A.d_lowest_first ["value", "size"] (sp_lowest_first K A) := ok_lowest_first T
  have G_row_of : FnOk P w K mg base CX0 3 A.f_row_of A.d_row_of ["code", "packet"] (sp_row_of K A) := ok_row_of T G_Code_parity_of G_crc_of G_lowest_first
  have G_LinkEnd_sent_as : FnOk P w K mg base CX0 4 A.f_LinkEnd_sent_as A.d_LinkEnd_sent_as ["self", "part"] (sp_LinkEnd_sent_as K A) := ok_LinkEnd_sent_as T G_Packet_init G_Receiving_room_left G_row_of
  have G_Part_init : FnOk P w K mg base CX0 1 A.f_Part_init A.d_Part_init ["self", "kind", "number", "octets"] (sp_Part_init K A) := ok_Part_init T
  have G_Sending_answer_part : FnOk P w K mg base CX0 3 A.f_Sending_answer_part A.d_Sending_answer_part ["self"] (sp_Sending_answer_part K A) := ok_Sending_answer_part T G_Part_init
  have G_Sending_bytes_unsent : FnOk P w K mg base CX0 1 A.f_Sending_bytes_unsent A.d_Sending_bytes_unsent ["self"] (sp_Sending_bytes_unsent K A) := ok_Sending_bytes_unsent T
  have G_Piece_init : FnOk P w K mg base CX0 1 A.f_Piece_init A.d_Piece_init ["self", "kind", "number", "size", "due"] (sp_Piece_init K A) := ok_Piece_init T
  have G_Sending_new_piece : FnOk P w K mg base CX0 3 A.f_Sending_new_piece A.d_Sending_new_piece ["self", "due"] (sp_Sending_new_piece K A) := ok_Sending_new_piece T G_Piece_init G_Sending_bytes_unsent
  have G_Sending_part_of : FnOk P w K mg base CX0 3 A.f_Sending_part_of A.d_Sending_part_of ["self", "piece"] (sp_Sending_part_of K A) := ok_Sending_part_of T G_Part_init
  have G_Sending_new_parts : FnOk P w K mg base CX0 4 A.f_Sending_new_parts A.d_Sending_new_parts ["self", "time"] (sp_Sending_new_parts K A) := ok_Sending_new_parts T G_Sending_new_piece G_Sending_part_of
  have G_wait_after : FnOk P w K mg base CX0 1 A.f_wait_after A.d_wait_after ["times_sent"] (sp_wait_after K A) := ok_wait_after T
  have G_Sending_parts_again : FnOk P w K mg base CX0 4 A.f_Sending_parts_again A.d_Sending_parts_again ["self", "time"] (sp_Sending_parts_again K A) := ok_Sending_parts_again T G_Sending_part_of G_wait_after
  have G_Sending_parts_at : FnOk P w K mg base CX0 5 A.f_Sending_parts_at A.d_Sending_parts_at ["self", "time"] (sp_Sending_parts_at K A) := ok_Sending_parts_at T G_Part_init G_Sending_bytes_unsent G_Sending_new_parts G_Sending_parts_again
  have G_LinkEnd_tick : FnOk P w K mg base CX0 6 A.f_LinkEnd_tick A.d_LinkEnd_tick ["self"] (sp_LinkEnd_tick K A) := ok_LinkEnd_tick T G_LinkEnd_sent_as G_Sending_answer_part G_Sending_parts_at
  have G_Link_answer_to : FnOk P w K mg base CX0 7 A.f_Link_answer_to A.d_Link_answer_to ["self", "call"] (sp_Link_answer_to K A) := ok_Link_answer_to T G_Link_begin G_LinkEnd_came G_LinkEnd_finish G_LinkEnd_put G_LinkEnd_take G_LinkEnd_tell G_LinkEnd_tick
  have G_size_of : FnOk P w K mg base CX0 1 A.f_size_of A.d_size_of ["calls", "at"] (sp_size_of K A) := ok_size_of T
  have G_answers : FnOk P w K mg base CX0 9 A.f_answers A.d_answers ["calls"] (sp_answers K A) := ok_answers T G_Link_init G_Link_answer_to G_size_of
  exact G_answers
end
--WITNESS [.list []]
def spEnd (K : PySem.W.Frag) : Sp := fun vs H Q _ => ∃ (o : Addr) (cs : List (Bool × Fm11.Call)), vs = [.ref o] ∧ SqL K H o (iv (flatAll cs)) ∧ (∀ y ∈ cs, CallOk y.2) ∧ cs.length ≤ 200 ∧ (flatAll cs).length ≤ 16000 ∧
  ∀ p H', H' p = some (.lst (iv (toldB startB cs))) → Q (.ref p) H'
theorem end_ok : ∀ (K : PySem.W.Frag) (H : Hp) (xs : List V) (a : PySem.W.Codec.denoteAll PySem.Challenge.rw_sureline_s01_answers.args), OnlyF H → PySem.W.Codec.withinAll PySem.Challenge.rw_sureline_s01_answers.args a = true → PySem.W.Codec.app PySem.Challenge.rw_sureline_s01_answers.args PySem.Challenge.rw_sureline_s01_answers.asked a = true → DwAll K H xs (PySem.W.Codec.encAll PySem.Challenge.rw_sureline_s01_answers.args a) →
      spEnd K xs H (fun v H' => Dw K H' v (PySem.Challenge.rw_sureline_s01_answers.ret.enc (PySem.W.Codec.app PySem.Challenge.rw_sureline_s01_answers.args PySem.Challenge.rw_sureline_s01_answers.f a))) fun _ _ _ => False := by
  intro K H xs a hO hwi hask hx
  cases hx with
  | cons h1 h2 =>
    cases h2
    cases h1 with
    | lst hs ha =>
      have e := ints_dw a.1 _ ha
      subst e
      obtain ⟨cs, e1, e2, e3, e4⟩ := asked_is (l := a.1) hask
      have q : ((PySem.W.Codec.inLen 0 16000 a.1 && a.1.all (PySem.W.Codec.inInt 0 18446744073709551615)) && true) = true := hwi
      rw [Bool.and_eq_true, Bool.and_eq_true] at q
      have hl := (PySem.W.Codec.inNat_iff.mp q.1.1).2
      refine ⟨_, cs, rfl, by rw [← e1]; exact hs, e2, e3, by rw [← e1]; exact hl, fun p H' hp => ?_⟩
      rw [← e4] at hp
      exact .lst (SqL.of hp) (dw_ints _)
theorem all_mk {P : Program} {w : World} {K : PySem.W.Frag} {h : Heap} {mg : Str → Option Value} {fa : Addr} (X : K.In h) (G : h.Ns mainGlobals mg) (hfa : mg "answers" = some (.ref fa))
    {CField : Addr}
    {CCode : Addr}
    {CPacket : Addr}
    {CReceiving : Addr}
    {CPiece : Addr}
    {CPart : Addr}
    {CSending : Addr}
    {CLinkEnd : Addr}
    {CLink : Addr}
    {Fdoubled : Addr}
    {od_doubled an_doubled : Option Addr} {sl_doubled : Array (Option Value)} {oc_doubled kV_doubled dc_doubled pm_doubled cd_doubled ct_doubled : Value}
    {Fproduct_of : Addr}
    {od_product_of an_product_of : Option Addr} {sl_product_of : Array (Option Value)} {oc_product_of kV_product_of dc_product_of pm_product_of cd_product_of ct_product_of : Value}
    {FField_init : Addr}
    {od_Field_init an_Field_init : Option Addr} {sl_Field_init : Array (Option Value)} {oc_Field_init kV_Field_init dc_Field_init pm_Field_init cd_Field_init ct_Field_init : Value}
    {FField_power : Addr}
    {od_Field_power an_Field_power : Option Addr} {sl_Field_power : Array (Option Value)} {oc_Field_power kV_Field_power dc_Field_power pm_Field_power cd_Field_power ct_Field_power : Value}
    {FField_product : Addr}
    {od_Field_product an_Field_product : Option Addr} {sl_Field_product : Array (Option Value)} {oc_Field_product kV_Field_product dc_Field_product pm_Field_product cd_Field_product ct_Field_product : Value}
    {FField_quotient : Addr}
    {od_Field_quotient an_Field_quotient : Option Addr} {sl_Field_quotient : Array (Option Value)} {oc_Field_quotient kV_Field_quotient dc_Field_quotient pm_Field_quotient cd_Field_quotient ct_Field_quotient : Value}
    {FField_scaled : Addr}
    {od_Field_scaled an_Field_scaled : Option Addr} {sl_Field_scaled : Array (Option Value)} {oc_Field_scaled kV_Field_scaled dc_Field_scaled pm_Field_scaled cd_Field_scaled ct_Field_scaled : Value}
    {FField_value_at : Addr}
    {od_Field_value_at an_Field_value_at : Option Addr} {sl_Field_value_at : Array (Option Value)} {oc_Field_value_at kV_Field_value_at dc_Field_value_at pm_Field_value_at cd_Field_value_at ct_Field_value_at : Value}
    {Fadded : Addr}
    {od_added an_added : Option Addr} {sl_added : Array (Option Value)} {oc_added kV_added dc_added pm_added cd_added ct_added : Value}
    {Fpadded : Addr}
    {od_padded an_padded : Option Addr} {sl_padded : Array (Option Value)} {oc_padded kV_padded dc_padded pm_padded cd_padded ct_padded : Value}
    {Fdivisor_of : Addr}
    {od_divisor_of an_divisor_of : Option Addr} {sl_divisor_of : Array (Option Value)} {oc_divisor_of kV_divisor_of dc_divisor_of pm_divisor_of cd_divisor_of ct_divisor_of : Value}
    {Flack_at : Addr}
    {od_lack_at an_lack_at : Option Addr} {sl_lack_at : Array (Option Value)} {oc_lack_at kV_lack_at dc_lack_at pm_lack_at cd_lack_at ct_lack_at : Value}
    {Flocator_of : Addr}
    {od_locator_of an_locator_of : Option Addr} {sl_locator_of : Array (Option Value)} {oc_locator_of kV_locator_of dc_locator_of pm_locator_of cd_locator_of ct_locator_of : Value}
    {Fplaces_of : Addr}
    {od_places_of an_places_of : Option Addr} {sl_places_of : Array (Option Value)} {oc_places_of kV_places_of dc_places_of pm_places_of cd_places_of ct_places_of : Value}
    {Ferrors_of : Addr}
    {od_errors_of an_errors_of : Option Addr} {sl_errors_of : Array (Option Value)} {oc_errors_of kV_errors_of dc_errors_of pm_errors_of cd_errors_of ct_errors_of : Value}
    {FCode_init : Addr}
    {od_Code_init an_Code_init : Option Addr} {sl_Code_init : Array (Option Value)} {oc_Code_init kV_Code_init dc_Code_init pm_Code_init cd_Code_init ct_Code_init : Value}
    {FCode_parity_of : Addr}
    {od_Code_parity_of an_Code_parity_of : Option Addr} {sl_Code_parity_of : Array (Option Value)} {oc_Code_parity_of kV_Code_parity_of dc_Code_parity_of pm_Code_parity_of cd_Code_parity_of ct_Code_parity_of : Value}
    {FCode_syndromes_of : Addr}
    {od_Code_syndromes_of an_Code_syndromes_of : Option Addr} {sl_Code_syndromes_of : Array (Option Value)} {oc_Code_syndromes_of kV_Code_syndromes_of dc_Code_syndromes_of pm_Code_syndromes_of cd_Code_syndromes_of ct_Code_syndromes_of : Value}
    {FCode_mend_row : Addr}
    {od_Code_mend_row an_Code_mend_row : Option Addr} {sl_Code_mend_row : Array (Option Value)} {oc_Code_mend_row kV_Code_mend_row dc_Code_mend_row pm_Code_mend_row cd_Code_mend_row ct_Code_mend_row : Value}
    {Fcrc_of : Addr}
    {od_crc_of an_crc_of : Option Addr} {sl_crc_of : Array (Option Value)} {oc_crc_of kV_crc_of dc_crc_of pm_crc_of cd_crc_of ct_crc_of : Value}
    {FPacket_init : Addr}
    {od_Packet_init an_Packet_init : Option Addr} {sl_Packet_init : Array (Option Value)} {oc_Packet_init kV_Packet_init dc_Packet_init pm_Packet_init cd_Packet_init ct_Packet_init : Value}
    {Flowest_first : Addr}
    {od_lowest_first an_lowest_first : Option Addr} {sl_lowest_first : Array (Option Value)} {oc_lowest_first kV_lowest_first dc_lowest_first pm_lowest_first cd_lowest_first ct_lowest_first : Value}
    {Fvalue_of : Addr}
    {od_value_of an_value_of : Option Addr} {sl_value_of : Array (Option Value)} {oc_value_of kV_value_of dc_value_of pm_value_of cd_value_of ct_value_of : Value}
    {Frow_of : Addr}
    {od_row_of an_row_of : Option Addr} {sl_row_of : Array (Option Value)} {oc_row_of kV_row_of dc_row_of pm_row_of cd_row_of ct_row_of : Value}
    {Fparted : Addr}
    {od_parted an_parted : Option Addr} {sl_parted : Array (Option Value)} {oc_parted kV_parted dc_parted pm_parted cd_parted ct_parted : Value}
    {Fkind_fits : Addr}
    {od_kind_fits an_kind_fits : Option Addr} {sl_kind_fits : Array (Option Value)} {oc_kind_fits kV_kind_fits dc_kind_fits pm_kind_fits cd_kind_fits ct_kind_fits : Value}
    {Fpacket_of : Addr}
    {od_packet_of an_packet_of : Option Addr} {sl_packet_of : Array (Option Value)} {oc_packet_of kV_packet_of dc_packet_of pm_packet_of cd_packet_of ct_packet_of : Value}
    {FReceiving_init : Addr}
    {od_Receiving_init an_Receiving_init : Option Addr} {sl_Receiving_init : Array (Option Value)} {oc_Receiving_init kV_Receiving_init dc_Receiving_init pm_Receiving_init cd_Receiving_init ct_Receiving_init : Value}
    {FReceiving_room_left : Addr}
    {od_Receiving_room_left an_Receiving_room_left : Option Addr} {sl_Receiving_room_left : Array (Option Value)} {oc_Receiving_room_left kV_Receiving_room_left dc_Receiving_room_left pm_Receiving_room_left cd_Receiving_room_left ct_Receiving_room_left : Value}
    {FReceiving_accept : Addr}
    {od_Receiving_accept an_Receiving_accept : Option Addr} {sl_Receiving_accept : Array (Option Value)} {oc_Receiving_accept kV_Receiving_accept dc_Receiving_accept pm_Receiving_accept cd_Receiving_accept ct_Receiving_accept : Value}
    {FReceiving_keep : Addr}
    {od_Receiving_keep an_Receiving_keep : Option Addr} {sl_Receiving_keep : Array (Option Value)} {oc_Receiving_keep kV_Receiving_keep dc_Receiving_keep pm_Receiving_keep cd_Receiving_keep ct_Receiving_keep : Value}
    {FReceiving_note_end : Addr}
    {od_Receiving_note_end an_Receiving_note_end : Option Addr} {sl_Receiving_note_end : Array (Option Value)} {oc_Receiving_note_end kV_Receiving_note_end dc_Receiving_note_end pm_Receiving_note_end cd_Receiving_note_end ct_Receiving_note_end : Value}
    {FReceiving_bring_to_turn : Addr}
    {od_Receiving_bring_to_turn an_Receiving_bring_to_turn : Option Addr} {sl_Receiving_bring_to_turn : Array (Option Value)} {oc_Receiving_bring_to_turn kV_Receiving_bring_to_turn dc_Receiving_bring_to_turn pm_Receiving_bring_to_turn cd_Receiving_bring_to_turn ct_Receiving_bring_to_turn : Value}
    {FReceiving_take : Addr}
    {od_Receiving_take an_Receiving_take : Option Addr} {sl_Receiving_take : Array (Option Value)} {oc_Receiving_take kV_Receiving_take dc_Receiving_take pm_Receiving_take cd_Receiving_take ct_Receiving_take : Value}
    {FReceiving_is_short : Addr}
    {od_Receiving_is_short an_Receiving_is_short : Option Addr} {sl_Receiving_is_short : Array (Option Value)} {oc_Receiving_is_short kV_Receiving_is_short dc_Receiving_is_short pm_Receiving_is_short cd_Receiving_is_short ct_Receiving_is_short : Value}
    {FPiece_init : Addr}
    {od_Piece_init an_Piece_init : Option Addr} {sl_Piece_init : Array (Option Value)} {oc_Piece_init kV_Piece_init dc_Piece_init pm_Piece_init cd_Piece_init ct_Piece_init : Value}
    {Fwait_after : Addr}
    {od_wait_after an_wait_after : Option Addr} {sl_wait_after : Array (Option Value)} {oc_wait_after kV_wait_after dc_wait_after pm_wait_after cd_wait_after ct_wait_after : Value}
    {FPart_init : Addr}
    {od_Part_init an_Part_init : Option Addr} {sl_Part_init : Array (Option Value)} {oc_Part_init kV_Part_init dc_Part_init pm_Part_init cd_Part_init ct_Part_init : Value}
    {FSending_init : Addr}
    {od_Sending_init an_Sending_init : Option Addr} {sl_Sending_init : Array (Option Value)} {oc_Sending_init kV_Sending_init dc_Sending_init pm_Sending_init cd_Sending_init ct_Sending_init : Value}
    {FSending_put : Addr}
    {od_Sending_put an_Sending_put : Option Addr} {sl_Sending_put : Array (Option Value)} {oc_Sending_put kV_Sending_put dc_Sending_put pm_Sending_put cd_Sending_put ct_Sending_put : Value}
    {FSending_finish : Addr}
    {od_Sending_finish an_Sending_finish : Option Addr} {sl_Sending_finish : Array (Option Value)} {oc_Sending_finish kV_Sending_finish dc_Sending_finish pm_Sending_finish cd_Sending_finish ct_Sending_finish : Value}
    {FSending_bytes_unsent : Addr}
    {od_Sending_bytes_unsent an_Sending_bytes_unsent : Option Addr} {sl_Sending_bytes_unsent : Array (Option Value)} {oc_Sending_bytes_unsent kV_Sending_bytes_unsent dc_Sending_bytes_unsent pm_Sending_bytes_unsent cd_Sending_bytes_unsent ct_Sending_bytes_unsent : Value}
    {FSending_parts_at : Addr}
    {od_Sending_parts_at an_Sending_parts_at : Option Addr} {sl_Sending_parts_at : Array (Option Value)} {oc_Sending_parts_at kV_Sending_parts_at dc_Sending_parts_at pm_Sending_parts_at cd_Sending_parts_at ct_Sending_parts_at : Value}
    {FSending_answer_part : Addr}
    {od_Sending_answer_part an_Sending_answer_part : Option Addr} {sl_Sending_answer_part : Array (Option Value)} {oc_Sending_answer_part kV_Sending_answer_part dc_Sending_answer_part pm_Sending_answer_part cd_Sending_answer_part ct_Sending_answer_part : Value}
    {FSending_parts_again : Addr}
    {od_Sending_parts_again an_Sending_parts_again : Option Addr} {sl_Sending_parts_again : Array (Option Value)} {oc_Sending_parts_again kV_Sending_parts_again dc_Sending_parts_again pm_Sending_parts_again cd_Sending_parts_again ct_Sending_parts_again : Value}
    {FSending_part_of : Addr}
    {od_Sending_part_of an_Sending_part_of : Option Addr} {sl_Sending_part_of : Array (Option Value)} {oc_Sending_part_of kV_Sending_part_of dc_Sending_part_of pm_Sending_part_of cd_Sending_part_of ct_Sending_part_of : Value}
    {FSending_new_parts : Addr}
    {od_Sending_new_parts an_Sending_new_parts : Option Addr} {sl_Sending_new_parts : Array (Option Value)} {oc_Sending_new_parts kV_Sending_new_parts dc_Sending_new_parts pm_Sending_new_parts cd_Sending_new_parts ct_Sending_new_parts : Value}
    {FSending_new_piece : Addr}
    {od_Sending_new_piece an_Sending_new_piece : Option Addr} {sl_Sending_new_piece : Array (Option Value)} {oc_Sending_new_piece kV_Sending_new_piece dc_Sending_new_piece pm_Sending_new_piece cd_Sending_new_piece ct_Sending_new_piece : Value}
    {FSending_answered : Addr}
    {od_Sending_answered an_Sending_answered : Option Addr} {sl_Sending_answered : Array (Option Value)} {oc_Sending_answered kV_Sending_answered dc_Sending_answered pm_Sending_answered cd_Sending_answered ct_Sending_answered : Value}
    {FLinkEnd_init : Addr}
    {od_LinkEnd_init an_LinkEnd_init : Option Addr} {sl_LinkEnd_init : Array (Option Value)} {oc_LinkEnd_init kV_LinkEnd_init dc_LinkEnd_init pm_LinkEnd_init cd_LinkEnd_init ct_LinkEnd_init : Value}
    {FLinkEnd_put : Addr}
    {od_LinkEnd_put an_LinkEnd_put : Option Addr} {sl_LinkEnd_put : Array (Option Value)} {oc_LinkEnd_put kV_LinkEnd_put dc_LinkEnd_put pm_LinkEnd_put cd_LinkEnd_put ct_LinkEnd_put : Value}
    {FLinkEnd_finish : Addr}
    {od_LinkEnd_finish an_LinkEnd_finish : Option Addr} {sl_LinkEnd_finish : Array (Option Value)} {oc_LinkEnd_finish kV_LinkEnd_finish dc_LinkEnd_finish pm_LinkEnd_finish cd_LinkEnd_finish ct_LinkEnd_finish : Value}
    {FLinkEnd_tick : Addr}
    {od_LinkEnd_tick an_LinkEnd_tick : Option Addr} {sl_LinkEnd_tick : Array (Option Value)} {oc_LinkEnd_tick kV_LinkEnd_tick dc_LinkEnd_tick pm_LinkEnd_tick cd_LinkEnd_tick ct_LinkEnd_tick : Value}
    {FLinkEnd_sent_as : Addr}
    {od_LinkEnd_sent_as an_LinkEnd_sent_as : Option Addr} {sl_LinkEnd_sent_as : Array (Option Value)} {oc_LinkEnd_sent_as kV_LinkEnd_sent_as dc_LinkEnd_sent_as pm_LinkEnd_sent_as cd_LinkEnd_sent_as ct_LinkEnd_sent_as : Value}
    {FLinkEnd_came : Addr}
    {od_LinkEnd_came an_LinkEnd_came : Option Addr} {sl_LinkEnd_came : Array (Option Value)} {oc_LinkEnd_came kV_LinkEnd_came dc_LinkEnd_came pm_LinkEnd_came cd_LinkEnd_came ct_LinkEnd_came : Value}
    {FLinkEnd_accept_packet : Addr}
    {od_LinkEnd_accept_packet an_LinkEnd_accept_packet : Option Addr} {sl_LinkEnd_accept_packet : Array (Option Value)} {oc_LinkEnd_accept_packet kV_LinkEnd_accept_packet dc_LinkEnd_accept_packet pm_LinkEnd_accept_packet cd_LinkEnd_accept_packet ct_LinkEnd_accept_packet : Value}
    {FLinkEnd_take : Addr}
    {od_LinkEnd_take an_LinkEnd_take : Option Addr} {sl_LinkEnd_take : Array (Option Value)} {oc_LinkEnd_take kV_LinkEnd_take dc_LinkEnd_take pm_LinkEnd_take cd_LinkEnd_take ct_LinkEnd_take : Value}
    {FLinkEnd_tell : Addr}
    {od_LinkEnd_tell an_LinkEnd_tell : Option Addr} {sl_LinkEnd_tell : Array (Option Value)} {oc_LinkEnd_tell kV_LinkEnd_tell dc_LinkEnd_tell pm_LinkEnd_tell cd_LinkEnd_tell ct_LinkEnd_tell : Value}
    {FLink_init : Addr}
    {od_Link_init an_Link_init : Option Addr} {sl_Link_init : Array (Option Value)} {oc_Link_init kV_Link_init dc_Link_init pm_Link_init cd_Link_init ct_Link_init : Value}
    {FLink_begin : Addr}
    {od_Link_begin an_Link_begin : Option Addr} {sl_Link_begin : Array (Option Value)} {oc_Link_begin kV_Link_begin dc_Link_begin pm_Link_begin cd_Link_begin ct_Link_begin : Value}
    {FLink_answer_to : Addr}
    {od_Link_answer_to an_Link_answer_to : Option Addr} {sl_Link_answer_to : Array (Option Value)} {oc_Link_answer_to kV_Link_answer_to dc_Link_answer_to pm_Link_answer_to cd_Link_answer_to ct_Link_answer_to : Value}
    {Fsize_of : Addr}
    {od_size_of an_size_of : Option Addr} {sl_size_of : Array (Option Value)} {oc_size_of kV_size_of dc_size_of pm_size_of cd_size_of ct_size_of : Value}
    {Fanswers : Addr}
    {od_answers an_answers : Option Addr} {sl_answers : Array (Option Value)} {oc_answers kV_answers dc_answers pm_answers cd_answers ct_answers : Value}
    {t_MODULUS : Tok}
    {t_ORDER : Tok}
    {t_LONGEST_ROW : Tok}
    {t_PARITY : Tok}
    {t_PLACES : Tok}
    {t_ONES : Tok}
    {t_FEEDBACK : Tok}
    {t_ANSWER : Tok}
    {t_BYTES : Tok}
    {t_END : Tok}
    {t_QUESTION : Tok}
    {t_NAMES : Tok}
    {t_PIECE : Tok}
    {t_HEAD : Tok}
    {t_SUM : Tok}
    {t_SHORTEST : Tok}
    {t_LONGEST : Tok}
    {t_ROOM : Tok}
    {t_TURNS : Tok}
    {t_UNANSWERED : Tok}
    {t_ON_THEIR_WAY : Tok}
    {t_FIRST_LIMIT : Tok}
    {t_FIRST_WAIT : Tok}
    {t_LONGEST_WAIT : Tok}
    {t_ASK_WAIT : Tok}
    {t_BEGIN : Tok}
    {t_PUT : Tok}
    {t_FINISH : Tok}
    {t_TICK : Tok}
    {t_CAME : Tok}
    {t_TAKE : Tok}
    (a_Field : PySem.W.nsIn K mainGlobals "Field" = some (some (.ref CField)))
    (pg_Field : PySem.W.plainGet K CField Str.empty = true)
    (hd_Field : PySem.W.hasDictIn K CField = true)
    (po_Field : PySem.W.plainOver K CField = true)
    (sa_Field : PySem.W.findIn K (.ref CField) "__setattr__" = some (some (.builtin "object.__setattr__")))
    (mk_Field : PySem.W.makesIn K CField = true)
    (kc_Field : PySem.W.keepIn K (.ref CField) = true)
    (n_Field_powers : PySem.W.findIn K (.ref CField) "powers" = some none)
    (n_Field_logs : PySem.W.findIn K (.ref CField) "logs" = some none)
    (a_Code : PySem.W.nsIn K mainGlobals "Code" = some (some (.ref CCode)))
    (pg_Code : PySem.W.plainGet K CCode Str.empty = true)
    (hd_Code : PySem.W.hasDictIn K CCode = true)
    (po_Code : PySem.W.plainOver K CCode = true)
    (sa_Code : PySem.W.findIn K (.ref CCode) "__setattr__" = some (some (.builtin "object.__setattr__")))
    (mk_Code : PySem.W.makesIn K CCode = true)
    (kc_Code : PySem.W.keepIn K (.ref CCode) = true)
    (n_Code_field : PySem.W.findIn K (.ref CCode) "field" = some none)
    (n_Code_divisor : PySem.W.findIn K (.ref CCode) "divisor" = some none)
    (a_Packet : PySem.W.nsIn K mainGlobals "Packet" = some (some (.ref CPacket)))
    (pg_Packet : PySem.W.plainGet K CPacket Str.empty = true)
    (hd_Packet : PySem.W.hasDictIn K CPacket = true)
    (po_Packet : PySem.W.plainOver K CPacket = true)
    (sa_Packet : PySem.W.findIn K (.ref CPacket) "__setattr__" = some (some (.builtin "object.__setattr__")))
    (mk_Packet : PySem.W.makesIn K CPacket = true)
    (kc_Packet : PySem.W.keepIn K (.ref CPacket) = true)
    (n_Packet_name : PySem.W.findIn K (.ref CPacket) "name" = some none)
    (n_Packet_kind : PySem.W.findIn K (.ref CPacket) "kind" = some none)
    (n_Packet_number : PySem.W.findIn K (.ref CPacket) "number" = some none)
    (n_Packet_wanted : PySem.W.findIn K (.ref CPacket) "wanted" = some none)
    (n_Packet_room : PySem.W.findIn K (.ref CPacket) "room" = some none)
    (n_Packet_octets : PySem.W.findIn K (.ref CPacket) "octets" = some none)
    (a_Receiving : PySem.W.nsIn K mainGlobals "Receiving" = some (some (.ref CReceiving)))
    (pg_Receiving : PySem.W.plainGet K CReceiving Str.empty = true)
    (hd_Receiving : PySem.W.hasDictIn K CReceiving = true)
    (po_Receiving : PySem.W.plainOver K CReceiving = true)
    (sa_Receiving : PySem.W.findIn K (.ref CReceiving) "__setattr__" = some (some (.builtin "object.__setattr__")))
    (mk_Receiving : PySem.W.makesIn K CReceiving = true)
    (kc_Receiving : PySem.W.keepIn K (.ref CReceiving) = true)
    (n_Receiving_wanted : PySem.W.findIn K (.ref CReceiving) "wanted" = some none)
    (n_Receiving_kept : PySem.W.findIn K (.ref CReceiving) "kept" = some none)
    (n_Receiving_ready : PySem.W.findIn K (.ref CReceiving) "ready" = some none)
    (n_Receiving_end_number : PySem.W.findIn K (.ref CReceiving) "end_number" = some none)
    (n_Receiving_complete : PySem.W.findIn K (.ref CReceiving) "complete" = some none)
    (a_Piece : PySem.W.nsIn K mainGlobals "Piece" = some (some (.ref CPiece)))
    (pg_Piece : PySem.W.plainGet K CPiece Str.empty = true)
    (hd_Piece : PySem.W.hasDictIn K CPiece = true)
    (po_Piece : PySem.W.plainOver K CPiece = true)
    (sa_Piece : PySem.W.findIn K (.ref CPiece) "__setattr__" = some (some (.builtin "object.__setattr__")))
    (mk_Piece : PySem.W.makesIn K CPiece = true)
    (kc_Piece : PySem.W.keepIn K (.ref CPiece) = true)
    (n_Piece_kind : PySem.W.findIn K (.ref CPiece) "kind" = some none)
    (n_Piece_number : PySem.W.findIn K (.ref CPiece) "number" = some none)
    (n_Piece_size : PySem.W.findIn K (.ref CPiece) "size" = some none)
    (n_Piece_due : PySem.W.findIn K (.ref CPiece) "due" = some none)
    (n_Piece_times_sent : PySem.W.findIn K (.ref CPiece) "times_sent" = some none)
    (a_Part : PySem.W.nsIn K mainGlobals "Part" = some (some (.ref CPart)))
    (pg_Part : PySem.W.plainGet K CPart Str.empty = true)
    (hd_Part : PySem.W.hasDictIn K CPart = true)
    (po_Part : PySem.W.plainOver K CPart = true)
    (sa_Part : PySem.W.findIn K (.ref CPart) "__setattr__" = some (some (.builtin "object.__setattr__")))
    (mk_Part : PySem.W.makesIn K CPart = true)
    (kc_Part : PySem.W.keepIn K (.ref CPart) = true)
    (n_Part_kind : PySem.W.findIn K (.ref CPart) "kind" = some none)
    (n_Part_number : PySem.W.findIn K (.ref CPart) "number" = some none)
    (n_Part_octets : PySem.W.findIn K (.ref CPart) "octets" = some none)
    (a_Sending : PySem.W.nsIn K mainGlobals "Sending" = some (some (.ref CSending)))
    (pg_Sending : PySem.W.plainGet K CSending Str.empty = true)
    (hd_Sending : PySem.W.hasDictIn K CSending = true)
    (po_Sending : PySem.W.plainOver K CSending = true)
    (sa_Sending : PySem.W.findIn K (.ref CSending) "__setattr__" = some (some (.builtin "object.__setattr__")))
    (mk_Sending : PySem.W.makesIn K CSending = true)
    (kc_Sending : PySem.W.keepIn K (.ref CSending) = true)
    (n_Sending_first : PySem.W.findIn K (.ref CSending) "first" = some none)
    (n_Sending_octets : PySem.W.findIn K (.ref CSending) "octets" = some none)
    (n_Sending_unsent : PySem.W.findIn K (.ref CSending) "unsent" = some none)
    (n_Sending_pieces : PySem.W.findIn K (.ref CSending) "pieces" = some none)
    (n_Sending_limit : PySem.W.findIn K (.ref CSending) "limit" = some none)
    (n_Sending_told : PySem.W.findIn K (.ref CSending) "told" = some none)
    (n_Sending_end_sent : PySem.W.findIn K (.ref CSending) "end_sent" = some none)
    (n_Sending_ask_time : PySem.W.findIn K (.ref CSending) "ask_time" = some none)
    (a_LinkEnd : PySem.W.nsIn K mainGlobals "LinkEnd" = some (some (.ref CLinkEnd)))
    (pg_LinkEnd : PySem.W.plainGet K CLinkEnd Str.empty = true)
    (hd_LinkEnd : PySem.W.hasDictIn K CLinkEnd = true)
    (po_LinkEnd : PySem.W.plainOver K CLinkEnd = true)
    (sa_LinkEnd : PySem.W.findIn K (.ref CLinkEnd) "__setattr__" = some (some (.builtin "object.__setattr__")))
    (mk_LinkEnd : PySem.W.makesIn K CLinkEnd = true)
    (kc_LinkEnd : PySem.W.keepIn K (.ref CLinkEnd) = true)
    (n_LinkEnd_code : PySem.W.findIn K (.ref CLinkEnd) "code" = some none)
    (n_LinkEnd_name : PySem.W.findIn K (.ref CLinkEnd) "name" = some none)
    (n_LinkEnd_time : PySem.W.findIn K (.ref CLinkEnd) "time" = some none)
    (n_LinkEnd_sending : PySem.W.findIn K (.ref CLinkEnd) "sending" = some none)
    (n_LinkEnd_receiving : PySem.W.findIn K (.ref CLinkEnd) "receiving" = some none)
    (n_LinkEnd_owes : PySem.W.findIn K (.ref CLinkEnd) "owes" = some none)
    (n_LinkEnd_dropped : PySem.W.findIn K (.ref CLinkEnd) "dropped" = some none)
    (n_LinkEnd_mended : PySem.W.findIn K (.ref CLinkEnd) "mended" = some none)
    (a_Link : PySem.W.nsIn K mainGlobals "Link" = some (some (.ref CLink)))
    (pg_Link : PySem.W.plainGet K CLink Str.empty = true)
    (hd_Link : PySem.W.hasDictIn K CLink = true)
    (po_Link : PySem.W.plainOver K CLink = true)
    (sa_Link : PySem.W.findIn K (.ref CLink) "__setattr__" = some (some (.builtin "object.__setattr__")))
    (mk_Link : PySem.W.makesIn K CLink = true)
    (kc_Link : PySem.W.keepIn K (.ref CLink) = true)
    (n_Link_code : PySem.W.findIn K (.ref CLink) "code" = some none)
    (n_Link_ends : PySem.W.findIn K (.ref CLink) "ends" = some none)
    (a_doubled : PySem.W.nsIn K mainGlobals "doubled" = some (some (.ref Fdoubled)))
    (l_doubled : K.lookup Fdoubled = some ⟨oc_doubled, od_doubled, .func (PySem.W.fnOf "doubled" "doubled" (defArgs s_doubled) (defBody s_doubled) (defScope s_doubled) .none kV_doubled dc_doubled pm_doubled an_doubled cd_doubled ct_doubled), sl_doubled⟩)
    (c_doubled : PySem.W.codeIn K cd_doubled "doubled" = true)
    (k_doubled : PySem.W.keepIn K (.ref Fdoubled) = true)
    (a_product_of : PySem.W.nsIn K mainGlobals "product_of" = some (some (.ref Fproduct_of)))
    (l_product_of : K.lookup Fproduct_of = some ⟨oc_product_of, od_product_of, .func (PySem.W.fnOf "product_of" "product_of" (defArgs s_product_of) (defBody s_product_of) (defScope s_product_of) .none kV_product_of dc_product_of pm_product_of an_product_of cd_product_of ct_product_of), sl_product_of⟩)
    (c_product_of : PySem.W.codeIn K cd_product_of "product_of" = true)
    (k_product_of : PySem.W.keepIn K (.ref Fproduct_of) = true)
    (a_Field_init : PySem.W.findIn K (.ref CField) "__init__" = some (some (.ref FField_init)))
    (i_Field_init : PySem.W.isFn K (.ref FField_init) = true)
    (l_Field_init : K.lookup FField_init = some ⟨oc_Field_init, od_Field_init, .func (PySem.W.fnOf "__init__" "Field.__init__" (defArgs s_Field_init) (defBody s_Field_init) (defScope s_Field_init) .none kV_Field_init dc_Field_init pm_Field_init an_Field_init cd_Field_init ct_Field_init), sl_Field_init⟩)
    (c_Field_init : PySem.W.codeIn K cd_Field_init "Field.__init__" = true)
    (k_Field_init : PySem.W.keepIn K (.ref FField_init) = true)
    (a_Field_power : PySem.W.findIn K (.ref CField) "power" = some (some (.ref FField_power)))
    (i_Field_power : PySem.W.isFn K (.ref FField_power) = true)
    (l_Field_power : K.lookup FField_power = some ⟨oc_Field_power, od_Field_power, .func (PySem.W.fnOf "power" "Field.power" (defArgs s_Field_power) (defBody s_Field_power) (defScope s_Field_power) .none kV_Field_power dc_Field_power pm_Field_power an_Field_power cd_Field_power ct_Field_power), sl_Field_power⟩)
    (c_Field_power : PySem.W.codeIn K cd_Field_power "Field.power" = true)
    (k_Field_power : PySem.W.keepIn K (.ref FField_power) = true)
    (a_Field_product : PySem.W.findIn K (.ref CField) "product" = some (some (.ref FField_product)))
    (i_Field_product : PySem.W.isFn K (.ref FField_product) = true)
    (l_Field_product : K.lookup FField_product = some ⟨oc_Field_product, od_Field_product, .func (PySem.W.fnOf "product" "Field.product" (defArgs s_Field_product) (defBody s_Field_product) (defScope s_Field_product) .none kV_Field_product dc_Field_product pm_Field_product an_Field_product cd_Field_product ct_Field_product), sl_Field_product⟩)
    (c_Field_product : PySem.W.codeIn K cd_Field_product "Field.product" = true)
    (k_Field_product : PySem.W.keepIn K (.ref FField_product) = true)
    (a_Field_quotient : PySem.W.findIn K (.ref CField) "quotient" = some (some (.ref FField_quotient)))
    (i_Field_quotient : PySem.W.isFn K (.ref FField_quotient) = true)
    (l_Field_quotient : K.lookup FField_quotient = some ⟨oc_Field_quotient, od_Field_quotient, .func (PySem.W.fnOf "quotient" "Field.quotient" (defArgs s_Field_quotient) (defBody s_Field_quotient) (defScope s_Field_quotient) .none kV_Field_quotient dc_Field_quotient pm_Field_quotient an_Field_quotient cd_Field_quotient ct_Field_quotient), sl_Field_quotient⟩)
    (c_Field_quotient : PySem.W.codeIn K cd_Field_quotient "Field.quotient" = true)
    (k_Field_quotient : PySem.W.keepIn K (.ref FField_quotient) = true)
    (a_Field_scaled : PySem.W.findIn K (.ref CField) "scaled" = some (some (.ref FField_scaled)))
    (i_Field_scaled : PySem.W.isFn K (.ref FField_scaled) = true)
    (l_Field_scaled : K.lookup FField_scaled = some ⟨oc_Field_scaled, od_Field_scaled, .func (PySem.W.fnOf "scaled" "Field.scaled" (defArgs s_Field_scaled) (defBody s_Field_scaled) (defScope s_Field_scaled) .none kV_Field_scaled dc_Field_scaled pm_Field_scaled an_Field_scaled cd_Field_scaled ct_Field_scaled), sl_Field_scaled⟩)
    (c_Field_scaled : PySem.W.codeIn K cd_Field_scaled "Field.scaled" = true)
    (k_Field_scaled : PySem.W.keepIn K (.ref FField_scaled) = true)
    (a_Field_value_at : PySem.W.findIn K (.ref CField) "value_at" = some (some (.ref FField_value_at)))
    (i_Field_value_at : PySem.W.isFn K (.ref FField_value_at) = true)
    (l_Field_value_at : K.lookup FField_value_at = some ⟨oc_Field_value_at, od_Field_value_at, .func (PySem.W.fnOf "value_at" "Field.value_at" (defArgs s_Field_value_at) (defBody s_Field_value_at) (defScope s_Field_value_at) .none kV_Field_value_at dc_Field_value_at pm_Field_value_at an_Field_value_at cd_Field_value_at ct_Field_value_at), sl_Field_value_at⟩)
    (c_Field_value_at : PySem.W.codeIn K cd_Field_value_at "Field.value_at" = true)
    (k_Field_value_at : PySem.W.keepIn K (.ref FField_value_at) = true)
    (a_added : PySem.W.nsIn K mainGlobals "added" = some (some (.ref Fadded)))
    (l_added : K.lookup Fadded = some ⟨oc_added, od_added, .func (PySem.W.fnOf "added" "added" (defArgs s_added) (defBody s_added) (defScope s_added) .none kV_added dc_added pm_added an_added cd_added ct_added), sl_added⟩)
    (c_added : PySem.W.codeIn K cd_added "added" = true)
    (k_added : PySem.W.keepIn K (.ref Fadded) = true)
    (a_padded : PySem.W.nsIn K mainGlobals "padded" = some (some (.ref Fpadded)))
    (l_padded : K.lookup Fpadded = some ⟨oc_padded, od_padded, .func (PySem.W.fnOf "padded" "padded" (defArgs s_padded) (defBody s_padded) (defScope s_padded) .none kV_padded dc_padded pm_padded an_padded cd_padded ct_padded), sl_padded⟩)
    (c_padded : PySem.W.codeIn K cd_padded "padded" = true)
    (k_padded : PySem.W.keepIn K (.ref Fpadded) = true)
    (a_divisor_of : PySem.W.nsIn K mainGlobals "divisor_of" = some (some (.ref Fdivisor_of)))
    (l_divisor_of : K.lookup Fdivisor_of = some ⟨oc_divisor_of, od_divisor_of, .func (PySem.W.fnOf "divisor_of" "divisor_of" (defArgs s_divisor_of) (defBody s_divisor_of) (defScope s_divisor_of) .none kV_divisor_of dc_divisor_of pm_divisor_of an_divisor_of cd_divisor_of ct_divisor_of), sl_divisor_of⟩)
    (c_divisor_of : PySem.W.codeIn K cd_divisor_of "divisor_of" = true)
    (k_divisor_of : PySem.W.keepIn K (.ref Fdivisor_of) = true)
    (a_lack_at : PySem.W.nsIn K mainGlobals "lack_at" = some (some (.ref Flack_at)))
    (l_lack_at : K.lookup Flack_at = some ⟨oc_lack_at, od_lack_at, .func (PySem.W.fnOf "lack_at" "lack_at" (defArgs s_lack_at) (defBody s_lack_at) (defScope s_lack_at) .none kV_lack_at dc_lack_at pm_lack_at an_lack_at cd_lack_at ct_lack_at), sl_lack_at⟩)
    (c_lack_at : PySem.W.codeIn K cd_lack_at "lack_at" = true)
    (k_lack_at : PySem.W.keepIn K (.ref Flack_at) = true)
    (a_locator_of : PySem.W.nsIn K mainGlobals "locator_of" = some (some (.ref Flocator_of)))
    (l_locator_of : K.lookup Flocator_of = some ⟨oc_locator_of, od_locator_of, .func (PySem.W.fnOf "locator_of" "locator_of" (defArgs s_locator_of) (defBody s_locator_of) (defScope s_locator_of) .none kV_locator_of dc_locator_of pm_locator_of an_locator_of cd_locator_of ct_locator_of), sl_locator_of⟩)
    (c_locator_of : PySem.W.codeIn K cd_locator_of "locator_of" = true)
    (k_locator_of : PySem.W.keepIn K (.ref Flocator_of) = true)
    (a_places_of : PySem.W.nsIn K mainGlobals "places_of" = some (some (.ref Fplaces_of)))
    (l_places_of : K.lookup Fplaces_of = some ⟨oc_places_of, od_places_of, .func (PySem.W.fnOf "places_of" "places_of" (defArgs s_places_of) (defBody s_places_of) (defScope s_places_of) .none kV_places_of dc_places_of pm_places_of an_places_of cd_places_of ct_places_of), sl_places_of⟩)
    (c_places_of : PySem.W.codeIn K cd_places_of "places_of" = true)
    (k_places_of : PySem.W.keepIn K (.ref Fplaces_of) = true)
    (a_errors_of : PySem.W.nsIn K mainGlobals "errors_of" = some (some (.ref Ferrors_of)))
    (l_errors_of : K.lookup Ferrors_of = some ⟨oc_errors_of, od_errors_of, .func (PySem.W.fnOf "errors_of" "errors_of" (defArgs s_errors_of) (defBody s_errors_of) (defScope s_errors_of) .none kV_errors_of dc_errors_of pm_errors_of an_errors_of cd_errors_of ct_errors_of), sl_errors_of⟩)
    (c_errors_of : PySem.W.codeIn K cd_errors_of "errors_of" = true)
    (k_errors_of : PySem.W.keepIn K (.ref Ferrors_of) = true)
    (a_Code_init : PySem.W.findIn K (.ref CCode) "__init__" = some (some (.ref FCode_init)))
    (i_Code_init : PySem.W.isFn K (.ref FCode_init) = true)
    (l_Code_init : K.lookup FCode_init = some ⟨oc_Code_init, od_Code_init, .func (PySem.W.fnOf "__init__" "Code.__init__" (defArgs s_Code_init) (defBody s_Code_init) (defScope s_Code_init) .none kV_Code_init dc_Code_init pm_Code_init an_Code_init cd_Code_init ct_Code_init), sl_Code_init⟩)
    (c_Code_init : PySem.W.codeIn K cd_Code_init "Code.__init__" = true)
    (k_Code_init : PySem.W.keepIn K (.ref FCode_init) = true)
    (a_Code_parity_of : PySem.W.findIn K (.ref CCode) "parity_of" = some (some (.ref FCode_parity_of)))
    (i_Code_parity_of : PySem.W.isFn K (.ref FCode_parity_of) = true)
    (l_Code_parity_of : K.lookup FCode_parity_of = some ⟨oc_Code_parity_of, od_Code_parity_of, .func (PySem.W.fnOf "parity_of" "Code.parity_of" (defArgs s_Code_parity_of) (defBody s_Code_parity_of) (defScope s_Code_parity_of) .none kV_Code_parity_of dc_Code_parity_of pm_Code_parity_of an_Code_parity_of cd_Code_parity_of ct_Code_parity_of), sl_Code_parity_of⟩)
    (c_Code_parity_of : PySem.W.codeIn K cd_Code_parity_of "Code.parity_of" = true)
    (k_Code_parity_of : PySem.W.keepIn K (.ref FCode_parity_of) = true)
    (a_Code_syndromes_of : PySem.W.findIn K (.ref CCode) "syndromes_of" = some (some (.ref FCode_syndromes_of)))
    (i_Code_syndromes_of : PySem.W.isFn K (.ref FCode_syndromes_of) = true)
    (l_Code_syndromes_of : K.lookup FCode_syndromes_of = some ⟨oc_Code_syndromes_of, od_Code_syndromes_of, .func (PySem.W.fnOf "syndromes_of" "Code.syndromes_of" (defArgs s_Code_syndromes_of) (defBody s_Code_syndromes_of) (defScope s_Code_syndromes_of) .none kV_Code_syndromes_of dc_Code_syndromes_of pm_Code_syndromes_of an_Code_syndromes_of cd_Code_syndromes_of ct_Code_syndromes_of), sl_Code_syndromes_of⟩)
    (c_Code_syndromes_of : PySem.W.codeIn K cd_Code_syndromes_of "Code.syndromes_of" = true)
    (k_Code_syndromes_of : PySem.W.keepIn K (.ref FCode_syndromes_of) = true)
    (a_Code_mend_row : PySem.W.findIn K (.ref CCode) "mend_row" = some (some (.ref FCode_mend_row)))
    (i_Code_mend_row : PySem.W.isFn K (.ref FCode_mend_row) = true)
    (l_Code_mend_row : K.lookup FCode_mend_row = some ⟨oc_Code_mend_row, od_Code_mend_row, .func (PySem.W.fnOf "mend_row" "Code.mend_row" (defArgs s_Code_mend_row) (defBody s_Code_mend_row) (defScope s_Code_mend_row) .none kV_Code_mend_row dc_Code_mend_row pm_Code_mend_row an_Code_mend_row cd_Code_mend_row ct_Code_mend_row), sl_Code_mend_row⟩)
    (c_Code_mend_row : PySem.W.codeIn K cd_Code_mend_row "Code.mend_row" = true)
    (k_Code_mend_row : PySem.W.keepIn K (.ref FCode_mend_row) = true)
    (a_crc_of : PySem.W.nsIn K mainGlobals "crc_of" = some (some (.ref Fcrc_of)))
    (l_crc_of : K.lookup Fcrc_of = some ⟨oc_crc_of, od_crc_of, .func (PySem.W.fnOf "crc_of" "crc_of" (defArgs s_crc_of) (defBody s_crc_of) (defScope s_crc_of) .none kV_crc_of dc_crc_of pm_crc_of an_crc_of cd_crc_of ct_crc_of), sl_crc_of⟩)
    (c_crc_of : PySem.W.codeIn K cd_crc_of "crc_of" = true)
    (k_crc_of : PySem.W.keepIn K (.ref Fcrc_of) = true)
    (a_Packet_init : PySem.W.findIn K (.ref CPacket) "__init__" = some (some (.ref FPacket_init)))
    (i_Packet_init : PySem.W.isFn K (.ref FPacket_init) = true)
    (l_Packet_init : K.lookup FPacket_init = some ⟨oc_Packet_init, od_Packet_init, .func (PySem.W.fnOf "__init__" "Packet.__init__" (defArgs s_Packet_init) (defBody s_Packet_init) (defScope s_Packet_init) .none kV_Packet_init dc_Packet_init pm_Packet_init an_Packet_init cd_Packet_init ct_Packet_init), sl_Packet_init⟩)
    (c_Packet_init : PySem.W.codeIn K cd_Packet_init "Packet.__init__" = true)
    (k_Packet_init : PySem.W.keepIn K (.ref FPacket_init) = true)
    (a_lowest_first : PySem.W.nsIn K mainGlobals "lowest_first" = some (some (.ref Flowest_first)))
    (l_lowest_first : K.lookup Flowest_first = some ⟨oc_lowest_first, od_lowest_first, .func (PySem.W.fnOf "lowest_first" "lowest_first" (defArgs s_lowest_first) (defBody s_lowest_first) (defScope s_lowest_first) .none kV_lowest_first dc_lowest_first pm_lowest_first an_lowest_first cd_lowest_first ct_lowest_first), sl_lowest_first⟩)
    (c_lowest_first : PySem.W.codeIn K cd_lowest_first "lowest_first" = true)
    (k_lowest_first : PySem.W.keepIn K (.ref Flowest_first) = true)
    (a_value_of : PySem.W.nsIn K mainGlobals "value_of" = some (some (.ref Fvalue_of)))
    (l_value_of : K.lookup Fvalue_of = some ⟨oc_value_of, od_value_of, .func (PySem.W.fnOf "value_of" "value_of" (defArgs s_value_of) (defBody s_value_of) (defScope s_value_of) .none kV_value_of dc_value_of pm_value_of an_value_of cd_value_of ct_value_of), sl_value_of⟩)
    (c_value_of : PySem.W.codeIn K cd_value_of "value_of" = true)
    (k_value_of : PySem.W.keepIn K (.ref Fvalue_of) = true)
    (a_row_of : PySem.W.nsIn K mainGlobals "row_of" = some (some (.ref Frow_of)))
    (l_row_of : K.lookup Frow_of = some ⟨oc_row_of, od_row_of, .func (PySem.W.fnOf "row_of" "row_of" (defArgs s_row_of) (defBody s_row_of) (defScope s_row_of) .none kV_row_of dc_row_of pm_row_of an_row_of cd_row_of ct_row_of), sl_row_of⟩)
    (c_row_of : PySem.W.codeIn K cd_row_of "row_of" = true)
    (k_row_of : PySem.W.keepIn K (.ref Frow_of) = true)
    (a_parted : PySem.W.nsIn K mainGlobals "parted" = some (some (.ref Fparted)))
    (l_parted : K.lookup Fparted = some ⟨oc_parted, od_parted, .func (PySem.W.fnOf "parted" "parted" (defArgs s_parted) (defBody s_parted) (defScope s_parted) .none kV_parted dc_parted pm_parted an_parted cd_parted ct_parted), sl_parted⟩)
    (c_parted : PySem.W.codeIn K cd_parted "parted" = true)
    (k_parted : PySem.W.keepIn K (.ref Fparted) = true)
    (a_kind_fits : PySem.W.nsIn K mainGlobals "kind_fits" = some (some (.ref Fkind_fits)))
    (l_kind_fits : K.lookup Fkind_fits = some ⟨oc_kind_fits, od_kind_fits, .func (PySem.W.fnOf "kind_fits" "kind_fits" (defArgs s_kind_fits) (defBody s_kind_fits) (defScope s_kind_fits) .none kV_kind_fits dc_kind_fits pm_kind_fits an_kind_fits cd_kind_fits ct_kind_fits), sl_kind_fits⟩)
    (c_kind_fits : PySem.W.codeIn K cd_kind_fits "kind_fits" = true)
    (k_kind_fits : PySem.W.keepIn K (.ref Fkind_fits) = true)
    (a_packet_of : PySem.W.nsIn K mainGlobals "packet_of" = some (some (.ref Fpacket_of)))
    (l_packet_of : K.lookup Fpacket_of = some ⟨oc_packet_of, od_packet_of, .func (PySem.W.fnOf "packet_of" "packet_of" (defArgs s_packet_of) (defBody s_packet_of) (defScope s_packet_of) .none kV_packet_of dc_packet_of pm_packet_of an_packet_of cd_packet_of ct_packet_of), sl_packet_of⟩)
    (c_packet_of : PySem.W.codeIn K cd_packet_of "packet_of" = true)
    (k_packet_of : PySem.W.keepIn K (.ref Fpacket_of) = true)
    (a_Receiving_init : PySem.W.findIn K (.ref CReceiving) "__init__" = some (some (.ref FReceiving_init)))
    (i_Receiving_init : PySem.W.isFn K (.ref FReceiving_init) = true)
    (l_Receiving_init : K.lookup FReceiving_init = some ⟨oc_Receiving_init, od_Receiving_init, .func (PySem.W.fnOf "__init__" "Receiving.__init__" (defArgs s_Receiving_init) (defBody s_Receiving_init) (defScope s_Receiving_init) .none kV_Receiving_init dc_Receiving_init pm_Receiving_init an_Receiving_init cd_Receiving_init ct_Receiving_init), sl_Receiving_init⟩)
    (c_Receiving_init : PySem.W.codeIn K cd_Receiving_init "Receiving.__init__" = true)
    (k_Receiving_init : PySem.W.keepIn K (.ref FReceiving_init) = true)
    (a_Receiving_room_left : PySem.W.findIn K (.ref CReceiving) "room_left" = some (some (.ref FReceiving_room_left)))
    (i_Receiving_room_left : PySem.W.isFn K (.ref FReceiving_room_left) = true)
    (l_Receiving_room_left : K.lookup FReceiving_room_left = some ⟨oc_Receiving_room_left, od_Receiving_room_left, .func (PySem.W.fnOf "room_left" "Receiving.room_left" (defArgs s_Receiving_room_left) (defBody s_Receiving_room_left) (defScope s_Receiving_room_left) .none kV_Receiving_room_left dc_Receiving_room_left pm_Receiving_room_left an_Receiving_room_left cd_Receiving_room_left ct_Receiving_room_left), sl_Receiving_room_left⟩)
    (c_Receiving_room_left : PySem.W.codeIn K cd_Receiving_room_left "Receiving.room_left" = true)
    (k_Receiving_room_left : PySem.W.keepIn K (.ref FReceiving_room_left) = true)
    (a_Receiving_accept : PySem.W.findIn K (.ref CReceiving) "accept" = some (some (.ref FReceiving_accept)))
    (i_Receiving_accept : PySem.W.isFn K (.ref FReceiving_accept) = true)
    (l_Receiving_accept : K.lookup FReceiving_accept = some ⟨oc_Receiving_accept, od_Receiving_accept, .func (PySem.W.fnOf "accept" "Receiving.accept" (defArgs s_Receiving_accept) (defBody s_Receiving_accept) (defScope s_Receiving_accept) .none kV_Receiving_accept dc_Receiving_accept pm_Receiving_accept an_Receiving_accept cd_Receiving_accept ct_Receiving_accept), sl_Receiving_accept⟩)
    (c_Receiving_accept : PySem.W.codeIn K cd_Receiving_accept "Receiving.accept" = true)
    (k_Receiving_accept : PySem.W.keepIn K (.ref FReceiving_accept) = true)
    (a_Receiving_keep : PySem.W.findIn K (.ref CReceiving) "keep" = some (some (.ref FReceiving_keep)))
    (i_Receiving_keep : PySem.W.isFn K (.ref FReceiving_keep) = true)
    (l_Receiving_keep : K.lookup FReceiving_keep = some ⟨oc_Receiving_keep, od_Receiving_keep, .func (PySem.W.fnOf "keep" "Receiving.keep" (defArgs s_Receiving_keep) (defBody s_Receiving_keep) (defScope s_Receiving_keep) .none kV_Receiving_keep dc_Receiving_keep pm_Receiving_keep an_Receiving_keep cd_Receiving_keep ct_Receiving_keep), sl_Receiving_keep⟩)
    (c_Receiving_keep : PySem.W.codeIn K cd_Receiving_keep "Receiving.keep" = true)
    (k_Receiving_keep : PySem.W.keepIn K (.ref FReceiving_keep) = true)
    (a_Receiving_note_end : PySem.W.findIn K (.ref CReceiving) "note_end" = some (some (.ref FReceiving_note_end)))
    (i_Receiving_note_end : PySem.W.isFn K (.ref FReceiving_note_end) = true)
    (l_Receiving_note_end : K.lookup FReceiving_note_end = some ⟨oc_Receiving_note_end, od_Receiving_note_end, .func (PySem.W.fnOf "note_end" "Receiving.note_end" (defArgs s_Receiving_note_end) (defBody s_Receiving_note_end) (defScope s_Receiving_note_end) .none kV_Receiving_note_end dc_Receiving_note_end pm_Receiving_note_end an_Receiving_note_end cd_Receiving_note_end ct_Receiving_note_end), sl_Receiving_note_end⟩)
    (c_Receiving_note_end : PySem.W.codeIn K cd_Receiving_note_end "Receiving.note_end" = true)
    (k_Receiving_note_end : PySem.W.keepIn K (.ref FReceiving_note_end) = true)
    (a_Receiving_bring_to_turn : PySem.W.findIn K (.ref CReceiving) "bring_to_turn" = some (some (.ref FReceiving_bring_to_turn)))
    (i_Receiving_bring_to_turn : PySem.W.isFn K (.ref FReceiving_bring_to_turn) = true)
    (l_Receiving_bring_to_turn : K.lookup FReceiving_bring_to_turn = some ⟨oc_Receiving_bring_to_turn, od_Receiving_bring_to_turn, .func (PySem.W.fnOf "bring_to_turn" "Receiving.bring_to_turn" (defArgs s_Receiving_bring_to_turn) (defBody s_Receiving_bring_to_turn) (defScope s_Receiving_bring_to_turn) .none kV_Receiving_bring_to_turn dc_Receiving_bring_to_turn pm_Receiving_bring_to_turn an_Receiving_bring_to_turn cd_Receiving_bring_to_turn ct_Receiving_bring_to_turn), sl_Receiving_bring_to_turn⟩)
    (c_Receiving_bring_to_turn : PySem.W.codeIn K cd_Receiving_bring_to_turn "Receiving.bring_to_turn" = true)
    (k_Receiving_bring_to_turn : PySem.W.keepIn K (.ref FReceiving_bring_to_turn) = true)
    (a_Receiving_take : PySem.W.findIn K (.ref CReceiving) "take" = some (some (.ref FReceiving_take)))
    (i_Receiving_take : PySem.W.isFn K (.ref FReceiving_take) = true)
    (l_Receiving_take : K.lookup FReceiving_take = some ⟨oc_Receiving_take, od_Receiving_take, .func (PySem.W.fnOf "take" "Receiving.take" (defArgs s_Receiving_take) (defBody s_Receiving_take) (defScope s_Receiving_take) .none kV_Receiving_take dc_Receiving_take pm_Receiving_take an_Receiving_take cd_Receiving_take ct_Receiving_take), sl_Receiving_take⟩)
    (c_Receiving_take : PySem.W.codeIn K cd_Receiving_take "Receiving.take" = true)
    (k_Receiving_take : PySem.W.keepIn K (.ref FReceiving_take) = true)
    (a_Receiving_is_short : PySem.W.findIn K (.ref CReceiving) "is_short" = some (some (.ref FReceiving_is_short)))
    (i_Receiving_is_short : PySem.W.isFn K (.ref FReceiving_is_short) = true)
    (l_Receiving_is_short : K.lookup FReceiving_is_short = some ⟨oc_Receiving_is_short, od_Receiving_is_short, .func (PySem.W.fnOf "is_short" "Receiving.is_short" (defArgs s_Receiving_is_short) (defBody s_Receiving_is_short) (defScope s_Receiving_is_short) .none kV_Receiving_is_short dc_Receiving_is_short pm_Receiving_is_short an_Receiving_is_short cd_Receiving_is_short ct_Receiving_is_short), sl_Receiving_is_short⟩)
    (c_Receiving_is_short : PySem.W.codeIn K cd_Receiving_is_short "Receiving.is_short" = true)
    (k_Receiving_is_short : PySem.W.keepIn K (.ref FReceiving_is_short) = true)
    (a_Piece_init : PySem.W.findIn K (.ref CPiece) "__init__" = some (some (.ref FPiece_init)))
    (i_Piece_init : PySem.W.isFn K (.ref FPiece_init) = true)
    (l_Piece_init : K.lookup FPiece_init = some ⟨oc_Piece_init, od_Piece_init, .func (PySem.W.fnOf "__init__" "Piece.__init__" (defArgs s_Piece_init) (defBody s_Piece_init) (defScope s_Piece_init) .none kV_Piece_init dc_Piece_init pm_Piece_init an_Piece_init cd_Piece_init ct_Piece_init), sl_Piece_init⟩)
    (c_Piece_init : PySem.W.codeIn K cd_Piece_init "Piece.__init__" = true)
    (k_Piece_init : PySem.W.keepIn K (.ref FPiece_init) = true)
    (a_wait_after : PySem.W.nsIn K mainGlobals "wait_after" = some (some (.ref Fwait_after)))
    (l_wait_after : K.lookup Fwait_after = some ⟨oc_wait_after, od_wait_after, .func (PySem.W.fnOf "wait_after" "wait_after" (defArgs s_wait_after) (defBody s_wait_after) (defScope s_wait_after) .none kV_wait_after dc_wait_after pm_wait_after an_wait_after cd_wait_after ct_wait_after), sl_wait_after⟩)
    (c_wait_after : PySem.W.codeIn K cd_wait_after "wait_after" = true)
    (k_wait_after : PySem.W.keepIn K (.ref Fwait_after) = true)
    (a_Part_init : PySem.W.findIn K (.ref CPart) "__init__" = some (some (.ref FPart_init)))
    (i_Part_init : PySem.W.isFn K (.ref FPart_init) = true)
    (l_Part_init : K.lookup FPart_init = some ⟨oc_Part_init, od_Part_init, .func (PySem.W.fnOf "__init__" "Part.__init__" (defArgs s_Part_init) (defBody s_Part_init) (defScope s_Part_init) .none kV_Part_init dc_Part_init pm_Part_init an_Part_init cd_Part_init ct_Part_init), sl_Part_init⟩)
    (c_Part_init : PySem.W.codeIn K cd_Part_init "Part.__init__" = true)
    (k_Part_init : PySem.W.keepIn K (.ref FPart_init) = true)
    (a_Sending_init : PySem.W.findIn K (.ref CSending) "__init__" = some (some (.ref FSending_init)))
    (i_Sending_init : PySem.W.isFn K (.ref FSending_init) = true)
    (l_Sending_init : K.lookup FSending_init = some ⟨oc_Sending_init, od_Sending_init, .func (PySem.W.fnOf "__init__" "Sending.__init__" (defArgs s_Sending_init) (defBody s_Sending_init) (defScope s_Sending_init) .none kV_Sending_init dc_Sending_init pm_Sending_init an_Sending_init cd_Sending_init ct_Sending_init), sl_Sending_init⟩)
    (c_Sending_init : PySem.W.codeIn K cd_Sending_init "Sending.__init__" = true)
    (k_Sending_init : PySem.W.keepIn K (.ref FSending_init) = true)
    (a_Sending_put : PySem.W.findIn K (.ref CSending) "put" = some (some (.ref FSending_put)))
    (i_Sending_put : PySem.W.isFn K (.ref FSending_put) = true)
    (l_Sending_put : K.lookup FSending_put = some ⟨oc_Sending_put, od_Sending_put, .func (PySem.W.fnOf "put" "Sending.put" (defArgs s_Sending_put) (defBody s_Sending_put) (defScope s_Sending_put) .none kV_Sending_put dc_Sending_put pm_Sending_put an_Sending_put cd_Sending_put ct_Sending_put), sl_Sending_put⟩)
    (c_Sending_put : PySem.W.codeIn K cd_Sending_put "Sending.put" = true)
    (k_Sending_put : PySem.W.keepIn K (.ref FSending_put) = true)
    (a_Sending_finish : PySem.W.findIn K (.ref CSending) "finish" = some (some (.ref FSending_finish)))
    (i_Sending_finish : PySem.W.isFn K (.ref FSending_finish) = true)
    (l_Sending_finish : K.lookup FSending_finish = some ⟨oc_Sending_finish, od_Sending_finish, .func (PySem.W.fnOf "finish" "Sending.finish" (defArgs s_Sending_finish) (defBody s_Sending_finish) (defScope s_Sending_finish) .none kV_Sending_finish dc_Sending_finish pm_Sending_finish an_Sending_finish cd_Sending_finish ct_Sending_finish), sl_Sending_finish⟩)
    (c_Sending_finish : PySem.W.codeIn K cd_Sending_finish "Sending.finish" = true)
    (k_Sending_finish : PySem.W.keepIn K (.ref FSending_finish) = true)
    (a_Sending_bytes_unsent : PySem.W.findIn K (.ref CSending) "bytes_unsent" = some (some (.ref FSending_bytes_unsent)))
    (i_Sending_bytes_unsent : PySem.W.isFn K (.ref FSending_bytes_unsent) = true)
    (l_Sending_bytes_unsent : K.lookup FSending_bytes_unsent = some ⟨oc_Sending_bytes_unsent, od_Sending_bytes_unsent, .func (PySem.W.fnOf "bytes_unsent" "Sending.bytes_unsent" (defArgs s_Sending_bytes_unsent) (defBody s_Sending_bytes_unsent) (defScope s_Sending_bytes_unsent) .none kV_Sending_bytes_unsent dc_Sending_bytes_unsent pm_Sending_bytes_unsent an_Sending_bytes_unsent cd_Sending_bytes_unsent ct_Sending_bytes_unsent), sl_Sending_bytes_unsent⟩)
    (c_Sending_bytes_unsent : PySem.W.codeIn K cd_Sending_bytes_unsent "Sending.bytes_unsent" = true)
    (k_Sending_bytes_unsent : PySem.W.keepIn K (.ref FSending_bytes_unsent) = true)
    (a_Sending_parts_at : PySem.W.findIn K (.ref CSending) "parts_at" = some (some (.ref FSending_parts_at)))
    (i_Sending_parts_at : PySem.W.isFn K (.ref FSending_parts_at) = true)
    (l_Sending_parts_at : K.lookup FSending_parts_at = some ⟨oc_Sending_parts_at, od_Sending_parts_at, .func (PySem.W.fnOf "parts_at" "Sending.parts_at" (defArgs s_Sending_parts_at) (defBody s_Sending_parts_at) (defScope s_Sending_parts_at) .none kV_Sending_parts_at dc_Sending_parts_at pm_Sending_parts_at an_Sending_parts_at cd_Sending_parts_at ct_Sending_parts_at), sl_Sending_parts_at⟩)
    (c_Sending_parts_at : PySem.W.codeIn K cd_Sending_parts_at "Sending.parts_at" = true)
    (k_Sending_parts_at : PySem.W.keepIn K (.ref FSending_parts_at) = true)
    (a_Sending_answer_part : PySem.W.findIn K (.ref CSending) "answer_part" = some (some (.ref FSending_answer_part)))
    (i_Sending_answer_part : PySem.W.isFn K (.ref FSending_answer_part) = true)
    (l_Sending_answer_part : K.lookup FSending_answer_part = some ⟨oc_Sending_answer_part, od_Sending_answer_part, .func (PySem.W.fnOf "answer_part" "Sending.answer_part" (defArgs s_Sending_answer_part) (defBody s_Sending_answer_part) (defScope s_Sending_answer_part) .none kV_Sending_answer_part dc_Sending_answer_part pm_Sending_answer_part an_Sending_answer_part cd_Sending_answer_part ct_Sending_answer_part), sl_Sending_answer_part⟩)
    (c_Sending_answer_part : PySem.W.codeIn K cd_Sending_answer_part "Sending.answer_part" = true)
    (k_Sending_answer_part : PySem.W.keepIn K (.ref FSending_answer_part) = true)
    (a_Sending_parts_again : PySem.W.findIn K (.ref CSending) "parts_again" = some (some (.ref FSending_parts_again)))
    (i_Sending_parts_again : PySem.W.isFn K (.ref FSending_parts_again) = true)
    (l_Sending_parts_again : K.lookup FSending_parts_again = some ⟨oc_Sending_parts_again, od_Sending_parts_again, .func (PySem.W.fnOf "parts_again" "Sending.parts_again" (defArgs s_Sending_parts_again) (defBody s_Sending_parts_again) (defScope s_Sending_parts_again) .none kV_Sending_parts_again dc_Sending_parts_again pm_Sending_parts_again an_Sending_parts_again cd_Sending_parts_again ct_Sending_parts_again), sl_Sending_parts_again⟩)
    (c_Sending_parts_again : PySem.W.codeIn K cd_Sending_parts_again "Sending.parts_again" = true)
    (k_Sending_parts_again : PySem.W.keepIn K (.ref FSending_parts_again) = true)
    (a_Sending_part_of : PySem.W.findIn K (.ref CSending) "part_of" = some (some (.ref FSending_part_of)))
    (i_Sending_part_of : PySem.W.isFn K (.ref FSending_part_of) = true)
    (l_Sending_part_of : K.lookup FSending_part_of = some ⟨oc_Sending_part_of, od_Sending_part_of, .func (PySem.W.fnOf "part_of" "Sending.part_of" (defArgs s_Sending_part_of) (defBody s_Sending_part_of) (defScope s_Sending_part_of) .none kV_Sending_part_of dc_Sending_part_of pm_Sending_part_of an_Sending_part_of cd_Sending_part_of ct_Sending_part_of), sl_Sending_part_of⟩)
    (c_Sending_part_of : PySem.W.codeIn K cd_Sending_part_of "Sending.part_of" = true)
    (k_Sending_part_of : PySem.W.keepIn K (.ref FSending_part_of) = true)
    (a_Sending_new_parts : PySem.W.findIn K (.ref CSending) "new_parts" = some (some (.ref FSending_new_parts)))
    (i_Sending_new_parts : PySem.W.isFn K (.ref FSending_new_parts) = true)
    (l_Sending_new_parts : K.lookup FSending_new_parts = some ⟨oc_Sending_new_parts, od_Sending_new_parts, .func (PySem.W.fnOf "new_parts" "Sending.new_parts" (defArgs s_Sending_new_parts) (defBody s_Sending_new_parts) (defScope s_Sending_new_parts) .none kV_Sending_new_parts dc_Sending_new_parts pm_Sending_new_parts an_Sending_new_parts cd_Sending_new_parts ct_Sending_new_parts), sl_Sending_new_parts⟩)
    (c_Sending_new_parts : PySem.W.codeIn K cd_Sending_new_parts "Sending.new_parts" = true)
    (k_Sending_new_parts : PySem.W.keepIn K (.ref FSending_new_parts) = true)
    (a_Sending_new_piece : PySem.W.findIn K (.ref CSending) "new_piece" = some (some (.ref FSending_new_piece)))
    (i_Sending_new_piece : PySem.W.isFn K (.ref FSending_new_piece) = true)
    (l_Sending_new_piece : K.lookup FSending_new_piece = some ⟨oc_Sending_new_piece, od_Sending_new_piece, .func (PySem.W.fnOf "new_piece" "Sending.new_piece" (defArgs s_Sending_new_piece) (defBody s_Sending_new_piece) (defScope s_Sending_new_piece) .none kV_Sending_new_piece dc_Sending_new_piece pm_Sending_new_piece an_Sending_new_piece cd_Sending_new_piece ct_Sending_new_piece), sl_Sending_new_piece⟩)
    (c_Sending_new_piece : PySem.W.codeIn K cd_Sending_new_piece "Sending.new_piece" = true)
    (k_Sending_new_piece : PySem.W.keepIn K (.ref FSending_new_piece) = true)
    (a_Sending_answered : PySem.W.findIn K (.ref CSending) "answered" = some (some (.ref FSending_answered)))
    (i_Sending_answered : PySem.W.isFn K (.ref FSending_answered) = true)
    (l_Sending_answered : K.lookup FSending_answered = some ⟨oc_Sending_answered, od_Sending_answered, .func (PySem.W.fnOf "answered" "Sending.answered" (defArgs s_Sending_answered) (defBody s_Sending_answered) (defScope s_Sending_answered) .none kV_Sending_answered dc_Sending_answered pm_Sending_answered an_Sending_answered cd_Sending_answered ct_Sending_answered), sl_Sending_answered⟩)
    (c_Sending_answered : PySem.W.codeIn K cd_Sending_answered "Sending.answered" = true)
    (k_Sending_answered : PySem.W.keepIn K (.ref FSending_answered) = true)
    (a_LinkEnd_init : PySem.W.findIn K (.ref CLinkEnd) "__init__" = some (some (.ref FLinkEnd_init)))
    (i_LinkEnd_init : PySem.W.isFn K (.ref FLinkEnd_init) = true)
    (l_LinkEnd_init : K.lookup FLinkEnd_init = some ⟨oc_LinkEnd_init, od_LinkEnd_init, .func (PySem.W.fnOf "__init__" "LinkEnd.__init__" (defArgs s_LinkEnd_init) (defBody s_LinkEnd_init) (defScope s_LinkEnd_init) .none kV_LinkEnd_init dc_LinkEnd_init pm_LinkEnd_init an_LinkEnd_init cd_LinkEnd_init ct_LinkEnd_init), sl_LinkEnd_init⟩)
    (c_LinkEnd_init : PySem.W.codeIn K cd_LinkEnd_init "LinkEnd.__init__" = true)
    (k_LinkEnd_init : PySem.W.keepIn K (.ref FLinkEnd_init) = true)
    (a_LinkEnd_put : PySem.W.findIn K (.ref CLinkEnd) "put" = some (some (.ref FLinkEnd_put)))
    (i_LinkEnd_put : PySem.W.isFn K (.ref FLinkEnd_put) = true)
    (l_LinkEnd_put : K.lookup FLinkEnd_put = some ⟨oc_LinkEnd_put, od_LinkEnd_put, .func (PySem.W.fnOf "put" "LinkEnd.put" (defArgs s_LinkEnd_put) (defBody s_LinkEnd_put) (defScope s_LinkEnd_put) .none kV_LinkEnd_put dc_LinkEnd_put pm_LinkEnd_put an_LinkEnd_put cd_LinkEnd_put ct_LinkEnd_put), sl_LinkEnd_put⟩)
    (c_LinkEnd_put : PySem.W.codeIn K cd_LinkEnd_put "LinkEnd.put" = true)
    (k_LinkEnd_put : PySem.W.keepIn K (.ref FLinkEnd_put) = true)
    (a_LinkEnd_finish : PySem.W.findIn K (.ref CLinkEnd) "finish" = some (some (.ref FLinkEnd_finish)))
    (i_LinkEnd_finish : PySem.W.isFn K (.ref FLinkEnd_finish) = true)
    (l_LinkEnd_finish : K.lookup FLinkEnd_finish = some ⟨oc_LinkEnd_finish, od_LinkEnd_finish, .func (PySem.W.fnOf "finish" "LinkEnd.finish" (defArgs s_LinkEnd_finish) (defBody s_LinkEnd_finish) (defScope s_LinkEnd_finish) .none kV_LinkEnd_finish dc_LinkEnd_finish pm_LinkEnd_finish an_LinkEnd_finish cd_LinkEnd_finish ct_LinkEnd_finish), sl_LinkEnd_finish⟩)
    (c_LinkEnd_finish : PySem.W.codeIn K cd_LinkEnd_finish "LinkEnd.finish" = true)
    (k_LinkEnd_finish : PySem.W.keepIn K (.ref FLinkEnd_finish) = true)
    (a_LinkEnd_tick : PySem.W.findIn K (.ref CLinkEnd) "tick" = some (some (.ref FLinkEnd_tick)))
    (i_LinkEnd_tick : PySem.W.isFn K (.ref FLinkEnd_tick) = true)
    (l_LinkEnd_tick : K.lookup FLinkEnd_tick = some ⟨oc_LinkEnd_tick, od_LinkEnd_tick, .func (PySem.W.fnOf "tick" "LinkEnd.tick" (defArgs s_LinkEnd_tick) (defBody s_LinkEnd_tick) (defScope s_LinkEnd_tick) .none kV_LinkEnd_tick dc_LinkEnd_tick pm_LinkEnd_tick an_LinkEnd_tick cd_LinkEnd_tick ct_LinkEnd_tick), sl_LinkEnd_tick⟩)
    (c_LinkEnd_tick : PySem.W.codeIn K cd_LinkEnd_tick "LinkEnd.tick" = true)
    (k_LinkEnd_tick : PySem.W.keepIn K (.ref FLinkEnd_tick) = true)
    (a_LinkEnd_sent_as : PySem.W.findIn K (.ref CLinkEnd) "sent_as" = some (some (.ref FLinkEnd_sent_as)))
    (i_LinkEnd_sent_as : PySem.W.isFn K (.ref FLinkEnd_sent_as) = true)
    (l_LinkEnd_sent_as : K.lookup FLinkEnd_sent_as = some ⟨oc_LinkEnd_sent_as, od_LinkEnd_sent_as, .func (PySem.W.fnOf "sent_as" "LinkEnd.sent_as" (defArgs s_LinkEnd_sent_as) (defBody s_LinkEnd_sent_as) (defScope s_LinkEnd_sent_as) .none kV_LinkEnd_sent_as dc_LinkEnd_sent_as pm_LinkEnd_sent_as an_LinkEnd_sent_as cd_LinkEnd_sent_as ct_LinkEnd_sent_as), sl_LinkEnd_sent_as⟩)
    (c_LinkEnd_sent_as : PySem.W.codeIn K cd_LinkEnd_sent_as "LinkEnd.sent_as" = true)
    (k_LinkEnd_sent_as : PySem.W.keepIn K (.ref FLinkEnd_sent_as) = true)
    (a_LinkEnd_came : PySem.W.findIn K (.ref CLinkEnd) "came" = some (some (.ref FLinkEnd_came)))
    (i_LinkEnd_came : PySem.W.isFn K (.ref FLinkEnd_came) = true)
    (l_LinkEnd_came : K.lookup FLinkEnd_came = some ⟨oc_LinkEnd_came, od_LinkEnd_came, .func (PySem.W.fnOf "came" "LinkEnd.came" (defArgs s_LinkEnd_came) (defBody s_LinkEnd_came) (defScope s_LinkEnd_came) .none kV_LinkEnd_came dc_LinkEnd_came pm_LinkEnd_came an_LinkEnd_came cd_LinkEnd_came ct_LinkEnd_came), sl_LinkEnd_came⟩)
    (c_LinkEnd_came : PySem.W.codeIn K cd_LinkEnd_came "LinkEnd.came" = true)
    (k_LinkEnd_came : PySem.W.keepIn K (.ref FLinkEnd_came) = true)
    (a_LinkEnd_accept_packet : PySem.W.findIn K (.ref CLinkEnd) "accept_packet" = some (some (.ref FLinkEnd_accept_packet)))
    (i_LinkEnd_accept_packet : PySem.W.isFn K (.ref FLinkEnd_accept_packet) = true)
    (l_LinkEnd_accept_packet : K.lookup FLinkEnd_accept_packet = some ⟨oc_LinkEnd_accept_packet, od_LinkEnd_accept_packet, .func (PySem.W.fnOf "accept_packet" "LinkEnd.accept_packet" (defArgs s_LinkEnd_accept_packet) (defBody s_LinkEnd_accept_packet) (defScope s_LinkEnd_accept_packet) .none kV_LinkEnd_accept_packet dc_LinkEnd_accept_packet pm_LinkEnd_accept_packet an_LinkEnd_accept_packet cd_LinkEnd_accept_packet ct_LinkEnd_accept_packet), sl_LinkEnd_accept_packet⟩)
    (c_LinkEnd_accept_packet : PySem.W.codeIn K cd_LinkEnd_accept_packet "LinkEnd.accept_packet" = true)
    (k_LinkEnd_accept_packet : PySem.W.keepIn K (.ref FLinkEnd_accept_packet) = true)
    (a_LinkEnd_take : PySem.W.findIn K (.ref CLinkEnd) "take" = some (some (.ref FLinkEnd_take)))
    (i_LinkEnd_take : PySem.W.isFn K (.ref FLinkEnd_take) = true)
    (l_LinkEnd_take : K.lookup FLinkEnd_take = some ⟨oc_LinkEnd_take, od_LinkEnd_take, .func (PySem.W.fnOf "take" "LinkEnd.take" (defArgs s_LinkEnd_take) (defBody s_LinkEnd_take) (defScope s_LinkEnd_take) .none kV_LinkEnd_take dc_LinkEnd_take pm_LinkEnd_take an_LinkEnd_take cd_LinkEnd_take ct_LinkEnd_take), sl_LinkEnd_take⟩)
    (c_LinkEnd_take : PySem.W.codeIn K cd_LinkEnd_take "LinkEnd.take" = true)
    (k_LinkEnd_take : PySem.W.keepIn K (.ref FLinkEnd_take) = true)
    (a_LinkEnd_tell : PySem.W.findIn K (.ref CLinkEnd) "tell" = some (some (.ref FLinkEnd_tell)))
    (i_LinkEnd_tell : PySem.W.isFn K (.ref FLinkEnd_tell) = true)
    (l_LinkEnd_tell : K.lookup FLinkEnd_tell = some ⟨oc_LinkEnd_tell, od_LinkEnd_tell, .func (PySem.W.fnOf "tell" "LinkEnd.tell" (defArgs s_LinkEnd_tell) (defBody s_LinkEnd_tell) (defScope s_LinkEnd_tell) .none kV_LinkEnd_tell dc_LinkEnd_tell pm_LinkEnd_tell an_LinkEnd_tell cd_LinkEnd_tell ct_LinkEnd_tell), sl_LinkEnd_tell⟩)
    (c_LinkEnd_tell : PySem.W.codeIn K cd_LinkEnd_tell "LinkEnd.tell" = true)
    (k_LinkEnd_tell : PySem.W.keepIn K (.ref FLinkEnd_tell) = true)
    (a_Link_init : PySem.W.findIn K (.ref CLink) "__init__" = some (some (.ref FLink_init)))
    (i_Link_init : PySem.W.isFn K (.ref FLink_init) = true)
    (l_Link_init : K.lookup FLink_init = some ⟨oc_Link_init, od_Link_init, .func (PySem.W.fnOf "__init__" "Link.__init__" (defArgs s_Link_init) (defBody s_Link_init) (defScope s_Link_init) .none kV_Link_init dc_Link_init pm_Link_init an_Link_init cd_Link_init ct_Link_init), sl_Link_init⟩)
    (c_Link_init : PySem.W.codeIn K cd_Link_init "Link.__init__" = true)
    (k_Link_init : PySem.W.keepIn K (.ref FLink_init) = true)
    (a_Link_begin : PySem.W.findIn K (.ref CLink) "begin" = some (some (.ref FLink_begin)))
    (i_Link_begin : PySem.W.isFn K (.ref FLink_begin) = true)
    (l_Link_begin : K.lookup FLink_begin = some ⟨oc_Link_begin, od_Link_begin, .func (PySem.W.fnOf "begin" "Link.begin" (defArgs s_Link_begin) (defBody s_Link_begin) (defScope s_Link_begin) .none kV_Link_begin dc_Link_begin pm_Link_begin an_Link_begin cd_Link_begin ct_Link_begin), sl_Link_begin⟩)
    (c_Link_begin : PySem.W.codeIn K cd_Link_begin "Link.begin" = true)
    (k_Link_begin : PySem.W.keepIn K (.ref FLink_begin) = true)
    (a_Link_answer_to : PySem.W.findIn K (.ref CLink) "answer_to" = some (some (.ref FLink_answer_to)))
    (i_Link_answer_to : PySem.W.isFn K (.ref FLink_answer_to) = true)
    (l_Link_answer_to : K.lookup FLink_answer_to = some ⟨oc_Link_answer_to, od_Link_answer_to, .func (PySem.W.fnOf "answer_to" "Link.answer_to" (defArgs s_Link_answer_to) (defBody s_Link_answer_to) (defScope s_Link_answer_to) .none kV_Link_answer_to dc_Link_answer_to pm_Link_answer_to an_Link_answer_to cd_Link_answer_to ct_Link_answer_to), sl_Link_answer_to⟩)
    (c_Link_answer_to : PySem.W.codeIn K cd_Link_answer_to "Link.answer_to" = true)
    (k_Link_answer_to : PySem.W.keepIn K (.ref FLink_answer_to) = true)
    (a_size_of : PySem.W.nsIn K mainGlobals "size_of" = some (some (.ref Fsize_of)))
    (l_size_of : K.lookup Fsize_of = some ⟨oc_size_of, od_size_of, .func (PySem.W.fnOf "size_of" "size_of" (defArgs s_size_of) (defBody s_size_of) (defScope s_size_of) .none kV_size_of dc_size_of pm_size_of an_size_of cd_size_of ct_size_of), sl_size_of⟩)
    (c_size_of : PySem.W.codeIn K cd_size_of "size_of" = true)
    (k_size_of : PySem.W.keepIn K (.ref Fsize_of) = true)
    (a_answers : PySem.W.nsIn K mainGlobals "answers" = some (some (.ref Fanswers)))
    (l_answers : K.lookup Fanswers = some ⟨oc_answers, od_answers, .func (PySem.W.fnOf "answers" "answers" (defArgs s_answers) (defBody s_answers) (defScope s_answers) .none kV_answers dc_answers pm_answers an_answers cd_answers ct_answers), sl_answers⟩)
    (c_answers : PySem.W.codeIn K cd_answers "answers" = true)
    (k_answers : PySem.W.keepIn K (.ref Fanswers) = true)
    (g_MODULUS : PySem.W.nsIn K mainGlobals "MODULUS" = some (some (.int 283 t_MODULUS)))
    (g_ORDER : PySem.W.nsIn K mainGlobals "ORDER" = some (some (.int 255 t_ORDER)))
    (g_LONGEST_ROW : PySem.W.nsIn K mainGlobals "LONGEST_ROW" = some (some (.int 255 t_LONGEST_ROW)))
    (g_PARITY : PySem.W.nsIn K mainGlobals "PARITY" = some (some (.int 16 t_PARITY)))
    (g_PLACES : PySem.W.nsIn K mainGlobals "PLACES" = some (some (.int 8 t_PLACES)))
    (g_ONES : PySem.W.nsIn K mainGlobals "ONES" = some (some (.int 4294967295 t_ONES)))
    (g_FEEDBACK : PySem.W.nsIn K mainGlobals "FEEDBACK" = some (some (.int 2197175160 t_FEEDBACK)))
    (g_ANSWER : PySem.W.nsIn K mainGlobals "ANSWER" = some (some (.int 0 t_ANSWER)))
    (g_BYTES : PySem.W.nsIn K mainGlobals "BYTES" = some (some (.int 1 t_BYTES)))
    (g_END : PySem.W.nsIn K mainGlobals "END" = some (some (.int 2 t_END)))
    (g_QUESTION : PySem.W.nsIn K mainGlobals "QUESTION" = some (some (.int 3 t_QUESTION)))
    (g_NAMES : PySem.W.nsIn K mainGlobals "NAMES" = some (some (.int 4294967296 t_NAMES)))
    (g_PIECE : PySem.W.nsIn K mainGlobals "PIECE" = some (some (.int 190 t_PIECE)))
    (g_HEAD : PySem.W.nsIn K mainGlobals "HEAD" = some (some (.int 23 t_HEAD)))
    (g_SUM : PySem.W.nsIn K mainGlobals "SUM" = some (some (.int 4 t_SUM)))
    (g_SHORTEST : PySem.W.nsIn K mainGlobals "SHORTEST" = some (some (.int 43 t_SHORTEST)))
    (g_LONGEST : PySem.W.nsIn K mainGlobals "LONGEST" = some (some (.int 233 t_LONGEST)))
    (g_ROOM : PySem.W.nsIn K mainGlobals "ROOM" = some (some (.int 4096 t_ROOM)))
    (g_TURNS : PySem.W.nsIn K mainGlobals "TURNS" = some (some (.int 65 t_TURNS)))
    (g_UNANSWERED : PySem.W.nsIn K mainGlobals "UNANSWERED" = some (some (.int 65536 t_UNANSWERED)))
    (g_ON_THEIR_WAY : PySem.W.nsIn K mainGlobals "ON_THEIR_WAY" = some (some (.int 8 t_ON_THEIR_WAY)))
    (g_FIRST_LIMIT : PySem.W.nsIn K mainGlobals "FIRST_LIMIT" = some (some (.int 4096 t_FIRST_LIMIT)))
    (g_FIRST_WAIT : PySem.W.nsIn K mainGlobals "FIRST_WAIT" = some (some (.int 4 t_FIRST_WAIT)))
    (g_LONGEST_WAIT : PySem.W.nsIn K mainGlobals "LONGEST_WAIT" = some (some (.int 64 t_LONGEST_WAIT)))
    (g_ASK_WAIT : PySem.W.nsIn K mainGlobals "ASK_WAIT" = some (some (.int 16 t_ASK_WAIT)))
    (g_BEGIN : PySem.W.nsIn K mainGlobals "BEGIN" = some (some (.int 1 t_BEGIN)))
    (g_PUT : PySem.W.nsIn K mainGlobals "PUT" = some (some (.int 2 t_PUT)))
    (g_FINISH : PySem.W.nsIn K mainGlobals "FINISH" = some (some (.int 3 t_FINISH)))
    (g_TICK : PySem.W.nsIn K mainGlobals "TICK" = some (some (.int 4 t_TICK)))
    (g_CAME : PySem.W.nsIn K mainGlobals "CAME" = some (some (.int 5 t_CAME)))
    (g_TAKE : PySem.W.nsIn K mainGlobals "TAKE" = some (some (.int 6 t_TAKE)))
    (b_len : PySem.W.nsIn K mainGlobals "len" = some none)
    (b_list : PySem.W.nsIn K mainGlobals "list" = some none)
    (b_max : PySem.W.nsIn K mainGlobals "max" = some none)
    (b_min : PySem.W.nsIn K mainGlobals "min" = some none)
    (b_range : PySem.W.nsIn K mainGlobals "range" = some none)
    (b_reversed : PySem.W.nsIn K mainGlobals "reversed" = some none)
    (b_zip : PySem.W.nsIn K mainGlobals "zip" = some none) :
    ∃ fd : FuncData, (∀ (s : Shared) (us : List Value), us.length = (["calls"] : List Str).length → BindsTo s fd ⟨us, []⟩ ((["calls"] : List Str).zip us)) ∧ ∀ base : Heap, K.In base → base.Ns mainGlobals mg → FnOk P w K mg base CX0 9 fa fd ["calls"] (spEnd K) := by
  have e := hfa.symm.trans (PySem.W.mg_of X G a_answers)
  cases e
  have T : Top K mg ⟨CField,
    CCode,
    CPacket,
    CReceiving,
    CPiece,
    CPart,
    CSending,
    CLinkEnd,
    CLink,
    Fdoubled,
    (PySem.W.fnOf "doubled" "doubled" (defArgs s_doubled) (defBody s_doubled) (defScope s_doubled) .none kV_doubled dc_doubled pm_doubled an_doubled cd_doubled ct_doubled),
    Fproduct_of,
    (PySem.W.fnOf "product_of" "product_of" (defArgs s_product_of) (defBody s_product_of) (defScope s_product_of) .none kV_product_of dc_product_of pm_product_of an_product_of cd_product_of ct_product_of),
    FField_init,
    (PySem.W.fnOf "__init__" "Field.__init__" (defArgs s_Field_init) (defBody s_Field_init) (defScope s_Field_init) .none kV_Field_init dc_Field_init pm_Field_init an_Field_init cd_Field_init ct_Field_init),
    FField_power,
    (PySem.W.fnOf "power" "Field.power" (defArgs s_Field_power) (defBody s_Field_power) (defScope s_Field_power) .none kV_Field_power dc_Field_power pm_Field_power an_Field_power cd_Field_power ct_Field_power),
    FField_product,
    (PySem.W.fnOf "product" "Field.product" (defArgs s_Field_product) (defBody s_Field_product) (defScope s_Field_product) .none kV_Field_product dc_Field_product pm_Field_product an_Field_product cd_Field_product ct_Field_product),
    FField_quotient,
    (PySem.W.fnOf "quotient" "Field.quotient" (defArgs s_Field_quotient) (defBody s_Field_quotient) (defScope s_Field_quotient) .none kV_Field_quotient dc_Field_quotient pm_Field_quotient an_Field_quotient cd_Field_quotient ct_Field_quotient),
    FField_scaled,
    (PySem.W.fnOf "scaled" "Field.scaled" (defArgs s_Field_scaled) (defBody s_Field_scaled) (defScope s_Field_scaled) .none kV_Field_scaled dc_Field_scaled pm_Field_scaled an_Field_scaled cd_Field_scaled ct_Field_scaled),
    FField_value_at,
    (PySem.W.fnOf "value_at" "Field.value_at" (defArgs s_Field_value_at) (defBody s_Field_value_at) (defScope s_Field_value_at) .none kV_Field_value_at dc_Field_value_at pm_Field_value_at an_Field_value_at cd_Field_value_at ct_Field_value_at),
    Fadded,
    (PySem.W.fnOf "added" "added" (defArgs s_added) (defBody s_added) (defScope s_added) .none kV_added dc_added pm_added an_added cd_added ct_added),
    Fpadded,
    (PySem.W.fnOf "padded" "padded" (defArgs s_padded) (defBody s_padded) (defScope s_padded) .none kV_padded dc_padded pm_padded an_padded cd_padded ct_padded),
    Fdivisor_of,
    (PySem.W.fnOf "divisor_of" "divisor_of" (defArgs s_divisor_of) (defBody s_divisor_of) (defScope s_divisor_of) .none kV_divisor_of dc_divisor_of pm_divisor_of an_divisor_of cd_divisor_of ct_divisor_of),
    Flack_at,
    (PySem.W.fnOf "lack_at" "lack_at" (defArgs s_lack_at) (defBody s_lack_at) (defScope s_lack_at) .none kV_lack_at dc_lack_at pm_lack_at an_lack_at cd_lack_at ct_lack_at),
    Flocator_of,
    (PySem.W.fnOf "locator_of" "locator_of" (defArgs s_locator_of) (defBody s_locator_of) (defScope s_locator_of) .none kV_locator_of dc_locator_of pm_locator_of an_locator_of cd_locator_of ct_locator_of),
    Fplaces_of,
    (PySem.W.fnOf "places_of" "places_of" (defArgs s_places_of) (defBody s_places_of) (defScope s_places_of) .none kV_places_of dc_places_of pm_places_of an_places_of cd_places_of ct_places_of),
    Ferrors_of,
    (PySem.W.fnOf "errors_of" "errors_of" (defArgs s_errors_of) (defBody s_errors_of) (defScope s_errors_of) .none kV_errors_of dc_errors_of pm_errors_of an_errors_of cd_errors_of ct_errors_of),
    FCode_init,
    (PySem.W.fnOf "__init__" "Code.__init__" (defArgs s_Code_init) (defBody s_Code_init) (defScope s_Code_init) .none kV_Code_init dc_Code_init pm_Code_init an_Code_init cd_Code_init ct_Code_init),
    FCode_parity_of,
    (PySem.W.fnOf "parity_of" "Code.parity_of" (defArgs s_Code_parity_of) (defBody s_Code_parity_of) (defScope s_Code_parity_of) .none kV_Code_parity_of dc_Code_parity_of pm_Code_parity_of an_Code_parity_of cd_Code_parity_of ct_Code_parity_of),
    FCode_syndromes_of,
    (PySem.W.fnOf "syndromes_of" "Code.syndromes_of" (defArgs s_Code_syndromes_of) (defBody s_Code_syndromes_of) (defScope s_Code_syndromes_of) .none kV_Code_syndromes_of dc_Code_syndromes_of pm_Code_syndromes_of an_Code_syndromes_of cd_Code_syndromes_of ct_Code_syndromes_of),
    FCode_mend_row,
    (PySem.W.fnOf "mend_row" "Code.mend_row" (defArgs s_Code_mend_row) (defBody s_Code_mend_row) (defScope s_Code_mend_row) .none kV_Code_mend_row dc_Code_mend_row pm_Code_mend_row an_Code_mend_row cd_Code_mend_row ct_Code_mend_row),
    Fcrc_of,
    (PySem.W.fnOf "crc_of" "crc_of" (defArgs s_crc_of) (defBody s_crc_of) (defScope s_crc_of) .none kV_crc_of dc_crc_of pm_crc_of an_crc_of cd_crc_of ct_crc_of),
    FPacket_init,
    (PySem.W.fnOf "__init__" "Packet.__init__" (defArgs s_Packet_init) (defBody s_Packet_init) (defScope s_Packet_init) .none kV_Packet_init dc_Packet_init pm_Packet_init an_Packet_init cd_Packet_init ct_Packet_init),
    Flowest_first,
    (PySem.W.fnOf "lowest_first" "lowest_first" (defArgs s_lowest_first) (defBody s_lowest_first) (defScope s_lowest_first) .none kV_lowest_first dc_lowest_first pm_lowest_first an_lowest_first cd_lowest_first ct_lowest_first),
    Fvalue_of,
    (PySem.W.fnOf "value_of" "value_of" (defArgs s_value_of) (defBody s_value_of) (defScope s_value_of) .none kV_value_of dc_value_of pm_value_of an_value_of cd_value_of ct_value_of),
    Frow_of,
    (PySem.W.fnOf "row_of" "row_of" (defArgs s_row_of) (defBody s_row_of) (defScope s_row_of) .none kV_row_of dc_row_of pm_row_of an_row_of cd_row_of ct_row_of),
    Fparted,
    (PySem.W.fnOf "parted" "parted" (defArgs s_parted) (defBody s_parted) (defScope s_parted) .none kV_parted dc_parted pm_parted an_parted cd_parted ct_parted),
    Fkind_fits,
    (PySem.W.fnOf "kind_fits" "kind_fits" (defArgs s_kind_fits) (defBody s_kind_fits) (defScope s_kind_fits) .none kV_kind_fits dc_kind_fits pm_kind_fits an_kind_fits cd_kind_fits ct_kind_fits),
    Fpacket_of,
    (PySem.W.fnOf "packet_of" "packet_of" (defArgs s_packet_of) (defBody s_packet_of) (defScope s_packet_of) .none kV_packet_of dc_packet_of pm_packet_of an_packet_of cd_packet_of ct_packet_of),
    FReceiving_init,
    (PySem.W.fnOf "__init__" "Receiving.__init__" (defArgs s_Receiving_init) (defBody s_Receiving_init) (defScope s_Receiving_init) .none kV_Receiving_init dc_Receiving_init pm_Receiving_init an_Receiving_init cd_Receiving_init ct_Receiving_init),
    FReceiving_room_left,
    (PySem.W.fnOf "room_left" "Receiving.room_left" (defArgs s_Receiving_room_left) (defBody s_Receiving_room_left) (defScope s_Receiving_room_left) .none kV_Receiving_room_left dc_Receiving_room_left pm_Receiving_room_left an_Receiving_room_left cd_Receiving_room_left ct_Receiving_room_left),
    FReceiving_accept,
    (PySem.W.fnOf "accept" "Receiving.accept" (defArgs s_Receiving_accept) (defBody s_Receiving_accept) (defScope s_Receiving_accept) .none kV_Receiving_accept dc_Receiving_accept pm_Receiving_accept an_Receiving_accept cd_Receiving_accept ct_Receiving_accept),
    FReceiving_keep,
    (PySem.W.fnOf "keep" "Receiving.keep" (defArgs s_Receiving_keep) (defBody s_Receiving_keep) (defScope s_Receiving_keep) .none kV_Receiving_keep dc_Receiving_keep pm_Receiving_keep an_Receiving_keep cd_Receiving_keep ct_Receiving_keep),
    FReceiving_note_end,
    (PySem.W.fnOf "note_end" "Receiving.note_end" (defArgs s_Receiving_note_end) (defBody s_Receiving_note_end) (defScope s_Receiving_note_end) .none kV_Receiving_note_end dc_Receiving_note_end pm_Receiving_note_end an_Receiving_note_end cd_Receiving_note_end ct_Receiving_note_end),
    FReceiving_bring_to_turn,
    (PySem.W.fnOf "bring_to_turn" "Receiving.bring_to_turn" (defArgs s_Receiving_bring_to_turn) (defBody s_Receiving_bring_to_turn) (defScope s_Receiving_bring_to_turn) .none kV_Receiving_bring_to_turn dc_Receiving_bring_to_turn pm_Receiving_bring_to_turn an_Receiving_bring_to_turn cd_Receiving_bring_to_turn ct_Receiving_bring_to_turn),
    FReceiving_take,
    (PySem.W.fnOf "take" "Receiving.take" (defArgs s_Receiving_take) (defBody s_Receiving_take) (defScope s_Receiving_take) .none kV_Receiving_take dc_Receiving_take pm_Receiving_take an_Receiving_take cd_Receiving_take ct_Receiving_take),
    FReceiving_is_short,
    (PySem.W.fnOf "is_short" "Receiving.is_short" (defArgs s_Receiving_is_short) (defBody s_Receiving_is_short) (defScope s_Receiving_is_short) .none kV_Receiving_is_short dc_Receiving_is_short pm_Receiving_is_short an_Receiving_is_short cd_Receiving_is_short ct_Receiving_is_short),
    FPiece_init,
    (PySem.W.fnOf "__init__" "Piece.__init__" (defArgs s_Piece_init) (defBody s_Piece_init) (defScope s_Piece_init) .none kV_Piece_init dc_Piece_init pm_Piece_init an_Piece_init cd_Piece_init ct_Piece_init),
    Fwait_after,
    (PySem.W.fnOf "wait_after" "wait_after" (defArgs s_wait_after) (defBody s_wait_after) (defScope s_wait_after) .none kV_wait_after dc_wait_after pm_wait_after an_wait_after cd_wait_after ct_wait_after),
    FPart_init,
    (PySem.W.fnOf "__init__" "Part.__init__" (defArgs s_Part_init) (defBody s_Part_init) (defScope s_Part_init) .none kV_Part_init dc_Part_init pm_Part_init an_Part_init cd_Part_init ct_Part_init),
    FSending_init,
    (PySem.W.fnOf "__init__" "Sending.__init__" (defArgs s_Sending_init) (defBody s_Sending_init) (defScope s_Sending_init) .none kV_Sending_init dc_Sending_init pm_Sending_init an_Sending_init cd_Sending_init ct_Sending_init),
    FSending_put,
    (PySem.W.fnOf "put" "Sending.put" (defArgs s_Sending_put) (defBody s_Sending_put) (defScope s_Sending_put) .none kV_Sending_put dc_Sending_put pm_Sending_put an_Sending_put cd_Sending_put ct_Sending_put),
    FSending_finish,
    (PySem.W.fnOf "finish" "Sending.finish" (defArgs s_Sending_finish) (defBody s_Sending_finish) (defScope s_Sending_finish) .none kV_Sending_finish dc_Sending_finish pm_Sending_finish an_Sending_finish cd_Sending_finish ct_Sending_finish),
    FSending_bytes_unsent,
    (PySem.W.fnOf "bytes_unsent" "Sending.bytes_unsent" (defArgs s_Sending_bytes_unsent) (defBody s_Sending_bytes_unsent) (defScope s_Sending_bytes_unsent) .none kV_Sending_bytes_unsent dc_Sending_bytes_unsent pm_Sending_bytes_unsent an_Sending_bytes_unsent cd_Sending_bytes_unsent ct_Sending_bytes_unsent),
    FSending_parts_at,
    (PySem.W.fnOf "parts_at" "Sending.parts_at" (defArgs s_Sending_parts_at) (defBody s_Sending_parts_at) (defScope s_Sending_parts_at) .none kV_Sending_parts_at dc_Sending_parts_at pm_Sending_parts_at an_Sending_parts_at cd_Sending_parts_at ct_Sending_parts_at),
    FSending_answer_part,
    (PySem.W.fnOf "answer_part" "Sending.answer_part" (defArgs s_Sending_answer_part) (defBody s_Sending_answer_part) (defScope s_Sending_answer_part) .none kV_Sending_answer_part dc_Sending_answer_part pm_Sending_answer_part an_Sending_answer_part cd_Sending_answer_part ct_Sending_answer_part),
    FSending_parts_again,
    (PySem.W.fnOf "parts_again" "Sending.parts_again" (defArgs s_Sending_parts_again) (defBody s_Sending_parts_again) (defScope s_Sending_parts_again) .none kV_Sending_parts_again dc_Sending_parts_again pm_Sending_parts_again an_Sending_parts_again cd_Sending_parts_again ct_Sending_parts_again),
    FSending_part_of,
    (PySem.W.fnOf "part_of" "Sending.part_of" (defArgs s_Sending_part_of) (defBody s_Sending_part_of) (defScope s_Sending_part_of) .none kV_Sending_part_of dc_Sending_part_of pm_Sending_part_of an_Sending_part_of cd_Sending_part_of ct_Sending_part_of),
    FSending_new_parts,
    (PySem.W.fnOf "new_parts" "Sending.new_parts" (defArgs s_Sending_new_parts) (defBody s_Sending_new_parts) (defScope s_Sending_new_parts) .none kV_Sending_new_parts dc_Sending_new_parts pm_Sending_new_parts an_Sending_new_parts cd_Sending_new_parts ct_Sending_new_parts),
    FSending_new_piece,
    (PySem.W.fnOf "new_piece" "Sending.new_piece" (defArgs s_Sending_new_piece) (defBody s_Sending_new_piece) (defScope s_Sending_new_piece) .none kV_Sending_new_piece dc_Sending_new_piece pm_Sending_new_piece an_Sending_new_piece cd_Sending_new_piece ct_Sending_new_piece),
    FSending_answered,
    (PySem.W.fnOf "answered" "Sending.answered" (defArgs s_Sending_answered) (defBody s_Sending_answered) (defScope s_Sending_answered) .none kV_Sending_answered dc_Sending_answered pm_Sending_answered an_Sending_answered cd_Sending_answered ct_Sending_answered),
    FLinkEnd_init,
    (PySem.W.fnOf "__init__" "LinkEnd.__init__" (defArgs s_LinkEnd_init) (defBody s_LinkEnd_init) (defScope s_LinkEnd_init) .none kV_LinkEnd_init dc_LinkEnd_init pm_LinkEnd_init an_LinkEnd_init cd_LinkEnd_init ct_LinkEnd_init),
    FLinkEnd_put,
    (PySem.W.fnOf "put" "LinkEnd.put" (defArgs s_LinkEnd_put) (defBody s_LinkEnd_put) (defScope s_LinkEnd_put) .none kV_LinkEnd_put dc_LinkEnd_put pm_LinkEnd_put an_LinkEnd_put cd_LinkEnd_put ct_LinkEnd_put),
    FLinkEnd_finish,
    (PySem.W.fnOf "finish" "LinkEnd.finish" (defArgs s_LinkEnd_finish) (defBody s_LinkEnd_finish) (defScope s_LinkEnd_finish) .none kV_LinkEnd_finish dc_LinkEnd_finish pm_LinkEnd_finish an_LinkEnd_finish cd_LinkEnd_finish ct_LinkEnd_finish),
    FLinkEnd_tick,
    (PySem.W.fnOf "tick" "LinkEnd.tick" (defArgs s_LinkEnd_tick) (defBody s_LinkEnd_tick) (defScope s_LinkEnd_tick) .none kV_LinkEnd_tick dc_LinkEnd_tick pm_LinkEnd_tick an_LinkEnd_tick cd_LinkEnd_tick ct_LinkEnd_tick),
    FLinkEnd_sent_as,
    (PySem.W.fnOf "sent_as" "LinkEnd.sent_as" (defArgs s_LinkEnd_sent_as) (defBody s_LinkEnd_sent_as) (defScope s_LinkEnd_sent_as) .none kV_LinkEnd_sent_as dc_LinkEnd_sent_as pm_LinkEnd_sent_as an_LinkEnd_sent_as cd_LinkEnd_sent_as ct_LinkEnd_sent_as),
    FLinkEnd_came,
    (PySem.W.fnOf "came" "LinkEnd.came" (defArgs s_LinkEnd_came) (defBody s_LinkEnd_came) (defScope s_LinkEnd_came) .none kV_LinkEnd_came dc_LinkEnd_came pm_LinkEnd_came an_LinkEnd_came cd_LinkEnd_came ct_LinkEnd_came),
    FLinkEnd_accept_packet,
    (PySem.W.fnOf "accept_packet" "LinkEnd.accept_packet" (defArgs s_LinkEnd_accept_packet) (defBody s_LinkEnd_accept_packet) (defScope s_LinkEnd_accept_packet) .none kV_LinkEnd_accept_packet dc_LinkEnd_accept_packet pm_LinkEnd_accept_packet an_LinkEnd_accept_packet cd_LinkEnd_accept_packet ct_LinkEnd_accept_packet),
    FLinkEnd_take,
    (PySem.W.fnOf "take" "LinkEnd.take" (defArgs s_LinkEnd_take) (defBody s_LinkEnd_take) (defScope s_LinkEnd_take) .none kV_LinkEnd_take dc_LinkEnd_take pm_LinkEnd_take an_LinkEnd_take cd_LinkEnd_take ct_LinkEnd_take),
    FLinkEnd_tell,
    (PySem.W.fnOf "tell" "LinkEnd.tell" (defArgs s_LinkEnd_tell) (defBody s_LinkEnd_tell) (defScope s_LinkEnd_tell) .none kV_LinkEnd_tell dc_LinkEnd_tell pm_LinkEnd_tell an_LinkEnd_tell cd_LinkEnd_tell ct_LinkEnd_tell),
    FLink_init,
    (PySem.W.fnOf "__init__" "Link.__init__" (defArgs s_Link_init) (defBody s_Link_init) (defScope s_Link_init) .none kV_Link_init dc_Link_init pm_Link_init an_Link_init cd_Link_init ct_Link_init),
    FLink_begin,
    (PySem.W.fnOf "begin" "Link.begin" (defArgs s_Link_begin) (defBody s_Link_begin) (defScope s_Link_begin) .none kV_Link_begin dc_Link_begin pm_Link_begin an_Link_begin cd_Link_begin ct_Link_begin),
    FLink_answer_to,
    (PySem.W.fnOf "answer_to" "Link.answer_to" (defArgs s_Link_answer_to) (defBody s_Link_answer_to) (defScope s_Link_answer_to) .none kV_Link_answer_to dc_Link_answer_to pm_Link_answer_to an_Link_answer_to cd_Link_answer_to ct_Link_answer_to),
    Fsize_of,
    (PySem.W.fnOf "size_of" "size_of" (defArgs s_size_of) (defBody s_size_of) (defScope s_size_of) .none kV_size_of dc_size_of pm_size_of an_size_of cd_size_of ct_size_of),
    fa,
    (PySem.W.fnOf "answers" "answers" (defArgs s_answers) (defBody s_answers) (defScope s_answers) .none kV_answers dc_answers pm_answers an_answers cd_answers ct_answers),
    t_MODULUS,
    t_ORDER,
    t_LONGEST_ROW,
    t_PARITY,
    t_PLACES,
    t_ONES,
    t_FEEDBACK,
    t_ANSWER,
    t_BYTES,
    t_END,
    t_QUESTION,
    t_NAMES,
    t_PIECE,
    t_HEAD,
    t_SUM,
    t_SHORTEST,
    t_LONGEST,
    t_ROOM,
    t_TURNS,
    t_UNANSWERED,
    t_ON_THEIR_WAY,
    t_FIRST_LIMIT,
    t_FIRST_WAIT,
    t_LONGEST_WAIT,
    t_ASK_WAIT,
    t_BEGIN,
    t_PUT,
    t_FINISH,
    t_TICK,
    t_CAME,
    t_TAKE⟩ := ⟨⟨⟨pg_Field, hd_Field, po_Field, sa_Field⟩, n_Field_powers, n_Field_logs⟩,
    ⟨⟨pg_Code, hd_Code, po_Code, sa_Code⟩, n_Code_field, n_Code_divisor⟩,
    ⟨⟨pg_Packet, hd_Packet, po_Packet, sa_Packet⟩, n_Packet_name, n_Packet_kind, n_Packet_number, n_Packet_wanted, n_Packet_room, n_Packet_octets⟩,
    ⟨⟨pg_Receiving, hd_Receiving, po_Receiving, sa_Receiving⟩, n_Receiving_wanted, n_Receiving_kept, n_Receiving_ready, n_Receiving_end_number, n_Receiving_complete⟩,
    ⟨⟨pg_Piece, hd_Piece, po_Piece, sa_Piece⟩, n_Piece_kind, n_Piece_number, n_Piece_size, n_Piece_due, n_Piece_times_sent⟩,
    ⟨⟨pg_Part, hd_Part, po_Part, sa_Part⟩, n_Part_kind, n_Part_number, n_Part_octets⟩,
    ⟨⟨pg_Sending, hd_Sending, po_Sending, sa_Sending⟩, n_Sending_first, n_Sending_octets, n_Sending_unsent, n_Sending_pieces, n_Sending_limit, n_Sending_told, n_Sending_end_sent, n_Sending_ask_time⟩,
    ⟨⟨pg_LinkEnd, hd_LinkEnd, po_LinkEnd, sa_LinkEnd⟩, n_LinkEnd_code, n_LinkEnd_name, n_LinkEnd_time, n_LinkEnd_sending, n_LinkEnd_receiving, n_LinkEnd_owes, n_LinkEnd_dropped, n_LinkEnd_mended⟩,
    ⟨⟨pg_Link, hd_Link, po_Link, sa_Link⟩, n_Link_code, n_Link_ends⟩,
    ⟨(fun_mk (st := s_doubled) l_doubled c_doubled k_doubled), PySem.W.mg_of X G a_doubled, ((fun_mk (st := s_doubled) l_doubled c_doubled k_doubled).binds (ps := ["octet"]) fun _ _ _ _ _ _ us hl => match us, hl with | [_], _ => rfl)⟩,
    ⟨(fun_mk (st := s_product_of) l_product_of c_product_of k_product_of), PySem.W.mg_of X G a_product_of, ((fun_mk (st := s_product_of) l_product_of c_product_of k_product_of).binds (ps := ["a", "b"]) fun _ _ _ _ _ _ us hl => match us, hl with | [_, _], _ => rfl)⟩,
    ⟨(fun_mk (st := s_Field_init) l_Field_init c_Field_init k_Field_init), ⟨mk_Field, a_Field_init, i_Field_init, kc_Field⟩, PySem.W.mg_of X G a_Field, ((fun_mk (st := s_Field_init) l_Field_init c_Field_init k_Field_init).binds (ps := ["self"]) fun _ _ _ _ _ _ us hl => match us, hl with | [_], _ => rfl)⟩,
    ⟨(fun_mk (st := s_Field_power) l_Field_power c_Field_power k_Field_power), ⟨a_Field_power, i_Field_power, k_Field_power⟩, ((fun_mk (st := s_Field_power) l_Field_power c_Field_power k_Field_power).binds (ps := ["self", "exponent"]) fun _ _ _ _ _ _ us hl => match us, hl with | [_, _], _ => rfl)⟩,
    ⟨(fun_mk (st := s_Field_product) l_Field_product c_Field_product k_Field_product), ⟨a_Field_product, i_Field_product, k_Field_product⟩, ((fun_mk (st := s_Field_product) l_Field_product c_Field_product k_Field_product).binds (ps := ["self", "a", "b"]) fun _ _ _ _ _ _ us hl => match us, hl with | [_, _, _], _ => rfl)⟩,
    ⟨(fun_mk (st := s_Field_quotient) l_Field_quotient c_Field_quotient k_Field_quotient), ⟨a_Field_quotient, i_Field_quotient, k_Field_quotient⟩, ((fun_mk (st := s_Field_quotient) l_Field_quotient c_Field_quotient k_Field_quotient).binds (ps := ["self", "a", "b"]) fun _ _ _ _ _ _ us hl => match us, hl with | [_, _, _], _ => rfl)⟩,
    ⟨(fun_mk (st := s_Field_scaled) l_Field_scaled c_Field_scaled k_Field_scaled), ⟨a_Field_scaled, i_Field_scaled, k_Field_scaled⟩, ((fun_mk (st := s_Field_scaled) l_Field_scaled c_Field_scaled k_Field_scaled).binds (ps := ["self", "row", "factor"]) fun _ _ _ _ _ _ us hl => match us, hl with | [_, _, _], _ => rfl)⟩,
    ⟨(fun_mk (st := s_Field_value_at) l_Field_value_at c_Field_value_at k_Field_value_at), ⟨a_Field_value_at, i_Field_value_at, k_Field_value_at⟩, ((fun_mk (st := s_Field_value_at) l_Field_value_at c_Field_value_at k_Field_value_at).binds (ps := ["self", "row", "point"]) fun _ _ _ _ _ _ us hl => match us, hl with | [_, _, _], _ => rfl)⟩,
    ⟨(fun_mk (st := s_added) l_added c_added k_added), PySem.W.mg_of X G a_added, ((fun_mk (st := s_added) l_added c_added k_added).binds (ps := ["a", "b"]) fun _ _ _ _ _ _ us hl => match us, hl with | [_, _], _ => rfl)⟩,
    ⟨(fun_mk (st := s_padded) l_padded c_padded k_padded), PySem.W.mg_of X G a_padded, ((fun_mk (st := s_padded) l_padded c_padded k_padded).binds (ps := ["row", "size"]) fun _ _ _ _ _ _ us hl => match us, hl with | [_, _], _ => rfl)⟩,
    ⟨(fun_mk (st := s_divisor_of) l_divisor_of c_divisor_of k_divisor_of), PySem.W.mg_of X G a_divisor_of, ((fun_mk (st := s_divisor_of) l_divisor_of c_divisor_of k_divisor_of).binds (ps := ["field"]) fun _ _ _ _ _ _ us hl => match us, hl with | [_], _ => rfl)⟩,
    ⟨(fun_mk (st := s_lack_at) l_lack_at c_lack_at k_lack_at), PySem.W.mg_of X G a_lack_at, ((fun_mk (st := s_lack_at) l_lack_at c_lack_at k_lack_at).binds (ps := ["field", "locator", "syndromes", "at"]) fun _ _ _ _ _ _ us hl => match us, hl with | [_, _, _, _], _ => rfl)⟩,
    ⟨(fun_mk (st := s_locator_of) l_locator_of c_locator_of k_locator_of), PySem.W.mg_of X G a_locator_of, ((fun_mk (st := s_locator_of) l_locator_of c_locator_of k_locator_of).binds (ps := ["field", "syndromes"]) fun _ _ _ _ _ _ us hl => match us, hl with | [_, _], _ => rfl)⟩,
    ⟨(fun_mk (st := s_places_of) l_places_of c_places_of k_places_of), PySem.W.mg_of X G a_places_of, ((fun_mk (st := s_places_of) l_places_of c_places_of k_places_of).binds (ps := ["field", "locator", "size"]) fun _ _ _ _ _ _ us hl => match us, hl with | [_, _, _], _ => rfl)⟩,
    ⟨(fun_mk (st := s_errors_of) l_errors_of c_errors_of k_errors_of), PySem.W.mg_of X G a_errors_of, ((fun_mk (st := s_errors_of) l_errors_of c_errors_of k_errors_of).binds (ps := ["field", "locator", "syndromes", "places"]) fun _ _ _ _ _ _ us hl => match us, hl with | [_, _, _, _], _ => rfl)⟩,
    ⟨(fun_mk (st := s_Code_init) l_Code_init c_Code_init k_Code_init), ⟨mk_Code, a_Code_init, i_Code_init, kc_Code⟩, PySem.W.mg_of X G a_Code, ((fun_mk (st := s_Code_init) l_Code_init c_Code_init k_Code_init).binds (ps := ["self"]) fun _ _ _ _ _ _ us hl => match us, hl with | [_], _ => rfl)⟩,
    ⟨(fun_mk (st := s_Code_parity_of) l_Code_parity_of c_Code_parity_of k_Code_parity_of), ⟨a_Code_parity_of, i_Code_parity_of, k_Code_parity_of⟩, ((fun_mk (st := s_Code_parity_of) l_Code_parity_of c_Code_parity_of k_Code_parity_of).binds (ps := ["self", "row"]) fun _ _ _ _ _ _ us hl => match us, hl with | [_, _], _ => rfl)⟩,
    ⟨(fun_mk (st := s_Code_syndromes_of) l_Code_syndromes_of c_Code_syndromes_of k_Code_syndromes_of), ⟨a_Code_syndromes_of, i_Code_syndromes_of, k_Code_syndromes_of⟩, ((fun_mk (st := s_Code_syndromes_of) l_Code_syndromes_of c_Code_syndromes_of k_Code_syndromes_of).binds (ps := ["self", "row"]) fun _ _ _ _ _ _ us hl => match us, hl with | [_, _], _ => rfl)⟩,
    ⟨(fun_mk (st := s_Code_mend_row) l_Code_mend_row c_Code_mend_row k_Code_mend_row), ⟨a_Code_mend_row, i_Code_mend_row, k_Code_mend_row⟩, ((fun_mk (st := s_Code_mend_row) l_Code_mend_row c_Code_mend_row k_Code_mend_row).binds (ps := ["self", "row"]) fun _ _ _ _ _ _ us hl => match us, hl with | [_, _], _ => rfl)⟩,
    ⟨(fun_mk (st := s_crc_of) l_crc_of c_crc_of k_crc_of), PySem.W.mg_of X G a_crc_of, ((fun_mk (st := s_crc_of) l_crc_of c_crc_of k_crc_of).binds (ps := ["octets"]) fun _ _ _ _ _ _ us hl => match us, hl with | [_], _ => rfl)⟩,
    ⟨(fun_mk (st := s_Packet_init) l_Packet_init c_Packet_init k_Packet_init), ⟨mk_Packet, a_Packet_init, i_Packet_init, kc_Packet⟩, PySem.W.mg_of X G a_Packet, ((fun_mk (st := s_Packet_init) l_Packet_init c_Packet_init k_Packet_init).binds (ps := ["self", "name", "kind", "number", "wanted", "room", "octets"]) fun _ _ _ _ _ _ us hl => match us, hl with | [_, _, _, _, _, _, _], _ => rfl)⟩,
    ⟨(fun_mk (st := s_lowest_first) l_lowest_first c_lowest_first k_lowest_first), PySem.W.mg_of X G a_lowest_first, ((fun_mk (st := s_lowest_first) l_lowest_first c_lowest_first k_lowest_first).binds (ps := ["value", "size"]) fun _ _ _ _ _ _ us hl => match us, hl with | [_, _], _ => rfl)⟩,
    ⟨(fun_mk (st := s_value_of) l_value_of c_value_of k_value_of), PySem.W.mg_of X G a_value_of, ((fun_mk (st := s_value_of) l_value_of c_value_of k_value_of).binds (ps := ["octets"]) fun _ _ _ _ _ _ us hl => match us, hl with | [_], _ => rfl)⟩,
    ⟨(fun_mk (st := s_row_of) l_row_of c_row_of k_row_of), PySem.W.mg_of X G a_row_of, ((fun_mk (st := s_row_of) l_row_of c_row_of k_row_of).binds (ps := ["code", "packet"]) fun _ _ _ _ _ _ us hl => match us, hl with | [_, _], _ => rfl)⟩,
    ⟨(fun_mk (st := s_parted) l_parted c_parted k_parted), PySem.W.mg_of X G a_parted, ((fun_mk (st := s_parted) l_parted c_parted k_parted).binds (ps := ["body"]) fun _ _ _ _ _ _ us hl => match us, hl with | [_], _ => rfl)⟩,
    ⟨(fun_mk (st := s_kind_fits) l_kind_fits c_kind_fits k_kind_fits), PySem.W.mg_of X G a_kind_fits, ((fun_mk (st := s_kind_fits) l_kind_fits c_kind_fits k_kind_fits).binds (ps := ["packet"]) fun _ _ _ _ _ _ us hl => match us, hl with | [_], _ => rfl)⟩,
    ⟨(fun_mk (st := s_packet_of) l_packet_of c_packet_of k_packet_of), PySem.W.mg_of X G a_packet_of, ((fun_mk (st := s_packet_of) l_packet_of c_packet_of k_packet_of).binds (ps := ["code", "row"]) fun _ _ _ _ _ _ us hl => match us, hl with | [_, _], _ => rfl)⟩,
    ⟨(fun_mk (st := s_Receiving_init) l_Receiving_init c_Receiving_init k_Receiving_init), ⟨mk_Receiving, a_Receiving_init, i_Receiving_init, kc_Receiving⟩, PySem.W.mg_of X G a_Receiving, ((fun_mk (st := s_Receiving_init) l_Receiving_init c_Receiving_init k_Receiving_init).binds (ps := ["self"]) fun _ _ _ _ _ _ us hl => match us, hl with | [_], _ => rfl)⟩,
    ⟨(fun_mk (st := s_Receiving_room_left) l_Receiving_room_left c_Receiving_room_left k_Receiving_room_left), ⟨a_Receiving_room_left, i_Receiving_room_left, k_Receiving_room_left⟩, ((fun_mk (st := s_Receiving_room_left) l_Receiving_room_left c_Receiving_room_left k_Receiving_room_left).binds (ps := ["self"]) fun _ _ _ _ _ _ us hl => match us, hl with | [_], _ => rfl)⟩,
    ⟨(fun_mk (st := s_Receiving_accept) l_Receiving_accept c_Receiving_accept k_Receiving_accept), ⟨a_Receiving_accept, i_Receiving_accept, k_Receiving_accept⟩, ((fun_mk (st := s_Receiving_accept) l_Receiving_accept c_Receiving_accept k_Receiving_accept).binds (ps := ["self", "packet"]) fun _ _ _ _ _ _ us hl => match us, hl with | [_, _], _ => rfl)⟩,
    ⟨(fun_mk (st := s_Receiving_keep) l_Receiving_keep c_Receiving_keep k_Receiving_keep), ⟨a_Receiving_keep, i_Receiving_keep, k_Receiving_keep⟩, ((fun_mk (st := s_Receiving_keep) l_Receiving_keep c_Receiving_keep k_Receiving_keep).binds (ps := ["self", "packet"]) fun _ _ _ _ _ _ us hl => match us, hl with | [_, _], _ => rfl)⟩,
    ⟨(fun_mk (st := s_Receiving_note_end) l_Receiving_note_end c_Receiving_note_end k_Receiving_note_end), ⟨a_Receiving_note_end, i_Receiving_note_end, k_Receiving_note_end⟩, ((fun_mk (st := s_Receiving_note_end) l_Receiving_note_end c_Receiving_note_end k_Receiving_note_end).binds (ps := ["self", "number"]) fun _ _ _ _ _ _ us hl => match us, hl with | [_, _], _ => rfl)⟩,
    ⟨(fun_mk (st := s_Receiving_bring_to_turn) l_Receiving_bring_to_turn c_Receiving_bring_to_turn k_Receiving_bring_to_turn), ⟨a_Receiving_bring_to_turn, i_Receiving_bring_to_turn, k_Receiving_bring_to_turn⟩, ((fun_mk (st := s_Receiving_bring_to_turn) l_Receiving_bring_to_turn c_Receiving_bring_to_turn k_Receiving_bring_to_turn).binds (ps := ["self"]) fun _ _ _ _ _ _ us hl => match us, hl with | [_], _ => rfl)⟩,
    ⟨(fun_mk (st := s_Receiving_take) l_Receiving_take c_Receiving_take k_Receiving_take), ⟨a_Receiving_take, i_Receiving_take, k_Receiving_take⟩, ((fun_mk (st := s_Receiving_take) l_Receiving_take c_Receiving_take k_Receiving_take).binds (ps := ["self", "most"]) fun _ _ _ _ _ _ us hl => match us, hl with | [_, _], _ => rfl)⟩,
    ⟨(fun_mk (st := s_Receiving_is_short) l_Receiving_is_short c_Receiving_is_short k_Receiving_is_short), ⟨a_Receiving_is_short, i_Receiving_is_short, k_Receiving_is_short⟩, ((fun_mk (st := s_Receiving_is_short) l_Receiving_is_short c_Receiving_is_short k_Receiving_is_short).binds (ps := ["self"]) fun _ _ _ _ _ _ us hl => match us, hl with | [_], _ => rfl)⟩,
    ⟨(fun_mk (st := s_Piece_init) l_Piece_init c_Piece_init k_Piece_init), ⟨mk_Piece, a_Piece_init, i_Piece_init, kc_Piece⟩, PySem.W.mg_of X G a_Piece, ((fun_mk (st := s_Piece_init) l_Piece_init c_Piece_init k_Piece_init).binds (ps := ["self", "kind", "number", "size", "due"]) fun _ _ _ _ _ _ us hl => match us, hl with | [_, _, _, _, _], _ => rfl)⟩,
    ⟨(fun_mk (st := s_wait_after) l_wait_after c_wait_after k_wait_after), PySem.W.mg_of X G a_wait_after, ((fun_mk (st := s_wait_after) l_wait_after c_wait_after k_wait_after).binds (ps := ["times_sent"]) fun _ _ _ _ _ _ us hl => match us, hl with | [_], _ => rfl)⟩,
    ⟨(fun_mk (st := s_Part_init) l_Part_init c_Part_init k_Part_init), ⟨mk_Part, a_Part_init, i_Part_init, kc_Part⟩, PySem.W.mg_of X G a_Part, ((fun_mk (st := s_Part_init) l_Part_init c_Part_init k_Part_init).binds (ps := ["self", "kind", "number", "octets"]) fun _ _ _ _ _ _ us hl => match us, hl with | [_, _, _, _], _ => rfl)⟩,
    ⟨(fun_mk (st := s_Sending_init) l_Sending_init c_Sending_init k_Sending_init), ⟨mk_Sending, a_Sending_init, i_Sending_init, kc_Sending⟩, PySem.W.mg_of X G a_Sending, ((fun_mk (st := s_Sending_init) l_Sending_init c_Sending_init k_Sending_init).binds (ps := ["self"]) fun _ _ _ _ _ _ us hl => match us, hl with | [_], _ => rfl)⟩,
    ⟨(fun_mk (st := s_Sending_put) l_Sending_put c_Sending_put k_Sending_put), ⟨a_Sending_put, i_Sending_put, k_Sending_put⟩, ((fun_mk (st := s_Sending_put) l_Sending_put c_Sending_put k_Sending_put).binds (ps := ["self", "octets"]) fun _ _ _ _ _ _ us hl => match us, hl with | [_, _], _ => rfl)⟩,
    ⟨(fun_mk (st := s_Sending_finish) l_Sending_finish c_Sending_finish k_Sending_finish), ⟨a_Sending_finish, i_Sending_finish, k_Sending_finish⟩, ((fun_mk (st := s_Sending_finish) l_Sending_finish c_Sending_finish k_Sending_finish).binds (ps := ["self"]) fun _ _ _ _ _ _ us hl => match us, hl with | [_], _ => rfl)⟩,
    ⟨(fun_mk (st := s_Sending_bytes_unsent) l_Sending_bytes_unsent c_Sending_bytes_unsent k_Sending_bytes_unsent), ⟨a_Sending_bytes_unsent, i_Sending_bytes_unsent, k_Sending_bytes_unsent⟩, ((fun_mk (st := s_Sending_bytes_unsent) l_Sending_bytes_unsent c_Sending_bytes_unsent k_Sending_bytes_unsent).binds (ps := ["self"]) fun _ _ _ _ _ _ us hl => match us, hl with | [_], _ => rfl)⟩,
    ⟨(fun_mk (st := s_Sending_parts_at) l_Sending_parts_at c_Sending_parts_at k_Sending_parts_at), ⟨a_Sending_parts_at, i_Sending_parts_at, k_Sending_parts_at⟩, ((fun_mk (st := s_Sending_parts_at) l_Sending_parts_at c_Sending_parts_at k_Sending_parts_at).binds (ps := ["self", "time"]) fun _ _ _ _ _ _ us hl => match us, hl with | [_, _], _ => rfl)⟩,
    ⟨(fun_mk (st := s_Sending_answer_part) l_Sending_answer_part c_Sending_answer_part k_Sending_answer_part), ⟨a_Sending_answer_part, i_Sending_answer_part, k_Sending_answer_part⟩, ((fun_mk (st := s_Sending_answer_part) l_Sending_answer_part c_Sending_answer_part k_Sending_answer_part).binds (ps := ["self"]) fun _ _ _ _ _ _ us hl => match us, hl with | [_], _ => rfl)⟩,
    ⟨(fun_mk (st := s_Sending_parts_again) l_Sending_parts_again c_Sending_parts_again k_Sending_parts_again), ⟨a_Sending_parts_again, i_Sending_parts_again, k_Sending_parts_again⟩, ((fun_mk (st := s_Sending_parts_again) l_Sending_parts_again c_Sending_parts_again k_Sending_parts_again).binds (ps := ["self", "time"]) fun _ _ _ _ _ _ us hl => match us, hl with | [_, _], _ => rfl)⟩,
    ⟨(fun_mk (st := s_Sending_part_of) l_Sending_part_of c_Sending_part_of k_Sending_part_of), ⟨a_Sending_part_of, i_Sending_part_of, k_Sending_part_of⟩, ((fun_mk (st := s_Sending_part_of) l_Sending_part_of c_Sending_part_of k_Sending_part_of).binds (ps := ["self", "piece"]) fun _ _ _ _ _ _ us hl => match us, hl with | [_, _], _ => rfl)⟩,
    ⟨(fun_mk (st := s_Sending_new_parts) l_Sending_new_parts c_Sending_new_parts k_Sending_new_parts), ⟨a_Sending_new_parts, i_Sending_new_parts, k_Sending_new_parts⟩, ((fun_mk (st := s_Sending_new_parts) l_Sending_new_parts c_Sending_new_parts k_Sending_new_parts).binds (ps := ["self", "time"]) fun _ _ _ _ _ _ us hl => match us, hl with | [_, _], _ => rfl)⟩,
    ⟨(fun_mk (st := s_Sending_new_piece) l_Sending_new_piece c_Sending_new_piece k_Sending_new_piece), ⟨a_Sending_new_piece, i_Sending_new_piece, k_Sending_new_piece⟩, ((fun_mk (st := s_Sending_new_piece) l_Sending_new_piece c_Sending_new_piece k_Sending_new_piece).binds (ps := ["self", "due"]) fun _ _ _ _ _ _ us hl => match us, hl with | [_, _], _ => rfl)⟩,
    ⟨(fun_mk (st := s_Sending_answered) l_Sending_answered c_Sending_answered k_Sending_answered), ⟨a_Sending_answered, i_Sending_answered, k_Sending_answered⟩, ((fun_mk (st := s_Sending_answered) l_Sending_answered c_Sending_answered k_Sending_answered).binds (ps := ["self", "wanted", "room"]) fun _ _ _ _ _ _ us hl => match us, hl with | [_, _, _], _ => rfl)⟩,
    ⟨(fun_mk (st := s_LinkEnd_init) l_LinkEnd_init c_LinkEnd_init k_LinkEnd_init), ⟨mk_LinkEnd, a_LinkEnd_init, i_LinkEnd_init, kc_LinkEnd⟩, PySem.W.mg_of X G a_LinkEnd, ((fun_mk (st := s_LinkEnd_init) l_LinkEnd_init c_LinkEnd_init k_LinkEnd_init).binds (ps := ["self", "code", "name"]) fun _ _ _ _ _ _ us hl => match us, hl with | [_, _, _], _ => rfl)⟩,
    ⟨(fun_mk (st := s_LinkEnd_put) l_LinkEnd_put c_LinkEnd_put k_LinkEnd_put), ⟨a_LinkEnd_put, i_LinkEnd_put, k_LinkEnd_put⟩, ((fun_mk (st := s_LinkEnd_put) l_LinkEnd_put c_LinkEnd_put k_LinkEnd_put).binds (ps := ["self", "octets"]) fun _ _ _ _ _ _ us hl => match us, hl with | [_, _], _ => rfl)⟩,
    ⟨(fun_mk (st := s_LinkEnd_finish) l_LinkEnd_finish c_LinkEnd_finish k_LinkEnd_finish), ⟨a_LinkEnd_finish, i_LinkEnd_finish, k_LinkEnd_finish⟩, ((fun_mk (st := s_LinkEnd_finish) l_LinkEnd_finish c_LinkEnd_finish k_LinkEnd_finish).binds (ps := ["self"]) fun _ _ _ _ _ _ us hl => match us, hl with | [_], _ => rfl)⟩,
    ⟨(fun_mk (st := s_LinkEnd_tick) l_LinkEnd_tick c_LinkEnd_tick k_LinkEnd_tick), ⟨a_LinkEnd_tick, i_LinkEnd_tick, k_LinkEnd_tick⟩, ((fun_mk (st := s_LinkEnd_tick) l_LinkEnd_tick c_LinkEnd_tick k_LinkEnd_tick).binds (ps := ["self"]) fun _ _ _ _ _ _ us hl => match us, hl with | [_], _ => rfl)⟩,
    ⟨(fun_mk (st := s_LinkEnd_sent_as) l_LinkEnd_sent_as c_LinkEnd_sent_as k_LinkEnd_sent_as), ⟨a_LinkEnd_sent_as, i_LinkEnd_sent_as, k_LinkEnd_sent_as⟩, ((fun_mk (st := s_LinkEnd_sent_as) l_LinkEnd_sent_as c_LinkEnd_sent_as k_LinkEnd_sent_as).binds (ps := ["self", "part"]) fun _ _ _ _ _ _ us hl => match us, hl with | [_, _], _ => rfl)⟩,
    ⟨(fun_mk (st := s_LinkEnd_came) l_LinkEnd_came c_LinkEnd_came k_LinkEnd_came), ⟨a_LinkEnd_came, i_LinkEnd_came, k_LinkEnd_came⟩, ((fun_mk (st := s_LinkEnd_came) l_LinkEnd_came c_LinkEnd_came k_LinkEnd_came).binds (ps := ["self", "octets"]) fun _ _ _ _ _ _ us hl => match us, hl with | [_, _], _ => rfl)⟩,
    ⟨(fun_mk (st := s_LinkEnd_accept_packet) l_LinkEnd_accept_packet c_LinkEnd_accept_packet k_LinkEnd_accept_packet), ⟨a_LinkEnd_accept_packet, i_LinkEnd_accept_packet, k_LinkEnd_accept_packet⟩, ((fun_mk (st := s_LinkEnd_accept_packet) l_LinkEnd_accept_packet c_LinkEnd_accept_packet k_LinkEnd_accept_packet).binds (ps := ["self", "packet"]) fun _ _ _ _ _ _ us hl => match us, hl with | [_, _], _ => rfl)⟩,
    ⟨(fun_mk (st := s_LinkEnd_take) l_LinkEnd_take c_LinkEnd_take k_LinkEnd_take), ⟨a_LinkEnd_take, i_LinkEnd_take, k_LinkEnd_take⟩, ((fun_mk (st := s_LinkEnd_take) l_LinkEnd_take c_LinkEnd_take k_LinkEnd_take).binds (ps := ["self", "most"]) fun _ _ _ _ _ _ us hl => match us, hl with | [_, _], _ => rfl)⟩,
    ⟨(fun_mk (st := s_LinkEnd_tell) l_LinkEnd_tell c_LinkEnd_tell k_LinkEnd_tell), ⟨a_LinkEnd_tell, i_LinkEnd_tell, k_LinkEnd_tell⟩, ((fun_mk (st := s_LinkEnd_tell) l_LinkEnd_tell c_LinkEnd_tell k_LinkEnd_tell).binds (ps := ["self"]) fun _ _ _ _ _ _ us hl => match us, hl with | [_], _ => rfl)⟩,
    ⟨(fun_mk (st := s_Link_init) l_Link_init c_Link_init k_Link_init), ⟨mk_Link, a_Link_init, i_Link_init, kc_Link⟩, PySem.W.mg_of X G a_Link, ((fun_mk (st := s_Link_init) l_Link_init c_Link_init k_Link_init).binds (ps := ["self"]) fun _ _ _ _ _ _ us hl => match us, hl with | [_], _ => rfl)⟩,
    ⟨(fun_mk (st := s_Link_begin) l_Link_begin c_Link_begin k_Link_begin), ⟨a_Link_begin, i_Link_begin, k_Link_begin⟩, ((fun_mk (st := s_Link_begin) l_Link_begin c_Link_begin k_Link_begin).binds (ps := ["self", "which", "name"]) fun _ _ _ _ _ _ us hl => match us, hl with | [_, _, _], _ => rfl)⟩,
    ⟨(fun_mk (st := s_Link_answer_to) l_Link_answer_to c_Link_answer_to k_Link_answer_to), ⟨a_Link_answer_to, i_Link_answer_to, k_Link_answer_to⟩, ((fun_mk (st := s_Link_answer_to) l_Link_answer_to c_Link_answer_to k_Link_answer_to).binds (ps := ["self", "call"]) fun _ _ _ _ _ _ us hl => match us, hl with | [_, _], _ => rfl)⟩,
    ⟨(fun_mk (st := s_size_of) l_size_of c_size_of k_size_of), PySem.W.mg_of X G a_size_of, ((fun_mk (st := s_size_of) l_size_of c_size_of k_size_of).binds (ps := ["calls", "at"]) fun _ _ _ _ _ _ us hl => match us, hl with | [_, _], _ => rfl)⟩,
    ⟨(fun_mk (st := s_answers) l_answers c_answers k_answers), PySem.W.mg_of X G a_answers, ((fun_mk (st := s_answers) l_answers c_answers k_answers).binds (ps := ["calls"]) fun _ _ _ _ _ _ us hl => match us, hl with | [_], _ => rfl)⟩,
    PySem.W.mg_of X G g_MODULUS,
    PySem.W.mg_of X G g_ORDER,
    PySem.W.mg_of X G g_LONGEST_ROW,
    PySem.W.mg_of X G g_PARITY,
    PySem.W.mg_of X G g_PLACES,
    PySem.W.mg_of X G g_ONES,
    PySem.W.mg_of X G g_FEEDBACK,
    PySem.W.mg_of X G g_ANSWER,
    PySem.W.mg_of X G g_BYTES,
    PySem.W.mg_of X G g_END,
    PySem.W.mg_of X G g_QUESTION,
    PySem.W.mg_of X G g_NAMES,
    PySem.W.mg_of X G g_PIECE,
    PySem.W.mg_of X G g_HEAD,
    PySem.W.mg_of X G g_SUM,
    PySem.W.mg_of X G g_SHORTEST,
    PySem.W.mg_of X G g_LONGEST,
    PySem.W.mg_of X G g_ROOM,
    PySem.W.mg_of X G g_TURNS,
    PySem.W.mg_of X G g_UNANSWERED,
    PySem.W.mg_of X G g_ON_THEIR_WAY,
    PySem.W.mg_of X G g_FIRST_LIMIT,
    PySem.W.mg_of X G g_FIRST_WAIT,
    PySem.W.mg_of X G g_LONGEST_WAIT,
    PySem.W.mg_of X G g_ASK_WAIT,
    PySem.W.mg_of X G g_BEGIN,
    PySem.W.mg_of X G g_PUT,
    PySem.W.mg_of X G g_FINISH,
    PySem.W.mg_of X G g_TICK,
    PySem.W.mg_of X G g_CAME,
    PySem.W.mg_of X G g_TAKE,
    PySem.W.mg_none_of X G b_len,
    PySem.W.mg_none_of X G b_list,
    PySem.W.mg_none_of X G b_max,
    PySem.W.mg_none_of X G b_min,
    PySem.W.mg_none_of X G b_range,
    PySem.W.mg_none_of X G b_reversed,
    PySem.W.mg_none_of X G b_zip⟩
  exact ⟨(PySem.W.fnOf "answers" "answers" (defArgs s_answers) (defBody s_answers) (defScope s_answers) .none kV_answers dc_answers pm_answers an_answers cd_answers ct_answers), fun s us hu => match us, hu with | [_], _ => .of_eq rfl, fun base _ _ => all_ok T⟩
end Sl
/-! ## F2 -/
set_option Elab.async false
open PySem PySem.W PyProof.Rows
set_option maxRecDepth 100000 in
set_option maxHeartbeats 0 in
theorem PySem.Challenge.cw_sureline_s01_answers_holds : PySem.Challenge.rw_sureline_s01_answers.Holds := by
  w_on; k_headS; (case hw => exact ⟨[.list []], by decide +kernel, by decide +kernel⟩)
  k_fillS
  refine L2.walk_specK (r := PySem.Challenge.rw_sureline_s01_answers) (k := 9) (CX := L2.CX0) (ps := ["calls"]) (sp := Sl.spEnd) (by decide +kernel) rfl rfl ⟨rfl, by decide, by decide⟩ (fun w h Y => PySem.W.kIn_of Y) ?F ?S (fun _ _ _ _ z => z)
  case F =>
    intro w mg fa h Y KX G hmg
    refine' Sl.all_mk KX G hmg ?a_Field ?pg_Field ?hd_Field ?po_Field ?sa_Field ?mk_Field ?kc_Field ?n_Field_powers ?n_Field_logs ?a_Code ?pg_Code ?hd_Code ?po_Code ?sa_Code ?mk_Code ?kc_Code ?n_Code_field ?n_Code_divisor ?a_Packet ?pg_Packet ?hd_Packet ?po_Packet ?sa_Packet ?mk_Packet ?kc_Packet ?n_Packet_name ?n_Packet_kind ?n_Packet_number ?n_Packet_wanted ?n_Packet_room ?n_Packet_octets ?a_Receiving ?pg_Receiving ?hd_Receiving ?po_Receiving ?sa_Receiving ?mk_Receiving ?kc_Receiving ?n_Receiving_wanted ?n_Receiving_kept ?n_Receiving_ready ?n_Receiving_end_number ?n_Receiving_complete ?a_Piece ?pg_Piece ?hd_Piece ?po_Piece ?sa_Piece ?mk_Piece ?kc_Piece ?n_Piece_kind ?n_Piece_number ?n_Piece_size ?n_Piece_due ?n_Piece_times_sent ?a_Part ?pg_Part ?hd_Part ?po_Part ?sa_Part ?mk_Part ?kc_Part ?n_Part_kind ?n_Part_number ?n_Part_octets ?a_Sending ?pg_Sending ?hd_Sending ?po_Sending ?sa_Sending ?mk_Sending ?kc_Sending ?n_Sending_first ?n_Sending_octets ?n_Sending_unsent ?n_Sending_pieces ?n_Sending_limit ?n_Sending_told ?n_Sending_end_sent ?n_Sending_ask_time ?a_LinkEnd ?pg_LinkEnd ?hd_LinkEnd ?po_LinkEnd ?sa_LinkEnd ?mk_LinkEnd ?kc_LinkEnd ?n_LinkEnd_code ?n_LinkEnd_name ?n_LinkEnd_time ?n_LinkEnd_sending ?n_LinkEnd_receiving ?n_LinkEnd_owes ?n_LinkEnd_dropped ?n_LinkEnd_mended ?a_Link ?pg_Link ?hd_Link ?po_Link ?sa_Link ?mk_Link ?kc_Link ?n_Link_code ?n_Link_ends ?a_doubled ?l_doubled ?c_doubled ?k_doubled ?a_product_of ?l_product_of ?c_product_of ?k_product_of ?a_Field_init ?i_Field_init ?l_Field_init ?c_Field_init ?k_Field_init ?a_Field_power ?i_Field_power ?l_Field_power ?c_Field_power ?k_Field_power ?a_Field_product ?i_Field_product ?l_Field_product ?c_Field_product ?k_Field_product ?a_Field_quotient ?i_Field_quotient ?l_Field_quotient ?c_Field_quotient ?k_Field_quotient ?a_Field_scaled ?i_Field_scaled ?l_Field_scaled ?c_Field_scaled ?k_Field_scaled ?a_Field_value_at ?i_Field_value_at ?l_Field_value_at ?c_Field_value_at ?k_Field_value_at ?a_added ?l_added ?c_added ?k_added ?a_padded ?l_padded ?c_padded ?k_padded ?a_divisor_of ?l_divisor_of ?c_divisor_of ?k_divisor_of ?a_lack_at ?l_lack_at ?c_lack_at ?k_lack_at ?a_locator_of ?l_locator_of ?c_locator_of ?k_locator_of ?a_places_of ?l_places_of ?c_places_of ?k_places_of ?a_errors_of ?l_errors_of ?c_errors_of ?k_errors_of ?a_Code_init ?i_Code_init ?l_Code_init ?c_Code_init ?k_Code_init ?a_Code_parity_of ?i_Code_parity_of ?l_Code_parity_of ?c_Code_parity_of ?k_Code_parity_of ?a_Code_syndromes_of ?i_Code_syndromes_of ?l_Code_syndromes_of ?c_Code_syndromes_of ?k_Code_syndromes_of ?a_Code_mend_row ?i_Code_mend_row ?l_Code_mend_row ?c_Code_mend_row ?k_Code_mend_row ?a_crc_of ?l_crc_of ?c_crc_of ?k_crc_of ?a_Packet_init ?i_Packet_init ?l_Packet_init ?c_Packet_init ?k_Packet_init ?a_lowest_first ?l_lowest_first ?c_lowest_first ?k_lowest_first ?a_value_of ?l_value_of ?c_value_of ?k_value_of ?a_row_of ?l_row_of ?c_row_of ?k_row_of ?a_parted ?l_parted ?c_parted ?k_parted ?a_kind_fits ?l_kind_fits ?c_kind_fits ?k_kind_fits ?a_packet_of ?l_packet_of ?c_packet_of ?k_packet_of ?a_Receiving_init ?i_Receiving_init ?l_Receiving_init ?c_Receiving_init ?k_Receiving_init ?a_Receiving_room_left ?i_Receiving_room_left ?l_Receiving_room_left ?c_Receiving_room_left ?k_Receiving_room_left ?a_Receiving_accept ?i_Receiving_accept ?l_Receiving_accept ?c_Receiving_accept ?k_Receiving_accept ?a_Receiving_keep ?i_Receiving_keep ?l_Receiving_keep ?c_Receiving_keep ?k_Receiving_keep ?a_Receiving_note_end ?i_Receiving_note_end ?l_Receiving_note_end ?c_Receiving_note_end ?k_Receiving_note_end ?a_Receiving_bring_to_turn ?i_Receiving_bring_to_turn ?l_Receiving_bring_to_turn ?c_Receiving_bring_to_turn ?k_Receiving_bring_to_turn ?a_Receiving_take ?i_Receiving_take ?l_Receiving_take ?c_Receiving_take ?k_Receiving_take ?a_Receiving_is_short ?i_Receiving_is_short ?l_Receiving_is_short ?c_Receiving_is_short ?k_Receiving_is_short ?a_Piece_init ?i_Piece_init ?l_Piece_init ?c_Piece_init ?k_Piece_init ?a_wait_after ?l_wait_after ?c_wait_after ?k_wait_after ?a_Part_init ?i_Part_init ?l_Part_init ?c_Part_init ?k_Part_init ?a_Sending_init ?i_Sending_init ?l_Sending_init ?c_Sending_init ?k_Sending_init ?a_Sending_put ?i_Sending_put ?l_Sending_put ?c_Sending_put ?k_Sending_put ?a_Sending_finish ?i_Sending_finish ?l_Sending_finish ?c_Sending_finish ?k_Sending_finish ?a_Sending_bytes_unsent ?i_Sending_bytes_unsent ?l_Sending_bytes_unsent ?c_Sending_bytes_unsent ?k_Sending_bytes_unsent ?a_Sending_parts_at ?i_Sending_parts_at ?l_Sending_parts_at ?c_Sending_parts_at ?k_Sending_parts_at ?a_Sending_answer_part ?i_Sending_answer_part ?l_Sending_answer_part ?c_Sending_answer_part ?k_Sending_answer_part ?a_Sending_parts_again ?i_Sending_parts_again ?l_Sending_parts_again ?c_Sending_parts_again ?k_Sending_parts_again ?a_Sending_part_of ?i_Sending_part_of ?l_Sending_part_of ?c_Sending_part_of ?k_Sending_part_of ?a_Sending_new_parts ?i_Sending_new_parts ?l_Sending_new_parts ?c_Sending_new_parts ?k_Sending_new_parts ?a_Sending_new_piece ?i_Sending_new_piece ?l_Sending_new_piece ?c_Sending_new_piece ?k_Sending_new_piece ?a_Sending_answered ?i_Sending_answered ?l_Sending_answered ?c_Sending_answered ?k_Sending_answered ?a_LinkEnd_init ?i_LinkEnd_init ?l_LinkEnd_init ?c_LinkEnd_init ?k_LinkEnd_init ?a_LinkEnd_put ?i_LinkEnd_put ?l_LinkEnd_put ?c_LinkEnd_put ?k_LinkEnd_put ?a_LinkEnd_finish ?i_LinkEnd_finish ?l_LinkEnd_finish ?c_LinkEnd_finish ?k_LinkEnd_finish ?a_LinkEnd_tick ?i_LinkEnd_tick ?l_LinkEnd_tick ?c_LinkEnd_tick ?k_LinkEnd_tick ?a_LinkEnd_sent_as ?i_LinkEnd_sent_as ?l_LinkEnd_sent_as ?c_LinkEnd_sent_as ?k_LinkEnd_sent_as ?a_LinkEnd_came ?i_LinkEnd_came ?l_LinkEnd_came ?c_LinkEnd_came ?k_LinkEnd_came ?a_LinkEnd_accept_packet ?i_LinkEnd_accept_packet ?l_LinkEnd_accept_packet ?c_LinkEnd_accept_packet ?k_LinkEnd_accept_packet ?a_LinkEnd_take ?i_LinkEnd_take ?l_LinkEnd_take ?c_LinkEnd_take ?k_LinkEnd_take ?a_LinkEnd_tell ?i_LinkEnd_tell ?l_LinkEnd_tell ?c_LinkEnd_tell ?k_LinkEnd_tell ?a_Link_init ?i_Link_init ?l_Link_init ?c_Link_init ?k_Link_init ?a_Link_begin ?i_Link_begin ?l_Link_begin ?c_Link_begin ?k_Link_begin ?a_Link_answer_to ?i_Link_answer_to ?l_Link_answer_to ?c_Link_answer_to ?k_Link_answer_to ?a_size_of ?l_size_of ?c_size_of ?k_size_of ?a_answers ?l_answers ?c_answers ?k_answers ?g_MODULUS ?g_ORDER ?g_LONGEST_ROW ?g_PARITY ?g_PLACES ?g_ONES ?g_FEEDBACK ?g_ANSWER ?g_BYTES ?g_END ?g_QUESTION ?g_NAMES ?g_PIECE ?g_HEAD ?g_SUM ?g_SHORTEST ?g_LONGEST ?g_ROOM ?g_TURNS ?g_UNANSWERED ?g_ON_THEIR_WAY ?g_FIRST_LIMIT ?g_FIRST_WAIT ?g_LONGEST_WAIT ?g_ASK_WAIT ?g_BEGIN ?g_PUT ?g_FINISH ?g_TICK ?g_CAME ?g_TAKE ?b_len ?b_list ?b_max ?b_min ?b_range ?b_reversed ?b_zip
    (case a_Field => k_is)
    (case pg_Field => k_is)
    (case hd_Field => k_is)
    (case po_Field => k_is)
    (case sa_Field => k_is)
    (case mk_Field => k_is)
    (case kc_Field => k_is)
    (case n_Field_powers => k_is)
    (case n_Field_logs => k_is)
    (case a_Code => k_is)
    (case pg_Code => k_is)
    (case hd_Code => k_is)
    (case po_Code => k_is)
    (case sa_Code => k_is)
    (case mk_Code => k_is)
    (case kc_Code => k_is)
    (case n_Code_field => k_is)
    (case n_Code_divisor => k_is)
    (case a_Packet => k_is)
    (case pg_Packet => k_is)
    (case hd_Packet => k_is)
    (case po_Packet => k_is)
    (case sa_Packet => k_is)
    (case mk_Packet => k_is)
    (case kc_Packet => k_is)
    (case n_Packet_name => k_is)
    (case n_Packet_kind => k_is)
    (case n_Packet_number => k_is)
    (case n_Packet_wanted => k_is)
    (case n_Packet_room => k_is)
    (case n_Packet_octets => k_is)
    (case a_Receiving => k_is)
    (case pg_Receiving => k_is)
    (case hd_Receiving => k_is)
    (case po_Receiving => k_is)
    (case sa_Receiving => k_is)
    (case mk_Receiving => k_is)
    (case kc_Receiving => k_is)
    (case n_Receiving_wanted => k_is)
    (case n_Receiving_kept => k_is)
    (case n_Receiving_ready => k_is)
    (case n_Receiving_end_number => k_is)
    (case n_Receiving_complete => k_is)
    (case a_Piece => k_is)
    (case pg_Piece => k_is)
    (case hd_Piece => k_is)
    (case po_Piece => k_is)
    (case sa_Piece => k_is)
    (case mk_Piece => k_is)
    (case kc_Piece => k_is)
    (case n_Piece_kind => k_is)
    (case n_Piece_number => k_is)
    (case n_Piece_size => k_is)
    (case n_Piece_due => k_is)
    (case n_Piece_times_sent => k_is)
    (case a_Part => k_is)
    (case pg_Part => k_is)
    (case hd_Part => k_is)
    (case po_Part => k_is)
    (case sa_Part => k_is)
    (case mk_Part => k_is)
    (case kc_Part => k_is)
    (case n_Part_kind => k_is)
    (case n_Part_number => k_is)
    (case n_Part_octets => k_is)
    (case a_Sending => k_is)
    (case pg_Sending => k_is)
    (case hd_Sending => k_is)
    (case po_Sending => k_is)
    (case sa_Sending => k_is)
    (case mk_Sending => k_is)
    (case kc_Sending => k_is)
    (case n_Sending_first => k_is)
    (case n_Sending_octets => k_is)
    (case n_Sending_unsent => k_is)
    (case n_Sending_pieces => k_is)
    (case n_Sending_limit => k_is)
    (case n_Sending_told => k_is)
    (case n_Sending_end_sent => k_is)
    (case n_Sending_ask_time => k_is)
    (case a_LinkEnd => k_is)
    (case pg_LinkEnd => k_is)
    (case hd_LinkEnd => k_is)
    (case po_LinkEnd => k_is)
    (case sa_LinkEnd => k_is)
    (case mk_LinkEnd => k_is)
    (case kc_LinkEnd => k_is)
    (case n_LinkEnd_code => k_is)
    (case n_LinkEnd_name => k_is)
    (case n_LinkEnd_time => k_is)
    (case n_LinkEnd_sending => k_is)
    (case n_LinkEnd_receiving => k_is)
    (case n_LinkEnd_owes => k_is)
    (case n_LinkEnd_dropped => k_is)
    (case n_LinkEnd_mended => k_is)
    (case a_Link => k_is)
    (case pg_Link => k_is)
    (case hd_Link => k_is)
    (case po_Link => k_is)
    (case sa_Link => k_is)
    (case mk_Link => k_is)
    (case kc_Link => k_is)
    (case n_Link_code => k_is)
    (case n_Link_ends => k_is)
    (case a_doubled => k_is)
    (case l_doubled => k_is)
    (case c_doubled => k_is)
    (case k_doubled => k_is)
    (case a_product_of => k_is)
    (case l_product_of => k_is)
    (case c_product_of => k_is)
    (case k_product_of => k_is)
    (case a_Field_init => k_is)
    (case i_Field_init => k_is)
    (case l_Field_init => k_is)
    (case c_Field_init => k_is)
    (case k_Field_init => k_is)
    (case a_Field_power => k_is)
    (case i_Field_power => k_is)
    (case l_Field_power => k_is)
    (case c_Field_power => k_is)
    (case k_Field_power => k_is)
    (case a_Field_product => k_is)
    (case i_Field_product => k_is)
    (case l_Field_product => k_is)
    (case c_Field_product => k_is)
    (case k_Field_product => k_is)
    (case a_Field_quotient => k_is)
    (case i_Field_quotient => k_is)
    (case l_Field_quotient => k_is)
    (case c_Field_quotient => k_is)
    (case k_Field_quotient => k_is)
    (case a_Field_scaled => k_is)
    (case i_Field_scaled => k_is)
    (case l_Field_scaled => k_is)
    (case c_Field_scaled => k_is)
    (case k_Field_scaled => k_is)
    (case a_Field_value_at => k_is)
    (case i_Field_value_at => k_is)
    (case l_Field_value_at => k_is)
    (case c_Field_value_at => k_is)
    (case k_Field_value_at => k_is)
    (case a_added => k_is)
    (case l_added => k_is)
    (case c_added => k_is)
    (case k_added => k_is)
    (case a_padded => k_is)
    (case l_padded => k_is)
    (case c_padded => k_is)
    (case k_padded => k_is)
    (case a_divisor_of => k_is)
    (case l_divisor_of => k_is)
    (case c_divisor_of => k_is)
    (case k_divisor_of => k_is)
    (case a_lack_at => k_is)
    (case l_lack_at => k_is)
    (case c_lack_at => k_is)
    (case k_lack_at => k_is)
    (case a_locator_of => k_is)
    (case l_locator_of => k_is)
    (case c_locator_of => k_is)
    (case k_locator_of => k_is)
    (case a_places_of => k_is)
    (case l_places_of => k_is)
    (case c_places_of => k_is)
    (case k_places_of => k_is)
    (case a_errors_of => k_is)
    (case l_errors_of => k_is)
    (case c_errors_of => k_is)
    (case k_errors_of => k_is)
    (case a_Code_init => k_is)
    (case i_Code_init => k_is)
    (case l_Code_init => k_is)
    (case c_Code_init => k_is)
    (case k_Code_init => k_is)
    (case a_Code_parity_of => k_is)
    (case i_Code_parity_of => k_is)
    (case l_Code_parity_of => k_is)
    (case c_Code_parity_of => k_is)
    (case k_Code_parity_of => k_is)
    (case a_Code_syndromes_of => k_is)
    (case i_Code_syndromes_of => k_is)
    (case l_Code_syndromes_of => k_is)
    (case c_Code_syndromes_of => k_is)
    (case k_Code_syndromes_of => k_is)
    (case a_Code_mend_row => k_is)
    (case i_Code_mend_row => k_is)
    (case l_Code_mend_row => k_is)
    (case c_Code_mend_row => k_is)
    (case k_Code_mend_row => k_is)
    (case a_crc_of => k_is)
    (case l_crc_of => k_is)
    (case c_crc_of => k_is)
    (case k_crc_of => k_is)
    (case a_Packet_init => k_is)
    (case i_Packet_init => k_is)
    (case l_Packet_init => k_is)
    (case c_Packet_init => k_is)
    (case k_Packet_init => k_is)
    (case a_lowest_first => k_is)
    (case l_lowest_first => k_is)
    (case c_lowest_first => k_is)
    (case k_lowest_first => k_is)
    (case a_value_of => k_is)
    (case l_value_of => k_is)
    (case c_value_of => k_is)
    (case k_value_of => k_is)
    (case a_row_of => k_is)
    (case l_row_of => k_is)
    (case c_row_of => k_is)
    (case k_row_of => k_is)
    (case a_parted => k_is)
    (case l_parted => k_is)
    (case c_parted => k_is)
    (case k_parted => k_is)
    (case a_kind_fits => k_is)
    (case l_kind_fits => k_is)
    (case c_kind_fits => k_is)
    (case k_kind_fits => k_is)
    (case a_packet_of => k_is)
    (case l_packet_of => k_is)
    (case c_packet_of => k_is)
    (case k_packet_of => k_is)
    (case a_Receiving_init => k_is)
    (case i_Receiving_init => k_is)
    (case l_Receiving_init => k_is)
    (case c_Receiving_init => k_is)
    (case k_Receiving_init => k_is)
    (case a_Receiving_room_left => k_is)
    (case i_Receiving_room_left => k_is)
    (case l_Receiving_room_left => k_is)
    (case c_Receiving_room_left => k_is)
    (case k_Receiving_room_left => k_is)
    (case a_Receiving_accept => k_is)
    (case i_Receiving_accept => k_is)
    (case l_Receiving_accept => k_is)
    (case c_Receiving_accept => k_is)
    (case k_Receiving_accept => k_is)
    (case a_Receiving_keep => k_is)
    (case i_Receiving_keep => k_is)
    (case l_Receiving_keep => k_is)
    (case c_Receiving_keep => k_is)
    (case k_Receiving_keep => k_is)
    (case a_Receiving_note_end => k_is)
    (case i_Receiving_note_end => k_is)
    (case l_Receiving_note_end => k_is)
    (case c_Receiving_note_end => k_is)
    (case k_Receiving_note_end => k_is)
    (case a_Receiving_bring_to_turn => k_is)
    (case i_Receiving_bring_to_turn => k_is)
    (case l_Receiving_bring_to_turn => k_is)
    (case c_Receiving_bring_to_turn => k_is)
    (case k_Receiving_bring_to_turn => k_is)
    (case a_Receiving_take => k_is)
    (case i_Receiving_take => k_is)
    (case l_Receiving_take => k_is)
    (case c_Receiving_take => k_is)
    (case k_Receiving_take => k_is)
    (case a_Receiving_is_short => k_is)
    (case i_Receiving_is_short => k_is)
    (case l_Receiving_is_short => k_is)
    (case c_Receiving_is_short => k_is)
    (case k_Receiving_is_short => k_is)
    (case a_Piece_init => k_is)
    (case i_Piece_init => k_is)
    (case l_Piece_init => k_is)
    (case c_Piece_init => k_is)
    (case k_Piece_init => k_is)
    (case a_wait_after => k_is)
    (case l_wait_after => k_is)
    (case c_wait_after => k_is)
    (case k_wait_after => k_is)
    (case a_Part_init => k_is)
    (case i_Part_init => k_is)
    (case l_Part_init => k_is)
    (case c_Part_init => k_is)
    (case k_Part_init => k_is)
    (case a_Sending_init => k_is)
    (case i_Sending_init => k_is)
    (case l_Sending_init => k_is)
    (case c_Sending_init => k_is)
    (case k_Sending_init => k_is)
    (case a_Sending_put => k_is)
    (case i_Sending_put => k_is)
    (case l_Sending_put => k_is)
    (case c_Sending_put => k_is)
    (case k_Sending_put => k_is)
    (case a_Sending_finish => k_is)
    (case i_Sending_finish => k_is)
    (case l_Sending_finish => k_is)
    (case c_Sending_finish => k_is)
    (case k_Sending_finish => k_is)
    (case a_Sending_bytes_unsent => k_is)
    (case i_Sending_bytes_unsent => k_is)
    (case l_Sending_bytes_unsent => k_is)
    (case c_Sending_bytes_unsent => k_is)
    (case k_Sending_bytes_unsent => k_is)
    (case a_Sending_parts_at => k_is)
    (case i_Sending_parts_at => k_is)
    (case l_Sending_parts_at => k_is)
    (case c_Sending_parts_at => k_is)
    (case k_Sending_parts_at => k_is)
    (case a_Sending_answer_part => k_is)
    (case i_Sending_answer_part => k_is)
    (case l_Sending_answer_part => k_is)
    (case c_Sending_answer_part => k_is)
    (case k_Sending_answer_part => k_is)
    (case a_Sending_parts_again => k_is)
    (case i_Sending_parts_again => k_is)
    (case l_Sending_parts_again => k_is)
    (case c_Sending_parts_again => k_is)
    (case k_Sending_parts_again => k_is)
    (case a_Sending_part_of => k_is)
    (case i_Sending_part_of => k_is)
    (case l_Sending_part_of => k_is)
    (case c_Sending_part_of => k_is)
    (case k_Sending_part_of => k_is)
    (case a_Sending_new_parts => k_is)
    (case i_Sending_new_parts => k_is)
    (case l_Sending_new_parts => k_is)
    (case c_Sending_new_parts => k_is)
    (case k_Sending_new_parts => k_is)
    (case a_Sending_new_piece => k_is)
    (case i_Sending_new_piece => k_is)
    (case l_Sending_new_piece => k_is)
    (case c_Sending_new_piece => k_is)
    (case k_Sending_new_piece => k_is)
    (case a_Sending_answered => k_is)
    (case i_Sending_answered => k_is)
    (case l_Sending_answered => k_is)
    (case c_Sending_answered => k_is)
    (case k_Sending_answered => k_is)
    (case a_LinkEnd_init => k_is)
    (case i_LinkEnd_init => k_is)
    (case l_LinkEnd_init => k_is)
    (case c_LinkEnd_init => k_is)
    (case k_LinkEnd_init => k_is)
    (case a_LinkEnd_put => k_is)
    (case i_LinkEnd_put => k_is)
    (case l_LinkEnd_put => k_is)
    (case c_LinkEnd_put => k_is)
    (case k_LinkEnd_put => k_is)
    (case a_LinkEnd_finish => k_is)
    (case i_LinkEnd_finish => k_is)
    (case l_LinkEnd_finish => k_is)
    (case c_LinkEnd_finish => k_is)
    (case k_LinkEnd_finish => k_is)
    (case a_LinkEnd_tick => k_is)
    (case i_LinkEnd_tick => k_is)
    (case l_LinkEnd_tick => k_is)
    (case c_LinkEnd_tick => k_is)
    (case k_LinkEnd_tick => k_is)
    (case a_LinkEnd_sent_as => k_is)
    (case i_LinkEnd_sent_as => k_is)
    (case l_LinkEnd_sent_as => k_is)
    (case c_LinkEnd_sent_as => k_is)
    (case k_LinkEnd_sent_as => k_is)
    (case a_LinkEnd_came => k_is)
    (case i_LinkEnd_came => k_is)
    (case l_LinkEnd_came => k_is)
    (case c_LinkEnd_came => k_is)
    (case k_LinkEnd_came => k_is)
    (case a_LinkEnd_accept_packet => k_is)
    (case i_LinkEnd_accept_packet => k_is)
    (case l_LinkEnd_accept_packet => k_is)
    (case c_LinkEnd_accept_packet => k_is)
    (case k_LinkEnd_accept_packet => k_is)
    (case a_LinkEnd_take => k_is)
    (case i_LinkEnd_take => k_is)
    (case l_LinkEnd_take => k_is)
    (case c_LinkEnd_take => k_is)
    (case k_LinkEnd_take => k_is)
    (case a_LinkEnd_tell => k_is)
    (case i_LinkEnd_tell => k_is)
    (case l_LinkEnd_tell => k_is)
    (case c_LinkEnd_tell => k_is)
    (case k_LinkEnd_tell => k_is)
    (case a_Link_init => k_is)
    (case i_Link_init => k_is)
    (case l_Link_init => k_is)
    (case c_Link_init => k_is)
    (case k_Link_init => k_is)
    (case a_Link_begin => k_is)
    (case i_Link_begin => k_is)
    (case l_Link_begin => k_is)
    (case c_Link_begin => k_is)
    (case k_Link_begin => k_is)
    (case a_Link_answer_to => k_is)
    (case i_Link_answer_to => k_is)
    (case l_Link_answer_to => k_is)
    (case c_Link_answer_to => k_is)
    (case k_Link_answer_to => k_is)
    (case a_size_of => k_is)
    (case l_size_of => k_is)
    (case c_size_of => k_is)
    (case k_size_of => k_is)
    (case a_answers => k_is)
    (case l_answers => k_is)
    (case c_answers => k_is)
    (case k_answers => k_is)
    (case g_MODULUS => k_is)
    (case g_ORDER => k_is)
    (case g_LONGEST_ROW => k_is)
    (case g_PARITY => k_is)
    (case g_PLACES => k_is)
    (case g_ONES => k_is)
    (case g_FEEDBACK => k_is)
    (case g_ANSWER => k_is)
    (case g_BYTES => k_is)
    (case g_END => k_is)
    (case g_QUESTION => k_is)
    (case g_NAMES => k_is)
    (case g_PIECE => k_is)
    (case g_HEAD => k_is)
    (case g_SUM => k_is)
    (case g_SHORTEST => k_is)
    (case g_LONGEST => k_is)
    (case g_ROOM => k_is)
    (case g_TURNS => k_is)
    (case g_UNANSWERED => k_is)
    (case g_ON_THEIR_WAY => k_is)
    (case g_FIRST_LIMIT => k_is)
    (case g_FIRST_WAIT => k_is)
    (case g_LONGEST_WAIT => k_is)
    (case g_ASK_WAIT => k_is)
    (case g_BEGIN => k_is)
    (case g_PUT => k_is)
    (case g_FINISH => k_is)
    (case g_TICK => k_is)
    (case g_CAME => k_is)
    (case g_TAKE => k_is)
    (case b_len => k_is)
    (case b_list => k_is)
    (case b_max => k_is)
    (case b_min => k_is)
    (case b_range => k_is)
    (case b_reversed => k_is)
    (case b_zip => k_is)
  case S => exact Sl.end_ok
