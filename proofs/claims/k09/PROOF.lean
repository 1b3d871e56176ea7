import PyProof.Rows.All
import Wide.All
import OpenK.AllK
import Wide.FinOn
import KE.KStateDown
import HandS.ForMost
import HandS.ForExc
import HandS.Defaults
import HandS.Deep
import HandS.DictComp
import HandS.SortKw
import HandS.SortInts
import HandS.TupLe
import HandS.IsInst
import HandS.More
import HandS.Sort
import HandS.Strs
import HandS.Set
import HandS.SetFor
import HandS.Style
import HandS.Flow
import HandS.Walk
import HandS.Codes
import HandS.ExcIs
import HandS.Head0
import HandS.Head1
import HandS.Head2
import HandS.HeadEnd
import HandS.HeadHook1
import HandS.HeadHook2
import HandS.HeadHook3
import HandS.HeadHook4
import HandS.Conv
import HandS.HotCalls
import HandS.Zip
import HandS.SetKeys
import PySem.Challenge.RW_folklist_k09_whole_messages
set_option Elab.async false
set_option linter.all false
set_option maxRecDepth 100000
set_option maxHeartbeats 4000000
/-! ### the text, its names -/
namespace Fo
open PySem PySem.Spec PyProof.Rows L2
def topS (i : Nat) : Stmt := PySem.Challenge.pw_folklist_k09_whole_messages.main.body.getD i (.Pass ⟨0, 0, 0, 0⟩)
abbrev s__wall : Stmt := topS 0
abbrev s_Letter_init : Stmt := inClass (topS 11) 0
abbrev s_Offer_init : Stmt := inClass (topS 14) 0
abbrev s_Seat_init : Stmt := inClass (topS 15) 0
abbrev s_Seat_leader : Stmt := inClass (topS 15) 1
abbrev s_Seat_answered : Stmt := inClass (topS 15) 2
abbrev s_Hand_init : Stmt := inClass (topS 16) 0
abbrev s_Hand_sit : Stmt := inClass (topS 16) 1
abbrev s_Hand_go_on : Stmt := inClass (topS 16) 2
abbrev s_Hand_send : Stmt := inClass (topS 16) 3
abbrev s_Hand_send_each : Stmt := inClass (topS 16) 4
abbrev s_Hand_send_others : Stmt := inClass (topS 16) 5
abbrev s_is_whole : Stmt := topS 18
abbrev s_is_hand : Stmt := topS 19
abbrev s_enough : Stmt := topS 20
abbrev s_is_list : Stmt := topS 21
abbrev s_longest : Stmt := topS 22
abbrev s_send_wish : Stmt := topS 24
abbrev s_send_again : Stmt := topS 25
abbrev s_wish_came : Stmt := topS 26
abbrev s_hold_came : Stmt := topS 27
abbrev s_have_came : Stmt := topS 28
abbrev s_take_came : Stmt := topS 29
abbrev s_take_what_enough_hold : Stmt := topS 30
abbrev s_send_prepare : Stmt := topS 32
abbrev s_send_news : Stmt := topS 33
abbrev s_prepare_came : Stmt := topS 34
abbrev s_promise_came : Stmt := topS 35
abbrev s_accept_came : Stmt := topS 36
abbrev s_agree_came : Stmt := topS 37
abbrev s_enter_came : Stmt := topS 38
abbrev s_is_last_offer : Stmt := topS 39
abbrev s_what_to_put_forward : Stmt := topS 40
abbrev s_Folk_init : Stmt := inClass (topS 43) 0
abbrev s_Folk_say : Stmt := inClass (topS 43) 1
abbrev s_Folk_press : Stmt := inClass (topS 43) 2
abbrev s_Folk_propose : Stmt := inClass (topS 43) 3
abbrev s_Folk_show : Stmt := inClass (topS 43) 4
abbrev s_Folk_fall : Stmt := inClass (topS 43) 5
abbrev s_Folk_come : Stmt := inClass (topS 43) 6
abbrev s_Folk_lose : Stmt := inClass (topS 43) 7
abbrev s_Folk_double : Stmt := inClass (topS 43) 8
abbrev s_Folk_calm : Stmt := inClass (topS 43) 9
abbrev s_Folk_letters : Stmt := inClass (topS 43) 10
abbrev s_Folk_stands : Stmt := inClass (topS 43) 11
abbrev s_Folk_list_of : Stmt := inClass (topS 43) 12
abbrev s_Folk_taken : Stmt := inClass (topS 43) 13
abbrev s_Folk_is_still : Stmt := inClass (topS 43) 14
abbrev s_Folk_witness : Stmt := inClass (topS 43) 15
abbrev s_Folk_past : Stmt := inClass (topS 43) 16
abbrev s_Folk_who : Stmt := inClass (topS 43) 17
abbrev s_Folk_who_acts : Stmt := inClass (topS 43) 18
abbrev s_Folk_seat_of : Stmt := inClass (topS 43) 19
abbrev s_Folk_check_place : Stmt := inClass (topS 43) 20
abbrev s_hand_over : Stmt := topS 44
abbrev s_read_letter : Stmt := topS 45
abbrev s__law_draw : Stmt := topS 47
abbrev s__law_hands : Stmt := topS 48
abbrev s__law_word : Stmt := topS 49
abbrev s__law_tried : Stmt := topS 50
abbrev s__law_list : Stmt := topS 51
abbrev s__law_some_come : Stmt := topS 52
abbrev s__law_phase : Stmt := topS 53
abbrev s__law_away : Stmt := topS 54
abbrev s__law_round : Stmt := topS 55
abbrev s__law_told_on : Stmt := topS 56
abbrev s__law_deed : Stmt := topS 57
abbrev s__law_row_right : Stmt := topS 58
abbrev s__law_ended : Stmt := topS 59
abbrev s__law_open : Stmt := topS 60
abbrev s_law : Stmt := topS 61
abbrev FnP (K : PySem.W.Frag) (x q : Str) (st : Stmt) (f : Addr) (fd : FuncData) : Prop := FunD K x q (defArgs st) (defBody st) (defScope st) [] [] f fd
structure Txt (K : PySem.W.Frag) (mg : Str → Option Value) : Prop where
  g_Letter : mg "Letter" = some (.ref (He.ga K "Letter"))
  cl_Letter : Cls K (He.ga K "Letter")
  mk_Letter : Mk K (He.ga K "Letter") (He.ma K (He.ga K "Letter") "__init__")
  na_Letter_kind : NoAttr K (He.ga K "Letter") "kind"
  na_Letter_sender : NoAttr K (He.ga K "Letter") "sender"
  na_Letter_to : NoAttr K (He.ga K "Letter") "to"
  na_Letter_number : NoAttr K (He.ga K "Letter") "number"
  na_Letter_told : NoAttr K (He.ga K "Letter") "told"
  g_Offer : mg "Offer" = some (.ref (He.ga K "Offer"))
  cl_Offer : Cls K (He.ga K "Offer")
  mk_Offer : Mk K (He.ga K "Offer") (He.ma K (He.ga K "Offer") "__init__")
  na_Offer_ballot : NoAttr K (He.ga K "Offer") "ballot"
  na_Offer_members : NoAttr K (He.ga K "Offer") "members"
  na_Offer_promises : NoAttr K (He.ga K "Offer") "promises"
  na_Offer_forward : NoAttr K (He.ga K "Offer") "forward"
  na_Offer_agrees : NoAttr K (He.ga K "Offer") "agrees"
  g_Seat : mg "Seat" = some (.ref (He.ga K "Seat"))
  cl_Seat : Cls K (He.ga K "Seat")
  mk_Seat : Mk K (He.ga K "Seat") (He.ma K (He.ga K "Seat") "__init__")
  na_Seat_number : NoAttr K (He.ga K "Seat") "number"
  na_Seat_members : NoAttr K (He.ga K "Seat") "members"
  na_Seat_news : NoAttr K (He.ga K "Seat") "news"
  na_Seat_row : NoAttr K (He.ga K "Seat") "row"
  na_Seat_took : NoAttr K (He.ga K "Seat") "took"
  na_Seat_holding : NoAttr K (He.ga K "Seat") "holding"
  na_Seat_ballot : NoAttr K (He.ga K "Seat") "ballot"
  na_Seat_agreed : NoAttr K (He.ga K "Seat") "agreed"
  na_Seat_offer : NoAttr K (He.ga K "Seat") "offer"
  me_Seat_leader : Meth K (He.ga K "Seat") "leader" (He.ma K (He.ga K "Seat") "leader")
  me_Seat_answered : Meth K (He.ga K "Seat") "answered" (He.ma K (He.ga K "Seat") "answered")
  g_Hand : mg "Hand" = some (.ref (He.ga K "Hand"))
  cl_Hand : Cls K (He.ga K "Hand")
  mk_Hand : Mk K (He.ga K "Hand") (He.ma K (He.ga K "Hand") "__init__")
  na_Hand_me : NoAttr K (He.ga K "Hand") "me"
  na_Hand_post : NoAttr K (He.ga K "Hand") "post"
  na_Hand_standing : NoAttr K (He.ga K "Hand") "standing"
  na_Hand_said : NoAttr K (He.ga K "Hand") "said"
  na_Hand_highest : NoAttr K (He.ga K "Hand") "highest"
  na_Hand_behind : NoAttr K (He.ga K "Hand") "behind"
  na_Hand_seat : NoAttr K (He.ga K "Hand") "seat"
  me_Hand_sit : Meth K (He.ga K "Hand") "sit" (He.ma K (He.ga K "Hand") "sit")
  me_Hand_go_on : Meth K (He.ga K "Hand") "go_on" (He.ma K (He.ga K "Hand") "go_on")
  me_Hand_send : Meth K (He.ga K "Hand") "send" (He.ma K (He.ga K "Hand") "send")
  me_Hand_send_each : Meth K (He.ga K "Hand") "send_each" (He.ma K (He.ga K "Hand") "send_each")
  me_Hand_send_others : Meth K (He.ga K "Hand") "send_others" (He.ma K (He.ga K "Hand") "send_others")
  g_Folk : mg "Folk" = some (.ref (He.ga K "Folk"))
  cl_Folk : Cls K (He.ga K "Folk")
  mk_Folk : Mk K (He.ga K "Folk") (He.ma K (He.ga K "Folk") "__init__")
  na_Folk_many : NoAttr K (He.ga K "Folk") "many"
  na_Folk__post : NoAttr K (He.ga K "Folk") "_post"
  na_Folk__hands : NoAttr K (He.ga K "Folk") "_hands"
  me_Folk_say : Meth K (He.ga K "Folk") "say" (He.ma K (He.ga K "Folk") "say")
  me_Folk_press : Meth K (He.ga K "Folk") "press" (He.ma K (He.ga K "Folk") "press")
  me_Folk_propose : Meth K (He.ga K "Folk") "propose" (He.ma K (He.ga K "Folk") "propose")
  me_Folk_show : Meth K (He.ga K "Folk") "show" (He.ma K (He.ga K "Folk") "show")
  me_Folk_fall : Meth K (He.ga K "Folk") "fall" (He.ma K (He.ga K "Folk") "fall")
  me_Folk_come : Meth K (He.ga K "Folk") "come" (He.ma K (He.ga K "Folk") "come")
  me_Folk_lose : Meth K (He.ga K "Folk") "lose" (He.ma K (He.ga K "Folk") "lose")
  me_Folk_double : Meth K (He.ga K "Folk") "double" (He.ma K (He.ga K "Folk") "double")
  me_Folk_calm : Meth K (He.ga K "Folk") "calm" (He.ma K (He.ga K "Folk") "calm")
  me_Folk_letters : Meth K (He.ga K "Folk") "letters" (He.ma K (He.ga K "Folk") "letters")
  me_Folk_stands : Meth K (He.ga K "Folk") "stands" (He.ma K (He.ga K "Folk") "stands")
  me_Folk_list_of : Meth K (He.ga K "Folk") "list_of" (He.ma K (He.ga K "Folk") "list_of")
  me_Folk_taken : Meth K (He.ga K "Folk") "taken" (He.ma K (He.ga K "Folk") "taken")
  me_Folk_is_still : Meth K (He.ga K "Folk") "is_still" (He.ma K (He.ga K "Folk") "is_still")
  me_Folk_witness : Meth K (He.ga K "Folk") "witness" (He.ma K (He.ga K "Folk") "witness")
  me_Folk_past : Meth K (He.ga K "Folk") "past" (He.ma K (He.ga K "Folk") "past")
  me_Folk_who : Meth K (He.ga K "Folk") "_who" (He.ma K (He.ga K "Folk") "_who")
  me_Folk_who_acts : Meth K (He.ga K "Folk") "_who_acts" (He.ma K (He.ga K "Folk") "_who_acts")
  me_Folk_seat_of : Meth K (He.ga K "Folk") "_seat_of" (He.ma K (He.ga K "Folk") "_seat_of")
  me_Folk_check_place : Meth K (He.ga K "Folk") "_check_place" (He.ma K (He.ga K "Folk") "_check_place")
  g_FolkError : mg "FolkError" = some (.ref (He.ga K "FolkError"))
  kp_FolkError : PySem.W.keepIn K (.ref (He.ga K "FolkError")) = true
  g_BadHand : mg "BadHand" = some (.ref (He.ga K "BadHand"))
  kp_BadHand : PySem.W.keepIn K (.ref (He.ga K "BadHand")) = true
  g_BadList : mg "BadList" = some (.ref (He.ga K "BadList"))
  kp_BadList : PySem.W.keepIn K (.ref (He.ga K "BadList")) = true
  g_NoLetter : mg "NoLetter" = some (.ref (He.ga K "NoLetter"))
  kp_NoLetter : PySem.W.keepIn K (.ref (He.ga K "NoLetter")) = true
  g_Fallen : mg "Fallen" = some (.ref (He.ga K "Fallen"))
  kp_Fallen : PySem.W.keepIn K (.ref (He.ga K "Fallen")) = true
  g_Outside : mg "Outside" = some (.ref (He.ga K "Outside"))
  kp_Outside : PySem.W.keepIn K (.ref (He.ga K "Outside")) = true
  g_NotFirst : mg "NotFirst" = some (.ref (He.ga K "NotFirst"))
  kp_NotFirst : PySem.W.keepIn K (.ref (He.ga K "NotFirst")) = true
  g_NoNews : mg "NoNews" = some (.ref (He.ga K "NoNews"))
  kp_NoNews : PySem.W.keepIn K (.ref (He.ga K "NoNews")) = true
  g__wall : mg "_wall" = some (.ref (He.ga K "_wall"))
  g_is_whole : mg "is_whole" = some (.ref (He.ga K "is_whole"))
  g_is_hand : mg "is_hand" = some (.ref (He.ga K "is_hand"))
  g_enough : mg "enough" = some (.ref (He.ga K "enough"))
  g_is_list : mg "is_list" = some (.ref (He.ga K "is_list"))
  g_longest : mg "longest" = some (.ref (He.ga K "longest"))
  g_send_wish : mg "send_wish" = some (.ref (He.ga K "send_wish"))
  g_send_again : mg "send_again" = some (.ref (He.ga K "send_again"))
  g_wish_came : mg "wish_came" = some (.ref (He.ga K "wish_came"))
  g_hold_came : mg "hold_came" = some (.ref (He.ga K "hold_came"))
  g_have_came : mg "have_came" = some (.ref (He.ga K "have_came"))
  g_take_came : mg "take_came" = some (.ref (He.ga K "take_came"))
  g_take_what_enough_hold : mg "take_what_enough_hold" = some (.ref (He.ga K "take_what_enough_hold"))
  g_send_prepare : mg "send_prepare" = some (.ref (He.ga K "send_prepare"))
  g_send_news : mg "send_news" = some (.ref (He.ga K "send_news"))
  g_prepare_came : mg "prepare_came" = some (.ref (He.ga K "prepare_came"))
  g_promise_came : mg "promise_came" = some (.ref (He.ga K "promise_came"))
  g_accept_came : mg "accept_came" = some (.ref (He.ga K "accept_came"))
  g_agree_came : mg "agree_came" = some (.ref (He.ga K "agree_came"))
  g_enter_came : mg "enter_came" = some (.ref (He.ga K "enter_came"))
  g_is_last_offer : mg "is_last_offer" = some (.ref (He.ga K "is_last_offer"))
  g_what_to_put_forward : mg "what_to_put_forward" = some (.ref (He.ga K "what_to_put_forward"))
  g_hand_over : mg "hand_over" = some (.ref (He.ga K "hand_over"))
  g_read_letter : mg "read_letter" = some (.ref (He.ga K "read_letter"))
  g__law_draw : mg "_law_draw" = some (.ref (He.ga K "_law_draw"))
  g__law_hands : mg "_law_hands" = some (.ref (He.ga K "_law_hands"))
  g__law_word : mg "_law_word" = some (.ref (He.ga K "_law_word"))
  g__law_tried : mg "_law_tried" = some (.ref (He.ga K "_law_tried"))
  g__law_list : mg "_law_list" = some (.ref (He.ga K "_law_list"))
  g__law_some_come : mg "_law_some_come" = some (.ref (He.ga K "_law_some_come"))
  g__law_phase : mg "_law_phase" = some (.ref (He.ga K "_law_phase"))
  g__law_away : mg "_law_away" = some (.ref (He.ga K "_law_away"))
  g__law_round : mg "_law_round" = some (.ref (He.ga K "_law_round"))
  g__law_told_on : mg "_law_told_on" = some (.ref (He.ga K "_law_told_on"))
  g__law_deed : mg "_law_deed" = some (.ref (He.ga K "_law_deed"))
  g__law_row_right : mg "_law_row_right" = some (.ref (He.ga K "_law_row_right"))
  g__law_ended : mg "_law_ended" = some (.ref (He.ga K "_law_ended"))
  g__law_open : mg "_law_open" = some (.ref (He.ga K "_law_open"))
  g_law : mg "law" = some (.ref (He.ga K "law"))
  b_isinstance : mg "isinstance" = none
  b_len : mg "len" = none
  b_int : mg "int" = none
  b_bool : mg "bool" = none
  b_list : mg "list" = none
  b_range : mg "range" = none
  b_sorted : mg "sorted" = none
  b_max : mg "max" = none
  b_min : mg "min" = none
  b_enumerate : mg "enumerate" = none
  b_set : mg "set" = none
  b_tuple : mg "tuple" = none
  g_NO_BALLOT : mg "NO_BALLOT" = some (.ref (He.ga K "NO_BALLOT"))
  i_MOST_HANDS : ∃ t, mg "MOST_HANDS" = some (.int 9 t)
  tup_NO_BALLOT : He.tupB K "NO_BALLOT" [.int (0), .int (-1)] = true
  xi_FolkError : PySem.W.excIn K (He.ga K "FolkError") [.type "ValueError", .type "Exception", .type "BaseException", .type "object"] "ValueError.__new__" = true
  xs_FolkError : PySem.W.subIn K (.ref (He.ga K "FolkError")) (.type "BaseException") = some true
  xt_FolkError : PySem.W.typeIn K (.ref (He.ga K "FolkError")) = some (.type "type")
  xm_FolkError_FolkError : PySem.W.exmOne K (.ref (He.ga K "FolkError")) (.ref (He.ga K "FolkError")) = some true
  xm_FolkError_Outside : PySem.W.exmOne K (.ref (He.ga K "FolkError")) (.ref (He.ga K "Outside")) = some false
  xi_BadHand : PySem.W.excIn K (He.ga K "BadHand") [.type "ValueError", .type "Exception", .type "BaseException", .type "object"] "ValueError.__new__" = true
  xs_BadHand : PySem.W.subIn K (.ref (He.ga K "BadHand")) (.type "BaseException") = some true
  xt_BadHand : PySem.W.typeIn K (.ref (He.ga K "BadHand")) = some (.type "type")
  xm_BadHand_FolkError : PySem.W.exmOne K (.ref (He.ga K "BadHand")) (.ref (He.ga K "FolkError")) = some true
  xm_BadHand_Outside : PySem.W.exmOne K (.ref (He.ga K "BadHand")) (.ref (He.ga K "Outside")) = some false
  xi_BadList : PySem.W.excIn K (He.ga K "BadList") [.type "ValueError", .type "Exception", .type "BaseException", .type "object"] "ValueError.__new__" = true
  xs_BadList : PySem.W.subIn K (.ref (He.ga K "BadList")) (.type "BaseException") = some true
  xt_BadList : PySem.W.typeIn K (.ref (He.ga K "BadList")) = some (.type "type")
  xm_BadList_FolkError : PySem.W.exmOne K (.ref (He.ga K "BadList")) (.ref (He.ga K "FolkError")) = some true
  xm_BadList_Outside : PySem.W.exmOne K (.ref (He.ga K "BadList")) (.ref (He.ga K "Outside")) = some false
  xi_NoLetter : PySem.W.excIn K (He.ga K "NoLetter") [.type "ValueError", .type "Exception", .type "BaseException", .type "object"] "ValueError.__new__" = true
  xs_NoLetter : PySem.W.subIn K (.ref (He.ga K "NoLetter")) (.type "BaseException") = some true
  xt_NoLetter : PySem.W.typeIn K (.ref (He.ga K "NoLetter")) = some (.type "type")
  xm_NoLetter_FolkError : PySem.W.exmOne K (.ref (He.ga K "NoLetter")) (.ref (He.ga K "FolkError")) = some true
  xm_NoLetter_Outside : PySem.W.exmOne K (.ref (He.ga K "NoLetter")) (.ref (He.ga K "Outside")) = some false
  xi_Fallen : PySem.W.excIn K (He.ga K "Fallen") [.type "ValueError", .type "Exception", .type "BaseException", .type "object"] "ValueError.__new__" = true
  xs_Fallen : PySem.W.subIn K (.ref (He.ga K "Fallen")) (.type "BaseException") = some true
  xt_Fallen : PySem.W.typeIn K (.ref (He.ga K "Fallen")) = some (.type "type")
  xm_Fallen_FolkError : PySem.W.exmOne K (.ref (He.ga K "Fallen")) (.ref (He.ga K "FolkError")) = some true
  xm_Fallen_Outside : PySem.W.exmOne K (.ref (He.ga K "Fallen")) (.ref (He.ga K "Outside")) = some false
  xi_Outside : PySem.W.excIn K (He.ga K "Outside") [.type "ValueError", .type "Exception", .type "BaseException", .type "object"] "ValueError.__new__" = true
  xs_Outside : PySem.W.subIn K (.ref (He.ga K "Outside")) (.type "BaseException") = some true
  xt_Outside : PySem.W.typeIn K (.ref (He.ga K "Outside")) = some (.type "type")
  xm_Outside_FolkError : PySem.W.exmOne K (.ref (He.ga K "Outside")) (.ref (He.ga K "FolkError")) = some true
  xm_Outside_Outside : PySem.W.exmOne K (.ref (He.ga K "Outside")) (.ref (He.ga K "Outside")) = some true
  xi_NotFirst : PySem.W.excIn K (He.ga K "NotFirst") [.type "ValueError", .type "Exception", .type "BaseException", .type "object"] "ValueError.__new__" = true
  xs_NotFirst : PySem.W.subIn K (.ref (He.ga K "NotFirst")) (.type "BaseException") = some true
  xt_NotFirst : PySem.W.typeIn K (.ref (He.ga K "NotFirst")) = some (.type "type")
  xm_NotFirst_FolkError : PySem.W.exmOne K (.ref (He.ga K "NotFirst")) (.ref (He.ga K "FolkError")) = some true
  xm_NotFirst_Outside : PySem.W.exmOne K (.ref (He.ga K "NotFirst")) (.ref (He.ga K "Outside")) = some false
  xi_NoNews : PySem.W.excIn K (He.ga K "NoNews") [.type "ValueError", .type "Exception", .type "BaseException", .type "object"] "ValueError.__new__" = true
  xs_NoNews : PySem.W.subIn K (.ref (He.ga K "NoNews")) (.type "BaseException") = some true
  xt_NoNews : PySem.W.typeIn K (.ref (He.ga K "NoNews")) = some (.type "type")
  xm_NoNews_FolkError : PySem.W.exmOne K (.ref (He.ga K "NoNews")) (.ref (He.ga K "FolkError")) = some true
  xm_NoNews_Outside : PySem.W.exmOne K (.ref (He.ga K "NoNews")) (.ref (He.ga K "Outside")) = some false
  F__wall : ∃ fd, FnP K "_wall" "_wall" s__wall (He.ga K "_wall") fd
  F_Letter_init : ∃ fd, FnP K "__init__" "Letter.__init__" s_Letter_init (He.ma K (He.ga K "Letter") "__init__") fd
  F_Offer_init : ∃ fd, FnP K "__init__" "Offer.__init__" s_Offer_init (He.ma K (He.ga K "Offer") "__init__") fd
  F_Seat_init : ∃ fd, FnP K "__init__" "Seat.__init__" s_Seat_init (He.ma K (He.ga K "Seat") "__init__") fd
  F_Seat_leader : ∃ fd, FnP K "leader" "Seat.leader" s_Seat_leader (He.ma K (He.ga K "Seat") "leader") fd
  F_Seat_answered : ∃ fd, FnP K "answered" "Seat.answered" s_Seat_answered (He.ma K (He.ga K "Seat") "answered") fd
  F_Hand_init : ∃ fd, FnP K "__init__" "Hand.__init__" s_Hand_init (He.ma K (He.ga K "Hand") "__init__") fd
  F_Hand_sit : ∃ fd, FnP K "sit" "Hand.sit" s_Hand_sit (He.ma K (He.ga K "Hand") "sit") fd
  F_Hand_go_on : ∃ fd, FnP K "go_on" "Hand.go_on" s_Hand_go_on (He.ma K (He.ga K "Hand") "go_on") fd
  F_Hand_send : ∃ fd, FnP K "send" "Hand.send" s_Hand_send (He.ma K (He.ga K "Hand") "send") fd
  F_Hand_send_each : ∃ fd, FnP K "send_each" "Hand.send_each" s_Hand_send_each (He.ma K (He.ga K "Hand") "send_each") fd
  F_Hand_send_others : ∃ fd, FnP K "send_others" "Hand.send_others" s_Hand_send_others (He.ma K (He.ga K "Hand") "send_others") fd
  F_is_whole : ∃ fd, FnP K "is_whole" "is_whole" s_is_whole (He.ga K "is_whole") fd
  F_is_hand : ∃ fd, FnP K "is_hand" "is_hand" s_is_hand (He.ga K "is_hand") fd
  F_enough : ∃ fd, FnP K "enough" "enough" s_enough (He.ga K "enough") fd
  F_is_list : ∃ fd, FnP K "is_list" "is_list" s_is_list (He.ga K "is_list") fd
  F_longest : ∃ fd, FnP K "longest" "longest" s_longest (He.ga K "longest") fd
  F_send_wish : ∃ fd, FnP K "send_wish" "send_wish" s_send_wish (He.ga K "send_wish") fd
  F_send_again : ∃ fd, FnP K "send_again" "send_again" s_send_again (He.ga K "send_again") fd
  F_wish_came : ∃ fd, FnP K "wish_came" "wish_came" s_wish_came (He.ga K "wish_came") fd
  F_hold_came : ∃ fd, FnP K "hold_came" "hold_came" s_hold_came (He.ga K "hold_came") fd
  F_have_came : ∃ fd, FnP K "have_came" "have_came" s_have_came (He.ga K "have_came") fd
  F_take_came : ∃ fd, FnP K "take_came" "take_came" s_take_came (He.ga K "take_came") fd
  F_take_what_enough_hold : ∃ fd, FnP K "take_what_enough_hold" "take_what_enough_hold" s_take_what_enough_hold (He.ga K "take_what_enough_hold") fd
  F_send_prepare : ∃ fd, FnP K "send_prepare" "send_prepare" s_send_prepare (He.ga K "send_prepare") fd
  F_send_news : ∃ fd, FnP K "send_news" "send_news" s_send_news (He.ga K "send_news") fd
  F_prepare_came : ∃ fd, FnP K "prepare_came" "prepare_came" s_prepare_came (He.ga K "prepare_came") fd
  F_promise_came : ∃ fd, FnP K "promise_came" "promise_came" s_promise_came (He.ga K "promise_came") fd
  F_accept_came : ∃ fd, FnP K "accept_came" "accept_came" s_accept_came (He.ga K "accept_came") fd
  F_agree_came : ∃ fd, FnP K "agree_came" "agree_came" s_agree_came (He.ga K "agree_came") fd
  F_enter_came : ∃ fd, FnP K "enter_came" "enter_came" s_enter_came (He.ga K "enter_came") fd
  F_is_last_offer : ∃ fd, FnP K "is_last_offer" "is_last_offer" s_is_last_offer (He.ga K "is_last_offer") fd
  F_what_to_put_forward : ∃ fd, FnP K "what_to_put_forward" "what_to_put_forward" s_what_to_put_forward (He.ga K "what_to_put_forward") fd
  F_Folk_init : ∃ fd, FnP K "__init__" "Folk.__init__" s_Folk_init (He.ma K (He.ga K "Folk") "__init__") fd
  F_Folk_say : ∃ fd, FnP K "say" "Folk.say" s_Folk_say (He.ma K (He.ga K "Folk") "say") fd
  F_Folk_press : ∃ fd, FnP K "press" "Folk.press" s_Folk_press (He.ma K (He.ga K "Folk") "press") fd
  F_Folk_propose : ∃ fd, FnP K "propose" "Folk.propose" s_Folk_propose (He.ma K (He.ga K "Folk") "propose") fd
  F_Folk_show : ∃ fd, FnP K "show" "Folk.show" s_Folk_show (He.ma K (He.ga K "Folk") "show") fd
  F_Folk_fall : ∃ fd, FnP K "fall" "Folk.fall" s_Folk_fall (He.ma K (He.ga K "Folk") "fall") fd
  F_Folk_come : ∃ fd, FnP K "come" "Folk.come" s_Folk_come (He.ma K (He.ga K "Folk") "come") fd
  F_Folk_lose : ∃ fd, FnP K "lose" "Folk.lose" s_Folk_lose (He.ma K (He.ga K "Folk") "lose") fd
  F_Folk_double : ∃ fd, FnP K "double" "Folk.double" s_Folk_double (He.ma K (He.ga K "Folk") "double") fd
  F_Folk_calm : ∃ fd, FnP K "calm" "Folk.calm" s_Folk_calm (He.ma K (He.ga K "Folk") "calm") fd
  F_Folk_letters : ∃ fd, FnP K "letters" "Folk.letters" s_Folk_letters (He.ma K (He.ga K "Folk") "letters") fd
  F_Folk_stands : ∃ fd, FnP K "stands" "Folk.stands" s_Folk_stands (He.ma K (He.ga K "Folk") "stands") fd
  F_Folk_list_of : ∃ fd, FnP K "list_of" "Folk.list_of" s_Folk_list_of (He.ma K (He.ga K "Folk") "list_of") fd
  F_Folk_taken : ∃ fd, FnP K "taken" "Folk.taken" s_Folk_taken (He.ma K (He.ga K "Folk") "taken") fd
  F_Folk_is_still : ∃ fd, FnP K "is_still" "Folk.is_still" s_Folk_is_still (He.ma K (He.ga K "Folk") "is_still") fd
  F_Folk_witness : ∃ fd, FnP K "witness" "Folk.witness" s_Folk_witness (He.ma K (He.ga K "Folk") "witness") fd
  F_Folk_past : ∃ fd, FnP K "past" "Folk.past" s_Folk_past (He.ma K (He.ga K "Folk") "past") fd
  F_Folk_who : ∃ fd, FnP K "_who" "Folk._who" s_Folk_who (He.ma K (He.ga K "Folk") "_who") fd
  F_Folk_who_acts : ∃ fd, FnP K "_who_acts" "Folk._who_acts" s_Folk_who_acts (He.ma K (He.ga K "Folk") "_who_acts") fd
  F_Folk_seat_of : ∃ fd, FnP K "_seat_of" "Folk._seat_of" s_Folk_seat_of (He.ma K (He.ga K "Folk") "_seat_of") fd
  F_Folk_check_place : ∃ fd, FnP K "_check_place" "Folk._check_place" s_Folk_check_place (He.ma K (He.ga K "Folk") "_check_place") fd
  F_hand_over : ∃ fd, FnP K "hand_over" "hand_over" s_hand_over (He.ga K "hand_over") fd
  F_read_letter : ∃ fd, FnP K "read_letter" "read_letter" s_read_letter (He.ga K "read_letter") fd
  F__law_draw : ∃ fd, FnP K "_law_draw" "_law_draw" s__law_draw (He.ga K "_law_draw") fd
  F__law_hands : ∃ fd, FnP K "_law_hands" "_law_hands" s__law_hands (He.ga K "_law_hands") fd
  F__law_word : ∃ fd, FnP K "_law_word" "_law_word" s__law_word (He.ga K "_law_word") fd
  F__law_tried : ∃ fd, FnP K "_law_tried" "_law_tried" s__law_tried (He.ga K "_law_tried") fd
  F__law_list : ∃ fd, FnP K "_law_list" "_law_list" s__law_list (He.ga K "_law_list") fd
  F__law_some_come : ∃ fd, FnP K "_law_some_come" "_law_some_come" s__law_some_come (He.ga K "_law_some_come") fd
  F__law_phase : ∃ fd, FnP K "_law_phase" "_law_phase" s__law_phase (He.ga K "_law_phase") fd
  F__law_away : ∃ fd, FnP K "_law_away" "_law_away" s__law_away (He.ga K "_law_away") fd
  F__law_round : ∃ fd, FnP K "_law_round" "_law_round" s__law_round (He.ga K "_law_round") fd
  F__law_told_on : ∃ fd, FnP K "_law_told_on" "_law_told_on" s__law_told_on (He.ga K "_law_told_on") fd
  F__law_deed : ∃ fd, FnP K "_law_deed" "_law_deed" s__law_deed (He.ga K "_law_deed") fd
  F__law_row_right : ∃ fd, FnP K "_law_row_right" "_law_row_right" s__law_row_right (He.ga K "_law_row_right") fd
  F__law_ended : ∃ fd, FnP K "_law_ended" "_law_ended" s__law_ended (He.ga K "_law_ended") fd
  F__law_open : ∃ fd, FnP K "_law_open" "_law_open" s__law_open (He.ga K "_law_open") fd
  F_law : ∃ fd, FnP K "law" "law" s_law (He.ga K "law") fd
end Fo
/-! ### the head -/
namespace Fo
open PySem PySem.Spec PyProof.Rows L2
def d__wall : He.DefD := ⟨("_wall", none), "_wall", "_wall", defArgs s__wall, defBody s__wall, defScope s__wall, [], []⟩
def d_Letter_init : He.DefD := ⟨("Letter", some "__init__"), "__init__", "Letter.__init__", defArgs s_Letter_init, defBody s_Letter_init, defScope s_Letter_init, [], []⟩
def d_Offer_init : He.DefD := ⟨("Offer", some "__init__"), "__init__", "Offer.__init__", defArgs s_Offer_init, defBody s_Offer_init, defScope s_Offer_init, [], []⟩
def d_Seat_init : He.DefD := ⟨("Seat", some "__init__"), "__init__", "Seat.__init__", defArgs s_Seat_init, defBody s_Seat_init, defScope s_Seat_init, [], []⟩
def d_Seat_leader : He.DefD := ⟨("Seat", some "leader"), "leader", "Seat.leader", defArgs s_Seat_leader, defBody s_Seat_leader, defScope s_Seat_leader, [], []⟩
def d_Seat_answered : He.DefD := ⟨("Seat", some "answered"), "answered", "Seat.answered", defArgs s_Seat_answered, defBody s_Seat_answered, defScope s_Seat_answered, [], []⟩
def d_Hand_init : He.DefD := ⟨("Hand", some "__init__"), "__init__", "Hand.__init__", defArgs s_Hand_init, defBody s_Hand_init, defScope s_Hand_init, [], []⟩
def d_Hand_sit : He.DefD := ⟨("Hand", some "sit"), "sit", "Hand.sit", defArgs s_Hand_sit, defBody s_Hand_sit, defScope s_Hand_sit, [], []⟩
def d_Hand_go_on : He.DefD := ⟨("Hand", some "go_on"), "go_on", "Hand.go_on", defArgs s_Hand_go_on, defBody s_Hand_go_on, defScope s_Hand_go_on, [], []⟩
def d_Hand_send : He.DefD := ⟨("Hand", some "send"), "send", "Hand.send", defArgs s_Hand_send, defBody s_Hand_send, defScope s_Hand_send, [], []⟩
def d_Hand_send_each : He.DefD := ⟨("Hand", some "send_each"), "send_each", "Hand.send_each", defArgs s_Hand_send_each, defBody s_Hand_send_each, defScope s_Hand_send_each, [], []⟩
def d_Hand_send_others : He.DefD := ⟨("Hand", some "send_others"), "send_others", "Hand.send_others", defArgs s_Hand_send_others, defBody s_Hand_send_others, defScope s_Hand_send_others, [], []⟩
def d_is_whole : He.DefD := ⟨("is_whole", none), "is_whole", "is_whole", defArgs s_is_whole, defBody s_is_whole, defScope s_is_whole, [], []⟩
def d_is_hand : He.DefD := ⟨("is_hand", none), "is_hand", "is_hand", defArgs s_is_hand, defBody s_is_hand, defScope s_is_hand, [], []⟩
def d_enough : He.DefD := ⟨("enough", none), "enough", "enough", defArgs s_enough, defBody s_enough, defScope s_enough, [], []⟩
def d_is_list : He.DefD := ⟨("is_list", none), "is_list", "is_list", defArgs s_is_list, defBody s_is_list, defScope s_is_list, [], []⟩
def d_longest : He.DefD := ⟨("longest", none), "longest", "longest", defArgs s_longest, defBody s_longest, defScope s_longest, [], []⟩
def d_send_wish : He.DefD := ⟨("send_wish", none), "send_wish", "send_wish", defArgs s_send_wish, defBody s_send_wish, defScope s_send_wish, [], []⟩
def d_send_again : He.DefD := ⟨("send_again", none), "send_again", "send_again", defArgs s_send_again, defBody s_send_again, defScope s_send_again, [], []⟩
def d_wish_came : He.DefD := ⟨("wish_came", none), "wish_came", "wish_came", defArgs s_wish_came, defBody s_wish_came, defScope s_wish_came, [], []⟩
def d_hold_came : He.DefD := ⟨("hold_came", none), "hold_came", "hold_came", defArgs s_hold_came, defBody s_hold_came, defScope s_hold_came, [], []⟩
def d_have_came : He.DefD := ⟨("have_came", none), "have_came", "have_came", defArgs s_have_came, defBody s_have_came, defScope s_have_came, [], []⟩
def d_take_came : He.DefD := ⟨("take_came", none), "take_came", "take_came", defArgs s_take_came, defBody s_take_came, defScope s_take_came, [], []⟩
def d_take_what_enough_hold : He.DefD := ⟨("take_what_enough_hold", none), "take_what_enough_hold", "take_what_enough_hold", defArgs s_take_what_enough_hold, defBody s_take_what_enough_hold, defScope s_take_what_enough_hold, [], []⟩
def d_send_prepare : He.DefD := ⟨("send_prepare", none), "send_prepare", "send_prepare", defArgs s_send_prepare, defBody s_send_prepare, defScope s_send_prepare, [], []⟩
def d_send_news : He.DefD := ⟨("send_news", none), "send_news", "send_news", defArgs s_send_news, defBody s_send_news, defScope s_send_news, [], []⟩
def d_prepare_came : He.DefD := ⟨("prepare_came", none), "prepare_came", "prepare_came", defArgs s_prepare_came, defBody s_prepare_came, defScope s_prepare_came, [], []⟩
def d_promise_came : He.DefD := ⟨("promise_came", none), "promise_came", "promise_came", defArgs s_promise_came, defBody s_promise_came, defScope s_promise_came, [], []⟩
def d_accept_came : He.DefD := ⟨("accept_came", none), "accept_came", "accept_came", defArgs s_accept_came, defBody s_accept_came, defScope s_accept_came, [], []⟩
def d_agree_came : He.DefD := ⟨("agree_came", none), "agree_came", "agree_came", defArgs s_agree_came, defBody s_agree_came, defScope s_agree_came, [], []⟩
def d_enter_came : He.DefD := ⟨("enter_came", none), "enter_came", "enter_came", defArgs s_enter_came, defBody s_enter_came, defScope s_enter_came, [], []⟩
def d_is_last_offer : He.DefD := ⟨("is_last_offer", none), "is_last_offer", "is_last_offer", defArgs s_is_last_offer, defBody s_is_last_offer, defScope s_is_last_offer, [], []⟩
def d_what_to_put_forward : He.DefD := ⟨("what_to_put_forward", none), "what_to_put_forward", "what_to_put_forward", defArgs s_what_to_put_forward, defBody s_what_to_put_forward, defScope s_what_to_put_forward, [], []⟩
def d_Folk_init : He.DefD := ⟨("Folk", some "__init__"), "__init__", "Folk.__init__", defArgs s_Folk_init, defBody s_Folk_init, defScope s_Folk_init, [], []⟩
def d_Folk_say : He.DefD := ⟨("Folk", some "say"), "say", "Folk.say", defArgs s_Folk_say, defBody s_Folk_say, defScope s_Folk_say, [], []⟩
def d_Folk_press : He.DefD := ⟨("Folk", some "press"), "press", "Folk.press", defArgs s_Folk_press, defBody s_Folk_press, defScope s_Folk_press, [], []⟩
def d_Folk_propose : He.DefD := ⟨("Folk", some "propose"), "propose", "Folk.propose", defArgs s_Folk_propose, defBody s_Folk_propose, defScope s_Folk_propose, [], []⟩
def d_Folk_show : He.DefD := ⟨("Folk", some "show"), "show", "Folk.show", defArgs s_Folk_show, defBody s_Folk_show, defScope s_Folk_show, [], []⟩
def d_Folk_fall : He.DefD := ⟨("Folk", some "fall"), "fall", "Folk.fall", defArgs s_Folk_fall, defBody s_Folk_fall, defScope s_Folk_fall, [], []⟩
def d_Folk_come : He.DefD := ⟨("Folk", some "come"), "come", "Folk.come", defArgs s_Folk_come, defBody s_Folk_come, defScope s_Folk_come, [], []⟩
def d_Folk_lose : He.DefD := ⟨("Folk", some "lose"), "lose", "Folk.lose", defArgs s_Folk_lose, defBody s_Folk_lose, defScope s_Folk_lose, [], []⟩
def d_Folk_double : He.DefD := ⟨("Folk", some "double"), "double", "Folk.double", defArgs s_Folk_double, defBody s_Folk_double, defScope s_Folk_double, [], []⟩
def d_Folk_calm : He.DefD := ⟨("Folk", some "calm"), "calm", "Folk.calm", defArgs s_Folk_calm, defBody s_Folk_calm, defScope s_Folk_calm, [], []⟩
def d_Folk_letters : He.DefD := ⟨("Folk", some "letters"), "letters", "Folk.letters", defArgs s_Folk_letters, defBody s_Folk_letters, defScope s_Folk_letters, [], []⟩
def d_Folk_stands : He.DefD := ⟨("Folk", some "stands"), "stands", "Folk.stands", defArgs s_Folk_stands, defBody s_Folk_stands, defScope s_Folk_stands, [], []⟩
def d_Folk_list_of : He.DefD := ⟨("Folk", some "list_of"), "list_of", "Folk.list_of", defArgs s_Folk_list_of, defBody s_Folk_list_of, defScope s_Folk_list_of, [], []⟩
def d_Folk_taken : He.DefD := ⟨("Folk", some "taken"), "taken", "Folk.taken", defArgs s_Folk_taken, defBody s_Folk_taken, defScope s_Folk_taken, [], []⟩
def d_Folk_is_still : He.DefD := ⟨("Folk", some "is_still"), "is_still", "Folk.is_still", defArgs s_Folk_is_still, defBody s_Folk_is_still, defScope s_Folk_is_still, [], []⟩
def d_Folk_witness : He.DefD := ⟨("Folk", some "witness"), "witness", "Folk.witness", defArgs s_Folk_witness, defBody s_Folk_witness, defScope s_Folk_witness, [], []⟩
def d_Folk_past : He.DefD := ⟨("Folk", some "past"), "past", "Folk.past", defArgs s_Folk_past, defBody s_Folk_past, defScope s_Folk_past, [], []⟩
def d_Folk_who : He.DefD := ⟨("Folk", some "_who"), "_who", "Folk._who", defArgs s_Folk_who, defBody s_Folk_who, defScope s_Folk_who, [], []⟩
def d_Folk_who_acts : He.DefD := ⟨("Folk", some "_who_acts"), "_who_acts", "Folk._who_acts", defArgs s_Folk_who_acts, defBody s_Folk_who_acts, defScope s_Folk_who_acts, [], []⟩
def d_Folk_seat_of : He.DefD := ⟨("Folk", some "_seat_of"), "_seat_of", "Folk._seat_of", defArgs s_Folk_seat_of, defBody s_Folk_seat_of, defScope s_Folk_seat_of, [], []⟩
def d_Folk_check_place : He.DefD := ⟨("Folk", some "_check_place"), "_check_place", "Folk._check_place", defArgs s_Folk_check_place, defBody s_Folk_check_place, defScope s_Folk_check_place, [], []⟩
def d_hand_over : He.DefD := ⟨("hand_over", none), "hand_over", "hand_over", defArgs s_hand_over, defBody s_hand_over, defScope s_hand_over, [], []⟩
def d_read_letter : He.DefD := ⟨("read_letter", none), "read_letter", "read_letter", defArgs s_read_letter, defBody s_read_letter, defScope s_read_letter, [], []⟩
def d__law_draw : He.DefD := ⟨("_law_draw", none), "_law_draw", "_law_draw", defArgs s__law_draw, defBody s__law_draw, defScope s__law_draw, [], []⟩
def d__law_hands : He.DefD := ⟨("_law_hands", none), "_law_hands", "_law_hands", defArgs s__law_hands, defBody s__law_hands, defScope s__law_hands, [], []⟩
def d__law_word : He.DefD := ⟨("_law_word", none), "_law_word", "_law_word", defArgs s__law_word, defBody s__law_word, defScope s__law_word, [], []⟩
def d__law_tried : He.DefD := ⟨("_law_tried", none), "_law_tried", "_law_tried", defArgs s__law_tried, defBody s__law_tried, defScope s__law_tried, [], []⟩
def d__law_list : He.DefD := ⟨("_law_list", none), "_law_list", "_law_list", defArgs s__law_list, defBody s__law_list, defScope s__law_list, [], []⟩
def d__law_some_come : He.DefD := ⟨("_law_some_come", none), "_law_some_come", "_law_some_come", defArgs s__law_some_come, defBody s__law_some_come, defScope s__law_some_come, [], []⟩
def d__law_phase : He.DefD := ⟨("_law_phase", none), "_law_phase", "_law_phase", defArgs s__law_phase, defBody s__law_phase, defScope s__law_phase, [], []⟩
def d__law_away : He.DefD := ⟨("_law_away", none), "_law_away", "_law_away", defArgs s__law_away, defBody s__law_away, defScope s__law_away, [], []⟩
def d__law_round : He.DefD := ⟨("_law_round", none), "_law_round", "_law_round", defArgs s__law_round, defBody s__law_round, defScope s__law_round, [], []⟩
def d__law_told_on : He.DefD := ⟨("_law_told_on", none), "_law_told_on", "_law_told_on", defArgs s__law_told_on, defBody s__law_told_on, defScope s__law_told_on, [], []⟩
def d__law_deed : He.DefD := ⟨("_law_deed", none), "_law_deed", "_law_deed", defArgs s__law_deed, defBody s__law_deed, defScope s__law_deed, [], []⟩
def d__law_row_right : He.DefD := ⟨("_law_row_right", none), "_law_row_right", "_law_row_right", defArgs s__law_row_right, defBody s__law_row_right, defScope s__law_row_right, [], []⟩
def d__law_ended : He.DefD := ⟨("_law_ended", none), "_law_ended", "_law_ended", defArgs s__law_ended, defBody s__law_ended, defScope s__law_ended, [], []⟩
def d__law_open : He.DefD := ⟨("_law_open", none), "_law_open", "_law_open", defArgs s__law_open, defBody s__law_open, defScope s__law_open, [], []⟩
def d_law : He.DefD := ⟨("law", none), "law", "law", defArgs s_law, defBody s_law, defScope s_law, [], []⟩
def fn : List He.DefD := ([d__wall, d_Letter_init, d_Offer_init, d_Seat_init, d_Seat_leader, d_Seat_answered, d_Hand_init, d_Hand_sit, d_Hand_go_on, d_Hand_send, d_Hand_send_each, d_Hand_send_others] : List He.DefD) ++ (([d_is_whole, d_is_hand, d_enough, d_is_list, d_longest, d_send_wish, d_send_again, d_wish_came, d_hold_came, d_have_came, d_take_came, d_take_what_enough_hold] : List He.DefD) ++ (([d_send_prepare, d_send_news, d_prepare_came, d_promise_came, d_accept_came, d_agree_came, d_enter_came, d_is_last_offer, d_what_to_put_forward, d_Folk_init, d_Folk_say, d_Folk_press] : List He.DefD) ++ (([d_Folk_propose, d_Folk_show, d_Folk_fall, d_Folk_come, d_Folk_lose, d_Folk_double, d_Folk_calm, d_Folk_letters, d_Folk_stands, d_Folk_list_of, d_Folk_taken, d_Folk_is_still] : List He.DefD) ++ (([d_Folk_witness, d_Folk_past, d_Folk_who, d_Folk_who_acts, d_Folk_seat_of, d_Folk_check_place, d_hand_over, d_read_letter, d__law_draw, d__law_hands, d__law_word, d__law_tried] : List He.DefD) ++ (([d__law_list, d__law_some_come, d__law_phase, d__law_away, d__law_round, d__law_told_on, d__law_deed, d__law_row_right, d__law_ended, d__law_open, d_law] : List He.DefD))))))
def fa : List He.Fa := ([.glo "Letter", .cls "Letter", .mkr "Letter", .noat "Letter" "kind", .noat "Letter" "sender", .noat "Letter" "to", .noat "Letter" "number", .noat "Letter" "told", .glo "Offer", .cls "Offer", .mkr "Offer", .noat "Offer" "ballot"] : List He.Fa) ++ (([.noat "Offer" "members", .noat "Offer" "promises", .noat "Offer" "forward", .noat "Offer" "agrees", .glo "Seat", .cls "Seat", .mkr "Seat", .noat "Seat" "number", .noat "Seat" "members", .noat "Seat" "news", .noat "Seat" "row", .noat "Seat" "took"] : List He.Fa) ++ (([.noat "Seat" "holding", .noat "Seat" "ballot", .noat "Seat" "agreed", .noat "Seat" "offer", .meth "Seat" "leader", .meth "Seat" "answered", .glo "Hand", .cls "Hand", .mkr "Hand", .noat "Hand" "me", .noat "Hand" "post", .noat "Hand" "standing"] : List He.Fa) ++ (([.noat "Hand" "said", .noat "Hand" "highest", .noat "Hand" "behind", .noat "Hand" "seat", .meth "Hand" "sit", .meth "Hand" "go_on", .meth "Hand" "send", .meth "Hand" "send_each", .meth "Hand" "send_others", .glo "Folk", .cls "Folk", .mkr "Folk"] : List He.Fa) ++ (([.noat "Folk" "many", .noat "Folk" "_post", .noat "Folk" "_hands", .meth "Folk" "say", .meth "Folk" "press", .meth "Folk" "propose", .meth "Folk" "show", .meth "Folk" "fall", .meth "Folk" "come", .meth "Folk" "lose", .meth "Folk" "double", .meth "Folk" "calm"] : List He.Fa) ++ (([.meth "Folk" "letters", .meth "Folk" "stands", .meth "Folk" "list_of", .meth "Folk" "taken", .meth "Folk" "is_still", .meth "Folk" "witness", .meth "Folk" "past", .meth "Folk" "_who", .meth "Folk" "_who_acts", .meth "Folk" "_seat_of", .meth "Folk" "_check_place", .glo "FolkError"] : List He.Fa) ++ (([.keep "FolkError", .glo "BadHand", .keep "BadHand", .glo "BadList", .keep "BadList", .glo "NoLetter", .keep "NoLetter", .glo "Fallen", .keep "Fallen", .glo "Outside", .keep "Outside", .glo "NotFirst"] : List He.Fa) ++ (([.keep "NotFirst", .glo "NoNews", .keep "NoNews", .glo "_wall", .glo "is_whole", .glo "is_hand", .glo "enough", .glo "is_list", .glo "longest", .glo "send_wish", .glo "send_again", .glo "wish_came"] : List He.Fa) ++ (([.glo "hold_came", .glo "have_came", .glo "take_came", .glo "take_what_enough_hold", .glo "send_prepare", .glo "send_news", .glo "prepare_came", .glo "promise_came", .glo "accept_came", .glo "agree_came", .glo "enter_came", .glo "is_last_offer"] : List He.Fa) ++ (([.glo "what_to_put_forward", .glo "hand_over", .glo "read_letter", .glo "_law_draw", .glo "_law_hands", .glo "_law_word", .glo "_law_tried", .glo "_law_list", .glo "_law_some_come", .glo "_law_phase", .glo "_law_away", .glo "_law_round"] : List He.Fa) ++ (([.glo "_law_told_on", .glo "_law_deed", .glo "_law_row_right", .glo "_law_ended", .glo "_law_open", .glo "law", .free "isinstance", .free "len", .free "int", .free "bool", .free "list", .free "range"] : List He.Fa) ++ (([.free "sorted", .free "max", .free "min", .free "enumerate", .free "set", .free "tuple", .glo "NO_BALLOT", .int "MOST_HANDS" 9] : List He.Fa))))))))))))
def ex (K : PySem.W.Frag) : Bool := He.tupB K "NO_BALLOT" [.int (0), .int (-1)] && (PySem.W.excIn K (He.ga K "FolkError") [.type "ValueError", .type "Exception", .type "BaseException", .type "object"] "ValueError.__new__" && (decide (PySem.W.subIn K (.ref (He.ga K "FolkError")) (.type "BaseException") = some true) && (decide (PySem.W.typeIn K (.ref (He.ga K "FolkError")) = some (.type "type")) && (decide (PySem.W.exmOne K (.ref (He.ga K "FolkError")) (.ref (He.ga K "FolkError")) = some true) && (decide (PySem.W.exmOne K (.ref (He.ga K "FolkError")) (.ref (He.ga K "Outside")) = some false) && (PySem.W.excIn K (He.ga K "BadHand") [.type "ValueError", .type "Exception", .type "BaseException", .type "object"] "ValueError.__new__" && (decide (PySem.W.subIn K (.ref (He.ga K "BadHand")) (.type "BaseException") = some true) && (decide (PySem.W.typeIn K (.ref (He.ga K "BadHand")) = some (.type "type")) && (decide (PySem.W.exmOne K (.ref (He.ga K "BadHand")) (.ref (He.ga K "FolkError")) = some true) && (decide (PySem.W.exmOne K (.ref (He.ga K "BadHand")) (.ref (He.ga K "Outside")) = some false) && (PySem.W.excIn K (He.ga K "BadList") [.type "ValueError", .type "Exception", .type "BaseException", .type "object"] "ValueError.__new__" && (decide (PySem.W.subIn K (.ref (He.ga K "BadList")) (.type "BaseException") = some true) && (decide (PySem.W.typeIn K (.ref (He.ga K "BadList")) = some (.type "type")) && (decide (PySem.W.exmOne K (.ref (He.ga K "BadList")) (.ref (He.ga K "FolkError")) = some true) && (decide (PySem.W.exmOne K (.ref (He.ga K "BadList")) (.ref (He.ga K "Outside")) = some false) && (PySem.W.excIn K (He.ga K "NoLetter") [.type "ValueError", .type "Exception", .type "BaseException", .type "object"] "ValueError.__new__" && (decide (PySem.W.subIn K (.ref (He.ga K "NoLetter")) (.type "BaseException") = some true) && (decide (PySem.W.typeIn K (.ref (He.ga K "NoLetter")) = some (.type "type")) && (decide (PySem.W.exmOne K (.ref (He.ga K "NoLetter")) (.ref (He.ga K "FolkError")) = some true) && (decide (PySem.W.exmOne K (.ref (He.ga K "NoLetter")) (.ref (He.ga K "Outside")) = some false) && (PySem.W.excIn K (He.ga K "Fallen") [.type "ValueError", .type "Exception", .type "BaseException", .type "object"] "ValueError.__new__" && (decide (PySem.W.subIn K (.ref (He.ga K "Fallen")) (.type "BaseException") = some true) && (decide (PySem.W.typeIn K (.ref (He.ga K "Fallen")) = some (.type "type")) && (decide (PySem.W.exmOne K (.ref (He.ga K "Fallen")) (.ref (He.ga K "FolkError")) = some true) && (decide (PySem.W.exmOne K (.ref (He.ga K "Fallen")) (.ref (He.ga K "Outside")) = some false) && (PySem.W.excIn K (He.ga K "Outside") [.type "ValueError", .type "Exception", .type "BaseException", .type "object"] "ValueError.__new__" && (decide (PySem.W.subIn K (.ref (He.ga K "Outside")) (.type "BaseException") = some true) && (decide (PySem.W.typeIn K (.ref (He.ga K "Outside")) = some (.type "type")) && (decide (PySem.W.exmOne K (.ref (He.ga K "Outside")) (.ref (He.ga K "FolkError")) = some true) && (decide (PySem.W.exmOne K (.ref (He.ga K "Outside")) (.ref (He.ga K "Outside")) = some true) && (PySem.W.excIn K (He.ga K "NotFirst") [.type "ValueError", .type "Exception", .type "BaseException", .type "object"] "ValueError.__new__" && (decide (PySem.W.subIn K (.ref (He.ga K "NotFirst")) (.type "BaseException") = some true) && (decide (PySem.W.typeIn K (.ref (He.ga K "NotFirst")) = some (.type "type")) && (decide (PySem.W.exmOne K (.ref (He.ga K "NotFirst")) (.ref (He.ga K "FolkError")) = some true) && (decide (PySem.W.exmOne K (.ref (He.ga K "NotFirst")) (.ref (He.ga K "Outside")) = some false) && (PySem.W.excIn K (He.ga K "NoNews") [.type "ValueError", .type "Exception", .type "BaseException", .type "object"] "ValueError.__new__" && (decide (PySem.W.subIn K (.ref (He.ga K "NoNews")) (.type "BaseException") = some true) && (decide (PySem.W.typeIn K (.ref (He.ga K "NoNews")) = some (.type "type")) && (decide (PySem.W.exmOne K (.ref (He.ga K "NoNews")) (.ref (He.ga K "FolkError")) = some true) && (decide (PySem.W.exmOne K (.ref (He.ga K "NoNews")) (.ref (He.ga K "Outside")) = some false)))))))))))))))))))))))))))))))))))))))))
abbrev R : PySem.W.OpenRow := PySem.W.OpenLaw.row PySem.Challenge.rw_folklist_k09_whole_messages
abbrev hk : PySem.W.Hook := He.hookX 5 fa fn [] [] ex
def ob (s : PySem.W.SharedT) : He.AlX := He.obsX 5 fa fn [] [] ex (HandSHeadRun.getT s)
theorem ob_eq (s : PySem.W.SharedT) : ob s = hk.obs s.abs := He.obsX_eq (HandSHeadRun.getT_eq s)
def names : List PySem.Str := (["_wall", "FolkError", "BadHand", "BadList", "NoLetter", "Fallen", "Outside", "NotFirst", "NoNews", "Letter", "NO_BALLOT", "Offer"] : List PySem.Str) ++ ((["Seat", "Hand", "is_whole", "is_hand", "enough", "is_list", "longest", "send_wish", "send_again", "wish_came", "hold_came", "have_came"] : List PySem.Str) ++ ((["take_came", "take_what_enough_hold", "send_prepare", "send_news", "prepare_came", "promise_came", "accept_came", "agree_came", "enter_came", "is_last_offer", "what_to_put_forward", "MOST_HANDS"] : List PySem.Str) ++ ((["Folk", "hand_over", "read_letter", "_law_draw", "_law_hands", "_law_word", "_law_tried", "_law_list", "_law_some_come", "_law_phase", "_law_away", "_law_round"] : List PySem.Str) ++ ((["_law_told_on", "_law_deed", "_law_row_right", "_law_ended", "_law_open"] : List PySem.Str)))))
theorem run (w : World) : HandSHeadRun.RunEq R (PySem.W.view R.prog [61]) hk ob 20000 names w := by
  intro os
  kernel_rfl
theorem txt_of {K : PySem.W.Frag} {h : Heap} {mg : Str → Option Value} {w : World} {h0 : Heap} (X : K.In h) (G : h.Ns mainGlobals mg) (c : He.SaysX fa fn [] [] ex w h0 K) : Txt K mg := by
  have c1 := c.t.d
  have e0 := He.ba c.more
  have e1 := He.ba e0.2
  have e2 := He.ba e1.2
  have e3 := He.ba e2.2
  have e4 := He.ba e3.2
  have e5 := He.ba e4.2
  have e6 := He.ba e5.2
  have e7 := He.ba e6.2
  have e8 := He.ba e7.2
  have e9 := He.ba e8.2
  have e10 := He.ba e9.2
  have e11 := He.ba e10.2
  have e12 := He.ba e11.2
  have e13 := He.ba e12.2
  have e14 := He.ba e13.2
  have e15 := He.ba e14.2
  have e16 := He.ba e15.2
  have e17 := He.ba e16.2
  have e18 := He.ba e17.2
  have e19 := He.ba e18.2
  have e20 := He.ba e19.2
  have e21 := He.ba e20.2
  have e22 := He.ba e21.2
  have e23 := He.ba e22.2
  have e24 := He.ba e23.2
  have e25 := He.ba e24.2
  have e26 := He.ba e25.2
  have e27 := He.ba e26.2
  have e28 := He.ba e27.2
  have e29 := He.ba e28.2
  have e30 := He.ba e29.2
  have e31 := He.ba e30.2
  have e32 := He.ba e31.2
  have e33 := He.ba e32.2
  have e34 := He.ba e33.2
  have e35 := He.ba e34.2
  have e36 := He.ba e35.2
  have e37 := He.ba e36.2
  have e38 := He.ba e37.2
  have e39 := He.ba e38.2
  have e40 := e39.2
  exact {
    g_Letter := He.glo_ok X G (c1.fact 0 rfl)
    cl_Letter := He.cls_ok (c1.fact 1 rfl)
    mk_Letter := He.mkr_ok (c1.fact 2 rfl)
    na_Letter_kind := He.noat_ok (c1.fact 3 rfl)
    na_Letter_sender := He.noat_ok (c1.fact 4 rfl)
    na_Letter_to := He.noat_ok (c1.fact 5 rfl)
    na_Letter_number := He.noat_ok (c1.fact 6 rfl)
    na_Letter_told := He.noat_ok (c1.fact 7 rfl)
    g_Offer := He.glo_ok X G (c1.fact 8 rfl)
    cl_Offer := He.cls_ok (c1.fact 9 rfl)
    mk_Offer := He.mkr_ok (c1.fact 10 rfl)
    na_Offer_ballot := He.noat_ok (c1.fact 11 rfl)
    na_Offer_members := He.noat_ok (c1.fact 12 rfl)
    na_Offer_promises := He.noat_ok (c1.fact 13 rfl)
    na_Offer_forward := He.noat_ok (c1.fact 14 rfl)
    na_Offer_agrees := He.noat_ok (c1.fact 15 rfl)
    g_Seat := He.glo_ok X G (c1.fact 16 rfl)
    cl_Seat := He.cls_ok (c1.fact 17 rfl)
    mk_Seat := He.mkr_ok (c1.fact 18 rfl)
    na_Seat_number := He.noat_ok (c1.fact 19 rfl)
    na_Seat_members := He.noat_ok (c1.fact 20 rfl)
    na_Seat_news := He.noat_ok (c1.fact 21 rfl)
    na_Seat_row := He.noat_ok (c1.fact 22 rfl)
    na_Seat_took := He.noat_ok (c1.fact 23 rfl)
    na_Seat_holding := He.noat_ok (c1.fact 24 rfl)
    na_Seat_ballot := He.noat_ok (c1.fact 25 rfl)
    na_Seat_agreed := He.noat_ok (c1.fact 26 rfl)
    na_Seat_offer := He.noat_ok (c1.fact 27 rfl)
    me_Seat_leader := He.meth_ok (c1.fact 28 rfl)
    me_Seat_answered := He.meth_ok (c1.fact 29 rfl)
    g_Hand := He.glo_ok X G (c1.fact 30 rfl)
    cl_Hand := He.cls_ok (c1.fact 31 rfl)
    mk_Hand := He.mkr_ok (c1.fact 32 rfl)
    na_Hand_me := He.noat_ok (c1.fact 33 rfl)
    na_Hand_post := He.noat_ok (c1.fact 34 rfl)
    na_Hand_standing := He.noat_ok (c1.fact 35 rfl)
    na_Hand_said := He.noat_ok (c1.fact 36 rfl)
    na_Hand_highest := He.noat_ok (c1.fact 37 rfl)
    na_Hand_behind := He.noat_ok (c1.fact 38 rfl)
    na_Hand_seat := He.noat_ok (c1.fact 39 rfl)
    me_Hand_sit := He.meth_ok (c1.fact 40 rfl)
    me_Hand_go_on := He.meth_ok (c1.fact 41 rfl)
    me_Hand_send := He.meth_ok (c1.fact 42 rfl)
    me_Hand_send_each := He.meth_ok (c1.fact 43 rfl)
    me_Hand_send_others := He.meth_ok (c1.fact 44 rfl)
    g_Folk := He.glo_ok X G (c1.fact 45 rfl)
    cl_Folk := He.cls_ok (c1.fact 46 rfl)
    mk_Folk := He.mkr_ok (c1.fact 47 rfl)
    na_Folk_many := He.noat_ok (c1.fact 48 rfl)
    na_Folk__post := He.noat_ok (c1.fact 49 rfl)
    na_Folk__hands := He.noat_ok (c1.fact 50 rfl)
    me_Folk_say := He.meth_ok (c1.fact 51 rfl)
    me_Folk_press := He.meth_ok (c1.fact 52 rfl)
    me_Folk_propose := He.meth_ok (c1.fact 53 rfl)
    me_Folk_show := He.meth_ok (c1.fact 54 rfl)
    me_Folk_fall := He.meth_ok (c1.fact 55 rfl)
    me_Folk_come := He.meth_ok (c1.fact 56 rfl)
    me_Folk_lose := He.meth_ok (c1.fact 57 rfl)
    me_Folk_double := He.meth_ok (c1.fact 58 rfl)
    me_Folk_calm := He.meth_ok (c1.fact 59 rfl)
    me_Folk_letters := He.meth_ok (c1.fact 60 rfl)
    me_Folk_stands := He.meth_ok (c1.fact 61 rfl)
    me_Folk_list_of := He.meth_ok (c1.fact 62 rfl)
    me_Folk_taken := He.meth_ok (c1.fact 63 rfl)
    me_Folk_is_still := He.meth_ok (c1.fact 64 rfl)
    me_Folk_witness := He.meth_ok (c1.fact 65 rfl)
    me_Folk_past := He.meth_ok (c1.fact 66 rfl)
    me_Folk_who := He.meth_ok (c1.fact 67 rfl)
    me_Folk_who_acts := He.meth_ok (c1.fact 68 rfl)
    me_Folk_seat_of := He.meth_ok (c1.fact 69 rfl)
    me_Folk_check_place := He.meth_ok (c1.fact 70 rfl)
    g_FolkError := He.glo_ok X G (c1.fact 71 rfl)
    kp_FolkError := He.keep_ok (c1.fact 72 rfl)
    g_BadHand := He.glo_ok X G (c1.fact 73 rfl)
    kp_BadHand := He.keep_ok (c1.fact 74 rfl)
    g_BadList := He.glo_ok X G (c1.fact 75 rfl)
    kp_BadList := He.keep_ok (c1.fact 76 rfl)
    g_NoLetter := He.glo_ok X G (c1.fact 77 rfl)
    kp_NoLetter := He.keep_ok (c1.fact 78 rfl)
    g_Fallen := He.glo_ok X G (c1.fact 79 rfl)
    kp_Fallen := He.keep_ok (c1.fact 80 rfl)
    g_Outside := He.glo_ok X G (c1.fact 81 rfl)
    kp_Outside := He.keep_ok (c1.fact 82 rfl)
    g_NotFirst := He.glo_ok X G (c1.fact 83 rfl)
    kp_NotFirst := He.keep_ok (c1.fact 84 rfl)
    g_NoNews := He.glo_ok X G (c1.fact 85 rfl)
    kp_NoNews := He.keep_ok (c1.fact 86 rfl)
    g__wall := He.glo_ok X G (c1.fact 87 rfl)
    g_is_whole := He.glo_ok X G (c1.fact 88 rfl)
    g_is_hand := He.glo_ok X G (c1.fact 89 rfl)
    g_enough := He.glo_ok X G (c1.fact 90 rfl)
    g_is_list := He.glo_ok X G (c1.fact 91 rfl)
    g_longest := He.glo_ok X G (c1.fact 92 rfl)
    g_send_wish := He.glo_ok X G (c1.fact 93 rfl)
    g_send_again := He.glo_ok X G (c1.fact 94 rfl)
    g_wish_came := He.glo_ok X G (c1.fact 95 rfl)
    g_hold_came := He.glo_ok X G (c1.fact 96 rfl)
    g_have_came := He.glo_ok X G (c1.fact 97 rfl)
    g_take_came := He.glo_ok X G (c1.fact 98 rfl)
    g_take_what_enough_hold := He.glo_ok X G (c1.fact 99 rfl)
    g_send_prepare := He.glo_ok X G (c1.fact 100 rfl)
    g_send_news := He.glo_ok X G (c1.fact 101 rfl)
    g_prepare_came := He.glo_ok X G (c1.fact 102 rfl)
    g_promise_came := He.glo_ok X G (c1.fact 103 rfl)
    g_accept_came := He.glo_ok X G (c1.fact 104 rfl)
    g_agree_came := He.glo_ok X G (c1.fact 105 rfl)
    g_enter_came := He.glo_ok X G (c1.fact 106 rfl)
    g_is_last_offer := He.glo_ok X G (c1.fact 107 rfl)
    g_what_to_put_forward := He.glo_ok X G (c1.fact 108 rfl)
    g_hand_over := He.glo_ok X G (c1.fact 109 rfl)
    g_read_letter := He.glo_ok X G (c1.fact 110 rfl)
    g__law_draw := He.glo_ok X G (c1.fact 111 rfl)
    g__law_hands := He.glo_ok X G (c1.fact 112 rfl)
    g__law_word := He.glo_ok X G (c1.fact 113 rfl)
    g__law_tried := He.glo_ok X G (c1.fact 114 rfl)
    g__law_list := He.glo_ok X G (c1.fact 115 rfl)
    g__law_some_come := He.glo_ok X G (c1.fact 116 rfl)
    g__law_phase := He.glo_ok X G (c1.fact 117 rfl)
    g__law_away := He.glo_ok X G (c1.fact 118 rfl)
    g__law_round := He.glo_ok X G (c1.fact 119 rfl)
    g__law_told_on := He.glo_ok X G (c1.fact 120 rfl)
    g__law_deed := He.glo_ok X G (c1.fact 121 rfl)
    g__law_row_right := He.glo_ok X G (c1.fact 122 rfl)
    g__law_ended := He.glo_ok X G (c1.fact 123 rfl)
    g__law_open := He.glo_ok X G (c1.fact 124 rfl)
    g_law := He.glo_ok X G (c1.fact 125 rfl)
    b_isinstance := He.free_ok X G (c1.fact 126 rfl)
    b_len := He.free_ok X G (c1.fact 127 rfl)
    b_int := He.free_ok X G (c1.fact 128 rfl)
    b_bool := He.free_ok X G (c1.fact 129 rfl)
    b_list := He.free_ok X G (c1.fact 130 rfl)
    b_range := He.free_ok X G (c1.fact 131 rfl)
    b_sorted := He.free_ok X G (c1.fact 132 rfl)
    b_max := He.free_ok X G (c1.fact 133 rfl)
    b_min := He.free_ok X G (c1.fact 134 rfl)
    b_enumerate := He.free_ok X G (c1.fact 135 rfl)
    b_set := He.free_ok X G (c1.fact 136 rfl)
    b_tuple := He.free_ok X G (c1.fact 137 rfl)
    g_NO_BALLOT := He.glo_ok X G (c1.fact 138 rfl)
    i_MOST_HANDS := He.int_ok X G (c1.fact 139 rfl)
    tup_NO_BALLOT := e0.1
    xi_FolkError := e1.1
    xs_FolkError := of_decide_eq_true e2.1
    xt_FolkError := of_decide_eq_true e3.1
    xm_FolkError_FolkError := of_decide_eq_true e4.1
    xm_FolkError_Outside := of_decide_eq_true e5.1
    xi_BadHand := e6.1
    xs_BadHand := of_decide_eq_true e7.1
    xt_BadHand := of_decide_eq_true e8.1
    xm_BadHand_FolkError := of_decide_eq_true e9.1
    xm_BadHand_Outside := of_decide_eq_true e10.1
    xi_BadList := e11.1
    xs_BadList := of_decide_eq_true e12.1
    xt_BadList := of_decide_eq_true e13.1
    xm_BadList_FolkError := of_decide_eq_true e14.1
    xm_BadList_Outside := of_decide_eq_true e15.1
    xi_NoLetter := e16.1
    xs_NoLetter := of_decide_eq_true e17.1
    xt_NoLetter := of_decide_eq_true e18.1
    xm_NoLetter_FolkError := of_decide_eq_true e19.1
    xm_NoLetter_Outside := of_decide_eq_true e20.1
    xi_Fallen := e21.1
    xs_Fallen := of_decide_eq_true e22.1
    xt_Fallen := of_decide_eq_true e23.1
    xm_Fallen_FolkError := of_decide_eq_true e24.1
    xm_Fallen_Outside := of_decide_eq_true e25.1
    xi_Outside := e26.1
    xs_Outside := of_decide_eq_true e27.1
    xt_Outside := of_decide_eq_true e28.1
    xm_Outside_FolkError := of_decide_eq_true e29.1
    xm_Outside_Outside := of_decide_eq_true e30.1
    xi_NotFirst := e31.1
    xs_NotFirst := of_decide_eq_true e32.1
    xt_NotFirst := of_decide_eq_true e33.1
    xm_NotFirst_FolkError := of_decide_eq_true e34.1
    xm_NotFirst_Outside := of_decide_eq_true e35.1
    xi_NoNews := e36.1
    xs_NoNews := of_decide_eq_true e37.1
    xt_NoNews := of_decide_eq_true e38.1
    xm_NoNews_FolkError := of_decide_eq_true e39.1
    xm_NoNews_Outside := of_decide_eq_true e40
    F__wall := c1.def_ 0 (d := d__wall) rfl
    F_Letter_init := c1.def_ 1 (d := d_Letter_init) rfl
    F_Offer_init := c1.def_ 2 (d := d_Offer_init) rfl
    F_Seat_init := c1.def_ 3 (d := d_Seat_init) rfl
    F_Seat_leader := c1.def_ 4 (d := d_Seat_leader) rfl
    F_Seat_answered := c1.def_ 5 (d := d_Seat_answered) rfl
    F_Hand_init := c1.def_ 6 (d := d_Hand_init) rfl
    F_Hand_sit := c1.def_ 7 (d := d_Hand_sit) rfl
    F_Hand_go_on := c1.def_ 8 (d := d_Hand_go_on) rfl
    F_Hand_send := c1.def_ 9 (d := d_Hand_send) rfl
    F_Hand_send_each := c1.def_ 10 (d := d_Hand_send_each) rfl
    F_Hand_send_others := c1.def_ 11 (d := d_Hand_send_others) rfl
    F_is_whole := c1.def_ 12 (d := d_is_whole) rfl
    F_is_hand := c1.def_ 13 (d := d_is_hand) rfl
    F_enough := c1.def_ 14 (d := d_enough) rfl
    F_is_list := c1.def_ 15 (d := d_is_list) rfl
    F_longest := c1.def_ 16 (d := d_longest) rfl
    F_send_wish := c1.def_ 17 (d := d_send_wish) rfl
    F_send_again := c1.def_ 18 (d := d_send_again) rfl
    F_wish_came := c1.def_ 19 (d := d_wish_came) rfl
    F_hold_came := c1.def_ 20 (d := d_hold_came) rfl
    F_have_came := c1.def_ 21 (d := d_have_came) rfl
    F_take_came := c1.def_ 22 (d := d_take_came) rfl
    F_take_what_enough_hold := c1.def_ 23 (d := d_take_what_enough_hold) rfl
    F_send_prepare := c1.def_ 24 (d := d_send_prepare) rfl
    F_send_news := c1.def_ 25 (d := d_send_news) rfl
    F_prepare_came := c1.def_ 26 (d := d_prepare_came) rfl
    F_promise_came := c1.def_ 27 (d := d_promise_came) rfl
    F_accept_came := c1.def_ 28 (d := d_accept_came) rfl
    F_agree_came := c1.def_ 29 (d := d_agree_came) rfl
    F_enter_came := c1.def_ 30 (d := d_enter_came) rfl
    F_is_last_offer := c1.def_ 31 (d := d_is_last_offer) rfl
    F_what_to_put_forward := c1.def_ 32 (d := d_what_to_put_forward) rfl
    F_Folk_init := c1.def_ 33 (d := d_Folk_init) rfl
    F_Folk_say := c1.def_ 34 (d := d_Folk_say) rfl
    F_Folk_press := c1.def_ 35 (d := d_Folk_press) rfl
    F_Folk_propose := c1.def_ 36 (d := d_Folk_propose) rfl
    F_Folk_show := c1.def_ 37 (d := d_Folk_show) rfl
    F_Folk_fall := c1.def_ 38 (d := d_Folk_fall) rfl
    F_Folk_come := c1.def_ 39 (d := d_Folk_come) rfl
    F_Folk_lose := c1.def_ 40 (d := d_Folk_lose) rfl
    F_Folk_double := c1.def_ 41 (d := d_Folk_double) rfl
    F_Folk_calm := c1.def_ 42 (d := d_Folk_calm) rfl
    F_Folk_letters := c1.def_ 43 (d := d_Folk_letters) rfl
    F_Folk_stands := c1.def_ 44 (d := d_Folk_stands) rfl
    F_Folk_list_of := c1.def_ 45 (d := d_Folk_list_of) rfl
    F_Folk_taken := c1.def_ 46 (d := d_Folk_taken) rfl
    F_Folk_is_still := c1.def_ 47 (d := d_Folk_is_still) rfl
    F_Folk_witness := c1.def_ 48 (d := d_Folk_witness) rfl
    F_Folk_past := c1.def_ 49 (d := d_Folk_past) rfl
    F_Folk_who := c1.def_ 50 (d := d_Folk_who) rfl
    F_Folk_who_acts := c1.def_ 51 (d := d_Folk_who_acts) rfl
    F_Folk_seat_of := c1.def_ 52 (d := d_Folk_seat_of) rfl
    F_Folk_check_place := c1.def_ 53 (d := d_Folk_check_place) rfl
    F_hand_over := c1.def_ 54 (d := d_hand_over) rfl
    F_read_letter := c1.def_ 55 (d := d_read_letter) rfl
    F__law_draw := c1.def_ 56 (d := d__law_draw) rfl
    F__law_hands := c1.def_ 57 (d := d__law_hands) rfl
    F__law_word := c1.def_ 58 (d := d__law_word) rfl
    F__law_tried := c1.def_ 59 (d := d__law_tried) rfl
    F__law_list := c1.def_ 60 (d := d__law_list) rfl
    F__law_some_come := c1.def_ 61 (d := d__law_some_come) rfl
    F__law_phase := c1.def_ 62 (d := d__law_phase) rfl
    F__law_away := c1.def_ 63 (d := d__law_away) rfl
    F__law_round := c1.def_ 64 (d := d__law_round) rfl
    F__law_told_on := c1.def_ 65 (d := d__law_told_on) rfl
    F__law_deed := c1.def_ 66 (d := d__law_deed) rfl
    F__law_row_right := c1.def_ 67 (d := d__law_row_right) rfl
    F__law_ended := c1.def_ 68 (d := d__law_ended) rfl
    F__law_open := c1.def_ 69 (d := d__law_open) rfl
    F_law := c1.def_ 70 (d := d_law) rfl }
end Fo
namespace Fo
open PySem PySem.Spec PyProof.Rows L2
section
variable {P : Program} {w : World} {K : PySem.W.Frag} {mg : Str → Option Value} {base : Heap}
/-! own rules over the library -/
theorem is_bool_gen {M : Model} {A : Around} {E : Value → Shared → Prop} {s : Shared} {Q : Value → Shared → Prop} {v : Value} {b : Bool} (hv : ∀ id, v ≠ .builtin id) (h : Q (.bool (v == .bool b)) s) : wpAny M A (compareOp .Is v (.bool b)) Q E s := by
  cases v <;> first | exact wpAny_pure h | exact absurd rfl (hv _)
theorem isnot_bool_gen {M : Model} {A : Around} {E : Value → Shared → Prop} {s : Shared} {Q : Value → Shared → Prop} {v : Value} {b : Bool} (hv : ∀ id, v ≠ .builtin id) (h : Q (.bool (!(v == .bool b))) s) : wpAny M A (compareOp .IsNot v (.bool b)) Q E s := by
  cases v <;> first | exact wpAny_pure h | exact absurd rfl (hv _)
theorem relv_bool {x : V} {v : Value} {b : Bool} (r : RelV x v) : (v == Value.bool b) = decide (x = V.bl b) := by
  cases x with
  | bl a =>
    cases (show v = Value.bool a from r)
    by_cases e : a = b
    · subst e
      simp
    · have h1 : (Value.bool a == Value.bool b) = false := beq_eq_false_iff_ne.mpr fun q => e (Value.bool.inj q)
      rw [h1]
      exact (decide_eq_false fun q => e (V.bl.inj q)).symm
  | non => cases (show v = Value.none from r); rfl
  | int i => obtain ⟨t, rfl⟩ := r; rfl
  | str i => obtain ⟨t, rfl⟩ := r; rfl
  | byt i => obtain ⟨t, rfl⟩ := r; rfl
  | flt i => obtain ⟨t, rfl⟩ := r; rfl
  | ref i => cases (show v = Value.ref i from r); rfl
  | ty i => cases (show v = Value.type i from r); rfl
theorem relv_nb {x : V} {v : Value} (r : RelV x v) : ∀ id, v ≠ .builtin id := by
  intro id q
  subst q
  cases x <;> first | (obtain ⟨t, e⟩ := r; cases e) | cases (show Value.builtin id = _ from r)
/-- x is True, x is False: of any x -/
theorem op_isB {X : Cx} : OpR X (compareOp .Is) (fun x y H Q => ∃ b, y = .bl b ∧ Q (.bl (decide (x = .bl b))) H) := by
  intro pins s σ H x y v u Q I rx ry h
  obtain ⟨b, rfl, q⟩ := h
  cases (show u = Value.bool b from ry)
  refine is_bool_gen (relv_nb rx) ?_
  rw [relv_bool rx]
  exact ⟨.bl _, H, I, rfl, q⟩
theorem op_isnotB {X : Cx} : OpR X (compareOp .IsNot) (fun x y H Q => ∃ b, y = .bl b ∧ Q (.bl (!decide (x = .bl b))) H) := by
  intro pins s σ H x y v u Q I rx ry h
  obtain ⟨b, rfl, q⟩ := h
  cases (show u = Value.bool b from ry)
  refine isnot_bool_gen (relv_nb rx) ?_
  rw [relv_bool rx]
  exact ⟨.bl _, H, I, rfl, q⟩
def rListOf (K : PySem.W.Frag) : List V → Hp → VK → Prop := fun xs H Q => ∃ p ys, xs = [.ref p] ∧ (SqL K H p ys ∨ SqT K H p ys) ∧ ∀ l, H l = none → Q (.ref l) (upd H l (.lst ys))
/-- a dict comprehension over a list -/
theorem dc_list {K : PySem.W.Frag} {a : Addr} {xs : List V} {g : L2.TG} {tt : TT} {tk tv : TE} {vs : List Nat} {σ : L2.St} {H1 : Hp} {D : Addr} {Qd : Hp → Prop} (Pv : Nat → Hp → Prop) (h0 : Pv 0 (upd H1 D (.dK []))) (hl : ∀ i H, i ≤ xs.length → Pv i H → SqL K H a xs)
    (hs : ∀ i x H, xs[i]? = some x → Pv i H → g x (wipe σ vs) H fun σ2 H2 => wipe σ2 vs = wipe σ vs ∧ tt σ2 H2 fun b H3 =>
      if b = true then tk σ2 H3 fun y H4 => tv σ2 H4 fun z H5 => ∃ kvs k, y = kV k ∧ H5 D = some (.dK kvs) ∧ kvs.length < sizeLine ∧ Pv (i + 1) (upd H5 D (.dK (putK kvs k z))) else Pv (i + 1) H3) (hd : ∀ H, Pv xs.length H → Qd H) :
    ∃ W : Nat → Nat → Hp → Prop, (∃ m, W 0 m (upd H1 D (.dK []))) ∧ ∀ i m H, W i m H →
      ((Itl K a).stop i H ∧ Qd H) ∨ ((Itl K a).go i H ∧ ∃ Nx : Hp → Prop, (∀ H', Nx H' → ∃ m', m' < m ∧ W (i + 1) m' H') ∧ ∀ x H', (Itl K a).yld i H x H' → g x (wipe σ vs) H' fun σ2 H2 => wipe σ2 vs = wipe σ vs ∧ tt σ2 H2 fun b H3 =>
        if b = true then tk σ2 H3 fun y H4 => tv σ2 H4 fun z H5 => ∃ kvs k, y = kV k ∧ H5 D = some (.dK kvs) ∧ kvs.length < sizeLine ∧ Nx (upd H5 D (.dK (putK kvs k z))) else Nx H3) := by
  refine ⟨fun i m H => m = xs.length - i ∧ i ≤ xs.length ∧ Pv i H, ⟨xs.length, rfl, Nat.zero_le _, h0⟩, fun i m H w => ?_⟩
  obtain ⟨rfl, hi, p⟩ := w
  have q := hl i H hi p
  rcases Nat.lt_or_ge i xs.length with hlt | hge
  · refine Or.inr ⟨⟨xs, xs[i], q, List.getElem?_eq_getElem hlt⟩, Pv (i + 1), fun H' p' => ⟨_, Nat.sub_lt_sub_left hlt (Nat.lt_succ_self i), rfl, hlt, p'⟩, fun x H' y => ?_⟩
    have e := y.1
    subst e
    exact hs i x _ (y.2 xs q) p
  · have e : i = xs.length := Nat.le_antisymm hi hge
    subst e
    exact Or.inl ⟨⟨xs, q, Nat.le_refl _⟩, hd H p⟩
theorem upd_over {H : Hp} {p q : Addr} {a b c : HO} (h : q ≠ p) : upd (upd (upd H p a) q b) p c = upd (upd H q b) p c := by
  funext x
  unfold upd
  split
  · rfl
  · rename_i hx
    split
    · rfl
    · rfl
theorem upd_comm {H : Hp} {p q : Addr} {a b : HO} (h : q ≠ p) : upd (upd H p a) q b = upd (upd H q b) p a := by
  funext x
  unfold upd
  split
  · rename_i e
    rw [if_neg (fun z => h (e ▸ z))]
  · rfl

end
end Fo
namespace Fo
open PySem PySem.Spec PyProof.Rows L2
section
variable {P : Program} {w : World} {K : PySem.W.Frag} {mg : Str → Option Value} {base : Heap}
/-- a def keeps its promise, its arguments bind -/
def OkF (P : Program) (w : World) (K : PySem.W.Frag) (mg : Str → Option Value) (base : Heap) (CX : CXT) (k : Nat) (f : Addr) (ps : List Str) (sp : Sp) : Prop :=
  ∃ fd, FnOk P w K mg base CX k f fd ps sp ∧ Binds K fd ps [] ∧ PySem.W.keepIn K (.ref f) = true
theorem _root_.L2.Room.hu {A : Around} {k : Nat} (hr : Room k A) : A.units + 1 < cLine := hu_of hr
theorem _root_.L2.Room.u64 {A : Around} {k : Nat} (hr : Room k A) : A.units + 64 < cLine := Nat.lt_of_le_of_lt (Nat.add_le_add_left (by decide : 64 ≤ 200) _) (Nat.lt_of_le_of_lt (by omega) hr.un)
theorem _root_.L2.Room.u65 {A : Around} {k : Nat} (hr : Room k A) : A.units + 65 < cLine := Nat.lt_of_le_of_lt (Nat.add_le_add_left (by decide : 65 ≤ 200) _) (Nat.lt_of_le_of_lt (by omega) hr.un)
theorem passX {X : Cx} {W : WX} {E : XK} (tk : Takes X W) (hW : ∀ cls d σ H, E cls d H → W cls d σ H) : Passes (L2.CX X.prog X.w) X E := passes_call tk hW
theorem takes0N {X : Cx} : L2N.Takes X (fun _ _ _ _ => False) := fun u s' z => by
  obtain ⟨_, _, _, _, _, _, _, _, _, _, _, _, _, _, _, _, no⟩ := z
  exact no.elim
theorem passXN {X : Cx} {W : WX} {E : XK} (tk : L2N.Takes X W) (hW : ∀ cls d σ H, E cls d H → W cls d σ H) : Passes (L2N.CX X.prog X.w) X E := L2N.passes_call tk hW
theorem iteI {a b : Int} {A B : Prop} (h1 : a = b → A) (h2 : ¬ a = b → B) : if decide (V.int a = V.int b) = true then A else B :=
  ite2 (fun h => h1 (V.int.inj (of_decide_eq_true h))) (fun h => h2 (fun q => h (decide_eq_true (by rw [q]))))
theorem iteD {p : Prop} [Decidable p] {A B : Prop} (h1 : p → A) (h2 : ¬ p → B) : if decide p = true then A else B :=
  ite2 (fun h => h1 (of_decide_eq_true h)) (fun h => h2 (fun q => h (decide_eq_true q)))
def isInt : V → Bool
  | .int _ => true
  | _ => false
/-- a thing whose type is known not to be int's kind -/
def Thg (K : PySem.W.Frag) (H : Hp) (x : V) : Prop := (∃ i, x = .int i) ∨ (∃ b, x = .bl b) ∨ (isInt x = false ∧ ∃ n, TyX K H x (.type n) ∧ kitB n "int" = some false)
theorem thg_int {K : PySem.W.Frag} {H : Hp} {i : Int} : Thg K H (.int i) := .inl ⟨i, rfl⟩
def spWhole (K : PySem.W.Frag) : Sp := fun vs H Q _ => ∃ x, vs = [x] ∧ Thg K H x ∧ Q (.bl (isInt x)) H
theorem sc_is_whole : FnScope ["thing"] ["thing"] (defScope s_is_whole) := ⟨rfl, rfl, rfl, by decide +kernel, rfl, by decide +kernel, by decide +kernel⟩
set_option maxRecDepth 100000 in
theorem ok_is_whole (T : Txt K mg) : OkF P w K mg base CX0 1 (He.ga K "is_whole") ["thing"] (spWhole K) := by
  obtain ⟨fd, F⟩ := T.F_is_whole
  refine ⟨fd, F.ok sc_is_whole (fun vs H Q E h => ?_) (fun cdv A outer s H vs Q E hr h => ?_), F.bindsN fun _ _ _ _ _ _ us hl => match us, hl with | [_], _ => rfl, F.kp⟩
  · obtain ⟨_, rfl, _⟩ := h
    rfl
  · refine ⟨_, PSs.nox (pss_one (ps_ret (pe_and (pe_callB call_isi (by rfl) T.b_isinstance (by decide +kernel) (pa_cons (pv 0) (pa_cons (pe_bltn (v := .ty "int") (u := .type "int") (by rfl) T.b_int (by decide +kernel) rfl) pa_nil))) (pe_one (pe_not (pe_callB call_isi (by rfl) T.b_isinstance (by decide +kernel) (pa_cons (pv 0) (pa_cons (pe_bltn (v := .ty "bool") (u := .type "bool") (by rfl) T.b_bool (by decide +kernel) rfl) pa_nil)))))))), ?_⟩
    obtain ⟨x, rfl, hx, k⟩ := h
    rcases hx with ⟨i, rfl⟩ | ⟨b, rfl⟩ | ⟨hn, n, ht, hk⟩
    · exact ⟨_, rfl, _, _, _, _, true, rfl, .ty _, .base (.int i), kit_ty (by decide +kernel), true, rfl, iteT ⟨_, rfl, _, _, _, _, false, rfl, .ty _, .base (.int i), kit_ty (by decide +kernel), false, rfl, k⟩⟩
    · exact ⟨_, rfl, _, _, _, _, true, rfl, .ty _, .base (.bl b), kit_ty (by decide +kernel), true, rfl, iteT ⟨_, rfl, _, _, _, _, true, rfl, .ty _, .base (.bl b), kit_ty (by decide +kernel), true, rfl, k⟩⟩
    · rw [hn] at k
      exact ⟨_, rfl, _, _, _, _, false, rfl, .ty _, ht, kit_ty hk, false, rfl, iteF k⟩
def isHandB (x : V) (m : Int) : Bool := match x with
  | .int h => decide (0 ≤ h) && decide (h < m)
  | _ => false
def spIsHand (K : PySem.W.Frag) : Sp := fun vs H Q _ => ∃ x m, vs = [x, .int m] ∧ Thg K H x ∧ Q (.bl (isHandB x m)) H
theorem sc_is_hand : FnScope ["thing", "many"] ["thing", "many"] (defScope s_is_hand) := ⟨rfl, rfl, rfl, by decide +kernel, rfl, by decide +kernel, by decide +kernel⟩
set_option maxRecDepth 100000 in
theorem ok_is_hand (T : Txt K mg) : OkF P w K mg base CX0 2 (He.ga K "is_hand") ["thing", "many"] (spIsHand K) := by
  obtain ⟨fd, F⟩ := T.F_is_hand
  obtain ⟨fd_is_whole, G_is_whole⟩ := ok_is_whole (P := P) (w := w) (base := base) T
  refine ⟨fd, F.ok sc_is_hand (fun vs H Q E h => ?_) (fun cdv A outer s H vs Q E hr h => ?_), F.bindsN fun _ _ _ _ _ _ us hl => match us, hl with | [_, _], _ => rfl, F.kp⟩
  · obtain ⟨_, _, rfl, _⟩ := h
    rfl
  · refine ⟨_, PSs.nox (pss_one (ps_ret (pe_and (pe_call G_is_whole.1 (hr.mono (by decide)) rfl T.g_is_whole G_is_whole.2.2 G_is_whole.2.1 .nil pass0 (pa_cons (pv 0) pa_nil)) (pe_and (pe_cmpR op_ge (pv 0) pe_int (nomark _)) (pe_one (pe_cmpR op_lt (pv 0) (pv 1) (nomark _))))))), ?_⟩
    obtain ⟨x, m, rfl, hx, k⟩ := h
    refine ⟨_, rfl, _, rfl, hx, ?_⟩
    cases x with
    | int h =>
      refine ⟨true, rfl, iteT ⟨_, rfl, _, _, rfl, rfl, decide (0 ≤ h), rfl, ?_⟩⟩
      by_cases h0 : 0 ≤ h
      · rw [decide_eq_true h0]
        refine iteT ⟨_, rfl, _, rfl, _, _, rfl, rfl, ?_⟩
        have e : isHandB (.int h) m = decide (h < m) := by show (decide (0 ≤ h) && decide (h < m)) = _; rw [decide_eq_true h0]; rfl
        rw [e] at k
        exact k
      · rw [decide_eq_false h0]
        have e : isHandB (.int h) m = false := by show (decide (0 ≤ h) && decide (h < m)) = _; rw [decide_eq_false h0]; rfl
        rw [e] at k
        exact iteF k
    | _ => exact ⟨false, rfl, iteF k⟩
def isListGo (m : Int) : Int → List V → Bool
  | _, [] => true
  | b, x :: r => match x with
    | .int h => if 0 ≤ h ∧ h < m ∧ b < h then isListGo m h r else false
    | _ => false
def isListB (xs : List V) (m : Int) : Bool := !xs.isEmpty && isListGo m (-1) xs
theorem take_succ_of {α : Type} {xs : List α} {i : Nat} {x : α} (h : xs[i]? = some x) : xs.take (i + 1) = xs.take i ++ [x] := by
  rw [List.take_add_one, h]
  rfl
def spIsList (K : PySem.W.Frag) : Sp := fun vs H Q _ => ∃ x m, vs = [x, .int m] ∧
  ((∃ a xs, x = .ref a ∧ H a = some (.lst xs) ∧ (∀ y ∈ xs, Thg K H y) ∧ Q (.bl (isListB xs m)) H) ∨ (∃ n, TyX K H x (.type n) ∧ kitB n "list" = some false ∧ Q (.bl false) H))
theorem drop_cons {α : Type} {xs : List α} {i : Nat} {x : α} (h : xs[i]? = some x) : xs.drop i = x :: xs.drop (i + 1) := by
  obtain ⟨hi, e⟩ := List.getElem?_eq_some_iff.mp h
  rw [List.drop_eq_getElem_cons hi, e]
theorem sc_is_list : FnScope ["thing", "many", "before", "hand"] ["thing", "many"] (defScope s_is_list) := ⟨rfl, rfl, rfl, by decide +kernel, rfl, by decide +kernel, by decide +kernel⟩
set_option maxRecDepth 100000 in
theorem ok_is_list (T : Txt K mg) : OkF P w K mg base CX0 3 (He.ga K "is_list") ["thing", "many"] (spIsList K) := by
  obtain ⟨fd, F⟩ := T.F_is_list
  obtain ⟨fd_is_whole, G_is_whole⟩ := ok_is_whole (P := P) (w := w) (base := base) T
  obtain ⟨fd_is_hand, G_is_hand⟩ := ok_is_hand (P := P) (w := w) (base := base) T
  refine ⟨fd, F.ok sc_is_list (fun vs H Q E h => ?_) (fun cdv A outer s H vs Q E hr h => ?_), F.bindsN fun _ _ _ _ _ _ us hl => match us, hl with | [_, _], _ => rfl, F.kp⟩
  · obtain ⟨_, _, rfl, _⟩ := h
    rfl
  · refine ⟨_, PSs.nox (pss_cons (ps_if (PW.pt (pw_or (pt_not (pt_val (pe_call G_is_whole.1 (hr.mono (by decide)) rfl T.g_is_whole G_is_whole.2.2 G_is_whole.2.1 .nil pass0 (pa_cons (pv 1) pa_nil)))) (pw_or (pt_not (pt_val (pe_callB call_isi (by rfl) T.b_isinstance (by decide +kernel) (pa_cons (pv 0) (pa_cons (pe_bltn (v := .ty "list") (u := .type "list") (by rfl) T.b_list (by decide +kernel) rfl) pa_nil))))) (pw_or1 (pt_cmpR op_eq (pe_callB call_len_seq (by rfl) T.b_len PySem.boot_len (pa_cons (pv 0) pa_nil)) pe_int (nomark _)))))) (pss_one (ps_ret pe_bl)) pss_nil) (pss_cons (ps_set (i := 2) sc_is_list.nd rfl (Or.inl rfl) (pe_un un_neg pe_int)) (pss_cons (ps_for PassesOwn.never rfl (pi_list (pv 0)) (pg_name (i := 3) sc_is_list.nd rfl (Or.inl rfl)) (pss_cons (ps_if (PW.pt (pw_or (pt_not (pt_val (pe_call G_is_hand.1 (hr.mono (by decide)) rfl T.g_is_hand G_is_hand.2.2 G_is_hand.2.1 .nil pass0 (pa_cons (pv 3) (pa_cons (pv 1) pa_nil))))) (pw_or1 (pt_cmpR op_le (pv 3) (pv 2) (nomark _))))) (pss_one (ps_ret pe_bl)) pss_nil) (pss_one (ps_set (i := 2) sc_is_list.nd rfl (Or.inl rfl) (pv 3))))) (pss_one (ps_ret pe_bl))))), ?_⟩
    obtain ⟨x, m, rfl, h⟩ := h
    refine ⟨_, rfl, .int m, rfl, thg_int, true, rfl, iteF ?_⟩
    rcases h with ⟨a, xs, rfl, hL, ht, k⟩ | ⟨n, ht, hn, k⟩
    · refine ⟨_, rfl, _, _, _, _, true, rfl, .ty _, .base (.lst hL), kit_ty (by decide +kernel), true, rfl, iteF ?_⟩
      refine ⟨_, rfl, _, xs, rfl, .inl (SqL.of hL), rfl, _, rfl, ?_⟩
      cases xs with
      | nil => exact iteT k
      | cons y ys =>
        have e0 : decide (V.int (((y :: ys).length : Nat) : Int) = V.int 0) = false := decide_eq_false (fun q => by
          have q1 := V.int.inj q
          simp at q1
          omega)
        rw [e0]
        refine iteF ⟨_, rfl, ⟨_, rfl, a, rfl, ⟨_, SqL.of hL⟩, for_list (xs := y :: ys) (fun i σ H' => H' = H ∧ ∃ b hv, σ = [some (.ref a), some (.int m), some (.int b), hv] ∧ isListGo m (-1) (y :: ys) = isListGo m b ((y :: ys).drop i))
          ⟨rfl, -1, none, rfl, rfl⟩ (fun i σ H' _ p => by rw [p.1]; exact SqL.of hL) ?_ ?_⟩⟩
        · rintro i z σ H' hz ⟨rfl, b, hv, rfl, e⟩
          have hzt := ht z (List.mem_of_getElem? hz)
          refine ⟨_, rfl, _, rfl, z, m, rfl, hzt, _, rfl, ?_⟩
          rw [drop_cons hz] at e
          have no : isHandB z m = false → isListGo m (-1) (y :: ys) = false := fun q => by
            rw [e]
            cases z with
            | int h =>
              have q1 : (decide (0 ≤ h) && decide (h < m)) = false := q
              show (if 0 ≤ h ∧ h < m ∧ b < h then _ else false) = false
              rw [if_neg]
              rintro ⟨q2, q3, _⟩
              rw [decide_eq_true q2, decide_eq_true q3] at q1
              cases q1
            | _ => rfl
          cases hb : isHandB z m with
          | false =>
            refine iteT (iteT ?_)
            have e1 : isListB (y :: ys) m = false := by show (true && _) = false; rw [no hb]; rfl
            rw [e1] at k
            exact k
          | true =>
            refine iteF ?_
            cases z with
            | int h =>
              have q1 : (decide (0 ≤ h) && decide (h < m)) = true := hb
              have q2 := Bool.and_eq_true_iff.mp q1
              have q3 := of_decide_eq_true q2.1
              have q4 := of_decide_eq_true q2.2
              refine ⟨_, rfl, _, rfl, _, _, rfl, rfl, _, rfl, ?_⟩
              by_cases hle : h ≤ b
              · rw [decide_eq_true hle]
                refine iteT ?_
                have e1 : isListB (y :: ys) m = false := by
                  show (true && _) = false
                  rw [e]
                  show (true && (if 0 ≤ h ∧ h < m ∧ b < h then _ else false)) = false
                  rw [if_neg (by omega)]
                  rfl
                rw [e1] at k
                exact k
              · rw [decide_eq_false hle]
                refine iteF ⟨_, rfl, rfl, h, _, rfl, ?_⟩
                rw [e]
                show (if 0 ≤ h ∧ h < m ∧ b < h then _ else false) = _
                rw [if_pos ⟨q3, q4, by omega⟩]
            | _ => cases hb
        · rintro σ H' ⟨rfl, b, hv, rfl, e⟩
          have e1 : isListB (y :: ys) m = true := by
            show (true && _) = true
            rw [e, List.drop_length]
            rfl
          rw [e1] at k
          exact k
    · refine ⟨_, rfl, _, _, _, _, false, rfl, .ty _, ht, kit_ty hn, false, rfl, iteT (iteT k)⟩
def spEnough (K : PySem.W.Frag) : Sp := fun vs H Q _ => ∃ a xs, vs = [.ref a] ∧ SqL K H a xs ∧ Q (.int ((xs.length : Int) / 2 + 1)) H
theorem sc_enough : FnScope ["members"] ["members"] (defScope s_enough) := ⟨rfl, rfl, rfl, by decide +kernel, rfl, by decide +kernel, by decide +kernel⟩
set_option maxRecDepth 100000 in
theorem ok_enough (T : Txt K mg) : OkF P w K mg base CX0 1 (He.ga K "enough") ["members"] (spEnough K) := by
  obtain ⟨fd, F⟩ := T.F_enough
  refine ⟨fd, F.ok sc_enough (fun vs H Q E h => ?_) (fun cdv A outer s H vs Q E hr h => ?_), F.bindsN fun _ _ _ _ _ _ us hl => match us, hl with | [_], _ => rfl, F.kp⟩
  · obtain ⟨_, _, rfl, _⟩ := h
    rfl
  · refine ⟨_, PSs.nox (pss_one (ps_ret (pe_op op_add (pe_op op_fdiv (pe_callB call_len_seq (by rfl) T.b_len PySem.boot_len (pa_cons (pv 0) pa_nil)) pe_int) pe_int))), ?_⟩
    obtain ⟨a, xs, rfl, hL, k⟩ := h
    exact ⟨_, rfl, _, xs, rfl, .inl hL, _, _, rfl, rfl, ⟨by decide, by decide⟩, _, _, rfl, rfl, k⟩
/-- the first of the longest rows -/
def longV {α : Type} : List α → List (List α) → List α
  | b, [] => b
  | b, r :: rs => longV (if r.length > b.length then r else b) rs
def spLongest (K : PySem.W.Frag) : Sp := fun vs H Q _ => ∃ (a : Addr) (rs : List Addr) (xss : List (List V)), vs = [.ref a] ∧ SqL K H a (rs.map V.ref) ∧ Paired (fun r xs => SqL K H r xs) rs xss ∧
  ∀ p H', H p = none → (∀ b o, H b = some o → H' b = some o) → H' p = some (.lst (longV [] xss)) → Q (.ref p) H'
theorem paired_get {α β : Type} {R : α → β → Prop} : ∀ {xs : List α} {ys : List β} {i : Nat} {x : α}, Paired R xs ys → xs[i]? = some x → ∃ y, ys[i]? = some y ∧ R x y
  | _, _, _, _, .nil, e => by simp at e
  | _, _, 0, _, .cons r _, e => by simp at e; subst e; exact ⟨_, rfl, r⟩
  | _, _, i + 1, x, .cons _ t, e => by
    obtain ⟨u, h1, h2⟩ := paired_get (i := i) (x := x) t (by simpa using e)
    exact ⟨u, by simpa using h1, h2⟩
theorem paired_len {α β : Type} {R : α → β → Prop} : ∀ {xs : List α} {ys : List β}, Paired R xs ys → xs.length = ys.length
  | _, _, .nil => rfl
  | _, _, .cons _ t => by simp [paired_len t]
theorem upd_ext {H : Hp} {p : Addr} {o : HO} (h : H p = none) : ∀ b u, H b = some u → upd H p o b = some u := fun b u e => by
  rw [upd_ne (ne_of_none e h)]
  exact e
theorem ext_sql {K : PySem.W.Frag} {H H' : Hp} {a : Addr} {xs : List V} (e : ∀ b o, H b = some o → H' b = some o) (h : SqL K H a xs) : SqL K H' a xs := Same.seq e h
theorem sc_longest : FnScope ["rows", "best", "row"] ["rows"] (defScope s_longest) := ⟨rfl, rfl, rfl, by decide +kernel, rfl, by decide +kernel, by decide +kernel⟩
set_option maxRecDepth 100000 in
theorem ok_longest (T : Txt K mg) : OkF P w K mg base CX0 1 (He.ga K "longest") ["rows"] (spLongest K) := by
  obtain ⟨fd, F⟩ := T.F_longest
  refine ⟨fd, F.ok sc_longest (fun vs H Q E h => ?_) (fun cdv A outer s H vs Q E hr h => ?_), F.bindsN fun _ _ _ _ _ _ us hl => match us, hl with | [_], _ => rfl, F.kp⟩
  · obtain ⟨_, _, _, rfl, _⟩ := h
    rfl
  · refine ⟨_, PSs.nox (pss_cons (ps_set (i := 1) sc_longest.nd rfl (Or.inl rfl) (pe_lst pa_nil)) (pss_cons (ps_for PassesOwn.never rfl (pi_list (pv 0)) (pg_name (i := 2) sc_longest.nd rfl (Or.inl rfl)) (pss_one (ps_if (pt_cmpR op_gt (pe_callB call_len_seq (by rfl) T.b_len PySem.boot_len (pa_cons (pv 2) pa_nil)) (pe_callB call_len_seq (by rfl) T.b_len PySem.boot_len (pa_cons (pv 1) pa_nil)) (nomark _)) (pss_one (ps_set (i := 1) sc_longest.nd rfl (Or.inl rfl) (pv 2))) pss_nil))) (pss_one (ps_ret (pe_callTy (T := "list") call_list_of (by rfl) T.b_list (by decide +kernel) (pa_cons (pv 1) pa_nil)))))), ?_⟩
    obtain ⟨a, rs, xss, rfl, hL, hp, k⟩ := h
    refine ⟨Nat.zero_le _, fun l hl => ?_⟩
    have E1 := upd_ext (o := .lst []) hl
    refine ⟨_, rfl, a, rfl, ⟨_, ext_sql E1 hL⟩, for_list (xs := rs.map V.ref) (fun i σ H' => H' = upd H l (.lst []) ∧ ∃ b bs rv, σ = [some (.ref a), some (.ref b), rv] ∧ SqL K H' b bs ∧ longV [] xss = longV bs (xss.drop i))
      ⟨rfl, l, [], none, rfl, SqL.of upd_same, rfl⟩ (fun i σ H' _ p => by rw [p.1]; exact ext_sql E1 hL) ?_ ?_⟩
    · rintro i z σ H' hz ⟨rfl, b, bs, rv, rfl, hb, e⟩
      rw [List.getElem?_map] at hz
      cases hr2 : rs[i]? with
      | none => rw [hr2] at hz; cases hz
      | some r =>
        rw [hr2] at hz
        cases hz
        obtain ⟨xs, hx, hxs⟩ := paired_get hp hr2
        rw [drop_cons hx] at e
        refine ⟨_, rfl, r, xs, rfl, .inl (ext_sql E1 hxs), _, rfl, b, bs, rfl, .inl hb, _, _, rfl, rfl, _, rfl, ite2 (fun hc => ?_) (fun hc => ?_)⟩
        · have hc2 := of_decide_eq_true hc
          refine ⟨_, rfl, rfl, r, xs, _, rfl, ext_sql E1 hxs, ?_⟩
          rw [e]
          show longV (if xs.length > bs.length then xs else bs) _ = _
          rw [if_pos (by omega)]
        · refine ⟨rfl, b, bs, _, rfl, hb, ?_⟩
          rw [e]
          show longV (if xs.length > bs.length then xs else bs) _ = _
          rw [if_neg (fun q => hc (decide_eq_true (by omega)))]
    · rintro σ H' ⟨rfl, b, bs, rv, rfl, hb, e⟩
      refine ⟨_, rfl, b, bs, rfl, .inl hb, fun p hp2 => ?_⟩
      have hx : longV [] xss = bs := by
        rw [e, List.length_map, paired_len hp, List.drop_length]
        rfl
      refine k p _ ?_ (fun q o h => upd_ext hp2 q o (E1 q o h)) (by rw [upd_same, hx])
      cases q : H p with
      | none => rfl
      | some o => rw [E1 p o q] at hp2; cases hp2

end
end Fo
namespace Fo
open PySem PySem.Spec PyProof.Rows L2
section
variable {P : Program} {w : World} {K : PySem.W.Frag} {mg : Str → Option Value} {base : Heap}
def Sd (d : PyData) : Prop := d.canLay0 = true ∧ d.depth ≤ 8
def SdAll (ds : List PyData) : Prop := PyData.canLayAll0 ds = true ∧ PyData.depthAll ds ≤ 8
theorem shaped_of {d : PyData} (h : d.canLay0 = true) (h2 : d.depth ≤ 64) : SeqAt.shaped d = true := by
  show (d.canLay0 && decide (d.depth ≤ 64)) = true
  rw [h, decide_eq_true h2]
  rfl
theorem shaped_list {ds : List PyData} (h : SdAll ds) : SeqAt.shaped (.list ds) = true := shaped_of (by simpa [PyData.canLay0] using h.1) (by simp only [PyData.depth]; have := h.2; omega)
theorem Sd.shaped {d : PyData} (h : Sd d) : SeqAt.shaped d = true := shaped_of h.1 (by have := h.2; omega)
theorem sdAll_nil : SdAll [] := ⟨by simp [PyData.canLayAll0], by simp [PyData.depthAll]⟩
theorem sdAll_cons {d : PyData} {ds : List PyData} (h : Sd d) (hs : SdAll ds) : SdAll (d :: ds) := ⟨by simp [PyData.canLayAll0, h.1, hs.1], by simp only [PyData.depthAll]; have := h.2; have := hs.2; omega⟩
theorem sd_int (i : Int) : Sd (.int i) := ⟨by simp [PyData.canLay0], by simp [PyData.depth]⟩
theorem dpAll_ints {K : PySem.W.Frag} {H : Hp} : ∀ ns : List Int, DpAll K H (ns.map V.int) (ns.map PyData.int)
  | [] => .nil
  | n :: ns => .cons (.int n) (dpAll_ints ns)
theorem sdAll_ints : ∀ ns : List Int, SdAll (ns.map PyData.int)
  | [] => sdAll_nil
  | n :: ns => sdAll_cons (sd_int n) (sdAll_ints ns)
theorem dpAll_app {K : PySem.W.Frag} {H : Hp} : ∀ {xs ys : List V} {ds es : List PyData}, DpAll K H xs ds → DpAll K H ys es → DpAll K H (xs ++ ys) (ds ++ es)
  | _, _, _, _, .nil, h => h
  | _, _, _, _, .cons a b, h => .cons a (dpAll_app b h)
theorem sdAll_app : ∀ {ds es : List PyData}, SdAll ds → SdAll es → SdAll (ds ++ es)
  | [], _, _, h => h
  | d :: ds, es, h, h2 => by
    have h1 : Sd d := ⟨by have := h.1; simp [PyData.canLayAll0] at this; exact this.1, by have := h.2; simp only [PyData.depthAll] at this; omega⟩
    have h3 : SdAll ds := ⟨by have := h.1; simp [PyData.canLayAll0] at this; exact this.2, by have := h.2; simp only [PyData.depthAll] at this; omega⟩
    exact sdAll_cons h1 (sdAll_app h3 h2)
mutual
theorem dp_same {K : PySem.W.Frag} {H H' : Hp} (e : Same H H') : ∀ {v : V} {d : PyData}, Dp K H v d → Dp K H' v d
  | _, _, .non => .non
  | _, _, .bl b => .bl b
  | _, _, .int i => .int i
  | _, _, .str x => .str x
  | _, _, .lst h a => .lst (e.seq h) (dpAll_same e a)
  | _, _, .tup h a => .tup (by
      rcases h with (h | ⟨o, h⟩) | h
      · exact .inl (.inl (e _ _ h))
      · exact .inl (.inr ⟨o, e _ _ h⟩)
      · exact .inr h) (dpAll_same e a)
theorem dpAll_same {K : PySem.W.Frag} {H H' : Hp} (e : Same H H') : ∀ {vs : List V} {ds : List PyData}, DpAll K H vs ds → DpAll K H' vs ds
  | _, _, .nil => .nil
  | _, _, .cons a b => .cons (dp_same e a) (dpAll_same e b)
end
theorem _root_.L2.Dp.same {K : PySem.W.Frag} {H H' : Hp} {v : V} {d : PyData} (h : Dp K H v d) (e : Same H H') : Dp K H' v d := dp_same e h
theorem tyx_same {K : PySem.W.Frag} {H H' : Hp} (e : Same H H') {x : V} {t : Value} (h : TyX K H x t) : TyX K H' x t := by
  cases h with
  | base b =>
    refine .base ?_
    cases b with
    | non => exact .non
    | bl y => exact .bl y
    | int i => exact .int i
    | str y => exact .str y
    | flt y => exact .flt y
    | lst h => exact .lst (e _ _ h)
    | frz h => exact .frz (e _ _ h)
    | tup h => exact .tup (e _ _ h)
    | dK h => exact .dK (e _ _ h)
    | dT h => exact .dT (e _ _ h)
    | ins h a b c d f => exact .ins (e _ _ h) a b c d f
  | byt b => exact .byt b
  | set h => exact .set (e _ _ h)
  | kList h c => exact .kList h c
  | kTuple h c => exact .kTuple h c
  | kDict h c => exact .kDict h c
  | fTuple h => exact .fTuple (e _ _ h)
  | fDict h => exact .fDict (e _ _ h)
theorem thg_same {K : PySem.W.Frag} {H H' : Hp} (e : Same H H') {x : V} (h : Thg K H x) : Thg K H' x := by
  rcases h with h | h | ⟨h, n, t, k⟩
  · exact .inl h
  · exact .inr (.inl h)
  · refine .inr (.inr ⟨h, n, ?_, k⟩)
    exact tyx_same e t

theorem same_upd {H : Hp} {p : Addr} {o : HO} (h : H p = none) : Same H (upd H p o) := upd_ext h
theorem none_of {H H' : Hp} (e : Same H H') {p : Addr} (h : H' p = none) : H p = none := e.free h

end
end Fo
namespace Fo
open PySem PySem.Spec PyProof.Rows L2
section
variable {P : Program} {w : World} {K : PySem.W.Frag} {mg : Str → Option Value} {base : Heap}
/-! ### the program told once more, over plain data -/
structure Msg where
  hand : Int
  cnt : Int
  word : Str
deriving DecidableEq
abbrev Bal := Int × Int
structure Agr where
  bal : Bal
  mem : List Int
  row : List Msg
structure News where
  num : Int
  mem : List Int
  row : List Msg
  wit : List Int
inductive Told where
  | wish (m : Msg) | hold (m : Msg) (pl : Nat) | have_ (n : Nat) | take (n : Nat)
  | prepare (b : Bal) | promise (b : Bal) (row : List Msg) (a : Option Agr) | accept (a : Agr) | agree (b : Bal) | enter (n : News)
structure Ltr where
  snd : Int
  to : Nat
  num : Int
  told : Told
structure Off where
  bal : Bal
  mem : List Int
  proms : List (Int × List Msg × Option Agr)
  fwd : Option (List Int × List Msg)
  ags : List Int
structure Seat where
  num : Int
  mem : List Int
  news : Option News
  row : List Msg
  took : Nat
  hold : List (Int × Nat)
  bal : Bal
  agr : Option Agr
  off : Option Off
structure Hnd where
  up : Bool
  said : Nat
  high : Int
  past : List (Int × List Int × List Msg)
  seat : Option Seat
structure Flk where
  hands : List Hnd
  post : List Ltr
def Told.kind : Told → Str
  | .wish _ => "wish" | .hold _ _ => "hold" | .have_ _ => "have" | .take _ => "take" | .prepare _ => "prepare" | .promise _ _ _ => "promise" | .accept _ => "accept" | .agree _ => "agree" | .enter _ => "enter"
/-- ballots in their order -/
def Bal.lt (a b : Bal) : Bool := if a.1 = b.1 then decide (a.2 < b.2) else decide (a.1 < b.1)
def noBal : Bal := (0, -1)
def enoughN (n : Nat) : Nat := n / 2 + 1
def Seat.fresh (num : Int) (mem : List Int) (news : Option News) : Seat := ⟨num, mem, news, [], 0, mem.map fun h => (h, 0), noBal, none, none⟩
def Seat.lead (s : Seat) : Int := s.mem.headD 0
def Seat.still (s : Seat) : Bool := decide (s.bal ≠ noBal)
def Seat.others (s : Seat) (i : Nat) : List Int := s.mem.filter fun h => decide (h ≠ (i : Int))
def mail (i : Nat) (s : Seat) (hs : List Int) (t : Told) : List Ltr := hs.map fun h => ⟨i, h.toNat, s.num, t⟩
/-- the value of a key, a key set -/
def putA {α : Type} (k : Int) (v : α) (l : List (Int × α)) : List (Int × α) :=
  if (l.any fun p => decide (p.1 = k)) = true then l.map fun p => if p.1 = k then (p.1, v) else p else l ++ [(k, v)]
def getA {α : Type} (k : Int) (d : α) (l : List (Int × α)) : α := ((l.find? fun p => decide (p.1 = k)).map (·.2)).getD d
/-- insertion, falling and rising -/
def insD (x : Nat) : List Nat → List Nat
  | [] => [x]
  | y :: r => if y ≤ x then x :: y :: r else y :: insD x r
def sortD : List Nat → List Nat
  | [] => []
  | x :: r => insD x (sortD r)
def insA (x : Int) : List Int → List Int
  | [] => [x]
  | y :: r => if x ≤ y then x :: y :: r else y :: insA x r
def sortA : List Int → List Int
  | [] => []
  | x :: r => insA x (sortA r)
def Seat.note (s : Seat) (k : Int) (n : Nat) : Seat := { s with hold := putA k n s.hold }
def Seat.most (s : Seat) : Nat := (sortD (s.hold.map (·.2))).getD (enoughN s.mem.length - 1) 0
/-- the first hand takes what enough hands hold -/
def Seat.tweh (s : Seat) (i : Nat) : Seat × List Ltr :=
  let s1 := s.note i s.row.length
  if s1.most > s1.took then ({ s1 with took := s1.most }, mail i s (s.others i) (.take s1.most)) else (s1, [])
def Seat.wish (s : Seat) (i : Nat) (m : Msg) : Seat × List Ltr :=
  if s.still = true ∨ m ∈ s.row then (s, []) else
    let r := ({ s with row := s.row ++ [m] } : Seat).tweh i
    (r.1, mail i s (s.others i) (.hold m s.row.length) ++ r.2)
def Seat.holdC (s : Seat) (i : Nat) (snd : Int) (m : Msg) (pl : Nat) : Seat × List Ltr :=
  if s.still = true ∨ s.row.length < pl then (s, []) else
    let s1 := if pl = s.row.length then { s with row := s.row ++ [m] } else s
    (s1, [⟨i, snd.toNat, s.num, .have_ s1.row.length⟩])
def Seat.haveC (s : Seat) (i : Nat) (snd : Int) (n : Nat) : Seat × List Ltr := (s.note snd (max (getA snd 0 s.hold) n)).tweh i
def Seat.takeC (s : Seat) (n : Nat) : Seat := { s with took := max s.took (min n s.row.length) }
def Seat.prepC (s : Seat) (i : Nat) (snd : Int) (b : Bal) : Seat × List Ltr :=
  if Bal.lt s.bal b = true then ({ s with bal := b }, [⟨i, snd.toNat, s.num, .promise b s.row s.agr⟩]) else (s, [])
/-- what was agreed to by the greatest ballot among the promises -/
def bstep (b a : Option Agr) : Option Agr := match a, b with
  | some a, none => some a
  | some a, some b => if Bal.lt b.bal a.bal = true then some a else some b
  | none, b => b
def bestA : Option Agr → List (Int × List Msg × Option Agr) → Option Agr
  | b, [] => b
  | b, (_, _, a) :: r => bestA (bstep b a) r
def Off.forward (o : Off) : List Int × List Msg := match bestA none o.proms with
  | some a => (a.mem, a.row)
  | none => (o.mem, longV [] (o.proms.map fun p => p.2.1))
def Seat.promC (s : Seat) (i : Nat) (snd : Int) (b : Bal) (row : List Msg) (a : Option Agr) : Seat × List Ltr := match s.off with
  | none => (s, [])
  | some o => if o.bal ≠ b ∨ snd ∈ o.proms.map (·.1) then (s, []) else
    let o1 := { o with proms := o.proms ++ [(snd, row, a)] }
    if o1.proms.length = enoughN s.mem.length then ({ s with off := some { o1 with fwd := some o1.forward } }, mail i s s.mem (.accept ⟨b, o1.forward.1, o1.forward.2⟩))
    else ({ s with off := some o1 }, [])
def Seat.accC (s : Seat) (i : Nat) (snd : Int) (a : Agr) : Seat × List Ltr :=
  if Bal.lt a.bal s.bal = true then (s, []) else ({ s with bal := a.bal, agr := some a }, [⟨i, snd.toNat, s.num, .agree a.bal⟩])
/-- all hands of two lists, rising, each once -/
def bothOf (a b : List Int) : List Int := sortA (a ++ b.filter fun h => decide (h ∉ a))
def Seat.agrC (s : Seat) (i : Nat) (snd : Int) (b : Bal) : Seat × List Ltr := match s.off with
  | none => (s, [])
  | some o => if o.bal ≠ b ∨ snd ∈ o.ags then (s, []) else
    let o1 := { o with ags := o.ags ++ [snd] }
    if o1.ags.length = enoughN s.mem.length then
      let f := o1.fwd.getD ([], [])
      ({ s with off := some o1 }, mail i s (bothOf s.mem f.1) (.enter ⟨s.num + 1, f.1, f.2, sortA o1.ags⟩))
    else ({ s with off := some o1 }, [])
def Hnd.join (h : Hnd) (i : Nat) (n : News) : Hnd := if (i : Int) ∈ n.mem ∧ h.high < n.num then { h with seat := some (Seat.fresh n.num n.mem (some n)), high := n.num } else h
def Hnd.enterC (h : Hnd) (i : Nat) (n : News) : Hnd := match h.seat with
  | some s => if s.num ≠ n.num - 1 then h else ({ h with past := h.past ++ [(s.num, s.mem, n.row)], seat := none } : Hnd).join i n
  | none => h.join i n
def Seat.read (s : Seat) (i : Nat) (l : Ltr) : Seat × List Ltr := match l.told with
  | .wish m => s.wish i m
  | .hold m pl => s.holdC i l.snd m pl
  | .have_ n => s.haveC i l.snd n
  | .take n => (s.takeC n, [])
  | .prepare b => s.prepC i l.snd b
  | .promise b row a => s.promC i l.snd b row a
  | .accept a => s.accC i l.snd a
  | .agree b => s.agrC i l.snd b
  | .enter _ => (s, [])
def Hnd.over (h : Hnd) (i : Nat) (l : Ltr) : Hnd × List Ltr :=
  if h.up = false then (h, []) else match l.told with
    | .enter n => (h.enterC i n, [])
    | _ => match h.seat with
      | none => (h, [])
      | some s => if s.num = l.num then ({ h with seat := some (s.read i l).1 }, (s.read i l).2) else (h, [])
def Hnd.new : Hnd := ⟨true, 0, -1, [], none⟩
def Flk.new (many : Nat) (first : List Int) : Flk :=
  ⟨(List.range many).map fun (i : Nat) => if (i : Int) ∈ first then { Hnd.new with seat := some (Seat.fresh 0 first none), high := 0 } else Hnd.new, []⟩
def Flk.hand (f : Flk) (i : Nat) : Hnd := f.hands.getD i Hnd.new
def Flk.setHand (f : Flk) (i : Nat) (h : Hnd) : Flk := { f with hands := f.hands.set i h }
def Flk.come (f : Flk) (p : Nat) : Flk := match f.post[p]? with
  | none => f
  | some l => let r := (f.hand l.to).over l.to l
    ⟨f.hands.set l.to r.1, f.post.eraseIdx p ++ r.2⟩
def Flk.lose (f : Flk) (p : Nat) : Flk := { f with post := f.post.eraseIdx p }
def Flk.double (f : Flk) (p : Nat) : Flk := match f.post[p]? with
  | none => f
  | some l => { f with post := f.post ++ [l] }
def Flk.calm : Nat → Flk → Flk
  | 0, f => f
  | n + 1, f => if f.post = [] then f else Flk.calm n (f.come 0)
/-- deeds of a hand that may do them -/
def Hnd.say (h : Hnd) (i : Nat) (s : Seat) (word : Str) : Hnd × List Ltr := ({ h with said := h.said + 1 }, [⟨i, s.lead.toNat, s.num, .wish ⟨i, h.said, word⟩⟩])
def pressGo (i : Nat) (s : Seat) : Nat → List Msg → List Ltr
  | _, [] => []
  | p, m :: r => mail i s (s.others i) (.hold m p) ++ pressGo i s (p + 1) r
def Seat.press (s : Seat) (i : Nat) : List Ltr := pressGo i s 0 s.row ++ mail i s (s.others i) (.take s.took)
def Seat.propose (s : Seat) (i : Nat) (ms : List Int) : Seat × List Ltr :=
  let last := match s.off with | some o => max s.bal.1 o.bal.1 | none => s.bal.1
  ({ s with off := some ⟨(last + 1, i), ms, [], none, []⟩ }, mail i s s.mem (.prepare (last + 1, i)))

end
end Fo
namespace Fo
open PySem PySem.Spec PyProof.Rows L2
section
variable {P : Program} {w : World} {K : PySem.W.Frag} {mg : Str → Option Value} {base : Heap}
/-! ### ghosts: D what never changes any more, own what the folk may change -/
inductive Tag where
  | folk | post | hand (i : Nat) | past (i : Nat) | seat (i : Nat) | row (i : Nat) | hold (i : Nat) | off (i : Nat) | proms (i : Nat) | ags (i : Nat)
deriving DecidableEq
structure Gh where
  D : Hp
  own : Addr → Option Tag
structure Ok (g : Gh) (H : Hp) : Prop where
  sub : Same g.D H
  sep : ∀ a t, g.own a = some t → g.D a = none
  liv : ∀ a t, g.own a = some t → H a ≠ none
/-- from g, H to g', H': only what T names has changed, and what is new -/
structure Go (T : Tag → Prop) (g : Gh) (H : Hp) (g' : Gh) (H' : Hp) : Prop where
  ok : Ok g' H'
  D : Same g.D g'.D
  Dn : ∀ a o, g'.D a = some o → g.D a = some o ∨ H a = none
  own : ∀ a t, g.own a = some t → g'.own a = some t
  ownN : ∀ a t, g'.own a = some t → g.own a = some t ∨ (H a = none ∧ T t)
  fr : ∀ a o, H a = some o → (∀ t, g.own a = some t → ¬ T t) → H' a = some o
theorem Go.dom {T : Tag → Prop} {g g' : Gh} {H H' : Hp} (e : Go T g H g' H') {a : Addr} (h : H' a = none) : H a = none := by
  cases q : H a with
  | none => rfl
  | some o =>
    exfalso
    cases w : g.own a with
    | none =>
      have := e.fr a o q (fun t z => by rw [w] at z; cases z)
      rw [this] at h
      cases h
    | some t => exact e.ok.liv a t (e.own a t w) h
theorem Go.refl {T : Tag → Prop} {g : Gh} {H : Hp} (o : Ok g H) : Go T g H g H := ⟨o, Same.refl _, fun _ _ h => .inl h, fun _ _ h => h, fun _ _ h => .inl h, fun _ _ h _ => h⟩
theorem Go.trans {T : Tag → Prop} {g g1 g2 : Gh} {H H1 H2 : Hp} (a : Go T g H g1 H1) (b : Go T g1 H1 g2 H2) : Go T g H g2 H2 where
  ok := b.ok
  D := a.D.trans b.D
  Dn := fun x o h => by
    rcases b.Dn x o h with h | h
    · exact a.Dn x o h
    · exact .inr (a.dom h)
  own := fun x t h => b.own x t (a.own x t h)
  ownN := fun x t h => by
    rcases b.ownN x t h with h | ⟨h, k⟩
    · exact a.ownN x t h
    · exact .inr ⟨a.dom h, k⟩
  fr := fun x o h n => by
    refine b.fr x o (a.fr x o h n) fun t q => ?_
    rcases a.ownN x t q with q | ⟨q, _⟩
    · exact n t q
    · rw [q] at h
      cases h
theorem Go.mono {T T' : Tag → Prop} {g g' : Gh} {H H' : Hp} (a : Go T g H g' H') (h : ∀ t, T t → T' t) : Go T' g H g' H' :=
  ⟨a.ok, a.D, a.Dn, a.own, fun x t q => (a.ownN x t q).imp id fun ⟨u, v⟩ => ⟨u, h t v⟩, fun x o q n => a.fr x o q fun t u v => n t u (h t v)⟩
/-- a thing of the caller's stays -/
theorem Go.keep {T : Tag → Prop} {g g' : Gh} {H H' : Hp} (e : Go T g H g' H') {a : Addr} {o : HO} (h : H a = some o) (n : g.own a = none) : H' a = some o := e.fr a o h fun t q => by rw [n] at q; cases q
theorem Go.free {T : Tag → Prop} {g g' : Gh} {H H' : Hp} (e : Go T g H g' H') {a : Addr} {o : HO} (h : H a = some o) (n : g.own a = none) : g'.own a = none := by
  cases q : g'.own a with
  | none => rfl
  | some t =>
    rcases e.ownN a t q with q | ⟨q, _⟩
    · rw [n] at q; cases q
    · rw [q] at h; cases h
theorem Go.notD {T : Tag → Prop} {g g' : Gh} {H H' : Hp} (e : Go T g H g' H') {a : Addr} {o : HO} (h : H a = some o) (n : g.D a = none) : g'.D a = none := by
  cases q : g'.D a with
  | none => rfl
  | some u =>
    rcases e.Dn a u q with q | q
    · rw [n] at q; cases q
    · rw [q] at h; cases h
/-- an owned object that T does not name stays -/
theorem Go.stay {T : Tag → Prop} {g g' : Gh} {H H' : Hp} (e : Go T g H g' H') {a : Addr} {o : HO} {t : Tag} (h : H a = some o) (n : g.own a = some t) (ht : ¬ T t) : H' a = some o := e.fr a o h fun u q => by rw [n] at q; cases q; exact ht
theorem Go.dstay {T : Tag → Prop} {g g' : Gh} {H H' : Hp} (o : Ok g H) (e : Go T g H g' H') {a : Addr} {u : HO} (h : g.D a = some u) : H' a = some u := e.ok.sub a u (e.D a u h)
/-- an object of T is changed -/
theorem Go.set {T : Tag → Prop} {g : Gh} {H : Hp} {p : Addr} {t : Tag} {o : HO} (k : Ok g H) (h : g.own p = some t) (ht : T t) : Go T g H g (upd H p o) where
  ok := ⟨fun a u q => by
      rw [upd_ne (fun e => by rw [e, k.sep p t h] at q; cases q)]
      exact k.sub a u q, k.sep, fun a u q => by
      by_cases e : a = p
      · rw [e, upd_same]; exact fun z => nomatch z
      · rw [upd_ne e]; exact k.liv a u q⟩
  D := Same.refl _
  Dn := fun _ _ q => .inl q
  own := fun _ _ q => q
  ownN := fun _ _ q => .inl q
  fr := fun a u q n => by
    rw [upd_ne (fun e => n t (by rw [e]; exact h) ht)]
    exact q
/-- a new object that never changes any more -/
def Gh.addD (g : Gh) (p : Addr) (o : HO) : Gh := ⟨upd g.D p o, g.own⟩
theorem Ok.dnone {g : Gh} {H : Hp} (k : Ok g H) {p : Addr} (h : H p = none) : g.D p = none := k.sub.free h
theorem Ok.onone {g : Gh} {H : Hp} (k : Ok g H) {p : Addr} (h : H p = none) : g.own p = none := by
  cases q : g.own p with
  | none => rfl
  | some t => exact absurd h (k.liv p t q)
theorem Go.newD {T : Tag → Prop} {g : Gh} {H : Hp} {p : Addr} {o : HO} (k : Ok g H) (h : H p = none) : Go T g H (g.addD p o) (upd H p o) where
  ok := ⟨fun a u q => by
      by_cases e : a = p
      · rw [e] at q ⊢
        have q2 : upd g.D p o p = some u := q
        rw [upd_same] at q2 ⊢
        exact q2
      · have q2 : upd g.D p o a = some u := q
        rw [upd_ne e] at q2 ⊢
        exact k.sub a u q2, fun a t q => by
      have e : a ≠ p := fun e => by rw [e] at q; have q2 : g.own p = some t := q; rw [k.onone h] at q2; cases q2
      show upd g.D p o a = none
      rw [upd_ne e]
      exact k.sep a t q, fun a t q => by
      by_cases e : a = p
      · rw [e, upd_same]; exact fun z => nomatch z
      · rw [upd_ne e]; exact k.liv a t q⟩
  D := same_upd (k.dnone h)
  Dn := fun a u q => by
    by_cases e : a = p
    · exact .inr (e ▸ h)
    · have q2 : upd g.D p o a = some u := q
      rw [upd_ne e] at q2
      exact .inl q2
  own := fun _ _ q => q
  ownN := fun _ _ q => .inl q
  fr := fun a u q _ => same_upd h a u q
/-- a new object of the folk's -/
def Gh.addO (g : Gh) (p : Addr) (t : Tag) : Gh := ⟨g.D, fun a => if a = p then some t else g.own a⟩
theorem addO_same {g : Gh} {p : Addr} {t : Tag} : (g.addO p t).own p = some t := if_pos rfl
theorem addO_ne {g : Gh} {p a : Addr} {t : Tag} (h : a ≠ p) : (g.addO p t).own a = g.own a := if_neg h
theorem Go.newO {T : Tag → Prop} {g : Gh} {H : Hp} {p : Addr} {t : Tag} {o : HO} (k : Ok g H) (h : H p = none) (ht : T t) : Go T g H (g.addO p t) (upd H p o) where
  ok := ⟨fun a u q => same_upd h a u (k.sub a u q), fun a u q => by
      by_cases e : a = p
      · rw [e]; exact k.dnone h
      · rw [addO_ne e] at q
        exact k.sep a u q, fun a u q => by
      by_cases e : a = p
      · rw [e, upd_same]; exact fun z => nomatch z
      · rw [addO_ne e] at q
        rw [upd_ne e]; exact k.liv a u q⟩
  D := Same.refl _
  Dn := fun _ _ q => .inl q
  own := fun a u q => by
    rw [addO_ne (fun e => by rw [e, k.onone h] at q; cases q)]
    exact q
  ownN := fun a u q => by
    by_cases e : a = p
    · rw [e, addO_same] at q
      cases q
      exact .inr ⟨e ▸ h, ht⟩
    · rw [addO_ne e] at q
      exact .inl q
  fr := fun a u q _ => same_upd h a u q
/-- a heap that grows by the caller's own things -/
theorem Go.ext {T : Tag → Prop} {g : Gh} {H H' : Hp} (k : Ok g H) (e : Same H H') : Go T g H g H' where
  ok := ⟨k.sub.trans e, k.sep, fun a t q z => k.liv a t q (e.free z)⟩
  D := Same.refl _
  Dn := fun _ _ q => .inl q
  own := fun _ _ q => q
  ownN := fun _ _ q => .inl q
  fr := fun a o q _ => e a o q
/-- the caller changes a thing of its own -/
theorem Ok.mine {g : Gh} {H : Hp} {a : Addr} {o : HO} (k : Ok g H) (hD : g.D a = none) (hO : g.own a = none) : Ok g (upd H a o) := ⟨fun b u q => by
    rw [upd_ne (fun e => by rw [e, hD] at q; cases q)]
    exact k.sub b u q, k.sep, fun b t q => by
    rw [upd_ne (fun e => by rw [e, hO] at q; cases q)]
    exact k.liv b t q⟩

/-! ### fields by their places -/
theorem zl {ks : List Str} (hn : ks.Nodup) : ∀ {vs : List V} {i : Nat} {k : Str} {v : V}, ks[i]? = some k → vs[i]? = some v → (ks.zip vs).lookup k = some v := by
  induction ks with
  | nil => intro vs i k v h; simp at h
  | cons x ks ih =>
    intro vs i k v h1 h2
    cases vs with
    | nil => simp at h2
    | cons y vs =>
      cases i with
      | zero =>
        simp at h1 h2
        subst h1 h2
        simp [List.lookup]
      | succ i =>
        have h3 : ks[i]? = some k := by simpa using h1
        have h4 : vs[i]? = some v := by simpa using h2
        have hx : (k == x) = false := beq_eq_false_iff_ne.mpr fun e => by
          subst e
          exact (List.nodup_cons.mp hn).1 (List.mem_of_getElem? h3)
        show List.lookup k ((x, y) :: ks.zip vs) = some v
        rw [List.lookup_cons, hx]
        exact ih (List.nodup_cons.mp hn).2 h3 h4
theorem zn {ks : List Str} {k : Str} (h : ks.contains k = false) : ∀ {vs : List V}, (ks.zip vs).lookup k = none := by
  induction ks with
  | nil => intro vs; rfl
  | cons x ks ih =>
    intro vs
    rw [List.contains_cons, Bool.or_eq_false_iff] at h
    cases vs with
    | nil => rfl
    | cons y vs =>
      show List.lookup k ((x, y) :: ks.zip vs) = none
      rw [List.lookup_cons, h.1]
      exact ih h.2
theorem zp {ks : List Str} (hn : ks.Nodup) : ∀ {vs : List V} {i : Nat} {k : Str} {v : V}, ks[i]? = some k → i < vs.length → putF k v (ks.zip vs) = ks.zip (vs.set i v) := by
  induction ks with
  | nil => intro vs i k v h; simp at h
  | cons x ks ih =>
    intro vs i k v h1 h2
    cases vs with
    | nil => simp at h2
    | cons y vs =>
      cases i with
      | zero =>
        simp at h1
        subst h1
        show (if x = x then _ else _) = _
        rw [if_pos rfl]
        rfl
      | succ i =>
        have h3 : ks[i]? = some k := by simpa using h1
        have h4 : i < vs.length := by simpa using h2
        show (if x = k then _ else (x, y) :: putF k v (ks.zip vs)) = _
        rw [if_neg fun e => by subst e; exact (List.nodup_cons.mp hn).1 (List.mem_of_getElem? h3), ih (List.nodup_cons.mp hn).2 h3 h4]
        rfl
/-- a field that is new -/
theorem zq {ks : List Str} (hn : ks.Nodup) : ∀ {vs : List V} {k : Str} {v : V}, ks[vs.length]? = some k → putF k v (ks.zip vs) = ks.zip (vs ++ [v]) := by
  induction ks with
  | nil => intro vs k v h; simp at h
  | cons x ks ih =>
    intro vs k v h1
    cases vs with
    | nil =>
      simp at h1
      subst h1
      simp [putF]
    | cons y vs =>
      have h3 : ks[vs.length]? = some k := by simpa using h1
      show (if x = k then _ else (x, y) :: putF k v (ks.zip vs)) = _
      rw [if_neg fun e => by subst e; exact (List.nodup_cons.mp hn).1 (List.mem_of_getElem? h3), ih (List.nodup_cons.mp hn).2 h3]
      rfl
theorem zlen {ks : List Str} {n : Nat} (h : ks.length < n := by decide) {vs : List V} : (ks.zip vs).length < n := by
  rw [List.length_zip]
  omega
def letK : List Str := ["kind", "sender", "to", "number", "told"]
def offK : List Str := ["ballot", "members", "promises", "forward", "agrees"]
def seatK : List Str := ["number", "members", "news", "row", "took", "holding", "ballot", "agreed", "offer"]
def handK : List Str := ["me", "post", "standing", "said", "highest", "behind", "seat"]
def folkK : List Str := ["many", "_post", "_hands"]
theorem letK_nd : letK.Nodup := by decide +kernel
theorem offK_nd : offK.Nodup := by decide +kernel
theorem seatK_nd : seatK.Nodup := by decide +kernel
theorem handK_nd : handK.Nodup := by decide +kernel
theorem folkK_nd : folkK.Nodup := by decide +kernel
/-! ### what stands for what -/
def rstr : V → Prop := fun _ => True
def msgV (D : Hp) (v : V) (m : Msg) : Prop := ∃ a, v = .ref a ∧ D a = some (.tup [.int m.hand, .int m.cnt, .str m.word])
def rowV' (D : Hp) (v : V) (r : List Msg) : Prop := ∃ a xs, v = .ref a ∧ D a = some (.lst xs) ∧ Paired (msgV D) xs r
def memV (D : Hp) (v : V) (ms : List Int) : Prop := ∃ a, v = .ref a ∧ D a = some (.lst (ms.map V.int))
def balV (K : PySem.W.Frag) (D : Hp) (v : V) (b : Bal) : Prop := ∃ a, v = .ref a ∧ SqT K D a [.int b.1, .int b.2]
def agrV (K : PySem.W.Frag) (D : Hp) (v : V) (a : Agr) : Prop := ∃ t bv mv rv, v = .ref t ∧ D t = some (.tup [bv, mv, rv]) ∧ balV K D bv a.bal ∧ memV D mv a.mem ∧ rowV' D rv a.row
def oagrV (K : PySem.W.Frag) (D : Hp) (v : V) : Option Agr → Prop
  | none => v = .non
  | some a => agrV K D v a
def newsV (D : Hp) (v : V) (n : News) : Prop := ∃ t mv rv wv, v = .ref t ∧ D t = some (.tup [.int n.num, mv, rv, wv]) ∧ memV D mv n.mem ∧ rowV' D rv n.row ∧ memV D wv n.wit
def onewsV (D : Hp) (v : V) : Option News → Prop
  | none => v = .non
  | some n => newsV D v n
def pastV (D : Hp) (v : V) (p : Int × List Int × List Msg) : Prop := ∃ t mv rv, v = .ref t ∧ D t = some (.tup [.int p.1, mv, rv]) ∧ memV D mv p.2.1 ∧ rowV' D rv p.2.2
def toldV (K : PySem.W.Frag) (D : Hp) (v : V) : Told → Prop
  | .wish m => msgV D v m
  | .hold m pl => ∃ t mv, v = .ref t ∧ D t = some (.tup [mv, .int pl]) ∧ msgV D mv m
  | .have_ n => v = .int n
  | .take n => v = .int n
  | .prepare b => balV K D v b
  | .promise b row a => ∃ t bv rv av, v = .ref t ∧ D t = some (.tup [bv, rv, av]) ∧ balV K D bv b ∧ rowV' D rv row ∧ oagrV K D av a
  | .accept a => agrV K D v a
  | .agree b => balV K D v b
  | .enter n => newsV D v n
def letV (K : PySem.W.Frag) (D : Hp) (a : Addr) (l : Ltr) : Prop := ∃ dx tv, D a = some (.ins (He.ga K "Letter") dx (letK.zip [.str l.told.kind, .int l.snd, .int l.to, .int l.num, tv])) ∧ toldV K D tv l.told
theorem same_sqT {K : PySem.W.Frag} {H H' : Hp} (e : Same H H') {a : Addr} {xs : List V} (h : SqT K H a xs) : SqT K H' a xs := by
  rcases h with (h | ⟨o, h⟩) | h
  · exact .inl (.inl (e _ _ h))
  · exact .inl (.inr ⟨o, e _ _ h⟩)
  · exact .inr h
theorem paired_imp {α β : Type} {R S : α → β → Prop} (h : ∀ a b, R a b → S a b) : ∀ {xs : List α} {ys : List β}, Paired R xs ys → Paired S xs ys
  | _, _, .nil => .nil
  | _, _, .cons a t => .cons (h _ _ a) (paired_imp h t)
theorem paired_app {α β : Type} {R : α → β → Prop} : ∀ {xs us : List α} {ys ws : List β}, Paired R xs ys → Paired R us ws → Paired R (xs ++ us) (ys ++ ws)
  | _, _, _, _, .nil, s => s
  | _, _, _, _, .cons r t, s => .cons r (paired_app t s)
section
variable {D D' : Hp} (e : Same D D')
include e
theorem msgV.up {v : V} {m : Msg} (h : msgV D v m) : msgV D' v m := by obtain ⟨a, rfl, h⟩ := h; exact ⟨a, rfl, e _ _ h⟩
theorem rowV'.up {v : V} {r : List Msg} (h : rowV' D v r) : rowV' D' v r := by obtain ⟨a, xs, rfl, h, p⟩ := h; exact ⟨a, xs, rfl, e _ _ h, paired_imp (fun _ _ => msgV.up e) p⟩
theorem memV.up {v : V} {r : List Int} (h : memV D v r) : memV D' v r := by obtain ⟨a, rfl, h⟩ := h; exact ⟨a, rfl, e _ _ h⟩
theorem balV.up {K : PySem.W.Frag} {v : V} {b : Bal} (h : balV K D v b) : balV K D' v b := by obtain ⟨a, rfl, h⟩ := h; exact ⟨a, rfl, same_sqT e h⟩
theorem agrV.up {K : PySem.W.Frag} {v : V} {a : Agr} (h : agrV K D v a) : agrV K D' v a := by obtain ⟨t, bv, mv, rv, rfl, h, p, q, r⟩ := h; exact ⟨t, bv, mv, rv, rfl, e _ _ h, p.up e, q.up e, r.up e⟩
theorem oagrV.up {K : PySem.W.Frag} {v : V} : ∀ {a : Option Agr}, oagrV K D v a → oagrV K D' v a
  | none, h => h
  | some _, h => agrV.up e h
theorem newsV.up {v : V} {n : News} (h : newsV D v n) : newsV D' v n := by obtain ⟨t, mv, rv, wv, rfl, h, p, q, r⟩ := h; exact ⟨t, mv, rv, wv, rfl, e _ _ h, p.up e, q.up e, r.up e⟩
theorem onewsV.up {v : V} : ∀ {n : Option News}, onewsV D v n → onewsV D' v n
  | none, h => h
  | some _, h => newsV.up e h
theorem pastV.up {v : V} {p : Int × List Int × List Msg} (h : pastV D v p) : pastV D' v p := by obtain ⟨t, mv, rv, rfl, h, p, q⟩ := h; exact ⟨t, mv, rv, rfl, e _ _ h, p.up e, q.up e⟩
theorem toldV.up {K : PySem.W.Frag} {v : V} : ∀ {t : Told}, toldV K D v t → toldV K D' v t
  | .wish _, h => msgV.up e h
  | .hold _ _, h => by obtain ⟨t, mv, rfl, h, p⟩ := h; exact ⟨t, mv, rfl, e _ _ h, p.up e⟩
  | .have_ _, h => h
  | .take _, h => h
  | .prepare _, h => balV.up e h
  | .promise _ _ _, h => by obtain ⟨t, bv, rv, av, rfl, h, p, q, r⟩ := h; exact ⟨t, bv, rv, av, rfl, e _ _ h, p.up e, q.up e, r.up e⟩
  | .accept _, h => agrV.up e h
  | .agree _, h => balV.up e h
  | .enter _, h => newsV.up e h
theorem letV.up {K : PySem.W.Frag} {a : Addr} {l : Ltr} (h : letV K D a l) : letV K D' a l := by obtain ⟨dx, tv, h, p⟩ := h; exact ⟨dx, tv, e _ _ h, p.up e⟩
end

end
end Fo
namespace Fo
open PySem PySem.Spec PyProof.Rows L2
section
variable {P : Program} {w : World} {K : PySem.W.Frag} {mg : Str → Option Value} {base : Heap}
def promV (K : PySem.W.Frag) (D : Hp) (v : V) (p : List Msg × Option Agr) : Prop := ∃ t rv av, v = .ref t ∧ D t = some (.tup [rv, av]) ∧ rowV' D rv p.1 ∧ oagrV K D av p.2
def fwdV (D : Hp) (v : V) : Option (List Int × List Msg) → Prop
  | none => v = .non
  | some p => ∃ t mv rv, v = .ref t ∧ D t = some (.tup [mv, rv]) ∧ memV D mv p.1 ∧ rowV' D rv p.2
theorem promV.up {K : PySem.W.Frag} {D D' : Hp} (e : Same D D') {v : V} {p : List Msg × Option Agr} (h : promV K D v p) : promV K D' v p := by obtain ⟨t, rv, av, rfl, h, p, q⟩ := h; exact ⟨t, rv, av, rfl, e _ _ h, p.up e, q.up e⟩
theorem fwdV.up {D D' : Hp} (e : Same D D') {v : V} : ∀ {p : Option (List Int × List Msg)}, fwdV D v p → fwdV D' v p
  | none, h => h
  | some _, h => by obtain ⟨t, mv, rv, rfl, h, p, q⟩ := h; exact ⟨t, mv, rv, rfl, e _ _ h, p.up e, q.up e⟩
def agsK (l : List Int) : List (Key × V) := l.map fun h => (Sum.inl h, V.bl true)
def holdK (l : List (Int × Nat)) : List (Key × V) := l.map fun p => (Sum.inl p.1, V.int p.2)
structure OL where
  dx : Addr
  bv : V
  mv : V
  pa : Addr
  fv : V
  ga : Addr
  pkv : List (Key × V)
/-- what the class says, carried by its instances -/
structure OffF (K : PySem.W.Frag) : Prop where
  cl : Cls K (He.ga K "Offer")
  ballot : NoAttr K (He.ga K "Offer") "ballot"
  members : NoAttr K (He.ga K "Offer") "members"
  promises : NoAttr K (He.ga K "Offer") "promises"
  forward : NoAttr K (He.ga K "Offer") "forward"
  agrees : NoAttr K (He.ga K "Offer") "agrees"
structure OffR (K : PySem.W.Frag) (g : Gh) (H : Hp) (oa : Addr) (i : Nat) (o : Off) (L : OL) : Prop where
  own : g.own oa = some (.off i)
  obj : H oa = some (.ins (He.ga K "Offer") L.dx (offK.zip [L.bv, L.mv, .ref L.pa, L.fv, .ref L.ga]))
  bal : balV K g.D L.bv o.bal
  mem : memV g.D L.mv o.mem
  pown : g.own L.pa = some (.proms i)
  pobj : H L.pa = some (.dK L.pkv)
  prom : Paired (fun (q : Key × V) (p : Int × List Msg × Option Agr) => q.1 = Sum.inl p.1 ∧ promV K g.D q.2 p.2) L.pkv o.proms
  fwd : fwdV g.D L.fv o.fwd
  gown : g.own L.ga = some (.ags i)
  gobj : H L.ga = some (.dK (agsK o.ags))
  fc : OffF K
def OffO (K : PySem.W.Frag) (g : Gh) (H : Hp) (v : V) (i : Nat) : Option Off → Prop
  | none => v = .non
  | some o => ∃ oa L, v = .ref oa ∧ OffR K g H oa i o L
theorem OffR.go {K : PySem.W.Frag} {T : Tag → Prop} {g g' : Gh} {H H' : Hp} (e : Go T g H g' H') {oa : Addr} {i : Nat} {o : Off} {L : OL} (h : OffR K g H oa i o L) (n1 : ¬ T (.off i)) (n2 : ¬ T (.proms i)) (n3 : ¬ T (.ags i)) : OffR K g' H' oa i o L :=
  ⟨e.own _ _ h.own, e.stay h.obj h.own n1, h.bal.up e.D, h.mem.up e.D, e.own _ _ h.pown, e.stay h.pobj h.pown n2, paired_imp (fun _ _ q => ⟨q.1, q.2.up e.D⟩) h.prom, h.fwd.up e.D, e.own _ _ h.gown, e.stay h.gobj h.gown n3, h.fc⟩
theorem OffO.go {K : PySem.W.Frag} {T : Tag → Prop} {g g' : Gh} {H H' : Hp} (e : Go T g H g' H') {v : V} {i : Nat} (n1 : ¬ T (.off i)) (n2 : ¬ T (.proms i)) (n3 : ¬ T (.ags i)) : ∀ {o : Option Off}, OffO K g H v i o → OffO K g' H' v i o
  | none, h => h
  | some _, h => by obtain ⟨oa, L, rfl, h⟩ := h; exact ⟨oa, L, rfl, h.go e n1 n2 n3⟩
structure SL where
  dx : Addr
  mv : V
  nv : V
  ra : Addr
  ha : Addr
  bv : V
  av : V
  ov : V
  rxs : List V
structure SeatR (K : PySem.W.Frag) (g : Gh) (H : Hp) (sa : Addr) (i : Nat) (s : Seat) (L : SL) : Prop where
  own : g.own sa = some (.seat i)
  obj : H sa = some (.ins (He.ga K "Seat") L.dx (seatK.zip [.int s.num, L.mv, L.nv, .ref L.ra, .int s.took, .ref L.ha, L.bv, L.av, L.ov]))
  mem : memV g.D L.mv s.mem
  news : onewsV g.D L.nv s.news
  rown : g.own L.ra = some (.row i)
  robj : H L.ra = some (.lst L.rxs)
  row : Paired (msgV g.D) L.rxs s.row
  hown : g.own L.ha = some (.hold i)
  hobj : H L.ha = some (.dK (holdK s.hold))
  bal : balV K g.D L.bv s.bal
  agr : oagrV K g.D L.av s.agr
  off : OffO K g H L.ov i s.off
def SeatO (K : PySem.W.Frag) (g : Gh) (H : Hp) (v : V) (i : Nat) : Option Seat → Prop
  | none => v = .non
  | some s => ∃ sa L, v = .ref sa ∧ SeatR K g H sa i s L
/-- the tags of a seat -/
def TS_ (i : Nat) : Tag → Prop
  | .seat j | .row j | .hold j | .off j | .proms j | .ags j => j = i
  | _ => False
theorem SeatR.go {K : PySem.W.Frag} {T : Tag → Prop} {g g' : Gh} {H H' : Hp} (e : Go T g H g' H') {sa : Addr} {i : Nat} {s : Seat} {L : SL} (h : SeatR K g H sa i s L) (n : ∀ t, TS_ i t → ¬ T t) : SeatR K g' H' sa i s L :=
  ⟨e.own _ _ h.own, e.stay h.obj h.own (n _ rfl), h.mem.up e.D, h.news.up e.D, e.own _ _ h.rown, e.stay h.robj h.rown (n _ rfl), paired_imp (fun _ _ => msgV.up e.D) h.row, e.own _ _ h.hown, e.stay h.hobj h.hown (n _ rfl), h.bal.up e.D, h.agr.up e.D,
    h.off.go e (n _ rfl) (n _ rfl) (n _ rfl)⟩
theorem SeatO.go {K : PySem.W.Frag} {T : Tag → Prop} {g g' : Gh} {H H' : Hp} (e : Go T g H g' H') {v : V} {i : Nat} (n : ∀ t, TS_ i t → ¬ T t) : ∀ {s : Option Seat}, SeatO K g H v i s → SeatO K g' H' v i s
  | none, h => h
  | some _, h => by obtain ⟨oa, L, rfl, h⟩ := h; exact ⟨oa, L, rfl, h.go e n⟩
structure HL where
  dx : Addr
  bh : Addr
  bxs : List V
  sv : V
structure HandR (K : PySem.W.Frag) (g : Gh) (H : Hp) (a : Addr) (i : Nat) (pa : Addr) (h : Hnd) (L : HL) : Prop where
  own : g.own a = some (.hand i)
  obj : H a = some (.ins (He.ga K "Hand") L.dx (handK.zip [.int i, .ref pa, .bl h.up, .int h.said, .int h.high, .ref L.bh, L.sv]))
  bown : g.own L.bh = some (.past i)
  bobj : H L.bh = some (.lst L.bxs)
  past : Paired (pastV g.D) L.bxs h.past
  seat : SeatO K g H L.sv i h.seat
/-- the tags of a hand -/
def TH_ (i : Nat) : Tag → Prop
  | .hand j | .past j | .seat j | .row j | .hold j | .off j | .proms j | .ags j => j = i
  | _ => False
theorem TH_of {i : Nat} {t : Tag} (h : TS_ i t) : TH_ i t := by cases t <;> first | exact h | exact h.elim
theorem HandR.go {K : PySem.W.Frag} {T : Tag → Prop} {g g' : Gh} {H H' : Hp} (e : Go T g H g' H') {a : Addr} {i : Nat} {pa : Addr} {h : Hnd} {L : HL} (r : HandR K g H a i pa h L) (n : ∀ t, TH_ i t → ¬ T t) : HandR K g' H' a i pa h L :=
  ⟨e.own _ _ r.own, e.stay r.obj r.own (n _ rfl), e.own _ _ r.bown, e.stay r.bobj r.bown (n _ rfl), paired_imp (fun _ _ => pastV.up e.D) r.past, r.seat.go e fun t q => n t (TH_of q)⟩
structure PostR (K : PySem.W.Frag) (g : Gh) (H : Hp) (pa : Addr) (ls : List Ltr) (as : List Addr) : Prop where
  own : g.own pa = some .post
  obj : H pa = some (.lst (as.map V.ref))
  ls : Paired (letV K g.D) as ls
theorem PostR.go {K : PySem.W.Frag} {T : Tag → Prop} {g g' : Gh} {H H' : Hp} (e : Go T g H g' H') {pa : Addr} {ls : List Ltr} {as : List Addr} (h : PostR K g H pa ls as) (n : ¬ T .post) : PostR K g' H' pa ls as :=
  ⟨e.own _ _ h.own, e.stay h.obj h.own n, paired_imp (fun _ _ => letV.up e.D) h.ls⟩
/-- what a hand's doings may change: its own things and the post -/
def TP (i : Nat) : Tag → Prop := fun t => t = .post ∨ TH_ i t
/-- a store into one object of the folk's, the rest by Go -/
theorem go_one {g : Gh} {H : Hp} {p : Addr} {t : Tag} {o : HO} (k : Ok g H) (h : g.own p = some t) : Go (fun u => u = t) g H g (upd H p o) := Go.set k h rfl
theorem SeatR.put {K : PySem.W.Frag} {g : Gh} {H H' : Hp} {sa : Addr} {i : Nat} {s s' : Seat} {L L' : SL} (r : SeatR K g H sa i s L) (e : Go (fun u => u = .seat i) g H g H') (h1 : L'.dx = L.dx) (hr : L'.ra = L.ra) (hx : L'.rxs = L.rxs) (hh : L'.ha = L.ha) (ho : L'.ov = L.ov)
    (obj : H' sa = some (.ins (He.ga K "Seat") L'.dx (seatK.zip [.int s'.num, L'.mv, L'.nv, .ref L'.ra, .int s'.took, .ref L'.ha, L'.bv, L'.av, L'.ov])))
    (mem : memV g.D L'.mv s'.mem) (news : onewsV g.D L'.nv s'.news) (bal : balV K g.D L'.bv s'.bal) (agr : oagrV K g.D L'.av s'.agr) (e1 : s'.row = s.row) (e2 : s'.hold = s.hold) (e3 : s'.off = s.off) : SeatR K g H' sa i s' L' :=
  ⟨r.own, obj, mem, news, hr ▸ r.rown, by rw [hr, hx]; exact e.stay r.robj r.rown (by intro h; cases h), by rw [hx, e1]; exact r.row, hh ▸ r.hown, by rw [hh, e2]; exact e.stay r.hobj r.hown (by intro h; cases h), bal, agr,
    by rw [ho, e3]; exact r.off.go e (by intro h; cases h) (by intro h; cases h) (by intro h; cases h)⟩

end
end Fo
namespace Fo
open PySem PySem.Spec PyProof.Rows L2
section
variable {P : Program} {w : World} {K : PySem.W.Frag} {mg : Str → Option Value} {base : Heap}
/-! sorted over a dict, over its values -/
theorem sorted_srcI {X : Cx} {pins : List (Addr × Obj)} {σ : L2.St} {H : Hp} {s : Shared} {T : String} {r d : Addr} {n : Nat} {Pv : Nat → Value → Prop} {OK : Heap → Prop} {Q : VK} {b : Bool} {kw : List (Str × Value)} (I : Inv X pins σ H s)
    (Kd : PySem.W.KdlSrc X.prog X.w T r d n Pv OK) (hc : X.calm = true) (hok : OK s.heap) (ns : List Int) (hn : n = ns.length) (hl : ns.length ≤ 1000) (hv : ∀ i v, Pv i v → ∃ k t, ns[i]? = some k ∧ v = .int k t)
    (hk : ∀ a, Builtin.«list.sort» ⟨[.ref a], kw⟩ = Builtin.«list.sort» ⟨[.ref a], [(Str.ofString "reverse", .bool b)]⟩) (ha1 : argsOk "sorted" ⟨[.ref r], kw⟩) (ha2 : ∀ a, argsOk "list.sort" ⟨[a], kw⟩)
    (q : ∀ (ns' : List Int) (p : Addr), ns'.Perm ns → OrdB b ns' → H p = none → Q (.ref p) (upd H p (.lst (ns'.map V.int)))) : wpAny (model X.prog X.w) X.A (call (.builtin "sorted") [.ref r] kw) (EP X pins σ Q) X.xe s := by
  have h16 : n ≤ sizeLine := by rw [hn]; exact Nat.le_trans hl (by decide)
  refine call_function_entry_kw kind_sorted plain_sorted entry_sorted ha1 ?_
  unfold Builtin.«sorted»
  refine wpAny_bind (m := checkCount "sorted" 1 1 _) (wpAny_pure ?_)
  refine wpAny_bind (PySem.W.kdu_collect (A := X.A.in1) Kd (I.ok.hd hc) hok h16 fun h' tk acc hkp hacc => ?_)
  have hal : acc.toList.length = ns.length := by rw [Array.length_toList, hacc.1, hn]
  have hS : IntsAre acc.toList ns := by
    have gen : ∀ (us : List Value) (ms : List Int), us.length = ms.length → (∀ (j : Nat) (v : Value), us[j]? = some v → ∃ k t, ms[j]? = some k ∧ v = .int k t) → IntsAre us ms := by
      intro us
      induction us with
      | nil => intro ms e _; cases ms with
        | nil => exact .nil
        | cons _ _ => cases e
      | cons u us ih => intro ms e hq; cases ms with
        | nil => cases e
        | cons m ms =>
          obtain ⟨k, t, e1, e2⟩ := hq 0 u rfl
          cases e1
          subst e2
          exact .cons m t (ih ms (Nat.succ.inj e) fun j v hj => hq (j + 1) v hj)
    exact gen _ _ hal fun j v e => hv j v (hacc.2 j v (by rw [← Array.getElem?_toList]; exact e))
  have I1 : Inv X pins σ H { s with heap := h', toks := tk } := I.kept hkp
  have hz : acc.toList.length ≤ sizeLine := by rw [hal]; exact Nat.le_trans hl (by decide)
  refine wpAny_bind (wpAny_newList ?_ hz)
  have hoL : (h'.push (seqObj "list" acc.toList.toArray 0)).get? h'.objs.size = some (seqObj "list" acc.toList.toArray 0) := Heap.get?_push_size _ rfl
  show wpAny _ _ _ _ _ { s with heap := h'.push (seqObj "list" acc.toList.toArray 0), toks := tk }
  refine wpAny_bind (wpAny_holding (wpAny_call_entry_kw slot_list_sort ⟨_, hoL, rfl⟩ entry_list_sort ?_ (ha2 _)))
  rw [hk]
  refine SrtR.list_sort_ordR (s := { s with heap := h'.push (seqObj "list" acc.toList.toArray 0), toks := tk }) SrtO.swo_int hoL hz (fun h2 => SrtO.ints_sortable hS h2) fun out h1 h2 => ⟨_, rfl, ?_⟩
  obtain ⟨ns', k1, k2, k3⟩ := SrtR.ints_outR hS h1 h2
  obtain ⟨e', he'⟩ := PyProof.Rows.sortedHeap_at (vs := acc.toList) (out := if b = true then out.toArray.reverse else out.toArray) hoL
  have hlen : (ns'.map V.int).length ≤ sizeLine := by rw [List.length_map, k2.length_eq]; exact Nat.le_trans hl (by decide)
  have e0 : ((if b = true then out.toArray.reverse else out.toArray).toList).toArray = (if b = true then out.toArray.reverse else out.toArray) := Array.toArray_toList
  refine wpAny_pure ⟨_, rfl, .ref h'.objs.size, upd H h'.objs.size (.lst (ns'.map V.int)), I1.laid (t' := tk) (fun c u e => ?_) (Nat.le_refl _) ⟨hlen, _, e', vals_of_ints k1, by rw [e0]; exact he'⟩, rfl, q ns' _ k2 k3 (I1.hok.fresh (Nat.le_refl _))⟩
  have hb : c < h'.objs.size := Heap.lt_size e
  rw [PyProof.Rows.sortedHeap_old (Nat.ne_of_lt hb) (by rw [size_push']; exact Nat.lt_succ_of_lt hb)]
  exact Heap.get?_push_of_some _ e
theorem sort_none (a : Addr) : Builtin.«list.sort» ⟨[.ref a], []⟩ = Builtin.«list.sort» ⟨[.ref a], [(Str.ofString "reverse", .bool false)]⟩ := by
  first | rfl | kernel_rfl
/-- sorted(d), the keys whole numbers -/
def rSortedDI : List V → Hp → VK → Prop := fun xs H Q => ∃ (a : Addr) (kvs : List (Key × V)) (ks : List Int), xs = [.ref a] ∧ H a = some (.dK kvs) ∧ kvs.map (·.1) = ks.map Sum.inl ∧ ks.length ≤ 1000 ∧
  ∀ (ns : List Int) (p : Addr), ns.Perm ks → ns.Pairwise (· ≤ ·) → H p = none → Q (.ref p) (upd H p (.lst (ns.map V.int)))
theorem cr_sortedDI {X : Cx} (hc : X.calm = true) : CallR X (.builtin "sorted") rSortedDI := by
  intro pins s σ H xs us Q I r h
  obtain ⟨a, kvs, ks, rfl, hd, hks, hl, q⟩ := h
  rw [Vals.ref1 r]
  obtain ⟨z, lo, vs, rel, dd⟩ := dk_rd I.hok (.inl hd)
  obtain ⟨ep, hat⟩ := dd.dictAt
  have e1 : vs.map (·.1) = ks.map Sum.inl := rel.keys.symm.trans hks
  have e2 : vs.length = ks.length := by have e := congrArg List.length e1; rwa [List.length_map, List.length_map] at e
  refine sorted_srcI (b := false) I (PySem.W.kdl_dict (knd := mixKind X.prog X.w) (kvs := vs) (ep := ep) lo) hc hat ks e2 hl (fun i v hv => ?_) sort_none (PyProof.Rows.args_sorted1 _) (fun _ => PyProof.Rows.args_list_sort _) q
  obtain ⟨k, x, e3, e4⟩ := hv
  have e5 : (vs.map (·.1))[i]? = some k := by rw [List.getElem?_map, e3]; rfl
  rw [e1, List.getElem?_map] at e5
  cases e6 : ks[i]? with
  | none => rw [e6] at e5; cases e5
  | some y =>
    rw [e6] at e5
    have e7 : Sum.inl y = k := Option.some.inj e5
    subst e7
    obtain ⟨t, ev⟩ := Value.isInt_shape (k := y) (v := v) e4
    exact ⟨y, t, rfl, ev⟩
/-- d.values() as a value: a view of the dict -/
def viewO (r d : Addr) : HO := .ext fun h => h.IsValuesView r d
def tVals (td : TE) : TE := fun σ H Q => td σ H fun x H1 => ∃ d kvs, x = .ref d ∧ H1 d = some (.dK kvs) ∧ ∀ r, H1 r = none → Q (.ref r) (upd H1 r (viewO r d))
theorem pe_vals {X : Cx} {e : Expr} {apos cpos : Pos} {td : TE} (he : PE X e td) (hbase : attributeBase e "values" X.env (eval e X.env) = eval e X.env := by rfl) (hline : (apos.endLine == cpos.line) = true := by rfl) : PE X (.Call (.Attribute e "values" apos) [] [] cpos) (tVals td) := by
  refine ⟨fun pins s σ H Q I h => ?_⟩
  refine wpAny_Call_method (T := "dict") (id := "dict.values") hbase rfl hline F.plainAttrs_dict F.slot_dict_values F.type_dict_values (thn (he.run pins s σ H _ I h) fun u s1 w => ?_)
  obtain ⟨x, H1, I1, rx, d, kvs, rfl, hd, q⟩ := w
  obtain rfl : u = Value.ref d := rx
  obtain ⟨z, lo, vs, kv, hm⟩ := I1.hok d _ hd
  refine ⟨hm.typeIs, hm.mapOf.noDict, ?_⟩
  show wpAny _ _ (callWith cpos (.builtin "dict.values") [.ref d] [] []) _ X.xe s1
  refine method_meetsIn F.slot_dict_values F.entry_dict_values rfl (PySem.evalArgs_none ⟨rfl, hm.typeIs, F.args_dict_values_1 _, _, meets_dict_values (mixKind X.prog X.w) d lo, ⟨vs, hm⟩, ?_⟩)
  have at1 : (s1.heap.push { cls := .type "dict_values", data := .fields #[.ref d] }).get? s1.heap.objs.size = some { cls := .type "dict_values", data := .fields #[.ref d] } := Heap.get?_push_size _ rfl
  refine ⟨.ref s1.heap.objs.size, _, I1.laid (t' := s1.toks) (fun c u e => Heap.get?_push_of_some _ e) (Nat.le_refl _) (o := viewO s1.heap.objs.size d) ?_, rfl, q _ (I1.hok.fresh (Nat.le_refl _))⟩
  exact ⟨⟨_, at1, rfl, rfl⟩, ⟨_, at1⟩, fun h1 h2 p k => by obtain ⟨o, ho, x⟩ := p; exact ⟨o, k o ho, x⟩⟩
/-- sorted(d.values(), reverse=True) -/
def rSortedVR : List V → List V → Hp → VK → Prop := fun xs zs H Q => ∃ (r d : Addr) (kvs : List (Key × V)) (ns : List Int), xs = [.ref r] ∧ zs = [.bl true] ∧ H r = some (viewO r d) ∧ H d = some (.dK kvs) ∧ kvs.map (·.2) = ns.map V.int ∧ ns.length ≤ 1000 ∧
  ∀ (ns' : List Int) (p : Addr), ns'.Perm ns → ns'.Pairwise (· ≥ ·) → H p = none → Q (.ref p) (upd H p (.lst (ns'.map V.int)))
theorem cr_sortedVR {X : Cx} (hc : X.calm = true) : CallRK X (.builtin "sorted") [Str.ofString "reverse"] rSortedVR := by
  intro pins s σ H vs zs us ws Q I r rz h
  obtain ⟨v, d, kvs, ns, rfl, rfl, hv, hd, he, hl, q⟩ := h
  rw [Vals.ref1 r]
  obtain ⟨w1, rfl, e1⟩ := vals1 rz
  obtain rfl : w1 = Value.bool true := e1
  obtain ⟨z, lo, us2, rel, dd⟩ := dk_rd I.hok (.inl hd)
  obtain ⟨ep, hat⟩ := dd.dictAt
  have hview : s.heap.IsValuesView v d := (I.hok v _ hv).1
  have e2 : us2.length = ns.length := by
    have e := congrArg List.length he
    rw [List.length_map, List.length_map] at e
    rw [← e]
    exact (Paired.length rel).symm
  refine sorted_srcI (b := true) I (PySem.W.kdl_values (knd := mixKind X.prog X.w) (kvs := us2) (ep := ep) (r := v)) hc ⟨hview, hat⟩ ns e2 hl (fun i u hu => ?_) (fun _ => rfl) (PyProof.Rows.args_sorted_rev _ _) (fun _ => PyProof.Rows.args_list_sort_rev _ _) q
  obtain ⟨k, hk⟩ := hu
  have gen : ∀ {as : List (Key × V)} {bs : List (Key × Value)} {j : Nat} {k : Key} {u : Value}, KV as bs → bs[j]? = some (k, u) → ∃ x, as[j]? = some x ∧ RelV x.2 u := by
    intro as bs j k u hh
    induction hh generalizing j with
    | nil => intro e; simp at e
    | cons a t ih =>
      intro e
      cases j with
      | zero => simp at e; subst e; exact ⟨_, rfl, a.2⟩
      | succ j => exact ih (j := j) (by simpa using e)
  obtain ⟨x, hx, rx⟩ := gen rel hk
  have e5 : (kvs.map (·.2))[i]? = some x.2 := by rw [List.getElem?_map, hx]; rfl
  rw [he, List.getElem?_map] at e5
  cases e6 : ns[i]? with
  | none => rw [e6] at e5; cases e5
  | some y =>
    rw [e6] at e5
    have e7 : V.int y = x.2 := Option.some.inj e5
    rw [← e7] at rx
    obtain ⟨t, ev⟩ := rx
    exact ⟨y, t, rfl, ev⟩

end
end Fo
namespace Fo
open PySem PySem.Spec PyProof.Rows L2
section
variable {P : Program} {w : World} {K : PySem.W.Frag} {mg : Str → Option Value} {base : Heap}
/-! one pair of whole numbers greater than another -/
def rGtP (K : PySem.W.Frag) : R2 := fun x y H Q => ∃ (a b : Addr) (p q : Int × Int), x = .ref a ∧ y = .ref b ∧ SqT K H a [.int p.1, .int p.2] ∧ SqT K H b [.int q.1, .int q.2] ∧
  Q (.bl (Ob.lexAt (fun j => decide ([p.1, p.2].getD j 0 = [q.1, q.2].getD j 0)) (fun j => decide ([q.1, q.2].getD j 0 < [p.1, p.2].getD j 0)) (decide ([q.1, q.2].length < [p.1, p.2].length)) 0 (min [p.1, p.2].length [q.1, q.2].length))) H
theorem op_gtP {X : Cx} (hu : X.A.units < cLine) : OpR X (compareOp .Gt) (rGtP X.K) := by
  intro pins s σ H x y v u Q I rx ry h
  obtain ⟨a, b, p, q, rfl, rfl, ha, hb, qq⟩ := h
  cases rx
  cases ry
  obtain ⟨us, r1, t1, _⟩ := I.tuple ha
  obtain ⟨ws, r2, t2, _⟩ := I.tuple hb
  have i1 : IntsAre us [p.1, p.2] := Vals.ints (ns := [p.1, p.2]) r1
  have i2 : IntsAre ws [q.1, q.2] := Vals.ints (ns := [q.1, q.2]) r2
  have s1 : us.toArray.size = [p.1, p.2].length := by rw [List.size_toArray]; exact i1.length
  have s2 : ws.toArray.size = [q.1, q.2].length := by rw [List.size_toArray]; exact i2.length
  have g1 : ∀ j (h1 : j < us.toArray.size), ∃ t, us.toArray[j] = .int ([p.1, p.2].getD j 0) t := fun j h1 => PyProof.Rows.IntsAre.int_at i1 j _ (by simp only [List.size_toArray] at h1; simp [h1])
  have g2 : ∀ j (h1 : j < ws.toArray.size), ∃ t, ws.toArray[j] = .int ([q.1, q.2].getD j 0) t := fun j h1 => PyProof.Rows.IntsAre.int_at i2 j _ (by simp only [List.size_toArray] at h1; simp [h1])
  have R := Ob.RcOp.tuples_gt (A := X.A) (s := s) (e := fun j => decide ([p.1, p.2].getD j 0 = [q.1, q.2].getD j 0)) (r := fun j => decide ([q.1, q.2].getD j 0 < [p.1, p.2].getD j 0)) t1 t2 hu (fun j h1 h2 => by
      obtain ⟨z1, y1⟩ := g1 j h1
      obtain ⟨z2, y2⟩ := g2 j h2
      rw [y1, y2]
      have e0 : ([p.1, p.2].getD j 0 == [q.1, q.2].getD j 0) = decide ([p.1, p.2].getD j 0 = [q.1, q.2].getD j 0) := by
        cases hd : decide ([p.1, p.2].getD j 0 = [q.1, q.2].getD j 0) with
        | true => exact beq_iff_eq.mpr (of_decide_eq_true hd)
        | false => exact beq_eq_false_iff_ne.mpr (of_decide_eq_false hd)
      rw [← e0]
      exact SeqAt.EqAt.int_int _ _ _ _) (fun j h1 h2 _ => by
      obtain ⟨z1, y1⟩ := g1 j h1
      obtain ⟨z2, y2⟩ := g2 j h2
      rw [y1, y2]
      exact Ob.RcOp.gt_int _ _ _ _)
  rw [s1, s2] at R
  exact R X.prog X.w X.xe (EP X pins σ Q) ⟨.bl _, H, I, rfl, qq⟩

end
end Fo
namespace Fo
open PySem PySem.Spec PyProof.Rows L2
section
variable {P : Program} {w : World} {K : PySem.W.Frag} {mg : Str → Option Value} {base : Heap}
/-! a match on a text against written texts -/
/-- cases: each a written text and a suite -/
inductive McOk (X : Cx) : List MatchCase → List (Str × TS) → Prop where
  | nil : McOk X [] []
  | cons {k : Str} {j : Nat} {p q : Pos} {body : List Stmt} {t : TS} {cs : List MatchCase} {ts : List (Str × TS)} (hb : PSs X body t) (h : McOk X cs ts) : McOk X (⟨.MatchValue (.Constant (.str k) j p) q, none, body⟩ :: cs) ((k, t) :: ts)
def tMc (z : Str) : List (Str × TS) → TS
  | [] => tNext
  | (k, t) :: r => fun D σ H => if z = k then t D σ H else tMc z r D σ H
def tMatchS (te : TE) (ts : List (Str × TS)) : TS := fun D σ H => te σ H fun x H1 => ∃ z, x = .str z ∧ tMc z ts D σ H1
theorem mc_run {X : Cx} {pins : List (Addr × Obj)} {σ : L2.St} {H : Hp} {D : Ends} {z : Str} {u : Value} (hu : RelV (.str z) u) : ∀ {cs : List MatchCase} {ts : List (Str × TS)} (_ : McOk X cs ts) {s : Shared} {first : Bool}, Inv X pins σ H s → tMc z ts D σ H →
    wpAny (model X.prog X.w) X.A (matchCases cs X.env u first) (SP X pins D) X.xe s
  | _, _, .nil, s, first, I, h => wpAny_matchCases_nil ⟨σ, H, I, h⟩
  | _, _, .cons (k := k) (ts := ts) hb h, s, first, I, q => by
    refine wpAny_matchCases_cons (wpAny_matchPattern_Value (thn (pe_str.run pins s σ H (fun v H1 => v = .str k ∧ H1 = H) I ⟨rfl, rfl⟩) fun x s1 w => ?_))
    obtain ⟨y, H1, I1, ry, rfl, rfl⟩ := w
    refine thn (op_eq pins s1 σ H1 (.str z) (.str k) u x (fun v H2 => v = .bl (decide (V.str z = V.str k)) ∧ H2 = H1) I1 hu ry ⟨rfl, rfl, rfl⟩) fun c s2 w => ?_
    obtain ⟨y2, H2, I2, ry2, rfl, rfl⟩ := w
    cases (show c = Value.bool _ from ry2)
    refine wpAny_truthy_bool ?_
    by_cases e : z = k
    · have q2 : (if z = k then _ else _) := q
      rw [if_pos e] at q2
      rw [decide_eq_true (show V.str z = V.str k by rw [e])]
      refine wpAny_pure ?_
      exact hb.run pins s2 σ H2 D I2 q2
    · have q2 : (if z = k then _ else _) := q
      rw [if_neg e] at q2
      rw [decide_eq_false (show ¬ V.str z = V.str k from fun w => e (V.str.inj w))]
      exact mc_run hu h I2 q2
theorem ps_matchS {X : Cx} {e : Expr} {cs : List MatchCase} {pos : Pos} {te : TE} {ts : List (Str × TS)} (he : PE X e te) (h : McOk X cs ts) : PS X (.Match e cs pos) (tMatchS te ts) := by
  refine ⟨fun pins s σ H D I q => wpAny_Match (thn (he.run pins s σ H _ I q) fun u s1 w => ?_)⟩
  obtain ⟨x, H1, I1, rx, z, rfl, q1⟩ := w
  exact mc_run rx h I1 q1

end
end Fo
namespace Fo
open PySem PySem.Spec PyProof.Rows L2
section
variable {P : Program} {w : World} {K : PySem.W.Frag} {mg : Str → Option Value} {base : Heap}
/-! rules of my own: set(a list of iar), sorted of a dict's values falling, of a dict's keys, a match on a text -/
abbrev fso (w : World) : Obj := { cls := .type "set", dict := none, data := .set #[] 0 (.fresh 0 0 (!w.params.followText "set-order")) }
set_option maxHeartbeats 6400000 in
theorem set_of_lst {Pr : Program} {wo : World} {Ar : Around} {Er : Value → Shared → Prop} {st : Shared} {li : Addr} {its : Array Value} (zs : List Int) {Qr : Value → Shared → Prop} (calm : Ar.handled = none) (isl : st.heap.IsList li its) (iar : IntsAre its.toList zs)
    (few : zs.length + 1 < scanBound)
    (go : ∀ (hp : Heap) (tk c : Nat), SetR wo hp st.heap.objs.size (fun j => decide (j ∈ zs)) c → c ≤ zs.length → (∀ b o, st.heap.get? b = some o → hp.get? b = some o) → Qr (.ref st.heap.objs.size) { st with heap := hp, toks := tk }) :
    wpAny (model Pr wo) Ar (call (.type "set") [.ref li]) Qr Er st := by
  have sz : its.size = zs.length := by
    have z := IntsAre.length iar
    rwa [Array.length_toList] at z
  obtain ⟨cc, tl, mro⟩ := F.called_set.mro
  have made := F.called_set.made; have sub := F.called_set.sub
  refine wpAny_call (codeAny_of_tree ?_)
  show wpAny _ _ (callAny (.type "set") ⟨[.ref li], []⟩) _ _ _
  refine wpAny_pure ⟨Code.quiet_builtin _ (by decide +kernel), codeAny_builtin F.entry_type_call ?_⟩
  rw [Around.under_plain (weight_type_call_type _ _ _) rfl]
  have k1 := F.called_set.notType; have k2 := F.called_set.canCreate; have k3 := F.typeCall_set_1 (.ref li)
  repeat (any_goals (first | assumption | wp_step))
  refine codeAny_mono (code_set_led1 (.ref li) (E := Er) (Q₁ := fun ob s₁ => ob = .ref st.heap.objs.size ∧ s₁ = { st with heap := st.heap.push (fso wo) }) ⟨rfl, rfl⟩) fun rr s₁ hrr => ?_
  cases rr with
  | error e => exact hrr
  | ok fl => cases fl with
    | ret ob =>
      obtain ⟨rfl, rfl⟩ := hrr
      have at0 : (st.heap.push (fso wo)).get? st.heap.objs.size = some (fso wo) := Heap.get?_push_size _ rfl
      have ty0 : Shared.TypeIs { st with heap := st.heap.push (fso wo) } (.ref st.heap.objs.size) "set" := ⟨_, at0, rfl⟩
      have k4 := F.called_set.init.lookup; have k5 := F.called_set.init.bind (.ref st.heap.objs.size)
      repeat (any_goals (first | assumption | wp_step))
      refine codeAny_mono (codeAny_call_builtin (R := wants (fun r s₂ => r = .none ∧ ∃ hp tk c, s₂ = { st with heap := hp, toks := tk } ∧ SetR wo hp st.heap.objs.size (fun j => decide (j ∈ zs)) c ∧ c ≤ zs.length ∧
          ∀ b o, st.heap.get? b = some o → hp.get? b = some o) Er) F.called_set.init.plain F.entry_set_init (check_set_init_1 ty0 ?_)) fun r₂ s₂ hr₂ => ?_
      · obtain ⟨ol, hol, e1, nl, e2⟩ := isl
        obtain ⟨oc, od, odt, osl⟩ := ol
        simp only at e1 e2
        subst e1 e2
        have at1 : (st.heap.push (fso wo)).get? li = some { cls := .type "list", dict := od, data := .seq its nl, slots := osl } := Heap.get?_push_of_some _ hol
        have k6 := F.sub_list_set; have k7 := F.sub_list_frozenset
        have k8 : (Value.type "list" == Value.type "dict") = false := by decide
        have is1 : (st.heap.push (fso wo)).IsList li its := ⟨_, at1, rfl, nl, rfl⟩
        unfold Builtin.«set.__init__» noKeywords Builtin.Frozenset.updateFrom
        generalize keep : pyIter = it0
        wp_walk
        subst keep
        refine wpAny_pyIter_list is1 ?_
        refine wpAny_bind (wpAny_runValue ?_)
        have lt0 : li < st.heap.objs.size := Heap.lt_size hol
        have hh3 : Ar.in1.in1.in1.handled = none := by simp [calm]
        have n1 : li ≠ (st.heap.push (fso wo)).objs.size := by rw [Heap.size_push]; exact Nat.ne_of_lt (Nat.lt_succ_of_lt lt0)
        have n2 : st.heap.objs.size ∉ [(st.heap.push (fso wo)).objs.size, li] := by
          rw [Heap.size_push]
          simp only [List.mem_cons, List.not_mem_nil, or_false, not_or]
          exact And.intro (Nat.ne_of_lt (Nat.lt_succ_self _)) (Nat.ne_of_gt lt0)
        have vals : ∀ (i : Nat) (v : Value), its[i]? = some v → ∃ k t, zs[i]? = some k ∧ v = .int k t := fun i v hv => by
          have li' : i < zs.length := sz ▸ (Array.getElem?_eq_some_iff.mp hv).1
          obtain ⟨t, e⟩ := PyProof.Rows.IntsAre.int_at iar i v (by rw [Array.getElem?_toList]; exact hv)
          exact ⟨zs[i], t, List.getElem?_eq_getElem li', by rw [e, List.getD_eq_getElem?_getD, List.getElem?_eq_getElem li']; rfl⟩
        refine set_update_ints ((Walks.list hh3 _ li n1 its).toS) st.heap.objs.size n2 zs sz few vals (its.size - 0) 0 _ (by omega) (Nat.zero_le _) ⟨⟨_, Heap.get?_push_size _ rfl, rfl, rfl⟩, (is1.push _)⟩
          ⟨0, Nat.le_refl 0, setR_new_at (Heap.get?_push_of_some _ at0)⟩ ?_
        intro s' c' mv lec inS
        obtain ⟨hp, g2, d', tk', os'⟩ := s'
        have eg : g2 = st.gens := mv.gens
        have ed : d' = st.drawn := mv.drawn
        have eo : os' = st.os := mv.os
        subst eg ed eo
        show wpAny _ _ _ _ _ _
        refine wpAny_pure ?_
        show wpAny _ _ (ret Value.none) _ _ _
        rw [sz] at lec
        refine wpAny_pure ⟨rfl, hp, tk', c', rfl, inS, lec, fun b o e => ?_⟩
        have lb := Heap.lt_size e
        refine mv.heap b o ?_ (Heap.get?_push_of_some _ (Heap.get?_push_of_some _ e))
        simp only [List.mem_cons, List.not_mem_nil, or_false, not_or]
        rw [Heap.size_push]
        exact And.intro (Nat.ne_of_lt lb) (Nat.ne_of_lt (Nat.lt_succ_of_lt lb))
      · cases r₂ with
        | error e => exact hr₂
        | ok fl₂ => cases fl₂ with
          | ret r =>
            obtain ⟨rfl, hp, tk, c, rfl, a1, a2, a3⟩ := hr₂
            repeat (any_goals (first | assumption | wp_step))
            exact go _ _ _ a1 a2 a3
          | _ => exact hr₂.elim
    | _ => exact hrr.elim
def rSetL (K : PySem.W.Frag) (w : World) : List V → Hp → VK → Prop := fun vs H Q => ∃ (a : Addr) (ns : List Int), vs = [.ref a] ∧ SqL K H a (ns.map V.int) ∧ ns.length ≤ 1000 ∧
  ∀ p c, H p = none → c ≤ ns.length → Q (.ref p) (upd H p (SetO w p (fun j => decide (j ∈ ns)) c))
theorem cr_setL {X : Cx} (hc : X.calm = true) : CallR X (.type "set") (rSetL X.K X.w) := by
  intro pins s σ H vs us Q I r h
  obtain ⟨a, ns, rfl, hs, hl, q⟩ := h
  rw [Vals.ref1 r]
  obtain ⟨its, rv, li, hz⟩ := I.list hs
  refine set_of_lst ns (I.ok.hd hc) li.isList (by simpa using rv.ints) (Nat.lt_of_le_of_lt (Nat.add_le_add_right hl 1) (by decide)) fun hp tk c hS hcl hk => ?_
  exact ⟨.ref _, _, I.laid (t' := tk) hk (Nat.le_refl _) (setO_new hS), rfl, q _ c (I.hok.fresh (Nat.le_refl _)) hcl⟩

end
end Fo
namespace Fo
open PySem PySem.Spec PyProof.Rows L2
section
variable {P : Program} {w : World} {K : PySem.W.Frag} {mg : Str → Option Value} {base : Heap}
theorem put_Hand_me {a0 a1 a2 a3 a4 a5 a6 v : V} : putF "me" v (handK.zip [a0, a1, a2, a3, a4, a5, a6]) = handK.zip [v, a1, a2, a3, a4, a5, a6] := zp handK_nd (i := 0) rfl (by show 0 < 7; decide)
theorem put_Hand_post {a0 a1 a2 a3 a4 a5 a6 v : V} : putF "post" v (handK.zip [a0, a1, a2, a3, a4, a5, a6]) = handK.zip [a0, v, a2, a3, a4, a5, a6] := zp handK_nd (i := 1) rfl (by show 1 < 7; decide)
theorem put_Hand_standing {a0 a1 a2 a3 a4 a5 a6 v : V} : putF "standing" v (handK.zip [a0, a1, a2, a3, a4, a5, a6]) = handK.zip [a0, a1, v, a3, a4, a5, a6] := zp handK_nd (i := 2) rfl (by show 2 < 7; decide)
theorem put_Hand_said {a0 a1 a2 a3 a4 a5 a6 v : V} : putF "said" v (handK.zip [a0, a1, a2, a3, a4, a5, a6]) = handK.zip [a0, a1, a2, v, a4, a5, a6] := zp handK_nd (i := 3) rfl (by show 3 < 7; decide)
theorem put_Hand_highest {a0 a1 a2 a3 a4 a5 a6 v : V} : putF "highest" v (handK.zip [a0, a1, a2, a3, a4, a5, a6]) = handK.zip [a0, a1, a2, a3, v, a5, a6] := zp handK_nd (i := 4) rfl (by show 4 < 7; decide)
theorem put_Hand_behind {a0 a1 a2 a3 a4 a5 a6 v : V} : putF "behind" v (handK.zip [a0, a1, a2, a3, a4, a5, a6]) = handK.zip [a0, a1, a2, a3, a4, v, a6] := zp handK_nd (i := 5) rfl (by show 5 < 7; decide)
theorem put_Hand_seat {a0 a1 a2 a3 a4 a5 a6 v : V} : putF "seat" v (handK.zip [a0, a1, a2, a3, a4, a5, a6]) = handK.zip [a0, a1, a2, a3, a4, a5, v] := zp handK_nd (i := 6) rfl (by show 6 < 7; decide)
theorem put_Seat_number {a0 a1 a2 a3 a4 a5 a6 a7 a8 v : V} : putF "number" v (seatK.zip [a0, a1, a2, a3, a4, a5, a6, a7, a8]) = seatK.zip [v, a1, a2, a3, a4, a5, a6, a7, a8] := zp seatK_nd (i := 0) rfl (by show 0 < 9; decide)
theorem put_Seat_members {a0 a1 a2 a3 a4 a5 a6 a7 a8 v : V} : putF "members" v (seatK.zip [a0, a1, a2, a3, a4, a5, a6, a7, a8]) = seatK.zip [a0, v, a2, a3, a4, a5, a6, a7, a8] := zp seatK_nd (i := 1) rfl (by show 1 < 9; decide)
theorem put_Seat_news {a0 a1 a2 a3 a4 a5 a6 a7 a8 v : V} : putF "news" v (seatK.zip [a0, a1, a2, a3, a4, a5, a6, a7, a8]) = seatK.zip [a0, a1, v, a3, a4, a5, a6, a7, a8] := zp seatK_nd (i := 2) rfl (by show 2 < 9; decide)
theorem put_Seat_row {a0 a1 a2 a3 a4 a5 a6 a7 a8 v : V} : putF "row" v (seatK.zip [a0, a1, a2, a3, a4, a5, a6, a7, a8]) = seatK.zip [a0, a1, a2, v, a4, a5, a6, a7, a8] := zp seatK_nd (i := 3) rfl (by show 3 < 9; decide)
theorem put_Seat_took {a0 a1 a2 a3 a4 a5 a6 a7 a8 v : V} : putF "took" v (seatK.zip [a0, a1, a2, a3, a4, a5, a6, a7, a8]) = seatK.zip [a0, a1, a2, a3, v, a5, a6, a7, a8] := zp seatK_nd (i := 4) rfl (by show 4 < 9; decide)
theorem put_Seat_holding {a0 a1 a2 a3 a4 a5 a6 a7 a8 v : V} : putF "holding" v (seatK.zip [a0, a1, a2, a3, a4, a5, a6, a7, a8]) = seatK.zip [a0, a1, a2, a3, a4, v, a6, a7, a8] := zp seatK_nd (i := 5) rfl (by show 5 < 9; decide)
theorem put_Seat_ballot {a0 a1 a2 a3 a4 a5 a6 a7 a8 v : V} : putF "ballot" v (seatK.zip [a0, a1, a2, a3, a4, a5, a6, a7, a8]) = seatK.zip [a0, a1, a2, a3, a4, a5, v, a7, a8] := zp seatK_nd (i := 6) rfl (by show 6 < 9; decide)
theorem put_Seat_agreed {a0 a1 a2 a3 a4 a5 a6 a7 a8 v : V} : putF "agreed" v (seatK.zip [a0, a1, a2, a3, a4, a5, a6, a7, a8]) = seatK.zip [a0, a1, a2, a3, a4, a5, a6, v, a8] := zp seatK_nd (i := 7) rfl (by show 7 < 9; decide)
theorem put_Seat_offer {a0 a1 a2 a3 a4 a5 a6 a7 a8 v : V} : putF "offer" v (seatK.zip [a0, a1, a2, a3, a4, a5, a6, a7, a8]) = seatK.zip [a0, a1, a2, a3, a4, a5, a6, a7, v] := zp seatK_nd (i := 8) rfl (by show 8 < 9; decide)
theorem put_Offer_ballot {a0 a1 a2 a3 a4 v : V} : putF "ballot" v (offK.zip [a0, a1, a2, a3, a4]) = offK.zip [v, a1, a2, a3, a4] := zp offK_nd (i := 0) rfl (by show 0 < 5; decide)
theorem put_Offer_members {a0 a1 a2 a3 a4 v : V} : putF "members" v (offK.zip [a0, a1, a2, a3, a4]) = offK.zip [a0, v, a2, a3, a4] := zp offK_nd (i := 1) rfl (by show 1 < 5; decide)
theorem put_Offer_promises {a0 a1 a2 a3 a4 v : V} : putF "promises" v (offK.zip [a0, a1, a2, a3, a4]) = offK.zip [a0, a1, v, a3, a4] := zp offK_nd (i := 2) rfl (by show 2 < 5; decide)
theorem put_Offer_forward {a0 a1 a2 a3 a4 v : V} : putF "forward" v (offK.zip [a0, a1, a2, a3, a4]) = offK.zip [a0, a1, a2, v, a4] := zp offK_nd (i := 3) rfl (by show 3 < 5; decide)
theorem put_Offer_agrees {a0 a1 a2 a3 a4 v : V} : putF "agrees" v (offK.zip [a0, a1, a2, a3, a4]) = offK.zip [a0, a1, a2, a3, v] := zp offK_nd (i := 4) rfl (by show 4 < 5; decide)
theorem put_Folk_many {a0 a1 a2 v : V} : putF "many" v (folkK.zip [a0, a1, a2]) = folkK.zip [v, a1, a2] := zp folkK_nd (i := 0) rfl (by show 0 < 3; decide)
theorem put_Folk_post {a0 a1 a2 v : V} : putF "_post" v (folkK.zip [a0, a1, a2]) = folkK.zip [a0, v, a2] := zp folkK_nd (i := 1) rfl (by show 1 < 3; decide)
theorem put_Folk_hands {a0 a1 a2 v : V} : putF "_hands" v (folkK.zip [a0, a1, a2]) = folkK.zip [a0, a1, v] := zp folkK_nd (i := 2) rfl (by show 2 < 3; decide)
theorem plen {f : Str} {v : V} : ∀ {fs : List (Str × V)} {n : Nat}, fs.length ≤ n → (putF f v fs).length ≤ n + 1
  | [], n, _ => by show 1 ≤ n + 1; omega
  | (g, x) :: r, n, h => by
    have h2 : r.length + 1 ≤ n := h
    show (if g = f then (g, v) :: r else (g, x) :: putF f v r).length ≤ n + 1
    split
    · show r.length + 1 ≤ n + 1
      omega
    · have := plen (f := f) (v := v) (fs := r) (n := n - 1) (by omega)
      show (putF f v r).length + 1 ≤ n + 1
      omega
theorem zle {ks : List Str} {vs : List V} : (ks.zip vs).length ≤ ks.length := by
  rw [List.length_zip]
  omega
theorem pl1 {f : Str} {v : V} : (putF f v []).length ≤ 1 := plen (Nat.le_refl 0)
theorem lt1000 {n m : Nat} (h : n ≤ m) (k : m < 1000 := by decide) : n < 1000 := Nat.lt_of_le_of_lt h k
theorem letK_mk {k s t n d : V} : putF "told" d (putF "number" n (putF "to" t (putF "sender" s (putF "kind" k [])))) = letK.zip [k, s, t, n, d] := by
  rw [show ([] : List (Str × V)) = letK.zip [] from rfl, zq letK_nd (k := "kind") rfl, zq letK_nd (k := "sender") rfl, zq letK_nd (k := "to") rfl, zq letK_nd (k := "number") rfl, zq letK_nd (k := "told") rfl]
  rfl
def spLetterI (K : PySem.W.Frag) : Sp := fun vs H Q _ => ∃ (p dx : Addr) (k s t n d : V), vs = [.ref p, k, s, t, n, d] ∧ H p = some (.ins (He.ga K "Letter") dx []) ∧ Q .non (upd H p (.ins (He.ga K "Letter") dx (letK.zip [k, s, t, n, d])))
theorem sc_Letter_init : FnScope ["self", "kind", "sender", "to", "number", "told"] ["self", "kind", "sender", "to", "number", "told"] (defScope s_Letter_init) := ⟨rfl, rfl, rfl, by decide +kernel, rfl, by decide +kernel, by decide +kernel⟩
set_option maxRecDepth 100000 in
theorem ok_Letter_init (T : Txt K mg) : OkF P w K mg base CX0 1 (He.ma K (He.ga K "Letter") "__init__") ["self", "kind", "sender", "to", "number", "told"] (spLetterI K) := by
  obtain ⟨fd, F⟩ := T.F_Letter_init
  refine ⟨fd, F.ok sc_Letter_init (fun vs H Q E h => ?_) (fun cdv A outer s H vs Q E hr h => ?_), F.bindsN fun _ _ _ _ _ _ us hl => match us, hl with | [_, _, _, _, _, _], _ => rfl, F.kp⟩
  · obtain ⟨_, _, _, _, _, _, _, rfl, _⟩ := h
    rfl
  · refine ⟨_, PSs.nox (pss_cons (ps_fld (pv 0) (pv 1) rfl) (pss_cons (ps_fld (pv 0) (pv 2) rfl) (pss_cons (ps_fld (pv 0) (pv 3) rfl) (pss_cons (ps_fld (pv 0) (pv 4) rfl) (pss_one (ps_fld (pv 0) (pv 5) rfl)))))), ?_⟩
    obtain ⟨p, dx, k, s, t, n, d, rfl, hp, q⟩ := h
    refine ⟨_, rfl, _, rfl, p, _, dx, _, rfl, hp, T.cl_Letter, T.na_Letter_kind, (by show 0 < 1000; decide), ?_⟩
    refine ⟨_, rfl, _, rfl, p, _, dx, _, rfl, upd_same, T.cl_Letter, T.na_Letter_sender, lt1000 pl1, ?_⟩
    refine ⟨_, rfl, _, rfl, p, _, dx, _, rfl, upd_same, T.cl_Letter, T.na_Letter_to, lt1000 (plen pl1), ?_⟩
    refine ⟨_, rfl, _, rfl, p, _, dx, _, rfl, upd_same, T.cl_Letter, T.na_Letter_number, lt1000 (plen (plen pl1)), ?_⟩
    refine ⟨_, rfl, _, rfl, p, _, dx, _, rfl, upd_same, T.cl_Letter, T.na_Letter_told, lt1000 (plen (plen (plen pl1))), ?_⟩
    rw [upd_upd, upd_upd, upd_upd, upd_upd, letK_mk]
    exact q
theorem offK_mk {a b c d e : V} : putF "agrees" e (putF "forward" d (putF "promises" c (putF "members" b (putF "ballot" a [])))) = offK.zip [a, b, c, d, e] := by
  rw [show ([] : List (Str × V)) = offK.zip [] from rfl, zq offK_nd (k := "ballot") rfl, zq offK_nd (k := "members") rfl, zq offK_nd (k := "promises") rfl, zq offK_nd (k := "forward") rfl, zq offK_nd (k := "agrees") rfl]
  rfl
def spOfferI (K : PySem.W.Frag) : Sp := fun vs H Q _ => ∃ (p dx : Addr) (b m : V), vs = [.ref p, b, m] ∧ H p = some (.ins (He.ga K "Offer") dx []) ∧
  ∀ pd ga, H pd = none → H ga = none → ga ≠ pd → Q .non (upd (upd (upd H pd (.dK [])) ga (.dK [])) p (.ins (He.ga K "Offer") dx (offK.zip [b, m, .ref pd, .non, .ref ga])))
theorem sc_Offer_init : FnScope ["self", "ballot", "members"] ["self", "ballot", "members"] (defScope s_Offer_init) := ⟨rfl, rfl, rfl, by decide +kernel, rfl, by decide +kernel, by decide +kernel⟩
set_option maxRecDepth 100000 in
theorem ok_Offer_init (T : Txt K mg) : OkF P w K mg base CX0 1 (He.ma K (He.ga K "Offer") "__init__") ["self", "ballot", "members"] (spOfferI K) := by
  obtain ⟨fd, F⟩ := T.F_Offer_init
  refine ⟨fd, F.ok sc_Offer_init (fun vs H Q E h => ?_) (fun cdv A outer s H vs Q E hr h => ?_), F.bindsN fun _ _ _ _ _ _ us hl => match us, hl with | [_, _, _], _ => rfl, F.kp⟩
  · obtain ⟨_, _, _, _, rfl, _⟩ := h
    rfl
  · refine ⟨_, PSs.nox (pss_cons (ps_fld (pv 0) (pv 1) rfl) (pss_cons (ps_fld (pv 0) (pv 2) rfl) (pss_cons (ps_fld (pv 0) pe_dnewK rfl) (pss_cons (ps_fld (pv 0) pe_non rfl) (pss_one (ps_fld (pv 0) pe_dnewK rfl)))))), ?_⟩
    obtain ⟨p, dx, b, m, rfl, hp, q⟩ := h
    refine ⟨_, rfl, _, rfl, p, _, dx, _, rfl, hp, T.cl_Offer, T.na_Offer_ballot, (by show 0 < 1000; decide), ?_⟩
    refine ⟨_, rfl, _, rfl, p, _, dx, _, rfl, upd_same, T.cl_Offer, T.na_Offer_members, lt1000 pl1, fun pd hpd => ?_⟩
    rw [upd_upd] at hpd
    have n1 : pd ≠ p := fun e => by rw [e, upd_same] at hpd; cases hpd
    have hpd' : H pd = none := by rw [upd_ne n1] at hpd; exact hpd
    refine ⟨_, rfl, p, _, dx, _, rfl, (by rw [upd_ne n1.symm, upd_same]), T.cl_Offer, T.na_Offer_promises, lt1000 (plen pl1), ?_⟩
    refine ⟨_, rfl, p, _, dx, _, rfl, upd_same, T.cl_Offer, T.na_Offer_forward, lt1000 (plen (plen pl1)), fun ga hga => ?_⟩
    rw [upd_upd] at hga
    have n2 : ga ≠ p := fun e => by rw [e, upd_same] at hga; cases hga
    have n3 : ga ≠ pd := fun e => by rw [e, upd_ne n1, upd_same] at hga; cases hga
    have hga' : H ga = none := by rw [upd_ne n2, upd_ne n3, upd_upd, upd_ne n2] at hga; exact hga
    refine ⟨_, rfl, p, _, dx, _, rfl, (by rw [upd_ne n2.symm, upd_same]), T.cl_Offer, T.na_Offer_agrees, lt1000 (plen (plen (plen pl1))), ?_⟩
    have k := q pd ga hpd' hga' n3
    rw [upd_upd, upd_upd, upd_over n2, upd_comm (p := p) (q := pd) n1, upd_over n2, offK_mk]
    exact k
theorem seatK_mk {a b c d e f g h i : V} : putF "offer" i (putF "agreed" h (putF "ballot" g (putF "holding" f (putF "took" e (putF "row" d (putF "news" c (putF "members" b (putF "number" a [])))))))) = seatK.zip [a, b, c, d, e, f, g, h, i] := by
  rw [show ([] : List (Str × V)) = seatK.zip [] from rfl, zq seatK_nd (k := "number") rfl, zq seatK_nd (k := "members") rfl, zq seatK_nd (k := "news") rfl, zq seatK_nd (k := "row") rfl, zq seatK_nd (k := "took") rfl,
    zq seatK_nd (k := "holding") rfl, zq seatK_nd (k := "ballot") rfl, zq seatK_nd (k := "agreed") rfl, zq seatK_nd (k := "offer") rfl]
  rfl
theorem holdK_put (l : List (Int × Nat)) (k : Int) (n : Nat) : putK (holdK l) (Sum.inl k) (.int n) = holdK (putA k n l) := by
  have h1 : ((holdK l).any fun kv => decide (kv.1 = (Sum.inl k : Key))) = (l.any fun p => decide (p.1 = k)) := by
    unfold holdK
    rw [List.any_map]
    congr 1
    funext p
    exact decide_eq_decide.mpr ⟨fun q => Sum.inl.inj q, fun q => congrArg Sum.inl q⟩
  unfold putK putA
  rw [h1]
  split
  · unfold holdK
    rw [List.map_map, List.map_map]
    refine List.map_congr_left fun p _ => ?_
    show (if (Sum.inl p.1 : Key) = Sum.inl k then ((Sum.inl p.1 : Key), V.int n) else (Sum.inl p.1, V.int p.2)) = (Sum.inl (if p.1 = k then (p.1, n) else p).1, V.int (if p.1 = k then (p.1, n) else p).2)
    by_cases e : p.1 = k
    · rw [if_pos (by rw [e]), if_pos e]
    · rw [if_neg (fun q => e (Sum.inl.inj q)), if_neg e]
  · unfold holdK
    rw [List.map_append]
    rfl
theorem putA_new {α : Type} {k : Int} {v : α} {l : List (Int × α)} (h : k ∉ l.map (·.1)) : putA k v l = l ++ [(k, v)] := by
  unfold putA
  rw [if_neg]
  intro q
  obtain ⟨p, hp, e⟩ := List.any_eq_true.mp q
  exact h (List.mem_map.mpr ⟨p, hp, of_decide_eq_true e⟩)
def spSeatI (K : PySem.W.Frag) : Sp := fun vs H Q _ => ∃ (p dx m : Addr) (n nw : V) (ms : List Int), vs = [.ref p, n, .ref m, nw] ∧ H p = some (.ins (He.ga K "Seat") dx []) ∧ SqL K H m (ms.map V.int) ∧ ms.Nodup ∧ ms.length ≤ 1000 ∧
  ∀ ra ha, H ra = none → H ha = none → ha ≠ ra → Q .non (upd (upd (upd H ra (.lst [])) ha (.dK (holdK (ms.map fun h => (h, 0))))) p (.ins (He.ga K "Seat") dx (seatK.zip [n, .ref m, nw, .ref ra, .int 0, .ref ha, .ref (He.ga K "NO_BALLOT"), .non, .non])))
theorem sq_insne {K : PySem.W.Frag} {H H' : Hp} {a p C dx : Addr} {fs : List (Str × V)} {xs : List V} (hp : H p = some (.ins C dx fs)) (e : ∀ b o, b ≠ p → H b = some o → H' b = some o) (h : SqL K H a xs) : SqL K H' a xs := by
  have n : ∀ o, H a = some o → (∀ C dx fs, o ≠ .ins C dx fs) → a ≠ p := fun o q d z => by
    rw [z, hp] at q
    exact d _ _ _ (Option.some.inj q).symm
  rcases h with (h | ⟨o, h⟩) | h
  · exact .inl (.inl (e _ _ (n _ h fun _ _ _ z => nomatch z) h))
  · exact .inl (.inr ⟨o, e _ _ (n _ h fun _ _ _ z => nomatch z) h⟩)
  · exact .inr h
theorem sc_Seat_init : FnScope ["self", "number", "members", "news", "hand"] ["self", "number", "members", "news"] (defScope s_Seat_init) := ⟨rfl, rfl, rfl, by decide +kernel, rfl, by decide +kernel, by decide +kernel⟩
set_option maxRecDepth 100000 in
theorem ok_Seat_init (T : Txt K mg) : OkF P w K mg base CX0 1 (He.ma K (He.ga K "Seat") "__init__") ["self", "number", "members", "news"] (spSeatI K) := by
  obtain ⟨fd, F⟩ := T.F_Seat_init
  refine ⟨fd, F.ok sc_Seat_init (fun vs H Q E h => ?_) (fun cdv A outer s H vs Q E hr h => ?_), F.bindsN fun _ _ _ _ _ _ us hl => match us, hl with | [_, _, _, _], _ => rfl, F.kp⟩
  · obtain ⟨_, _, _, _, _, _, rfl, _⟩ := h
    rfl
  · refine ⟨_, PSs.nox (pss_cons (ps_fld (pv 0) (pv 1) rfl) (pss_cons (ps_fld (pv 0) (pv 2) rfl) (pss_cons (ps_fld (pv 0) (pv 3) rfl) (pss_cons (ps_fld (pv 0) (pe_lst pa_nil) rfl) (pss_cons (ps_fld (pv 0) pe_int rfl) (pss_cons (ps_fld (pv 0) (pe_dc (own := [("hand", 4)]) (g := (gName 4)) (tk := (tVar 4)) (tv := (tC (.int 0))) rfl sc_Seat_init.nd (pi_list (pv 2)) (blkOk_by (own := [("hand", 4)]) (N := ["self", "number", "members", "news", "hand"]) (sc := defScope s_Seat_init) (by decide +kernel)) (fun _ _ _ _ _ => (pg_name (i := 4) sc_Seat_init.nd rfl (Or.inl rfl))) (fun _ _ _ _ _ => pts_nil) (fun _ _ _ _ _ => (pv 4)) (fun _ _ _ _ _ => pe_int)) rfl) (pss_cons (ps_fld (pv 0) (pe_glob (v := .ref (He.ga K "NO_BALLOT")) rfl T.g_NO_BALLOT rfl) rfl) (pss_cons (ps_fld (pv 0) pe_non rfl) (pss_one (ps_fld (pv 0) pe_non rfl)))))))))), ?_⟩
    obtain ⟨p, dx, m, n, nw, ms, rfl, hp, hm, nd, hl, q⟩ := h
    refine ⟨_, rfl, _, rfl, p, _, dx, _, rfl, hp, T.cl_Seat, T.na_Seat_number, (by show 0 < 1000; decide), ?_⟩
    refine ⟨_, rfl, _, rfl, p, _, dx, _, rfl, upd_same, T.cl_Seat, T.na_Seat_members, lt1000 pl1, ?_⟩
    refine ⟨_, rfl, _, rfl, p, _, dx, _, rfl, upd_same, T.cl_Seat, T.na_Seat_news, lt1000 (plen pl1), Nat.zero_le _, fun ra hra => ?_⟩
    rw [upd_upd, upd_upd] at hra
    have n1 : ra ≠ p := fun e => by rw [e, upd_same] at hra; cases hra
    have hra' : H ra = none := by rw [upd_ne n1] at hra; exact hra
    refine ⟨_, rfl, p, _, dx, _, rfl, (by rw [upd_ne n1.symm, upd_same]), T.cl_Seat, T.na_Seat_row, lt1000 (plen (plen pl1)), ?_⟩
    refine ⟨_, rfl, p, _, dx, _, rfl, upd_same, T.cl_Seat, T.na_Seat_took, lt1000 (plen (plen (plen pl1))), ?_⟩
    rw [upd_upd, upd_upd, upd_upd, upd_over n1]
    generalize hF : putF "took" (V.int 0) (putF "row" (V.ref ra) (putF "news" nw (putF "members" (V.ref m) (putF "number" n [])))) = F5
    have hF5 : F5.length ≤ 5 := by rw [← hF]; exact plen (plen (plen (plen pl1)))
    have e1 : ∀ b o, b ≠ p → H b = some o → upd (upd H ra (.lst [])) p (.ins (He.ga K "Seat") dx F5) b = some o := fun b o z w => by rw [upd_ne z]; exact same_upd hra' _ _ w
    have hm1 := sq_insne hp e1 hm
    refine ⟨_, rfl, m, rfl, ⟨_, hm1⟩, fun ha hha => ?_⟩
    have n2 : ha ≠ p := fun e => by rw [e, upd_same] at hha; cases hha
    have n3 : ha ≠ ra := fun e => by rw [e, upd_ne n1, upd_same] at hha; cases hha
    have hha' : H ha = none := by rw [upd_ne n2, upd_ne n3] at hha; exact hha
    refine dc_list (K := K) (a := m) (xs := ms.map V.int) (fun i H' => H' = upd (upd (upd H ra (.lst [])) p (.ins (He.ga K "Seat") dx F5)) ha (.dK (holdK ((ms.take i).map fun h => (h, 0))))) rfl (fun i H' _ e => by rw [e]; exact (same_upd hha).seq hm1) ?_ ?_
    · rintro i x H' hx rfl
      rw [List.getElem?_map] at hx
      cases hz : ms[i]? with
      | none => rw [hz] at hx; cases hx
      | some z =>
        rw [hz] at hx
        cases hx
        have hlen : (ms.take i).length ≤ 1000 := Nat.le_trans (List.length_take_le' _ _) hl
        refine ⟨rfl, _, rfl, _, Sum.inl z, rfl, upd_same, ?_, ?_⟩
        · rw [holdK, List.length_map, List.length_map]
          exact small1000 hlen
        · rw [upd_upd]
          congr 2
          show putK _ (Sum.inl z) (V.int ((0 : Nat) : Int)) = _
          rw [holdK_put, putA_new, take_succ_of hz, List.map_append]
          · rfl
          · rw [List.map_map]
            intro w
            obtain ⟨y, hy, e⟩ := List.mem_map.mp w
            have e2 : y = z := e
            rw [e2] at hy
            obtain ⟨j, hj⟩ := List.getElem?_of_mem hy
            rw [List.getElem?_take] at hj
            split at hj
            · rename_i hji
              have hi := (List.getElem?_eq_some_iff.mp hz).1
              obtain ⟨hj2, ej⟩ := List.getElem?_eq_some_iff.mp hj
              obtain ⟨hi2, ei⟩ := List.getElem?_eq_some_iff.mp hz
              exact List.pairwise_iff_getElem.mp nd j i hj2 hi2 hji (by rw [ej, ei])
            · cases hj
    · rintro H' rfl
      rw [List.length_map, List.take_length]
      refine ⟨_, rfl, p, _, dx, _, rfl, (by rw [upd_ne n2.symm, upd_same]), T.cl_Seat, T.na_Seat_holding, lt1000 hF5, ?_⟩
      refine ⟨_, rfl, p, _, dx, _, rfl, upd_same, T.cl_Seat, T.na_Seat_ballot, lt1000 (plen hF5), ?_⟩
      refine ⟨_, rfl, p, _, dx, _, rfl, upd_same, T.cl_Seat, T.na_Seat_agreed, lt1000 (plen (plen hF5)), ?_⟩
      refine ⟨_, rfl, p, _, dx, _, rfl, upd_same, T.cl_Seat, T.na_Seat_offer, lt1000 (plen (plen (plen hF5))), ?_⟩
      have k := q ra ha hra' hha' n3
      rw [upd_upd, upd_upd, upd_upd, upd_over n2, ← hF, seatK_mk]
      exact k
def spLead (K : PySem.W.Frag) : Sp := fun vs H Q _ => ∃ (p dx m : Addr) (fs : List V) (ms : List Int), vs = [.ref p] ∧ H p = some (.ins (He.ga K "Seat") dx (seatK.zip fs)) ∧ fs[1]? = some (.ref m) ∧ SqL K H m (ms.map V.int) ∧ ms ≠ [] ∧ Q (.int (ms.headD 0)) H
theorem sc_Seat_leader : FnScope ["self"] ["self"] (defScope s_Seat_leader) := ⟨rfl, rfl, rfl, by decide +kernel, rfl, by decide +kernel, by decide +kernel⟩
set_option maxRecDepth 100000 in
theorem ok_Seat_leader (T : Txt K mg) : OkF P w K mg base CX0 1 (He.ma K (He.ga K "Seat") "leader") ["self"] (spLead K) := by
  obtain ⟨fd, F⟩ := T.F_Seat_leader
  refine ⟨fd, F.ok sc_Seat_leader (fun vs H Q E h => ?_) (fun cdv A outer s H vs Q E hr h => ?_), F.bindsN fun _ _ _ _ _ _ us hl => match us, hl with | [_], _ => rfl, F.kp⟩
  · obtain ⟨_, _, _, _, _, rfl, _⟩ := h
    rfl
  · refine ⟨_, PSs.nox (pss_one (ps_ret (pe_ix ix_list (pe_fld (pv 0) rfl) pe_int (fun _ _ => rfl)))), ?_⟩
    obtain ⟨p, dx, m, fs, ms, rfl, hp, hf, hm, hne, q⟩ := h
    cases ms with
    | nil => exact absurd rfl hne
    | cons x r =>
      exact ⟨_, rfl, _, _, _, _, _, rfl, hp, T.cl_Seat, T.na_Seat_members, zl seatK_nd (i := 1) rfl hf, m, _, _, V.int x, rfl, rfl, hm, atI_nat (j := 0) rfl, q⟩
def balD (b : Bal) : PyData := .tuple [.int b.1, .int b.2]
theorem balV.dp {K : PySem.W.Frag} {D : Hp} {v : V} {b : Bal} (h : balV K D v b) : Dp K D v (balD b) := by
  obtain ⟨a, rfl, h⟩ := h
  exact .tup h (dpAll_ints [b.1, b.2])
theorem balD_sh (b : Bal) : SeqAt.shaped (balD b) = true := shaped_of (by simp [balD, PyData.canLay0, PyData.canLayAll0]) (by simp [balD, PyData.depth, PyData.depthAll])
theorem balD_eqv (a b : Bal) : PyData.eqv (balD a) (balD b) = decide (a = b) := by
  simp only [balD, PyData.eqv, PyData.eqvAll, Bool.and_true]
  obtain ⟨a1, a2⟩ := a
  obtain ⟨b1, b2⟩ := b
  by_cases h1 : a1 = b1 <;> by_cases h2 : a2 = b2 <;> simp [h1, h2]
theorem noBal_V {mg : Str → Option Value} (T : Txt K mg) (D : Hp) : balV K D (.ref (He.ga K "NO_BALLOT")) noBal := ⟨_, rfl, He.tupB_ok T.tup_NO_BALLOT D⟩
def spAnsw (K : PySem.W.Frag) : Sp := fun vs H Q _ => ∃ (p dx : Addr) (fs : List V) (bv : V) (b : Bal), vs = [.ref p] ∧ H p = some (.ins (He.ga K "Seat") dx (seatK.zip fs)) ∧ fs[6]? = some bv ∧ balV K H bv b ∧ Q (.bl (decide (b ≠ noBal))) H
theorem sc_Seat_answered : FnScope ["self"] ["self"] (defScope s_Seat_answered) := ⟨rfl, rfl, rfl, by decide +kernel, rfl, by decide +kernel, by decide +kernel⟩
set_option maxRecDepth 100000 in
theorem ok_Seat_answered (T : Txt K mg) : OkF P w K mg base CX0 1 (He.ma K (He.ga K "Seat") "answered") ["self"] (spAnsw K) := by
  obtain ⟨fd, F⟩ := T.F_Seat_answered
  refine ⟨fd, F.ok sc_Seat_answered (fun vs H Q E h => ?_) (fun cdv A outer s H vs Q E hr h => ?_), F.bindsN fun _ _ _ _ _ _ us hl => match us, hl with | [_], _ => rfl, F.kp⟩
  · obtain ⟨_, _, _, _, _, rfl, _⟩ := h
    rfl
  · refine ⟨_, PSs.nox (pss_one (ps_ret (pe_cmpR (op_neD hr.u64) (pe_fld (pv 0) rfl) (pe_glob (v := .ref (He.ga K "NO_BALLOT")) rfl T.g_NO_BALLOT rfl) (nomark _)))), ?_⟩
    obtain ⟨p, dx, fs, bv, b, rfl, hp, hf, hb, q⟩ := h
    refine ⟨_, rfl, _, _, _, _, _, rfl, hp, T.cl_Seat, T.na_Seat_ballot, zl seatK_nd (i := 6) rfl hf, _, _, hb.dp, (noBal_V T H).dp, balD_sh _, balD_sh _, ?_⟩
    rw [balD_eqv]
    have e : decide (b ≠ noBal) = !decide (b = noBal) := by by_cases h : b = noBal <;> simp [h]
    rw [e] at q
    exact q
theorem handK_mk {a b c d e f g : V} : putF "seat" g (putF "behind" f (putF "highest" e (putF "said" d (putF "standing" c (putF "post" b (putF "me" a [])))))) = handK.zip [a, b, c, d, e, f, g] := by
  rw [show ([] : List (Str × V)) = handK.zip [] from rfl, zq handK_nd (k := "me") rfl, zq handK_nd (k := "post") rfl, zq handK_nd (k := "standing") rfl, zq handK_nd (k := "said") rfl, zq handK_nd (k := "highest") rfl,
    zq handK_nd (k := "behind") rfl, zq handK_nd (k := "seat") rfl]
  rfl
def spHandI (K : PySem.W.Frag) : Sp := fun vs H Q _ => ∃ (p dx : Addr) (m po : V), vs = [.ref p, m, po] ∧ H p = some (.ins (He.ga K "Hand") dx []) ∧
  ∀ bh, H bh = none → bh ≠ p → Q .non (upd (upd H bh (.lst [])) p (.ins (He.ga K "Hand") dx (handK.zip [m, po, .bl true, .int 0, .int (-1), .ref bh, .non])))
theorem sc_Hand_init : FnScope ["self", "me", "post"] ["self", "me", "post"] (defScope s_Hand_init) := ⟨rfl, rfl, rfl, by decide +kernel, rfl, by decide +kernel, by decide +kernel⟩
set_option maxRecDepth 100000 in
theorem ok_Hand_init (T : Txt K mg) : OkF P w K mg base CX0 1 (He.ma K (He.ga K "Hand") "__init__") ["self", "me", "post"] (spHandI K) := by
  obtain ⟨fd, F⟩ := T.F_Hand_init
  refine ⟨fd, F.ok sc_Hand_init (fun vs H Q E h => ?_) (fun cdv A outer s H vs Q E hr h => ?_), F.bindsN fun _ _ _ _ _ _ us hl => match us, hl with | [_, _, _], _ => rfl, F.kp⟩
  · obtain ⟨_, _, _, _, rfl, _⟩ := h
    rfl
  · refine ⟨_, PSs.nox (pss_cons (ps_fld (pv 0) (pv 1) rfl) (pss_cons (ps_fld (pv 0) (pv 2) rfl) (pss_cons (ps_fld (pv 0) pe_bl rfl) (pss_cons (ps_fld (pv 0) pe_int rfl) (pss_cons (ps_fld (pv 0) (pe_un un_neg pe_int) rfl) (pss_cons (ps_fld (pv 0) (pe_lst pa_nil) rfl) (pss_one (ps_fld (pv 0) pe_non rfl)))))))), ?_⟩
    obtain ⟨p, dx, m, po, rfl, hp, q⟩ := h
    refine ⟨_, rfl, _, rfl, p, _, dx, _, rfl, hp, T.cl_Hand, T.na_Hand_me, (by show 0 < 1000; decide), ?_⟩
    refine ⟨_, rfl, _, rfl, p, _, dx, _, rfl, upd_same, T.cl_Hand, T.na_Hand_post, lt1000 pl1, ?_⟩
    refine ⟨_, rfl, p, _, dx, _, rfl, upd_same, T.cl_Hand, T.na_Hand_standing, lt1000 (plen pl1), ?_⟩
    refine ⟨_, rfl, p, _, dx, _, rfl, upd_same, T.cl_Hand, T.na_Hand_said, lt1000 (plen (plen pl1)), ?_⟩
    refine ⟨_, rfl, _, rfl, p, _, dx, _, rfl, upd_same, T.cl_Hand, T.na_Hand_highest, lt1000 (plen (plen (plen pl1))), Nat.zero_le _, fun bh hbh => ?_⟩
    rw [upd_upd, upd_upd, upd_upd, upd_upd] at hbh
    have n1 : bh ≠ p := fun e => by rw [e, upd_same] at hbh; cases hbh
    have hbh' : H bh = none := by rw [upd_ne n1] at hbh; exact hbh
    refine ⟨_, rfl, p, _, dx, _, rfl, (by rw [upd_ne n1.symm, upd_same]), T.cl_Hand, T.na_Hand_behind, lt1000 (plen (plen (plen (plen pl1)))), ?_⟩
    refine ⟨_, rfl, p, _, dx, _, rfl, upd_same, T.cl_Hand, T.na_Hand_seat, lt1000 (plen (plen (plen (plen (plen pl1))))), ?_⟩
    have k := q bh hbh' n1
    rw [upd_upd, upd_upd, upd_upd, upd_upd, upd_upd, upd_over n1, handK_mk]
    exact k
theorem upd_over2 {H : Hp} {x p q : Addr} {a b c d : HO} (hp : p ≠ x) (hq : q ≠ x) : upd (upd (upd (upd H x a) p b) q c) x d = upd (upd (upd H p b) q c) x d := by
  funext y
  unfold upd
  split
  · rfl
  · rename_i h
    split
    · rfl
    · split <;> rfl
/-- a new seat -/
theorem seat_new {K : PySem.W.Frag} {mg : Str → Option Value} (T : Txt K mg) {g : Gh} {H : Hp} (k : Ok g H) {x dx ra ha m : Addr} {nw : V} {i : Nat} {n : Int} {ms : List Int} {nws : Option News} (hx : H x = none) (hdx : H dx = none) (hne : dx ≠ x)
    (hra : upd (upd H dx (.own x)) x (.ins (He.ga K "Seat") dx []) ra = none) (hha : upd (upd H dx (.own x)) x (.ins (He.ga K "Seat") dx []) ha = none) (hr : ha ≠ ra) (hm : g.D m = some (.lst (ms.map V.int))) (hw : onewsV g.D nw nws) :
    ∃ g' L, Go (TS_ i) g H g' (upd (upd (upd (upd (upd H dx (.own x)) x (.ins (He.ga K "Seat") dx [])) ra (.lst [])) ha (.dK (holdK (ms.map fun h => (h, 0))))) x (.ins (He.ga K "Seat") dx (seatK.zip [.int n, .ref m, nw, .ref ra, .int 0, .ref ha, .ref (He.ga K "NO_BALLOT"), .non, .non]))) ∧
      SeatR K g' (upd (upd (upd (upd (upd H dx (.own x)) x (.ins (He.ga K "Seat") dx [])) ra (.lst [])) ha (.dK (holdK (ms.map fun h => (h, 0))))) x (.ins (He.ga K "Seat") dx (seatK.zip [.int n, .ref m, nw, .ref ra, .int 0, .ref ha, .ref (He.ga K "NO_BALLOT"), .non, .non]))) x i (Seat.fresh n ms nws) L := by
  have rx : ra ≠ x := fun e => by rw [e, upd_same] at hra; cases hra
  have hx2 : ha ≠ x := fun e => by rw [e, upd_same] at hha; cases hha
  have rd : ra ≠ dx := fun e => by rw [e, upd_ne hne, upd_same] at hra; cases hra
  have hd : ha ≠ dx := fun e => by rw [e, upd_ne hne, upd_same] at hha; cases hha
  have hra' : H ra = none := by rw [upd_ne rx, upd_ne rd] at hra; exact hra
  have hha' : H ha = none := by rw [upd_ne hx2, upd_ne hd] at hha; exact hha
  rw [upd_over2 rx hx2]
  have s1 : Go (TS_ i) g H g (upd H dx (.own x)) := Go.ext k (same_upd hdx)
  have f2 : upd H dx (HO.own x) ra = none := by rw [upd_ne rd]; exact hra'
  have s2 : Go (TS_ i) g _ (g.addO ra (.row i)) (upd (upd H dx (.own x)) ra (.lst [])) := Go.newO s1.ok f2 rfl
  have f3 : upd (upd H dx (HO.own x)) ra (.lst []) ha = none := by rw [upd_ne hr, upd_ne hd]; exact hha'
  have s3 : Go (TS_ i) _ _ ((g.addO ra (.row i)).addO ha (.hold i)) (upd (upd (upd H dx (.own x)) ra (.lst [])) ha (.dK (holdK (ms.map fun h => (h, 0))))) := Go.newO s2.ok f3 rfl
  have f4 : upd (upd (upd H dx (HO.own x)) ra (.lst [])) ha (.dK (holdK (ms.map fun h => (h, 0)))) x = none := by rw [upd_ne hx2.symm, upd_ne rx.symm, upd_ne hne.symm]; exact hx
  have s4 : Go (TS_ i) _ _ (((g.addO ra (.row i)).addO ha (.hold i)).addO x (.seat i)) (upd (upd (upd (upd H dx (.own x)) ra (.lst [])) ha (.dK (holdK (ms.map fun h => (h, 0))))) x (.ins (He.ga K "Seat") dx (seatK.zip [.int n, .ref m, nw, .ref ra, .int 0, .ref ha, .ref (He.ga K "NO_BALLOT"), .non, .non]))) := Go.newO s3.ok f4 rfl
  refine ⟨_, ⟨dx, .ref m, nw, ra, ha, .ref (He.ga K "NO_BALLOT"), .non, .non, []⟩, ((s1.trans s2).trans s3).trans s4, ⟨addO_same, upd_same, ⟨m, rfl, hm⟩, hw, ?_, ?_, .nil, ?_, ?_, noBal_V T _, rfl, rfl⟩⟩
  · rw [addO_ne rx, addO_ne hr.symm, addO_same]
  · rw [upd_ne rx, upd_ne hr.symm, upd_same]
  · rw [addO_ne hx2, addO_same]
  · rw [upd_ne hx2, upd_same]
    rfl
def spSit (K : PySem.W.Frag) : Sp := fun vs H Q _ => ∃ (g : Gh) (a pa : Addr) (i : Nat) (h : Hnd) (L : HL) (n : Int) (mv nv : V) (ms : List Int) (nw : Option News), vs = [.ref a, .int n, mv, nv] ∧ Ok g H ∧ HandR K g H a i pa h L ∧ memV g.D mv ms ∧ onewsV g.D nv nw ∧ ms.Nodup ∧ ms.length ≤ 1000 ∧
  ∀ g' H' L', Go (TH_ i) g H g' H' → HandR K g' H' a i pa { h with seat := some (Seat.fresh n ms nw), high := n } L' → Q .non H'
theorem sc_Hand_sit : FnScope ["self", "number", "members", "news"] ["self", "number", "members", "news"] (defScope s_Hand_sit) := ⟨rfl, rfl, rfl, by decide +kernel, rfl, by decide +kernel, by decide +kernel⟩
set_option maxRecDepth 100000 in
theorem ok_Hand_sit (T : Txt K mg) : OkF P w K mg base CX0 3 (He.ma K (He.ga K "Hand") "sit") ["self", "number", "members", "news"] (spSit K) := by
  obtain ⟨fd, F⟩ := T.F_Hand_sit
  obtain ⟨fd_Seat_init, G_Seat_init⟩ := ok_Seat_init (P := P) (w := w) (base := base) T
  refine ⟨fd, F.ok sc_Hand_sit (fun vs H Q E h => ?_) (fun cdv A outer s H vs Q E hr h => ?_), F.bindsN fun _ _ _ _ _ _ us hl => match us, hl with | [_, _, _, _], _ => rfl, F.kp⟩
  · obtain ⟨_, _, _, _, _, _, _, _, _, _, _, rfl, _⟩ := h
    rfl
  · refine ⟨_, PSs.nox (pss_cons (ps_fld (pv 0) (pe_make T.mk_Seat G_Seat_init.1 (hr.mono (by decide)) rfl T.g_Seat G_Seat_init.2.1 .nil pass0 (pa_cons (pv 1) (pa_cons (pv 2) (pa_cons (pv 3) pa_nil)))) rfl) (pss_one (ps_fld (pv 0) (pv 1) rfl))), ?_⟩
    obtain ⟨g, a, pa, i, h, L, n, mv, nv, ms, nw, rfl, k, r, ⟨m, rfl, hm⟩, hw, nd, hl, q⟩ := h
    refine ⟨_, rfl, _, rfl, _, rfl, fun x dx hx hdx hne => ?_⟩
    have hm1 : SqL K (upd (upd H dx (.own x)) x (.ins (He.ga K "Seat") dx [])) m (ms.map V.int) := SqL.of ((same_upd (by rw [upd_ne hne.symm]; exact hx)) _ _ ((same_upd hdx) _ _ (k.sub _ _ hm)))
    refine ⟨x, dx, m, _, _, ms, rfl, upd_same, hm1, nd, hl, fun ra ha hra hha hne2 => ⟨rfl, ?_⟩⟩
    obtain ⟨g1, SLx, e1, r1⟩ := seat_new T k (i := i) (n := n) (nws := nw) hx hdx hne hra hha hne2 hm hw
    generalize (upd (upd (upd (upd (upd H dx (HO.own x)) x (.ins (He.ga K "Seat") dx [])) ra (.lst [])) ha (.dK (holdK (ms.map fun h => (h, 0))))) x (.ins (He.ga K "Seat") dx (seatK.zip [.int n, .ref m, nv, .ref ra, .int 0, .ref ha, .ref (He.ga K "NO_BALLOT"), .non, .non]))) = H1 at *
    have o1 := e1.stay r.obj r.own (by intro z; exact z)
    refine ⟨_, rfl, _, _, _, _, rfl, o1, T.cl_Hand, T.na_Hand_seat, zlen, ?_⟩
    refine ⟨_, rfl, _, rfl, _, _, _, _, rfl, upd_same, T.cl_Hand, T.na_Hand_highest, lt1000 (plen (zle (ks := handK))), ?_⟩
    rw [upd_upd]
    have e4 : Go (fun t => t = .hand i) g1 H1 g1 (upd H1 a (.ins (He.ga K "Hand") L.dx (putF "highest" (V.int n) (putF "seat" (V.ref x) (handK.zip [.int i, .ref pa, .bl h.up, .int h.said, .int h.high, .ref L.bh, L.sv]))))) := Go.set e1.ok (e1.own _ _ r.own) rfl
    have e3 := (e1.mono fun t z => TH_of z).trans (e4.mono fun t z => by subst z; exact (rfl : TH_ i (.hand i)))
    refine q g1 _ ⟨L.dx, L.bh, L.bxs, .ref x⟩ e3 ⟨e1.own _ _ r.own, ?_, e1.own _ _ r.bown, e4.stay (e1.stay r.bobj r.bown (by intro z; exact z)) (e1.own _ _ r.bown) (by intro z; cases z), paired_imp (fun _ _ => pastV.up e1.D) r.past, ⟨x, SLx, rfl, r1.go e4 (fun t z w => by subst w; exact z)⟩⟩
    rw [upd_same, put_Hand_seat, put_Hand_highest]
def spGoOn (K : PySem.W.Frag) : Sp := fun vs H Q _ => ∃ (g : Gh) (a pa : Addr) (i : Nat) (h : Hnd) (L : HL) (s : Seat) (rv : V) (row : List Msg), vs = [.ref a, rv] ∧ Ok g H ∧ HandR K g H a i pa h L ∧ h.seat = some s ∧ rowV' g.D rv row ∧ h.past.length ≤ 100000 ∧
  ∀ g' H' L', Go (TH_ i) g H g' H' → HandR K g' H' a i pa { h with past := h.past ++ [(s.num, s.mem, row)], seat := none } L' → Q .non H'
theorem sc_Hand_go_on : FnScope ["self", "row"] ["self", "row"] (defScope s_Hand_go_on) := ⟨rfl, rfl, rfl, by decide +kernel, rfl, by decide +kernel, by decide +kernel⟩
set_option maxRecDepth 100000 in
theorem ok_Hand_go_on (T : Txt K mg) : OkF P w K mg base CX0 1 (He.ma K (He.ga K "Hand") "go_on") ["self", "row"] (spGoOn K) := by
  obtain ⟨fd, F⟩ := T.F_Hand_go_on
  refine ⟨fd, F.ok sc_Hand_go_on (fun vs H Q E h => ?_) (fun cdv A outer s H vs Q E hr h => ?_), F.bindsN fun _ _ _ _ _ _ us hl => match us, hl with | [_, _], _ => rfl, F.kp⟩
  · obtain ⟨_, _, _, _, _, _, _, _, _, rfl, _⟩ := h
    rfl
  · refine ⟨_, PSs.nox (pss_cons (ps_expr (pe_bm PySem.F.plainAttrs_list PySem.F.slot_list_append PySem.F.type_list_append mt_append (pe_fld (pv 0) rfl) (pa_cons (pe_tup (pa_cons (pe_fld (pe_fld (pv 0) rfl) rfl) (pa_cons (pe_fld (pe_fld (pv 0) rfl) rfl) (pa_cons (pv 1) pa_nil)))) pa_nil))) (pss_one (ps_fld (pv 0) pe_non rfl))), ?_⟩
    obtain ⟨g, a, pa, i, h, L, s, rv, row, rfl, k, r, hs, hrow, hlen, q⟩ := h
    obtain ⟨hup, hsaid, hhigh, hpast, hseat⟩ := h
    cases hs
    obtain ⟨sa, S, hsv, rs⟩ := r.seat
    have ro := r.obj
    rw [hsv] at ro
    obtain ⟨mv, hmv, hmem⟩ := rs.mem
    refine ⟨_, rfl, _, _, _, _, _, rfl, ro, T.cl_Hand, T.na_Hand_behind, zl handK_nd (i := 5) rfl rfl, .inl ⟨rfl, _, SqL.of r.bobj⟩, ?_⟩
    refine ⟨_, rfl, _, _, _, _, _, rfl, ro, T.cl_Hand, T.na_Hand_seat, zl handK_nd (i := 6) rfl rfl, _, _, _, _, _, rfl, rs.obj, T.cl_Seat, T.na_Seat_number, zl seatK_nd (i := 0) rfl rfl, _, rfl, _, _, _, _, _, rfl, ro, T.cl_Hand, T.na_Hand_seat, zl handK_nd (i := 6) rfl rfl, _, _, _, _, _, rfl, rs.obj, T.cl_Seat, T.na_Seat_members, zl seatK_nd (i := 1) rfl rfl, _, rfl, (by show 3 ≤ sizeLine; decide), fun t ht => ?_⟩
    generalize ho : HO.tup [V.int s.num, S.mv, rv] = o1
    have e1 : Go (fun _ => False) g H (g.addD t o1) (upd H t o1) := Go.newD k ht
    have hl : L.bxs.length ≤ 100000 := by rw [paired_len r.past]; exact hlen
    have r1 := r.go e1 (fun _ _ z => z)
    refine ⟨_, _, _, rfl, rfl, r1.bobj, Nat.lt_of_le_of_lt hl (by decide), ?_⟩
    have e2 : Go (fun u => u = .past i) (g.addD t o1) (upd H t o1) (g.addD t o1) (upd (upd H t o1) L.bh (.lst (L.bxs ++ [V.ref t]))) := Go.set e1.ok r1.bown rfl
    have ro2 := e2.stay r1.obj r1.own (by intro z; cases z)
    refine ⟨_, rfl, _, _, _, _, rfl, ro2, T.cl_Hand, T.na_Hand_seat, zlen, ?_⟩
    have e3 : Go (fun u => u = .hand i) _ _ _ (upd (upd (upd H t o1) L.bh (.lst (L.bxs ++ [V.ref t]))) a (.ins (He.ga K "Hand") L.dx (putF "seat" V.non (handK.zip [.int i, .ref pa, .bl hup, .int hsaid, .int hhigh, .ref L.bh, L.sv])))) := Go.set e2.ok r1.own rfl
    have et : upd g.D t o1 t = some (.tup [V.int s.num, S.mv, rv]) := by rw [upd_same, ho]
    refine q _ _ ⟨L.dx, L.bh, L.bxs ++ [V.ref t], .non⟩ (((e1.mono fun _ z => z.elim).trans (e2.mono fun u z => by subst z; exact (rfl : TH_ i (.past i)))).trans (e3.mono fun u z => by subst z; exact (rfl : TH_ i (.hand i))))
      ⟨r1.own, (by rw [upd_same, put_Hand_seat] <;> rfl), r1.bown, e3.stay upd_same r1.bown (by intro z; cases z), ?_, rfl⟩
    refine paired_app r1.past (.cons ⟨t, S.mv, rv, rfl, et, rs.mem.up e1.D, hrow.up e1.D⟩ .nil)

end
end Fo
namespace Fo
open PySem PySem.Spec PyProof.Rows L2
section
variable {P : Program} {w : World} {K : PySem.W.Frag} {mg : Str → Option Value} {base : Heap}
abbrev TPost : Tag → Prop := fun t => t = .post
theorem nTH_post {i : Nat} : ∀ t, TH_ i t → ¬ TPost t := fun t z w => by subst w; exact z
theorem toldV.lt {K : PySem.W.Frag} {D D' : Hp} {v : V} {t : Told} (h : toldV K D v t) (e : Same D D') : toldV K D' v t := toldV.up e h
def spSend (K : PySem.W.Frag) : Sp := fun vs H Q _ => ∃ (g : Gh) (a pa : Addr) (i : Nat) (h : Hnd) (L : HL) (s : Seat) (ls : List Ltr) (as : List Addr) (to : Nat) (tv : V) (told : Told), vs = [.ref a, .str told.kind, .int to, tv] ∧ Ok g H ∧ HandR K g H a i pa h L ∧ h.seat = some s ∧
  PostR K g H pa ls as ∧ toldV K g.D tv told ∧ ls.length ≤ 1000000 ∧ ∀ g' H' p, Go TPost g H g' H' → PostR K g' H' pa (ls ++ [⟨i, to, s.num, told⟩]) (as ++ [p]) → Q .non H'
theorem sc_Hand_send : FnScope ["self", "kind", "to", "told"] ["self", "kind", "to", "told"] (defScope s_Hand_send) := ⟨rfl, rfl, rfl, by decide +kernel, rfl, by decide +kernel, by decide +kernel⟩
set_option maxRecDepth 100000 in
theorem ok_Hand_send (T : Txt K mg) : OkF P w K mg base CX0 3 (He.ma K (He.ga K "Hand") "send") ["self", "kind", "to", "told"] (spSend K) := by
  obtain ⟨fd, F⟩ := T.F_Hand_send
  obtain ⟨fd_Letter_init, G_Letter_init⟩ := ok_Letter_init (P := P) (w := w) (base := base) T
  refine ⟨fd, F.ok sc_Hand_send (fun vs H Q E h => ?_) (fun cdv A outer s H vs Q E hr h => ?_), F.bindsN fun _ _ _ _ _ _ us hl => match us, hl with | [_, _, _, _], _ => rfl, F.kp⟩
  · obtain ⟨_, _, _, _, _, _, _, _, _, _, _, _, rfl, _⟩ := h
    rfl
  · refine ⟨_, PSs.nox (pss_one (ps_expr (pe_bm PySem.F.plainAttrs_list PySem.F.slot_list_append PySem.F.type_list_append mt_append (pe_fld (pv 0) rfl) (pa_cons (pe_make T.mk_Letter G_Letter_init.1 (hr.mono (by decide)) rfl T.g_Letter G_Letter_init.2.1 .nil pass0 (pa_cons (pv 1) (pa_cons (pe_fld (pv 0) rfl) (pa_cons (pv 2) (pa_cons (pe_fld (pe_fld (pv 0) rfl) rfl) (pa_cons (pv 3) pa_nil)))))) pa_nil)))), ?_⟩
    obtain ⟨g, a, pa, i, h, L, s, ls, as, to, tv, told, rfl, k, r, hs, po, ht, hlen, q⟩ := h
    obtain ⟨hup, hsaid, hhigh, hpast, hseat⟩ := h
    cases hs
    obtain ⟨sa, S, hsv, rs⟩ := r.seat
    have ro := r.obj
    rw [hsv] at ro
    refine ⟨_, rfl, _, _, _, _, _, rfl, ro, T.cl_Hand, T.na_Hand_post, zl handK_nd (i := 1) rfl rfl, .inl ⟨rfl, _, SqL.of po.obj⟩, ?_⟩
    refine ⟨_, rfl, _, rfl, _, _, _, _, _, rfl, ro, T.cl_Hand, T.na_Hand_me, zl handK_nd (i := 0) rfl rfl, _, rfl, _, rfl, _, _, _, _, _, rfl, ro, T.cl_Hand, T.na_Hand_seat, zl handK_nd (i := 6) rfl rfl, _, _, _, _, _, rfl, rs.obj, T.cl_Seat, T.na_Seat_number, zl seatK_nd (i := 0) rfl rfl, _, rfl, fun x dx hx hdx hne => ?_⟩
    refine ⟨x, dx, _, _, _, _, _, rfl, upd_same, rfl, ?_⟩
    rw [upd_upd]
    have e1 : Go TPost g H g (upd H dx (.own x)) := Go.ext k (same_upd hdx)
    have fx : upd H dx (HO.own x) x = none := by rw [upd_ne hne.symm]; exact hx
    have e2 : Go TPost g _ (g.addD x _) (upd (upd H dx (.own x)) x (.ins (He.ga K "Letter") dx (letK.zip [.str told.kind, .int i, .int to, .int s.num, tv]))) := Go.newD e1.ok fx
    have po1 : (upd (upd H dx (.own x)) x (.ins (He.ga K "Letter") dx (letK.zip [.str told.kind, .int i, .int to, .int s.num, tv]))) pa = some (.lst (as.map V.ref)) := same_upd fx _ _ (same_upd hdx _ _ po.obj)
    have e3 : Go TPost _ _ (g.addD x _) (upd (upd (upd H dx (.own x)) x (.ins (He.ga K "Letter") dx (letK.zip [.str told.kind, .int i, .int to, .int s.num, tv]))) pa (.lst (as.map V.ref ++ [V.ref x]))) := Go.set e2.ok po.own rfl
    refine ⟨pa, _, _, rfl, rfl, po1, Nat.lt_of_le_of_lt (show _ ≤ 1000000 by rw [List.length_map, paired_len po.ls]; exact hlen) (by decide), ?_⟩
    refine q _ _ x ((e1.trans e2).trans e3) ⟨po.own, by rw [upd_same, List.map_append]; rfl, paired_app (paired_imp (fun _ _ => letV.up e2.D) po.ls) (.cons ⟨dx, tv, ?_, ht.up e2.D⟩ .nil)⟩
    show upd g.D x _ x = _
    exact upd_same
def spSendEach (K : PySem.W.Frag) : Sp := fun vs H Q _ => ∃ (g : Gh) (a pa b : Addr) (i : Nat) (h : Hnd) (L : HL) (s : Seat) (ls : List Ltr) (as : List Addr) (hs : List Int) (tv : V) (told : Told), vs = [.ref a, .str told.kind, .ref b, tv] ∧ Ok g H ∧ HandR K g H a i pa h L ∧ h.seat = some s ∧
  PostR K g H pa ls as ∧ H b = some (.lst (hs.map V.int)) ∧ g.own b = none ∧ (∀ x ∈ hs, 0 ≤ x) ∧ toldV K g.D tv told ∧ ls.length + hs.length ≤ 1000000 ∧ ∀ g' H' as', Go TPost g H g' H' → PostR K g' H' pa (ls ++ mail i s hs told) as' → Q .non H'
theorem sc_Hand_send_each : FnScope ["self", "kind", "hands", "told", "to"] ["self", "kind", "hands", "told"] (defScope s_Hand_send_each) := ⟨rfl, rfl, rfl, by decide +kernel, rfl, by decide +kernel, by decide +kernel⟩
set_option maxRecDepth 100000 in
theorem ok_Hand_send_each (T : Txt K mg) : OkF P w K mg base CX0 4 (He.ma K (He.ga K "Hand") "send_each") ["self", "kind", "hands", "told"] (spSendEach K) := by
  obtain ⟨fd, F⟩ := T.F_Hand_send_each
  obtain ⟨fd_Hand_send, G_Hand_send⟩ := ok_Hand_send (P := P) (w := w) (base := base) T
  refine ⟨fd, F.ok sc_Hand_send_each (fun vs H Q E h => ?_) (fun cdv A outer s H vs Q E hr h => ?_), F.bindsN fun _ _ _ _ _ _ us hl => match us, hl with | [_, _, _, _], _ => rfl, F.kp⟩
  · obtain ⟨_, _, _, _, _, _, _, _, _, _, _, _, _, rfl, _⟩ := h
    rfl
  · refine ⟨_, PSs.nox (pss_one (ps_for PassesOwn.never rfl (pi_list (pv 2)) (pg_name (i := 4) sc_Hand_send_each.nd rfl (Or.inl rfl)) (pss_one (ps_expr (pe_meth (pv 0) T.cl_Hand T.me_Hand_send G_Hand_send.1 (hr.mono (by decide)) G_Hand_send.2.1 .nil pass0 (pa_cons (pv 1) (pa_cons (pv 4) (pa_cons (pv 3) pa_nil)))))))), ?_⟩
    obtain ⟨g, a, pa, b, i, h, L, s, ls, as, hs, tv, told, rfl, k, r, hse, po, hb, hbo, hpos, ht, hlen, q⟩ := h
    refine ⟨_, rfl, b, rfl, ⟨_, SqL.of hb⟩, for_list (K := K) (a := b) (xs := hs.map V.int) (fun j σ H' => ∃ g' as' v, σ = [some (.ref a), some (.str told.kind), some (.ref b), some tv, v] ∧ Go TPost g H g' H' ∧ PostR K g' H' pa (ls ++ mail i s (hs.take j) told) as')
      ⟨g, as, none, rfl, Go.refl k, by rw [List.take_zero]; show PostR K g H pa (ls ++ []) as; rw [List.append_nil]; exact po⟩ (fun j σ H' _ ⟨_, _, _, _, e, _⟩ => SqL.of (e.keep hb hbo)) ?_ ?_⟩
    · rintro j x σ H' hx ⟨g', as', v, rfl, e, p⟩
      rw [List.getElem?_map] at hx
      cases hz : hs[j]? with
      | none => rw [hz] at hx; cases hx
      | some z =>
        rw [hz] at hx
        cases hx
        have hz0 := hpos z (List.mem_of_getElem? hz)
        have hr1 := r.go e nTH_post
        have hj := (List.getElem?_eq_some_iff.mp hz).1
        refine ⟨_, rfl, _, _, _, rfl, hr1.obj, zn (by decide +kernel), _, rfl, _, rfl, _, rfl, ?_⟩
        refine ⟨g', a, pa, i, h, L, s, _, as', z.toNat, tv, told, ?_, e.ok, hr1, hse, p, ht.up e.D, ?_, fun g2 H2 p2 e2 r2 => ?_⟩
        · show [V.ref a, V.str told.kind, V.int z, tv] = _
          rw [show ((z.toNat : Nat) : Int) = z by omega]
        · rw [List.length_append, mail, List.length_map, List.length_take]
          omega
        · refine ⟨g2, as' ++ [p2], _, rfl, e.trans e2, ?_⟩
          · have : ls ++ mail i s (hs.take (j + 1)) told = ls ++ mail i s (hs.take j) told ++ [⟨i, z.toNat, s.num, told⟩] := by
              rw [take_succ_of hz, mail, mail, List.map_append, List.append_assoc]
              rfl
            rw [this]
            exact r2
    · rintro σ H' ⟨g', as', v, rfl, e, p⟩
      rw [List.length_map, List.take_length] at p
      exact q g' H' as' e p
def spSendOthers (K : PySem.W.Frag) : Sp := fun vs H Q _ => ∃ (g : Gh) (a pa : Addr) (i : Nat) (h : Hnd) (L : HL) (s : Seat) (ls : List Ltr) (as : List Addr) (tv : V) (told : Told), vs = [.ref a, .str told.kind, tv] ∧ Ok g H ∧ HandR K g H a i pa h L ∧ h.seat = some s ∧
  PostR K g H pa ls as ∧ (∀ x ∈ s.mem, 0 ≤ x) ∧ s.mem.length ≤ 1000 ∧ toldV K g.D tv told ∧ ls.length + 1000 ≤ 1000000 ∧ ∀ g' H' as', Go TPost g H g' H' → PostR K g' H' pa (ls ++ mail i s (s.others i) told) as' → Q .non H'
theorem sc_Hand_send_others : FnScope ["self", "kind", "told", "to"] ["self", "kind", "told"] (defScope s_Hand_send_others) := ⟨rfl, rfl, rfl, by decide +kernel, rfl, by decide +kernel, by decide +kernel⟩
set_option maxRecDepth 100000 in
theorem ok_Hand_send_others (T : Txt K mg) : OkF P w K mg base CX0 5 (He.ma K (He.ga K "Hand") "send_others") ["self", "kind", "told"] (spSendOthers K) := by
  obtain ⟨fd, F⟩ := T.F_Hand_send_others
  obtain ⟨fd_Hand_send_each, G_Hand_send_each⟩ := ok_Hand_send_each (P := P) (w := w) (base := base) T
  refine ⟨fd, F.ok sc_Hand_send_others (fun vs H Q E h => ?_) (fun cdv A outer s H vs Q E hr h => ?_), F.bindsN fun _ _ _ _ _ _ us hl => match us, hl with | [_, _, _], _ => rfl, F.kp⟩
  · obtain ⟨_, _, _, _, _, _, _, _, _, _, _, rfl, _⟩ := h
    rfl
  · refine ⟨_, PSs.nox (pss_one (ps_expr (pe_meth (pv 0) T.cl_Hand T.me_Hand_send_each G_Hand_send_each.1 (hr.mono (by decide)) G_Hand_send_each.2.1 .nil pass0 (pa_cons (pv 1) (pa_cons (pe_lc (own := [("to", 3)]) (g := (gName 3)) (tt := (tTest (tOp rNe (tVar 3) (tFld K (tVar 0) "me")))) (te := (tVar 3)) rfl sc_Hand_send_others.nd (pi_list (pe_fld (pe_fld (pv 0) rfl) rfl)) (blkOk_by (own := [("to", 3)]) (N := ["self", "kind", "told", "to"]) (sc := defScope s_Hand_send_others) (by decide +kernel)) (fun _ _ _ _ _ => (pg_name (i := 3) sc_Hand_send_others.nd rfl (Or.inl rfl))) (fun _ _ _ _ _ => (pts_one (pt_cmpR op_ne (pv 3) (pe_fld (pv 0) rfl) (nomark _)))) (fun _ _ _ _ _ => (pv 3))) (pa_cons (pv 2) pa_nil)))))), ?_⟩
    obtain ⟨g, a, pa, i, h, L, s, ls, as, tv, told, rfl, k, r, hse, po, hpos, hml, ht, hlen, q⟩ := h
    have r0 := r
    obtain ⟨hup, hsaid, hhigh, hpast, hseat⟩ := h
    cases hse
    obtain ⟨sa, S, hsv, rs⟩ := r.seat
    have ro := r.obj
    rw [hsv] at ro
    obtain ⟨m, hmv, hm⟩ := rs.mem
    have rso := rs.obj
    rw [hmv] at rso
    have hmH := k.sub _ _ hm
    refine ⟨_, rfl, _, _, _, rfl, ro, zn (by decide +kernel), _, rfl, _, rfl, _, _, _, _, _, rfl, ro, T.cl_Hand, T.na_Hand_seat, zl handK_nd (i := 6) rfl rfl, _, _, _, _, _, rfl, rso, T.cl_Seat, T.na_Seat_members, zl seatK_nd (i := 1) rfl rfl, m, rfl, ⟨_, SqL.of hmH⟩, fun D hD => ?_⟩
    refine lc_list (K := K) (a := m) (xs := s.mem.map V.int) (fun j H' => H' = upd H D (.lst (((s.mem.take j).filter fun x => decide (x ≠ (i : Int))).map V.int))) rfl (fun j H' _ e => by rw [e]; exact SqL.of (same_upd hD _ _ hmH)) ?_ ?_
    · rintro j x H' hx rfl
      rw [List.getElem?_map] at hx
      cases hz : s.mem[j]? with
      | none => rw [hz] at hx; cases hx
      | some z =>
        rw [hz] at hx
        cases hx
        have ro1 := same_upd (o := .lst (((s.mem.take j).filter fun x => decide (x ≠ (i : Int))).map V.int)) hD _ _ ro
        refine ⟨rfl, _, rfl, _, rfl, _, _, _, _, _, rfl, ro1, T.cl_Hand, T.na_Hand_me, zl handK_nd (i := 0) rfl rfl, rfl, _, rfl, ?_⟩
        by_cases e : z = i
        · rw [decide_eq_true (show V.int z = V.int i by rw [e])]
          refine iteF ?_
          rw [take_succ_of hz, List.filter_append, List.filter_cons_of_neg (by simp [e]), List.filter_nil, List.append_nil]
        · rw [decide_eq_false (show ¬ V.int z = V.int i from fun w => e (V.int.inj w))]
          refine iteT ⟨_, rfl, _, upd_same, ?_, ?_⟩
          · refine small1000 (Nat.le_trans ?_ hml)
            rw [List.length_map]
            exact Nat.le_trans (List.length_filter_le _ _) (List.length_take_le' _ _)
          · rw [upd_upd, take_succ_of hz, List.filter_append, List.filter_cons_of_pos (by simp [e]), List.filter_nil, List.map_append]
            rfl
    · rintro H' rfl
      rw [List.length_map, List.take_length]
      have e1 : Go TPost g H g (upd H D (.lst ((s.others i).map V.int))) := Go.ext k (same_upd hD)
      refine ⟨_, rfl, g, a, pa, D, i, _, L, s, ls, as, s.others i, tv, told, rfl, e1.ok, r0.go e1 nTH_post, rfl, po.go (T := fun _ => False) (Go.ext k (same_upd hD)) (fun z => z), upd_same, k.onone hD, ?_, ht, ?_, fun g' H' as' e p => q g' H' as' (e1.trans e) p⟩
      · intro x hx
        exact hpos x (List.mem_filter.mp hx).1
      · have := List.length_filter_le (fun h => decide (h ≠ (i : Int))) s.mem
        show ls.length + (s.mem.filter _).length ≤ 1000000
        omega

end
end Fo
namespace Fo
open PySem PySem.Spec PyProof.Rows L2
section
variable {P : Program} {w : World} {K : PySem.W.Frag} {mg : Str → Option Value} {base : Heap}
theorem insD_perm (x : Nat) : ∀ l : List Nat, (insD x l).Perm (x :: l)
  | [] => List.Perm.refl _
  | y :: r => by
    show (if y ≤ x then x :: y :: r else y :: insD x r).Perm (x :: y :: r)
    split
    · exact List.Perm.refl _
    · exact ((insD_perm x r).cons y).trans (List.Perm.swap x y r)
theorem sortD_perm : ∀ l : List Nat, (sortD l).Perm l
  | [] => List.Perm.refl _
  | x :: r => (insD_perm x _).trans ((sortD_perm r).cons x)
theorem insD_sorted (x : Nat) : ∀ l : List Nat, l.Pairwise (· ≥ ·) → (insD x l).Pairwise (· ≥ ·)
  | [], _ => List.pairwise_singleton _ _
  | y :: r, h => by
    show (if y ≤ x then x :: y :: r else y :: insD x r).Pairwise (· ≥ ·)
    have h1 := List.pairwise_cons.mp h
    split
    · rename_i hx
      refine List.pairwise_cons.mpr ⟨fun z hz => ?_, h⟩
      rcases List.mem_cons.mp hz with rfl | hz
      · exact hx
      · exact Nat.le_trans (h1.1 z hz) hx
    · rename_i hx
      refine List.pairwise_cons.mpr ⟨fun z hz => ?_, insD_sorted x r h1.2⟩
      rcases List.mem_cons.mp ((insD_perm x r).mem_iff.mp hz) with rfl | hz
      · exact Nat.le_of_lt (Nat.lt_of_not_le hx)
      · exact h1.1 z hz
theorem sortD_sorted : ∀ l : List Nat, (sortD l).Pairwise (· ≥ ·)
  | [] => List.Pairwise.nil
  | x :: r => insD_sorted x _ (sortD_sorted r)
def zI (l : List Nat) : List Int := l.map fun (n : Nat) => (n : Int)
theorem zI_len (l : List Nat) : (zI l).length = l.length := List.length_map _
theorem sortD_is {l : List Nat} {ns : List Int} (p : ns.Perm (zI l)) (s : ns.Pairwise (· ≥ ·)) : ns = zI (sortD l) := by
  refine List.Perm.eq_of_pairwise (le := fun a b : Int => a ≥ b) (fun a b _ _ h1 h2 => Int.le_antisymm h2 h1) s ?_ (p.trans ((sortD_perm l).symm.map _))
  unfold zI
  rw [List.pairwise_map]
  exact (sortD_sorted l).imp fun h => by omega
theorem insA_perm (x : Int) : ∀ l : List Int, (insA x l).Perm (x :: l)
  | [] => List.Perm.refl _
  | y :: r => by
    show (if x ≤ y then x :: y :: r else y :: insA x r).Perm (x :: y :: r)
    split
    · exact List.Perm.refl _
    · exact ((insA_perm x r).cons y).trans (List.Perm.swap x y r)
theorem sortA_perm : ∀ l : List Int, (sortA l).Perm l
  | [] => List.Perm.refl _
  | x :: r => (insA_perm x _).trans ((sortA_perm r).cons x)
theorem insA_sorted (x : Int) : ∀ l : List Int, l.Pairwise (· ≤ ·) → (insA x l).Pairwise (· ≤ ·)
  | [], _ => List.pairwise_singleton _ _
  | y :: r, h => by
    show (if x ≤ y then x :: y :: r else y :: insA x r).Pairwise (· ≤ ·)
    have h1 := List.pairwise_cons.mp h
    split
    · rename_i hx
      refine List.pairwise_cons.mpr ⟨fun z hz => ?_, h⟩
      rcases List.mem_cons.mp hz with rfl | hz
      · exact hx
      · exact Int.le_trans hx (h1.1 z hz)
    · rename_i hx
      refine List.pairwise_cons.mpr ⟨fun z hz => ?_, insA_sorted x r h1.2⟩
      rcases List.mem_cons.mp ((insA_perm x r).mem_iff.mp hz) with rfl | hz
      · omega
      · exact h1.1 z hz
theorem sortA_sorted : ∀ l : List Int, (sortA l).Pairwise (· ≤ ·)
  | [] => List.Pairwise.nil
  | x :: r => insA_sorted x _ (sortA_sorted r)
theorem sortA_is {l ns : List Int} (p : ns.Perm l) (s : ns.Pairwise (· ≤ ·)) : ns = sortA l :=
  List.Perm.eq_of_pairwise (le := fun a b : Int => a ≤ b) (fun a b _ _ h1 h2 => Int.le_antisymm h1 h2) s (sortA_sorted l) (p.trans (sortA_perm l).symm)
/-- what a seat must be for its hand's doings to run through -/
structure SOk (i : Nat) (s : Seat) : Prop where
  me : (i : Int) ∈ s.mem
  pos : ∀ x ∈ s.mem, 0 ≤ x
  ml : s.mem.length ≤ 9
  rl : s.row.length ≤ 1000
  nd : s.mem.Nodup
  hk : s.hold.map (·.1) = s.mem
theorem putA_keys {α : Type} {k : Int} {v : α} {l : List (Int × α)} (h : k ∈ l.map (·.1)) : (putA k v l).map (·.1) = l.map (·.1) := by
  have h1 : (l.any fun p => decide (p.1 = k)) = true := by
    obtain ⟨p, hp, e⟩ := List.mem_map.mp h
    exact List.any_eq_true.mpr ⟨p, hp, decide_eq_true e⟩
  unfold putA
  rw [if_pos h1, List.map_map]
  refine List.map_congr_left fun p _ => ?_
  show (if p.1 = k then (p.1, v) else p).1 = p.1
  split <;> rfl
/-- a seat of a hand is as it was but for what Go names -/
theorem HandR.reseat {K : PySem.W.Frag} {g g' : Gh} {H H' : Hp} {a pa sa : Addr} {i : Nat} {h : Hnd} {L : HL} {s' : Seat} {S' : SL} (r : HandR K g H a i pa h L) (hsv : L.sv = .ref sa) (e : Go (TS_ i) g H g' H') (rs : SeatR K g' H' sa i s' S') :
    HandR K g' H' a i pa { h with seat := some s' } L :=
  ⟨e.own _ _ r.own, e.stay r.obj r.own (fun z => z), e.own _ _ r.bown, e.stay r.bobj r.bown (fun z => z), paired_imp (fun _ _ => pastV.up e.D) r.past, ⟨sa, S', hsv, rs⟩⟩
theorem TS_post {i : Nat} : ¬ TS_ i .post := fun z => z
theorem TP_post {i : Nat} : ∀ t, TPost t → TP i t := fun _ h => .inl h
theorem TP_seat {i : Nat} : ∀ t, TS_ i t → TP i t := fun _ h => .inr (TH_of h)
theorem TP_hand {i : Nat} : ∀ t, TH_ i t → TP i t := fun _ h => .inr h
theorem holdK_vals (l : List (Int × Nat)) : (holdK l).map (·.2) = (zI (l.map (·.2))).map V.int := by
  unfold holdK zI
  rw [List.map_map, List.map_map, List.map_map]
  rfl
def spTweh (K : PySem.W.Frag) : Sp := fun vs H Q _ => ∃ (g : Gh) (a pa : Addr) (i : Nat) (h : Hnd) (L : HL) (s : Seat) (ls : List Ltr) (as : List Addr), vs = [.ref a] ∧ Ok g H ∧ HandR K g H a i pa h L ∧ h.seat = some s ∧ SOk i s ∧ PostR K g H pa ls as ∧ ls.length + 1000 ≤ 1000000 ∧
  ∀ g' H' as', Go (TP i) g H g' H' → HandR K g' H' a i pa { h with seat := some (s.tweh i).1 } L → PostR K g' H' pa (ls ++ (s.tweh i).2) as' → Q .non H'
theorem sc_take_what_enough_hold : FnScope ["hand", "seat", "counts", "many"] ["hand"] (defScope s_take_what_enough_hold) := ⟨rfl, rfl, rfl, by decide +kernel, rfl, by decide +kernel, by decide +kernel⟩
set_option maxRecDepth 100000 in
theorem ok_take_what_enough_hold (T : Txt K mg) : OkF P w K mg base CX0 6 (He.ga K "take_what_enough_hold") ["hand"] (spTweh K) := by
  obtain ⟨fd, F⟩ := T.F_take_what_enough_hold
  obtain ⟨fd_enough, G_enough⟩ := ok_enough (P := P) (w := w) (base := base) T
  obtain ⟨fd_Hand_send_others, G_Hand_send_others⟩ := ok_Hand_send_others (P := P) (w := w) (base := base) T
  refine ⟨fd, F.ok sc_take_what_enough_hold (fun vs H Q E h => ?_) (fun cdv A outer s H vs Q E hr h => ?_), F.bindsN fun _ _ _ _ _ _ us hl => match us, hl with | [_], _ => rfl, F.kp⟩
  · obtain ⟨_, _, _, _, _, _, _, _, _, rfl, _⟩ := h
    rfl
  · refine ⟨_, PSs.nox (pss_cons (ps_set (i := 1) sc_take_what_enough_hold.nd rfl (Or.inl rfl) (pe_fld (pv 0) rfl)) (pss_cons (ps_dput hr.hu (pe_fld (pv 1) rfl) (pe_fld (pv 0) rfl) (pe_callB call_len_seq (by rfl) T.b_len PySem.boot_len (pa_cons (pe_fld (pv 1) rfl) pa_nil)) rfl) (pss_cons (ps_set (i := 2) sc_take_what_enough_hold.nd rfl (Or.inl rfl) (pe_callBK (cr_sortedVR rfl) (by rfl) T.b_sorted (by decide +kernel) (pa_cons (pe_vals (pe_fld (pv 1) rfl)) pa_nil) (pk_cons pe_bl pk_nil))) (pss_cons (ps_set (i := 3) sc_take_what_enough_hold.nd rfl (Or.inl rfl) (pe_ix ix_list (pv 2) (pe_op op_sub (pe_call G_enough.1 (hr.mono (by decide)) rfl T.g_enough G_enough.2.2 G_enough.2.1 .nil pass0 (pa_cons (pe_fld (pv 1) rfl) pa_nil)) pe_int) (fun _ _ => rfl))) (pss_one (ps_if (pt_cmpR op_gt (pv 3) (pe_fld (pv 1) rfl) (nomark _)) (pss_cons (ps_fld (pv 1) (pv 3) rfl) (pss_one (ps_expr (pe_meth (pv 0) T.cl_Hand T.me_Hand_send_others G_Hand_send_others.1 (hr.mono (by decide)) G_Hand_send_others.2.1 .nil pass0 (pa_cons pe_str (pa_cons (pv 3) pa_nil)))))) pss_nil)))))), ?_⟩
    obtain ⟨g, a, pa, i, h, L, s, ls, as, rfl, k, r, hse, so, po, hlen, q⟩ := h
    have r0 := r
    have hh : h = { h with seat := some s } := by rw [← hse]
    obtain ⟨hup, hsaid, hhigh, hpast, hseat⟩ := h
    cases hse
    obtain ⟨sa, S, hsv, rs⟩ := r.seat
    have ro := r.obj
    rw [hsv] at ro
    obtain ⟨m, hmv, hm⟩ := rs.mem
    have rso := rs.obj
    rw [hmv] at rso
    refine ⟨_, rfl, _, _, _, _, _, rfl, ro, T.cl_Hand, T.na_Hand_seat, zl handK_nd (i := 6) rfl rfl, ?_⟩
    refine ⟨_, rfl, _, _, _, _, _, rfl, rso, T.cl_Seat, T.na_Seat_row, zl seatK_nd (i := 3) rfl rfl, S.ra, _, rfl, .inl (SqL.of rs.robj), _, rfl, _, _, _, _, _, rfl, rso, T.cl_Seat, T.na_Seat_holding, zl seatK_nd (i := 5) rfl rfl, _, rfl, _, _, _, _, _, rfl, ro, T.cl_Hand, T.na_Hand_me, zl handK_nd (i := 0) rfl rfl, S.ha, _, rfl, DPut.k (k := Sum.inl (i : Int)) rs.hobj ?_, ?_⟩
    · have := congrArg List.length so.hk
      rw [List.length_map] at this
      rw [holdK, List.length_map]
      exact small1000 (by have := so.ml; omega)
    have er : S.rxs.length = s.row.length := paired_len rs.row
    rw [er, holdK_put]
    have e1 : Go (fun t => t = .hold i) g H g (upd H S.ha (.dK (holdK (putA (i : Int) s.row.length s.hold)))) := Go.set k rs.hown rfl
    have rs1 : SeatR K g (upd H S.ha (.dK (holdK (putA (i : Int) s.row.length s.hold)))) sa i (s.note i s.row.length) S := ⟨rs.own, e1.stay rs.obj rs.own (by intro z; cases z), rs.mem, rs.news, rs.rown, e1.stay rs.robj rs.rown (by intro z; cases z), rs.row, rs.hown, upd_same, rs.bal, rs.agr, rs.off.go e1 (by intro z; cases z) (by intro z; cases z) (by intro z; cases z)⟩
    have e1' := e1.mono (T' := TS_ i) fun t z => by subst z; exact (rfl : TS_ i (.hold i))
    generalize upd H S.ha (.dK (holdK (putA (i : Int) s.row.length s.hold))) = H1 at *
    have hkeys : (s.note i s.row.length).hold.map (·.1) = s.mem := by
      rw [← so.hk]
      exact putA_keys (by rw [so.hk]; exact so.me)
    have hvl : ((s.note i s.row.length).hold.map (·.2)).length = s.mem.length := by
      rw [← hkeys, List.length_map, List.length_map]
    have rso1 := rs1.obj
    rw [hmv] at rso1
    refine ⟨_, rfl, _, _, _, _, _, rfl, rso1, T.cl_Seat, T.na_Seat_holding, zl seatK_nd (i := 5) rfl rfl, S.ha, _, rfl, rs1.hobj, fun w hw => ?_⟩
    have x1 : Go (fun _ => False) g H1 g (upd H1 w (viewO w S.ha)) := Go.ext e1.ok (same_upd hw)
    refine ⟨w, S.ha, _, _, rfl, rfl, upd_same, same_upd hw _ _ rs1.hobj, holdK_vals _, ?_, fun ns' p hpm hso hp => ?_⟩
    · rw [zI_len, hvl]
      have := so.ml
      omega
    have ens := sortD_is hpm hso
    subst ens
    have x2 := x1.trans (Go.ext x1.ok (same_upd (o := .lst ((zI (sortD ((s.note i s.row.length).hold.map (·.2)))).map V.int)) hp))
    generalize hH2 : upd (upd H1 w (viewO w S.ha)) p (.lst ((zI (sortD ((s.note i s.row.length).hold.map (·.2)))).map V.int)) = H2 at *
    have hpl : H2 p = some (.lst ((zI (sortD ((s.note i s.row.length).hold.map (·.2)))).map V.int)) := by rw [← hH2]; exact upd_same
    have rs2 := rs1.go x2 (fun _ _ z => z)
    have rso2 := rs2.obj
    rw [hmv] at rso2
    have hm2 := x2.ok.sub _ _ hm
    have hml1 : 1 ≤ s.mem.length := List.length_pos_of_mem so.me
    have hen : enoughN s.mem.length - 1 < s.mem.length := by unfold enoughN; omega
    obtain ⟨c, hc⟩ : ∃ c, (sortD ((s.note i s.row.length).hold.map (·.2)))[enoughN s.mem.length - 1]? = some c := ⟨_, List.getElem?_eq_getElem (by rw [(sortD_perm _).length_eq, hvl]; exact hen)⟩
    have hmost : (s.note i s.row.length).most = c := by
      show (sortD ((s.note i s.row.length).hold.map (·.2))).getD (enoughN s.mem.length - 1) 0 = c
      rw [List.getD_eq_getElem?_getD, hc]
      rfl
    refine ⟨_, rfl, _, rfl, _, _, _, _, _, rfl, rso2, T.cl_Seat, T.na_Seat_members, zl seatK_nd (i := 1) rfl rfl, m, _, rfl, SqL.of hm2, _, _, rfl, rfl, p, _, _, V.int (c : Int), rfl, rfl, SqL.of hpl, ?_, ?_⟩
    · have e2 : (((s.mem.map V.int).length : Int) / 2 + 1 - 1) = ((enoughN s.mem.length - 1 : Nat) : Int) := by
        rw [List.length_map]
        unfold enoughN
        omega
      show atI _ ((((s.mem.map V.int).length : Int) / 2 + 1) - 1) = _
      rw [e2]
      exact atI_nat (by rw [List.getElem?_map, zI, List.getElem?_map, hc]; rfl)
    refine ⟨_, rfl, _, rfl, _, _, _, _, _, rfl, rso2, T.cl_Seat, T.na_Seat_took, zl seatK_nd (i := 4) rfl rfl, _, _, rfl, rfl, _, rfl, iteD (fun hgt => ?_) (fun hle => ?_)⟩
    · have hgt2 : s.took < c := by
        have : (s.note i s.row.length).took = s.took := rfl
        omega
      have et : (s.tweh i) = ({ s.note i s.row.length with took := c }, mail i s (s.others i) (.take c)) := by
        show (if (s.note i s.row.length).most > s.took then _ else _) = _
        rw [hmost, if_pos hgt2]
      rw [et] at q
      refine ⟨_, rfl, _, rfl, _, _, _, _, rfl, rs2.obj, T.cl_Seat, T.na_Seat_took, zlen, ?_⟩
      have e3 : Go (fun t => t = .seat i) g H2 g (upd H2 sa _) := Go.set (o := .ins (He.ga K "Seat") S.dx (putF "took" (V.int c) (seatK.zip [.int s.num, S.mv, S.nv, .ref S.ra, .int s.took, .ref S.ha, S.bv, S.av, S.ov]))) x2.ok rs2.own rfl
      have rs3 : SeatR K g _ sa i { s.note i s.row.length with took := c } S := rs2.put e3 rfl rfl rfl rfl rfl (by rw [upd_same, put_Seat_took] <;> rfl) rs2.mem rs2.news rs2.bal rs2.agr rfl rfl rfl
      have eT := (e1'.trans (x2.mono fun _ z => z.elim)).trans (e3.mono fun t z => by subst z; exact (rfl : TS_ i (.seat i)))
      have r3 := r0.reseat hsv eT rs3
      refine ⟨_, rfl, _, _, _, rfl, r3.obj, zn (by decide +kernel), _, rfl, g, a, pa, i, _, L, _, ls, as, _, .take c, rfl, e3.ok, r3, rfl, po.go eT TS_post, so.pos, by have := so.ml; show s.mem.length ≤ 1000; omega, rfl, hlen, fun g' H' as' e4 p4 => ?_⟩
      exact q g' H' as' ((eT.mono TP_seat).trans (e4.mono TP_post)) (r3.go e4 nTH_post) p4
    · have hle2 : ¬ s.took < c := by
        have : (s.note i s.row.length).took = s.took := rfl
        omega
      have et : (s.tweh i) = (s.note i s.row.length, []) := by
        show (if (s.note i s.row.length).most > s.took then _ else _) = _
        rw [hmost, if_neg hle2]
      rw [et] at q
      have eT := e1'.trans (x2.mono (T' := TS_ i) fun _ z => z.elim)
      exact q g H2 as (eT.mono TP_seat) (r0.reseat hsv eT rs2) (by rw [List.append_nil]; exact po.go eT TS_post)

end
end Fo
namespace Fo
open PySem PySem.Spec PyProof.Rows L2
section
variable {P : Program} {w : World} {K : PySem.W.Frag} {mg : Str → Option Value} {base : Heap}
def mOk (m : Msg) : Prop := PyData.strOk m.word = true
def rOk (r : List Msg) : Prop := ∀ m ∈ r, mOk m
def msgD (m : Msg) : PyData := .tuple [.int m.hand, .int m.cnt, .str m.word]
theorem msgD_sd {m : Msg} (h : mOk m) : Sd (msgD m) := ⟨by simp only [msgD, PyData.canLay0, PyData.canLayAll0, Bool.and_true, Bool.true_and]; exact h, by simp [msgD, PyData.depth, PyData.depthAll]⟩
theorem msgV.dp {K : PySem.W.Frag} {D : Hp} {v : V} {m : Msg} (h : msgV D v m) : Dp K D v (msgD m) := by
  obtain ⟨a, rfl, h⟩ := h
  exact .tup (.inl (.inl h)) (.cons (.int _) (.cons (.int _) (.cons (.str _) .nil)))
theorem row_dp {K : PySem.W.Frag} {D : Hp} : ∀ {xs : List V} {r : List Msg}, Paired (msgV D) xs r → DpAll K D xs (r.map msgD)
  | _, _, .nil => .nil
  | _, _, .cons a t => .cons a.dp (row_dp t)
theorem row_sd : ∀ {r : List Msg}, rOk r → SdAll (r.map msgD)
  | [], _ => sdAll_nil
  | m :: r, h => sdAll_cons (msgD_sd (h m List.mem_cons_self)) (row_sd fun x hx => h x (List.mem_cons_of_mem _ hx))
theorem msgD_eqv (a b : Msg) : PyData.eqv (msgD a) (msgD b) = decide (a = b) := by
  simp only [msgD, PyData.eqv, PyData.eqvAll, Bool.and_true]
  obtain ⟨a1, a2, a3⟩ := a
  obtain ⟨b1, b2, b3⟩ := b
  by_cases h1 : a1 = b1 <;> by_cases h2 : a2 = b2 <;> by_cases h3 : a3 = b3 <;> simp [h1, h2, h3]
theorem row_any (m : Msg) (r : List Msg) : ((r.map msgD).any fun z => PyData.eqv z (msgD m)) = decide (m ∈ r) := by
  rw [List.any_map]
  induction r with
  | nil => simp
  | cons x r ih =>
    rw [List.any_cons, ih]
    show (PyData.eqv (msgD x) (msgD m) || decide (m ∈ r)) = _
    rw [msgD_eqv]
    by_cases h : x = m
    · simp [h]
    · have h2 : ¬ m = x := fun e => h e.symm
      simp [h, h2]
theorem SeatR.push {K : PySem.W.Frag} {g : Gh} {H H' : Hp} {sa : Addr} {i : Nat} {s : Seat} {L : SL} {v : V} {m : Msg} (r : SeatR K g H sa i s L) (hm : msgV g.D v m) (e : Go (fun t => t = .row i) g H g H') (he : H' L.ra = some (.lst (L.rxs ++ [v]))) :
    SeatR K g H' sa i { s with row := s.row ++ [m] } { L with rxs := L.rxs ++ [v] } :=
  ⟨r.own, e.stay r.obj r.own (by intro z; cases z), r.mem, r.news, r.rown, he, paired_app r.row (.cons hm .nil), r.hown, e.stay r.hobj r.hown (by intro z; cases z), r.bal, r.agr, r.off.go e (by intro z; cases z) (by intro z; cases z) (by intro z; cases z)⟩
def spSendWish (K : PySem.W.Frag) : Sp := fun vs H Q _ => ∃ (g : Gh) (a pa : Addr) (i : Nat) (h : Hnd) (L : HL) (s : Seat) (ls : List Ltr) (as : List Addr) (word : Str), vs = [.ref a, .str word] ∧ Ok g H ∧ HandR K g H a i pa h L ∧ h.seat = some s ∧ SOk i s ∧ PostR K g H pa ls as ∧ ls.length + 1000 ≤ 1000000 ∧
  ∀ g' H' as', Go (TP i) g H g' H' → HandR K g' H' a i pa (h.say i s word).1 L → PostR K g' H' pa (ls ++ (h.say i s word).2) as' → Q .non H'
theorem sc_send_wish : FnScope ["hand", "word", "message"] ["hand", "word"] (defScope s_send_wish) := ⟨rfl, rfl, rfl, by decide +kernel, rfl, by decide +kernel, by decide +kernel⟩
set_option maxRecDepth 100000 in
theorem ok_send_wish (T : Txt K mg) : OkF P w K mg base CX0 4 (He.ga K "send_wish") ["hand", "word"] (spSendWish K) := by
  obtain ⟨fd, F⟩ := T.F_send_wish
  obtain ⟨fd_Hand_send, G_Hand_send⟩ := ok_Hand_send (P := P) (w := w) (base := base) T
  obtain ⟨fd_Seat_leader, G_Seat_leader⟩ := ok_Seat_leader (P := P) (w := w) (base := base) T
  refine ⟨fd, F.ok sc_send_wish (fun vs H Q E h => ?_) (fun cdv A outer s H vs Q E hr h => ?_), F.bindsN fun _ _ _ _ _ _ us hl => match us, hl with | [_, _], _ => rfl, F.kp⟩
  · obtain ⟨_, _, _, _, _, _, _, _, _, _, rfl, _⟩ := h
    rfl
  · refine ⟨_, PSs.nox (pss_cons (ps_set (i := 2) sc_send_wish.nd rfl (Or.inl rfl) (pe_tup (pa_cons (pe_fld (pv 0) rfl) (pa_cons (pe_fld (pv 0) rfl) (pa_cons (pv 1) pa_nil))))) (pss_cons (ps_fldaug (pv 0) pe_int in_add) (pss_one (ps_expr (pe_meth (pv 0) T.cl_Hand T.me_Hand_send G_Hand_send.1 (hr.mono (by decide)) G_Hand_send.2.1 .nil pass0 (pa_cons pe_str (pa_cons (pe_meth0 (pe_fld (pv 0) rfl) T.cl_Seat T.me_Seat_leader G_Seat_leader.1 (hr.mono (by decide)) G_Seat_leader.2.1 .nil pass0) (pa_cons (pv 2) pa_nil)))))))), ?_⟩
    obtain ⟨g, a, pa, i, h, L, s, ls, as, word, rfl, k, r, hse, so, po, hlen, q⟩ := h
    obtain ⟨hup, hsaid, hhigh, hpast, hseat⟩ := h
    cases hse
    obtain ⟨sa, S, hsv, rs⟩ := r.seat
    have ro := r.obj
    rw [hsv] at ro
    refine ⟨_, rfl, _, _, _, _, _, rfl, ro, T.cl_Hand, T.na_Hand_me, zl handK_nd (i := 0) rfl rfl, _, rfl, _, _, _, _, _, rfl, ro, T.cl_Hand, T.na_Hand_said, zl handK_nd (i := 3) rfl rfl, _, rfl, (by show 3 ≤ sizeLine; decide), fun t ht => ?_⟩
    have e1 : Go (fun _ => False) g H (g.addD t (.tup [.int i, .int hsaid, .str word])) (upd H t (.tup [.int i, .int hsaid, .str word])) := Go.newD k ht
    have mt : msgV (g.addD t (.tup [.int i, .int hsaid, .str word])).D (.ref t) ⟨i, hsaid, word⟩ := ⟨t, rfl, by show upd g.D t _ t = _; exact upd_same⟩
    generalize upd H t (.tup [.int i, .int hsaid, .str word]) = H1 at *
    generalize g.addD t (.tup [.int i, .int hsaid, .str word]) = g1 at *
    have r1 := r.go e1 (fun _ _ z => z)
    have ro1 := r1.obj
    rw [hsv] at ro1
    refine ⟨_, rfl, _, _, _, _, _, rfl, ro1, T.cl_Hand, T.na_Hand_said, zl handK_nd (i := 3) rfl rfl, _, _, rfl, rfl, _, _, ro1, zlen, ?_⟩
    have e2 : Go (fun u => u = .hand i) g1 H1 g1 (upd H1 a (.ins (He.ga K "Hand") L.dx (putF "said" (.int ((hsaid : Int) + 1)) (handK.zip [.int i, .ref pa, .bl hup, .int hsaid, .int hhigh, .ref L.bh, .ref sa])))) := Go.set e1.ok r1.own rfl
    have r2 : HandR K g1 (upd H1 a (.ins (He.ga K "Hand") L.dx (putF "said" (.int ((hsaid : Int) + 1)) (handK.zip [.int i, .ref pa, .bl hup, .int hsaid, .int hhigh, .ref L.bh, .ref sa])))) a i pa ⟨hup, hsaid + 1, hhigh, hpast, some s⟩ L :=
      ⟨r1.own, by rw [upd_same, put_Hand_said, hsv] <;> rfl, r1.bown, e2.stay r1.bobj r1.bown (by intro z; cases z), r1.past, r1.seat.go e2 (fun t z w => by subst w; exact z)⟩
    have po2 := (po.go e1 (fun z => z)).go e2 (by intro z; cases z)
    generalize upd H1 a (.ins (He.ga K "Hand") L.dx (putF "said" (.int ((hsaid : Int) + 1)) (handK.zip [.int i, .ref pa, .bl hup, .int hsaid, .int hhigh, .ref L.bh, .ref sa]))) = H2 at *
    obtain ⟨sa2, S2, hsv2, rs2⟩ := r2.seat
    have ro2 := r2.obj
    rw [hsv2] at ro2
    obtain ⟨m, hmv, hm⟩ := rs2.mem
    have rso := rs2.obj
    rw [hmv] at rso
    have hne : s.mem ≠ [] := List.ne_nil_of_mem so.me
    have hl0 : 0 ≤ s.lead := by
      unfold Seat.lead
      cases hmm : s.mem with
      | nil => exact absurd hmm hne
      | cons x _ => exact so.pos x (by rw [hmm]; exact List.mem_cons_self)
    refine ⟨_, rfl, _, _, _, rfl, ro2, zn (by decide +kernel), _, rfl, _, _, _, _, _, rfl, ro2, T.cl_Hand, T.na_Hand_seat, zl handK_nd (i := 6) rfl rfl, _, _, _, rfl, rso, zn (by decide +kernel), sa2, _, m, _, s.mem, rfl, rso, rfl, SqL.of (e2.ok.sub _ _ hm), hne, _, rfl, ?_⟩
    refine ⟨g1, a, pa, i, _, L, s, ls, as, s.lead.toNat, _, .wish ⟨i, hsaid, word⟩, ?_, e2.ok, r2, rfl, po2, mt, by omega, fun g' H' p e3 p3 => ?_⟩
    · show [V.ref a, V.str "wish", V.int s.lead, V.ref t] = _
      rw [show ((s.lead.toNat : Nat) : Int) = s.lead by omega]
      rfl
    · exact q g' H' _ (((e1.mono fun _ z => z.elim).trans (e2.mono fun t z => by subst z; exact Or.inr rfl)).trans (e3.mono TP_post)) (r2.go e3 nTH_post) p3
/-- a handler of a letter at a hand in a list -/
def spMsg (K : PySem.W.Frag) (pre : Nat → Seat → Ltr → Prop) (f : Seat → Nat → Ltr → Seat × List Ltr) : Sp := fun vs H Q _ => ∃ (g : Gh) (a pa la : Addr) (i : Nat) (h : Hnd) (L : HL) (s : Seat) (ls : List Ltr) (as : List Addr) (l : Ltr), vs = [.ref a, .ref la] ∧ Ok g H ∧ HandR K g H a i pa h L ∧ h.seat = some s ∧ SOk i s ∧ rOk s.row ∧ PostR K g H pa ls as ∧ letV K g.D la l ∧ 0 ≤ l.snd ∧ pre i s l ∧ ls.length + 3000 ≤ 1000000 ∧
  ∀ g' H' as', Go (TP i) g H g' H' → HandR K g' H' a i pa { h with seat := some (f s i l).1 } L → PostR K g' H' pa (ls ++ (f s i l).2) as' → Q .non H'
def preWish (_ : Nat) (s : Seat) (l : Ltr) : Prop := s.row.length < 1000 ∧ ∃ m, l.told = .wish m ∧ mOk m
theorem sc_wish_came : FnScope ["hand", "letter", "seat", "message", "place"] ["hand", "letter"] (defScope s_wish_came) := ⟨rfl, rfl, rfl, by decide +kernel, rfl, by decide +kernel, by decide +kernel⟩
set_option maxRecDepth 100000 in
theorem ok_wish_came (T : Txt K mg) : OkF P w K mg base CX0 7 (He.ga K "wish_came") ["hand", "letter"] (spMsg K preWish Seat.read) := by
  obtain ⟨fd, F⟩ := T.F_wish_came
  obtain ⟨fd_Seat_answered, G_Seat_answered⟩ := ok_Seat_answered (P := P) (w := w) (base := base) T
  obtain ⟨fd_Hand_send_others, G_Hand_send_others⟩ := ok_Hand_send_others (P := P) (w := w) (base := base) T
  obtain ⟨fd_take_what_enough_hold, G_take_what_enough_hold⟩ := ok_take_what_enough_hold (P := P) (w := w) (base := base) T
  refine ⟨fd, F.ok sc_wish_came (fun vs H Q E h => ?_) (fun cdv A outer s H vs Q E hr h => ?_), F.bindsN fun _ _ _ _ _ _ us hl => match us, hl with | [_, _], _ => rfl, F.kp⟩
  · obtain ⟨_, _, _, _, _, _, _, _, _, _, _, rfl, _⟩ := h
    rfl
  · refine ⟨_, PSs.nox (pss_cons (ps_set (i := 2) sc_wish_came.nd rfl (Or.inl rfl) (pe_fld (pv 0) rfl)) (pss_cons (ps_set (i := 3) sc_wish_came.nd rfl (Or.inl rfl) (pe_fld (pv 1) rfl)) (pss_cons (ps_if (PW.pt (pw_or (pt_val (pe_meth0 (pv 2) T.cl_Seat T.me_Seat_answered G_Seat_answered.1 (hr.mono (by decide)) G_Seat_answered.2.1 .nil pass0)) (pw_or1 (pt_cmpR (op_inD hr.u65) (pv 3) (pe_fld (pv 2) rfl) (by rfl))))) (pss_one ps_retN) pss_nil) (pss_cons (ps_set (i := 4) sc_wish_came.nd rfl (Or.inl rfl) (pe_callB call_len_seq (by rfl) T.b_len PySem.boot_len (pa_cons (pe_fld (pv 2) rfl) pa_nil))) (pss_cons (ps_expr (pe_bm PySem.F.plainAttrs_list PySem.F.slot_list_append PySem.F.type_list_append mt_append (pe_fld (pv 2) rfl) (pa_cons (pv 3) pa_nil))) (pss_cons (ps_expr (pe_meth (pv 0) T.cl_Hand T.me_Hand_send_others G_Hand_send_others.1 (hr.mono (by decide)) G_Hand_send_others.2.1 .nil pass0 (pa_cons pe_str (pa_cons (pe_tup (pa_cons (pv 3) (pa_cons (pv 4) pa_nil))) pa_nil)))) (pss_one (ps_expr (pe_call G_take_what_enough_hold.1 (hr.mono (by decide)) rfl T.g_take_what_enough_hold G_take_what_enough_hold.2.2 G_take_what_enough_hold.2.1 .nil pass0 (pa_cons (pv 0) pa_nil)))))))))), ?_⟩
    obtain ⟨g, a, pa, la, i, h, L, s, ls, as, l, rfl, k, r, hse, so, hrk, po, hla, hs0, ⟨hrl, msg, hl, hmk⟩, hlen, q⟩ := h
    have r0 := r
    obtain ⟨hup, hsaid, hhigh, hpast, hseat⟩ := h
    cases hse
    obtain ⟨sa, S, hsv, rs⟩ := r.seat
    have ro := r.obj
    rw [hsv] at ro
    obtain ⟨ldx, tv, hlo, htv⟩ := hla
    rw [hl] at htv
    have hloH := k.sub _ _ hlo
    have er : S.rxs.length = s.row.length := paired_len rs.row
    have hfs : s.read i l = s.wish i msg := by unfold Seat.read; rw [hl]
    rw [hfs] at q
    refine ⟨_, rfl, _, _, _, _, _, rfl, ro, T.cl_Hand, T.na_Hand_seat, zl handK_nd (i := 6) rfl rfl, _, rfl, _, _, _, _, _, rfl, hloH, T.cl_Letter, T.na_Letter_told, zl letK_nd (i := 4) rfl rfl, ?_⟩
    refine ⟨_, rfl, _, _, _, rfl, rs.obj, zn (by decide +kernel), sa, _, _, _, s.bal, rfl, rs.obj, rfl, rs.bal.up k.sub, _, rfl, ?_⟩
    have stay : s.wish i msg = (s, []) → Q .non H := fun e => by
      rw [e] at q
      exact q g H as (Go.refl k) r0 (by rw [List.append_nil]; exact po)
    by_cases hst : s.bal ≠ noBal
    · rw [decide_eq_true hst]
      refine iteT (iteT (stay ?_))
      show (if s.still = true ∨ msg ∈ s.row then _ else _) = _
      rw [if_pos (.inl (decide_eq_true hst))]
    rw [decide_eq_false hst]
    have hsdm := msgD_sd hmk
    have hsdr := row_sd hrk
    refine iteF ⟨_, rfl, _, rfl, _, _, _, _, _, rfl, rs.obj, T.cl_Seat, T.na_Seat_row, zl seatK_nd (i := 3) rfl rfl, msgD msg, s.row.map msgD, (msgV.dp htv).same k.sub, .lst (SqL.of rs.robj) (dpAll_same k.sub (row_dp rs.row)), hsdm.shaped, shaped_list hsdr, _, rfl, ?_⟩
    rw [row_any]
    by_cases hin : msg ∈ s.row
    · rw [decide_eq_true hin]
      refine iteT (stay ?_)
      show (if s.still = true ∨ msg ∈ s.row then _ else _) = _
      rw [if_pos (.inr hin)]
    rw [decide_eq_false hin]
    have hf : s.wish i msg = ((({ s with row := s.row ++ [msg] } : Seat).tweh i).1, mail i s (s.others i) (.hold msg s.row.length) ++ (({ s with row := s.row ++ [msg] } : Seat).tweh i).2) := by
      show (if s.still = true ∨ msg ∈ s.row then _ else _) = _
      rw [if_neg]
      rintro (h1 | h1)
      · exact hst (of_decide_eq_true h1)
      · exact hin h1
    rw [hf] at q
    refine iteF ⟨_, rfl, _, _, _, _, _, rfl, rs.obj, T.cl_Seat, T.na_Seat_row, zl seatK_nd (i := 3) rfl rfl, S.ra, _, rfl, .inl (SqL.of rs.robj), ?_⟩
    refine ⟨_, rfl, _, _, _, _, _, rfl, rs.obj, T.cl_Seat, T.na_Seat_row, zl seatK_nd (i := 3) rfl rfl, .inl ⟨rfl, _, SqL.of rs.robj⟩, _, rfl, S.ra, _, _, rfl, rfl, rs.robj, by rw [er]; exact small1000 (Nat.le_of_lt hrl), ?_⟩
    have e1 : Go (fun t => t = .row i) g H g (upd H S.ra (.lst (S.rxs ++ [tv]))) := Go.set k rs.rown rfl
    have rs1 := rs.push htv e1 upd_same
    have e1' := e1.mono (T' := TS_ i) fun t z => by subst z; exact (rfl : TS_ i (.row i))
    have r1 := r0.reseat hsv e1' rs1
    have po1 := po.go e1 (by intro z; cases z)
    generalize upd H S.ra (.lst (S.rxs ++ [tv])) = H1 at *
    rw [er]
    refine ⟨_, rfl, _, _, _, rfl, r1.obj, zn (by decide +kernel), _, rfl, _, rfl, (by show 2 ≤ sizeLine; decide), fun t ht => ?_⟩
    have e2 : Go (fun _ => False) g H1 (g.addD t (.tup [tv, .int s.row.length])) (upd H1 t (.tup [tv, .int s.row.length])) := Go.newD e1.ok ht
    have tt : toldV K (g.addD t (.tup [tv, .int s.row.length])).D (.ref t) (.hold msg s.row.length) := ⟨t, tv, rfl, (by show upd g.D t _ t = _; exact upd_same), htv.up e2.D⟩
    have r2 := r1.go e2 (fun _ _ z => z)
    have po2 := po1.go e2 (fun z => z)
    generalize upd H1 t (.tup [tv, .int s.row.length]) = H2 at *
    generalize g.addD t (.tup [tv, .int s.row.length]) = g2 at *
    refine ⟨g2, a, pa, i, _, L, _, ls, as, _, .hold msg s.row.length, rfl, e2.ok, r2, rfl, po2, so.pos, by have := so.ml; show s.mem.length ≤ 1000; omega, tt, by omega, fun g3 H3 as3 e3 p3 => ?_⟩
    have r3 := r2.go e3 nTH_post
    refine ⟨_, rfl, g3, a, pa, i, _, L, _, _, as3, rfl, e3.ok, r3, rfl, ⟨so.me, so.pos, so.ml, ?_, so.nd, so.hk⟩, p3, ?_, fun g4 H4 as4 e4 r4 p4 => ?_⟩
    · show (s.row ++ [msg]).length ≤ 1000
      rw [List.length_append, List.length_singleton]
      omega
    · have := List.length_filter_le (fun h => decide (h ≠ (i : Int))) s.mem
      have := so.ml
      rw [List.length_append, mail, List.length_map]
      show ls.length + (s.mem.filter _).length + 1000 ≤ 1000000
      omega
    · rw [List.append_assoc] at p4
      exact q g4 H4 as4 ((((e1'.mono TP_seat).trans (e2.mono fun _ z => z.elim)).trans (e3.mono TP_post)).trans e4) r4 p4

end
end Fo
namespace Fo
open PySem PySem.Spec PyProof.Rows L2
section
variable {P : Program} {w : World} {K : PySem.W.Frag} {mg : Str → Option Value} {base : Heap}
theorem mail_len (i : Nat) (s : Seat) (hs : List Int) (t : Told) : (mail i s hs t).length = hs.length := List.length_map _
theorem others_len (s : Seat) (i : Nat) : (s.others i).length ≤ s.mem.length := List.length_filter_le _ _
theorem pressGo_app (i : Nat) (s : Seat) : ∀ (xs ys : List Msg) (p : Nat), pressGo i s p (xs ++ ys) = pressGo i s p xs ++ pressGo i s (p + xs.length) ys
  | [], _, p => rfl
  | x :: xs, ys, p => by
    show mail i s (s.others i) (.hold x p) ++ pressGo i s (p + 1) (xs ++ ys) = mail i s (s.others i) (.hold x p) ++ pressGo i s (p + 1) xs ++ _
    rw [pressGo_app i s xs ys (p + 1), List.append_assoc, List.length_cons]
    congr 3
    omega
theorem pressGo_len (i : Nat) (s : Seat) : ∀ (xs : List Msg) (p : Nat), (pressGo i s p xs).length = xs.length * (s.others i).length
  | [], _ => by simp [pressGo]
  | x :: xs, p => by
    show (mail i s (s.others i) (.hold x p) ++ pressGo i s (p + 1) xs).length = _
    rw [List.length_append, mail_len, pressGo_len i s xs (p + 1), List.length_cons, Nat.add_mul, Nat.one_mul, Nat.add_comm]
def spSendAgain (K : PySem.W.Frag) : Sp := fun vs H Q _ => ∃ (g : Gh) (a pa : Addr) (i : Nat) (h : Hnd) (L : HL) (s : Seat) (ls : List Ltr) (as : List Addr), vs = [.ref a] ∧ Ok g H ∧ HandR K g H a i pa h L ∧ h.seat = some s ∧ SOk i s ∧ PostR K g H pa ls as ∧ ls.length + 20000 ≤ 1000000 ∧
  ∀ g' H' as', Go (TP i) g H g' H' → HandR K g' H' a i pa h L → PostR K g' H' pa (ls ++ s.press i) as' → Q .non H'
theorem sc_send_again : FnScope ["hand", "seat", "place", "message"] ["hand"] (defScope s_send_again) := ⟨rfl, rfl, rfl, by decide +kernel, rfl, by decide +kernel, by decide +kernel⟩
set_option maxRecDepth 100000 in
theorem ok_send_again (T : Txt K mg) : OkF P w K mg base CX0 6 (He.ga K "send_again") ["hand"] (spSendAgain K) := by
  obtain ⟨fd, F⟩ := T.F_send_again
  obtain ⟨fd_Hand_send_others, G_Hand_send_others⟩ := ok_Hand_send_others (P := P) (w := w) (base := base) T
  refine ⟨fd, F.ok sc_send_again (fun vs H Q E h => ?_) (fun cdv A outer s H vs Q E hr h => ?_), F.bindsN fun _ _ _ _ _ _ us hl => match us, hl with | [_], _ => rfl, F.kp⟩
  · obtain ⟨_, _, _, _, _, _, _, _, _, rfl, _⟩ := h
    rfl
  · refine ⟨_, PSs.nox (pss_cons (ps_set (i := 1) sc_send_again.nd rfl (Or.inl rfl) (pe_fld (pv 0) rfl)) (pss_cons (ps_for PassesOwn.never rfl (pi_enum (by rfl) T.b_enumerate (pa_cons (pe_fld (pv 1) rfl) pa_nil)) (pg_tup rfl (pgs_cons (pg_name (i := 2) sc_send_again.nd rfl (Or.inl rfl)) (pgs_cons (pg_name (i := 3) sc_send_again.nd rfl (Or.inl rfl)) pgs_nil))) (pss_one (ps_expr (pe_meth (pv 0) T.cl_Hand T.me_Hand_send_others G_Hand_send_others.1 (hr.mono (by decide)) G_Hand_send_others.2.1 .nil pass0 (pa_cons pe_str (pa_cons (pe_tup (pa_cons (pv 3) (pa_cons (pv 2) pa_nil))) pa_nil)))))) (pss_one (ps_expr (pe_meth (pv 0) T.cl_Hand T.me_Hand_send_others G_Hand_send_others.1 (hr.mono (by decide)) G_Hand_send_others.2.1 .nil pass0 (pa_cons pe_str (pa_cons (pe_fld (pv 1) rfl) pa_nil))))))), ?_⟩
    obtain ⟨g, a, pa, i, h, L, s, ls, as, rfl, k, r, hse, so, po, hlen, q⟩ := h
    have r0 := r
    obtain ⟨hup, hsaid, hhigh, hpast, hseat⟩ := h
    cases hse
    obtain ⟨sa, S, hsv, rs⟩ := r.seat
    have ro := r.obj
    rw [hsv] at ro
    have er : S.rxs.length = s.row.length := paired_len rs.row
    have hol := others_len s i
    have hml := so.ml
    refine ⟨_, rfl, _, _, _, _, _, rfl, ro, T.cl_Hand, T.na_Hand_seat, zl handK_nd (i := 6) rfl rfl, ?_⟩
    refine ⟨_, rfl, _, _, _, _, _, rfl, rs.obj, T.cl_Seat, T.na_Seat_row, zl seatK_nd (i := 3) rfl rfl, S.ra, _, rfl, SqL.of rs.robj, for_it (walk_enum (K := K) (a := S.ra) (xs := S.rxs)) (fun j σ H' => ∃ g' as' v1 v2, σ = [some (.ref a), some (.ref sa), v1, v2] ∧ Go TPost g H g' H' ∧ PostR K g' H' pa (ls ++ pressGo i s 0 (s.row.take j)) as')
      ⟨g, as, none, none, rfl, Go.refl k, by rw [List.take_zero]; show PostR K g H pa (ls ++ []) as; rw [List.append_nil]; exact po⟩ (fun j σ H' _ w => ?_) ?_ ?_⟩
    · obtain ⟨_, _, _, _, _, e, _⟩ := w
      exact SqL.of (e.stay rs.robj rs.rown (by intro z; cases z))
    · rintro j x σ H1 H2 hj ⟨g', as', v1, v2, rfl, e, p⟩ ⟨t, y1, y2, rfl, ht, rfl, h1, h2⟩
      cases h1
      obtain ⟨m, hm, hmv⟩ := paired_get rs.row h2
      have jlt : j < s.row.length := by rw [er] at hj; exact hj
      have e1 : Go (fun _ => False) g' H1 g' (upd H1 t (.tup [.int j, y2])) := Go.ext e.ok (same_upd ht)
      have p1 := p.go e1 (fun z => z)
      have hr1 := (r0.go e nTH_post).go e1 (fun _ _ z => z)
      refine ⟨t, _, rfl, .inl (.inl upd_same), rfl, _, _, rfl, _, _, rfl, rfl, ?_⟩
      refine ⟨_, rfl, _, _, _, rfl, hr1.obj, zn (by decide +kernel), _, rfl, _, rfl, (by show 2 ≤ sizeLine; decide), fun t2 ht2 => ?_⟩
      have e2 : Go (fun _ => False) g' _ (g'.addD t2 (.tup [y2, .int j])) (upd (upd H1 t (.tup [.int j, y2])) t2 (.tup [y2, .int j])) := Go.newD e1.ok ht2
      have tt : toldV K (g'.addD t2 (.tup [y2, .int j])).D (.ref t2) (.hold m j) := ⟨t2, y2, rfl, (by show upd g'.D t2 _ t2 = _; exact upd_same), (hmv.up e.D).up e2.D⟩
      refine ⟨_, a, pa, i, _, L, s, _, as', _, .hold m j, rfl, e2.ok, hr1.go e2 (fun _ _ z => z), rfl, p1.go e2 (fun z => z), so.pos, by omega, tt, ?_, fun g3 H3 as3 e3 p3 => ?_⟩
      · rw [List.length_append, pressGo_len, List.length_take]
        have h1 : min j s.row.length ≤ 1000 := Nat.le_trans (Nat.min_le_right _ _) so.rl
        have h2 : min j s.row.length * (s.others i).length ≤ 1000 * 9 := Nat.mul_le_mul h1 (Nat.le_trans hol hml)
        omega
      · refine ⟨g3, as3, _, _, rfl, ((e.trans (e1.mono fun _ z => z.elim)).trans (e2.mono fun _ z => z.elim)).trans e3, ?_⟩
        have e4 : ls ++ pressGo i s 0 (s.row.take (j + 1)) = ls ++ pressGo i s 0 (s.row.take j) ++ mail i s (s.others i) (.hold m j) := by
          rw [take_succ_of hm, pressGo_app, List.append_assoc, List.length_take, Nat.min_eq_left (Nat.le_of_lt jlt), Nat.zero_add]
          congr 2
          show mail i s (s.others i) (.hold m j) ++ [] = _
          rw [List.append_nil]
        rw [e4]
        exact p3
    · rintro σ H1 ⟨g', as', v1, v2, rfl, e, p⟩
      rw [er, List.take_length] at p
      have hr1 := r0.go e nTH_post
      have rs1 := rs.go e (fun t z w => by subst w; exact z)
      refine ⟨_, rfl, _, _, _, rfl, hr1.obj, zn (by decide +kernel), _, rfl, _, _, _, _, _, rfl, rs1.obj, T.cl_Seat, T.na_Seat_took, zl seatK_nd (i := 4) rfl rfl, g', a, pa, i, _, L, s, _, as', _, .take s.took, rfl, e.ok, hr1, rfl, p, so.pos, by omega, rfl, ?_, fun g3 H3 as3 e3 p3 => ?_⟩
      · rw [List.length_append, pressGo_len]
        have h2 : s.row.length * (s.others i).length ≤ 1000 * 9 := Nat.mul_le_mul so.rl (Nat.le_trans hol hml)
        omega
      · rw [List.append_assoc] at p3
        exact q g3 H3 as3 ((e.trans e3).mono TP_post) (hr1.go e3 nTH_post) p3
def preHold (_ : Nat) (s : Seat) (l : Ltr) : Prop := s.row.length < 1000 ∧ ∃ m pl, l.told = .hold m pl
theorem sc_hold_came : FnScope ["hand", "letter", "seat", "message", "place"] ["hand", "letter"] (defScope s_hold_came) := ⟨rfl, rfl, rfl, by decide +kernel, rfl, by decide +kernel, by decide +kernel⟩
set_option maxRecDepth 100000 in
theorem ok_hold_came (T : Txt K mg) : OkF P w K mg base CX0 4 (He.ga K "hold_came") ["hand", "letter"] (spMsg K preHold Seat.read) := by
  obtain ⟨fd, F⟩ := T.F_hold_came
  obtain ⟨fd_Seat_answered, G_Seat_answered⟩ := ok_Seat_answered (P := P) (w := w) (base := base) T
  obtain ⟨fd_Hand_send, G_Hand_send⟩ := ok_Hand_send (P := P) (w := w) (base := base) T
  refine ⟨fd, F.ok sc_hold_came (fun vs H Q E h => ?_) (fun cdv A outer s H vs Q E hr h => ?_), F.bindsN fun _ _ _ _ _ _ us hl => match us, hl with | [_, _], _ => rfl, F.kp⟩
  · obtain ⟨_, _, _, _, _, _, _, _, _, _, _, rfl, _⟩ := h
    rfl
  · refine ⟨_, PSs.nox (pss_cons (ps_set (i := 2) sc_hold_came.nd rfl (Or.inl rfl) (pe_fld (pv 0) rfl)) (pss_cons (ps_asg (pe_fld (pv 1) rfl) (pg_tup rfl (pgs_cons (pg_name (i := 3) sc_hold_came.nd rfl (Or.inl rfl)) (pgs_cons (pg_name (i := 4) sc_hold_came.nd rfl (Or.inl rfl)) pgs_nil)))) (pss_cons (ps_if (PW.pt (pw_or (pt_val (pe_meth0 (pv 2) T.cl_Seat T.me_Seat_answered G_Seat_answered.1 (hr.mono (by decide)) G_Seat_answered.2.1 .nil pass0)) (pw_or1 (pt_cmpR op_gt (pv 4) (pe_callB call_len_seq (by rfl) T.b_len PySem.boot_len (pa_cons (pe_fld (pv 2) rfl) pa_nil)) (nomark _))))) (pss_one ps_retN) pss_nil) (pss_cons (ps_if (pt_cmpR op_eq (pv 4) (pe_callB call_len_seq (by rfl) T.b_len PySem.boot_len (pa_cons (pe_fld (pv 2) rfl) pa_nil)) (nomark _)) (pss_one (ps_expr (pe_bm PySem.F.plainAttrs_list PySem.F.slot_list_append PySem.F.type_list_append mt_append (pe_fld (pv 2) rfl) (pa_cons (pv 3) pa_nil)))) pss_nil) (pss_one (ps_expr (pe_meth (pv 0) T.cl_Hand T.me_Hand_send G_Hand_send.1 (hr.mono (by decide)) G_Hand_send.2.1 .nil pass0 (pa_cons pe_str (pa_cons (pe_fld (pv 1) rfl) (pa_cons (pe_callB call_len_seq (by rfl) T.b_len PySem.boot_len (pa_cons (pe_fld (pv 2) rfl) pa_nil)) pa_nil)))))))))), ?_⟩
    obtain ⟨g, a, pa, la, i, h, L, s, ls, as, l, rfl, k, r, hse, so, hrk, po, hla, hs0, ⟨hrl, msg, pl, hl⟩, hlen, q⟩ := h
    have r0 := r
    obtain ⟨hup, hsaid, hhigh, hpast, hseat⟩ := h
    cases hse
    obtain ⟨sa, S, hsv, rs⟩ := r.seat
    have ro := r.obj
    rw [hsv] at ro
    obtain ⟨ldx, tv, hlo, htv⟩ := hla
    rw [hl] at htv
    obtain ⟨t, mv, rfl, ht, hmv⟩ := htv
    have hloH := k.sub _ _ hlo
    have er : S.rxs.length = s.row.length := paired_len rs.row
    have hfs : s.read i l = s.holdC i l.snd msg pl := by unfold Seat.read; rw [hl]
    rw [hfs] at q
    refine ⟨_, rfl, _, _, _, _, _, rfl, ro, T.cl_Hand, T.na_Hand_seat, zl handK_nd (i := 6) rfl rfl, _, rfl, _, _, _, _, _, rfl, hloH, T.cl_Letter, T.na_Letter_told, zl letK_nd (i := 4) rfl rfl, t, _, rfl, .inl (.inl (k.sub _ _ ht)), rfl, _, _, rfl, _, _, rfl, rfl, ?_⟩
    refine ⟨_, rfl, _, _, _, rfl, rs.obj, zn (by decide +kernel), sa, _, _, _, s.bal, rfl, rs.obj, rfl, rs.bal.up k.sub, _, rfl, ?_⟩
    have stay : s.holdC i l.snd msg pl = (s, []) → Q .non H := fun e => by
      rw [e] at q
      exact q g H as (Go.refl k) r0 (by rw [List.append_nil]; exact po)
    by_cases hst : s.bal ≠ noBal
    · rw [decide_eq_true hst]
      refine iteT (iteT (stay ?_))
      show (if s.still = true ∨ s.row.length < pl then _ else _) = _
      rw [if_pos (.inl (decide_eq_true hst))]
    rw [decide_eq_false hst]
    refine iteF ⟨_, rfl, _, rfl, _, _, _, _, _, rfl, rs.obj, T.cl_Seat, T.na_Seat_row, zl seatK_nd (i := 3) rfl rfl, S.ra, _, rfl, .inl (SqL.of rs.robj), _, _, rfl, rfl, _, rfl, ?_⟩
    rw [er]
    by_cases hpl : s.row.length < pl
    · rw [decide_eq_true (show ((s.row.length : Nat) : Int) < (pl : Int) by omega)]
      refine iteT (stay ?_)
      show (if s.still = true ∨ s.row.length < pl then _ else _) = _
      rw [if_pos (.inr hpl)]
    rw [decide_eq_false (show ¬ ((s.row.length : Nat) : Int) < (pl : Int) by omega)]
    have hf : s.holdC i l.snd msg pl = (if pl = s.row.length then { s with row := s.row ++ [msg] } else s, [⟨i, l.snd.toNat, s.num, .have_ (if pl = s.row.length then { s with row := s.row ++ [msg] } else s).row.length⟩]) := by
      show (if s.still = true ∨ s.row.length < pl then _ else _) = _
      rw [if_neg]
      rintro (h1 | h1)
      · exact hst (of_decide_eq_true h1)
      · exact hpl h1
    rw [hf] at q
    have fin : ∀ (g1 : Gh) (H1 : Hp) (S1 : SL) (s1 : Seat), Go (TS_ i) g H g1 H1 → SeatR K g1 H1 sa i s1 S1 → s1 = (if pl = s.row.length then { s with row := s.row ++ [msg] } else s) → s1.num = s.num →
        tDrop (tMeth (He.ga K "Hand") "send" (spSend K) [] E0 (tVar 0) (tCons (tC (.str "have")) (tCons (tFld K (tVar 1) "sender") (tCons (tCB (fun xs H Q => ∃ p ys, xs = [V.ref p] ∧ (SqL K H p ys ∨ SqT K H p ys) ∧ Q (V.int ys.length) H) (tCons (tFld K (tVar 2) "row") tNil)) tNil)))) { nx := fun _ H' => Q .non H', rt := Q } [some (.ref a), some (.ref la), some (.ref sa), some mv, some (.int pl)] H1 := by
      intro g1 H1 S1 s1 e1 rs1 es hn
      have r1 := r0.reseat hsv e1 rs1
      have hlo1 := e1.ok.sub _ _ (e1.D _ _ hlo)
      have er1 : S1.rxs.length = s1.row.length := paired_len rs1.row
      have ro1 := r1.obj
      refine ⟨_, rfl, _, _, _, rfl, ro1, zn (by decide +kernel), _, rfl, _, _, _, _, _, rfl, hlo1, T.cl_Letter, T.na_Letter_sender, zl letK_nd (i := 1) rfl rfl, _, rfl, _, _, _, _, _, rfl, rs1.obj, T.cl_Seat, T.na_Seat_row, zl seatK_nd (i := 3) rfl rfl, S1.ra, _, rfl, .inl (SqL.of rs1.robj), g1, a, pa, i, _, L, s1, ls, as, l.snd.toNat, _, .have_ s1.row.length, ?_, e1.ok, r1, rfl, po.go e1 TS_post, rfl, by omega, fun g2 H2 p e2 p2 => ?_⟩
      · rw [er1, show ((l.snd.toNat : Nat) : Int) = l.snd by omega]
        rfl
      · rw [← es, ← hn] at q
        exact q g2 H2 _ ((e1.mono TP_seat).trans (e2.mono TP_post)) (r1.go e2 nTH_post) p2
    refine iteF ⟨_, rfl, _, rfl, _, _, _, _, _, rfl, rs.obj, T.cl_Seat, T.na_Seat_row, zl seatK_nd (i := 3) rfl rfl, S.ra, _, rfl, .inl (SqL.of rs.robj), rfl, _, rfl, ?_⟩
    rw [er]
    by_cases he : pl = s.row.length
    · rw [decide_eq_true (show V.int (pl : Int) = V.int ((s.row.length : Nat) : Int) by rw [he])]
      refine iteT ⟨_, rfl, _, _, _, _, _, rfl, rs.obj, T.cl_Seat, T.na_Seat_row, zl seatK_nd (i := 3) rfl rfl, .inl ⟨rfl, _, SqL.of rs.robj⟩, _, rfl, S.ra, _, _, rfl, rfl, rs.robj, by rw [er]; exact small1000 (Nat.le_of_lt hrl), ?_⟩
      have e1 : Go (fun t => t = .row i) g H g (upd H S.ra (.lst (S.rxs ++ [mv]))) := Go.set k rs.rown rfl
      exact fin g _ _ _ (e1.mono (T' := TS_ i) fun t z => by subst z; exact (rfl : TS_ i (.row i))) (rs.push hmv e1 upd_same) (by rw [if_pos he]) rfl
    · rw [decide_eq_false (show ¬ V.int (pl : Int) = V.int ((s.row.length : Nat) : Int) from fun w => he (by have := V.int.inj w; omega))]
      refine iteF (fin g H S s (Go.refl k) rs (by rw [if_neg he]) rfl)
def preHave (_ : Nat) (s : Seat) (l : Ltr) : Prop := l.snd ∈ s.mem ∧ ∃ n, l.told = .have_ n
theorem valV_hold {l : List (Int × Nat)} {k : Int} (h : k ∈ l.map (·.1)) : valV (holdK l) (Sum.inl k) = some (.int (getA k 0 l : Nat)) := by
  obtain ⟨p, hp, e⟩ := List.mem_map.mp h
  unfold valV getA holdK
  rw [List.find?_map]
  have e1 : ((fun (kv : Key × V) => decide (kv.1 = Sum.inl k)) ∘ fun (p : Int × Nat) => ((Sum.inl p.1 : Key), V.int (p.2 : Int))) = fun p => decide (p.1 = k) := by
    funext p
    exact decide_eq_decide.mpr ⟨fun q => Sum.inl.inj q, fun q => congrArg Sum.inl q⟩
  rw [e1]
  cases hf : l.find? fun p => decide (p.1 = k) with
  | none =>
    rw [List.find?_eq_none] at hf
    exact absurd (decide_eq_true e) (hf p hp)
  | some p => rfl
theorem sc_have_came : FnScope ["hand", "letter", "holding"] ["hand", "letter"] (defScope s_have_came) := ⟨rfl, rfl, rfl, by decide +kernel, rfl, by decide +kernel, by decide +kernel⟩
set_option maxRecDepth 100000 in
theorem ok_have_came (T : Txt K mg) : OkF P w K mg base CX0 7 (He.ga K "have_came") ["hand", "letter"] (spMsg K preHave Seat.read) := by
  obtain ⟨fd, F⟩ := T.F_have_came
  obtain ⟨fd_take_what_enough_hold, G_take_what_enough_hold⟩ := ok_take_what_enough_hold (P := P) (w := w) (base := base) T
  refine ⟨fd, F.ok sc_have_came (fun vs H Q E h => ?_) (fun cdv A outer s H vs Q E hr h => ?_), F.bindsN fun _ _ _ _ _ _ us hl => match us, hl with | [_, _], _ => rfl, F.kp⟩
  · obtain ⟨_, _, _, _, _, _, _, _, _, _, _, rfl, _⟩ := h
    rfl
  · refine ⟨_, PSs.nox (pss_cons (ps_set (i := 2) sc_have_came.nd rfl (Or.inl rfl) (pe_fld (pe_fld (pv 0) rfl) rfl)) (pss_cons (ps_dput hr.hu (pv 2) (pe_fld (pv 1) rfl) (pe_callB (call_max2 rfl) (by rfl) T.b_max (by decide +kernel) (pa_cons (pe_dget hr.hu (pv 2) (pe_fld (pv 1) rfl) (fun _ _ => rfl)) (pa_cons (pe_fld (pv 1) rfl) pa_nil))) rfl) (pss_one (ps_expr (pe_call G_take_what_enough_hold.1 (hr.mono (by decide)) rfl T.g_take_what_enough_hold G_take_what_enough_hold.2.2 G_take_what_enough_hold.2.1 .nil pass0 (pa_cons (pv 0) pa_nil)))))), ?_⟩
    obtain ⟨g, a, pa, la, i, h, L, s, ls, as, l, rfl, k, r, hse, so, hrk, po, hla, hs0, ⟨hsm, n, hl⟩, hlen, q⟩ := h
    have r0 := r
    obtain ⟨hup, hsaid, hhigh, hpast, hseat⟩ := h
    cases hse
    obtain ⟨sa, S, hsv, rs⟩ := r.seat
    have ro := r.obj
    rw [hsv] at ro
    obtain ⟨ldx, tv, hlo, htv⟩ := hla
    rw [hl] at htv
    cases htv
    have hloH := k.sub _ _ hlo
    have hfs : s.read i l = s.haveC i l.snd n := by unfold Seat.read; rw [hl]
    rw [hfs] at q
    refine ⟨_, rfl, _, _, _, _, _, rfl, ro, T.cl_Hand, T.na_Hand_seat, zl handK_nd (i := 6) rfl rfl, _, _, _, _, _, rfl, rs.obj, T.cl_Seat, T.na_Seat_holding, zl seatK_nd (i := 5) rfl rfl, ?_⟩
    have hv := valV_hold (l := s.hold) (k := l.snd) (by rw [so.hk]; exact hsm)
    have hdg : DGet H S.ha (.int l.snd) (some (.int (getA l.snd 0 s.hold : Nat))) := by
      rw [← hv]
      exact DGet.k (k := Sum.inl l.snd) rs.hobj
    refine ⟨_, rfl, _, rfl, _, _, _, _, _, rfl, hloH, T.cl_Letter, T.na_Letter_sender, zl letK_nd (i := 1) rfl rfl, S.ha, _, rfl, hdg, _, rfl, _, _, _, _, _, rfl, hloH, T.cl_Letter, T.na_Letter_told, zl letK_nd (i := 4) rfl rfl, ?_⟩
    have hmx : (if (n : Int) > (getA l.snd 0 s.hold : Nat) then (n : Int) else (getA l.snd 0 s.hold : Nat)) = ((max (getA l.snd 0 s.hold) n : Nat) : Int) := by
      split <;> omega
    refine ⟨_, _, rfl, _, rfl, _, rfl, _, _, _, _, _, rfl, hloH, T.cl_Letter, T.na_Letter_sender, zl letK_nd (i := 1) rfl rfl, S.ha, _, rfl, DPut.k (k := Sum.inl l.snd) rs.hobj ?_, ?_⟩
    · have := congrArg List.length so.hk
      rw [List.length_map] at this
      rw [holdK, List.length_map]
      exact small1000 (by have := so.ml; omega)
    rw [hmx, holdK_put]
    have e1 : Go (fun t => t = .hold i) g H g (upd H S.ha (.dK (holdK (putA l.snd (max (getA l.snd 0 s.hold) n) s.hold)))) := Go.set k rs.hown rfl
    have rs1 : SeatR K g (upd H S.ha (.dK (holdK (putA l.snd (max (getA l.snd 0 s.hold) n) s.hold)))) sa i (s.note l.snd (max (getA l.snd 0 s.hold) n)) S := ⟨rs.own, e1.stay rs.obj rs.own (by intro z; cases z), rs.mem, rs.news, rs.rown, e1.stay rs.robj rs.rown (by intro z; cases z), rs.row, rs.hown, upd_same, rs.bal, rs.agr, rs.off.go e1 (by intro z; cases z) (by intro z; cases z) (by intro z; cases z)⟩
    have e1' := e1.mono (T' := TS_ i) fun t z => by subst z; exact (rfl : TS_ i (.hold i))
    have r1 := r0.reseat hsv e1' rs1
    generalize upd H S.ha (.dK (holdK (putA l.snd (max (getA l.snd 0 s.hold) n) s.hold))) = H1 at *
    refine ⟨_, rfl, g, a, pa, i, _, L, _, ls, as, rfl, e1.ok, r1, rfl, ⟨so.me, so.pos, so.ml, so.rl, so.nd, ?_⟩, po.go e1' TS_post, by omega, fun g2 H2 as2 e2 r2 p2 => ?_⟩
    · refine (putA_keys ?_).trans so.hk
      rw [so.hk]
      exact hsm
    · exact q g2 H2 as2 ((e1'.mono TP_seat).trans e2) r2 p2
def preTake (_ : Nat) (_ : Seat) (l : Ltr) : Prop := ∃ n, l.told = .take n
theorem sc_take_came : FnScope ["hand", "letter", "seat"] ["hand", "letter"] (defScope s_take_came) := ⟨rfl, rfl, rfl, by decide +kernel, rfl, by decide +kernel, by decide +kernel⟩
set_option maxRecDepth 100000 in
theorem ok_take_came (T : Txt K mg) : OkF P w K mg base CX0 1 (He.ga K "take_came") ["hand", "letter"] (spMsg K preTake Seat.read) := by
  obtain ⟨fd, F⟩ := T.F_take_came
  refine ⟨fd, F.ok sc_take_came (fun vs H Q E h => ?_) (fun cdv A outer s H vs Q E hr h => ?_), F.bindsN fun _ _ _ _ _ _ us hl => match us, hl with | [_, _], _ => rfl, F.kp⟩
  · obtain ⟨_, _, _, _, _, _, _, _, _, _, _, rfl, _⟩ := h
    rfl
  · refine ⟨_, PSs.nox (pss_cons (ps_set (i := 2) sc_take_came.nd rfl (Or.inl rfl) (pe_fld (pv 0) rfl)) (pss_one (ps_fld (pv 2) (pe_callB (call_max2 rfl) (by rfl) T.b_max (by decide +kernel) (pa_cons (pe_fld (pv 2) rfl) (pa_cons (pe_callB (call_min2 rfl) (by rfl) T.b_min (by decide +kernel) (pa_cons (pe_fld (pv 1) rfl) (pa_cons (pe_callB call_len_seq (by rfl) T.b_len PySem.boot_len (pa_cons (pe_fld (pv 2) rfl) pa_nil)) pa_nil))) pa_nil))) rfl))), ?_⟩
    obtain ⟨g, a, pa, la, i, h, L, s, ls, as, l, rfl, k, r, hse, so, hrk, po, hla, hs0, ⟨n, hl⟩, hlen, q⟩ := h
    have r0 := r
    obtain ⟨hup, hsaid, hhigh, hpast, hseat⟩ := h
    cases hse
    obtain ⟨sa, S, hsv, rs⟩ := r.seat
    have ro := r.obj
    rw [hsv] at ro
    obtain ⟨ldx, tv, hlo, htv⟩ := hla
    rw [hl] at htv
    cases htv
    have hloH := k.sub _ _ hlo
    have er : S.rxs.length = s.row.length := paired_len rs.row
    have hfs : s.read i l = (s.takeC n, []) := by unfold Seat.read; rw [hl]
    rw [hfs] at q
    refine ⟨_, rfl, _, _, _, _, _, rfl, ro, T.cl_Hand, T.na_Hand_seat, zl handK_nd (i := 6) rfl rfl, _, rfl, _, _, _, _, _, rfl, rs.obj, T.cl_Seat, T.na_Seat_took, zl seatK_nd (i := 4) rfl rfl, _, rfl, _, _, _, _, _, rfl, hloH, T.cl_Letter, T.na_Letter_told, zl letK_nd (i := 4) rfl rfl, _, rfl, _, _, _, _, _, rfl, rs.obj, T.cl_Seat, T.na_Seat_row, zl seatK_nd (i := 3) rfl rfl, S.ra, _, rfl, .inl (SqL.of rs.robj), _, _, rfl, _, _, rfl, _, rfl, _, _, _, _, rfl, rs.obj, T.cl_Seat, T.na_Seat_took, zlen, ?_⟩
    rw [er]
    have hmx : (if (if ((s.row.length : Nat) : Int) < (n : Int) then ((s.row.length : Nat) : Int) else (n : Int)) > (s.took : Int) then (if ((s.row.length : Nat) : Int) < (n : Int) then ((s.row.length : Nat) : Int) else (n : Int)) else (s.took : Int)) = ((max s.took (min n s.row.length) : Nat) : Int) := by
      split <;> split <;> omega
    rw [hmx]
    have e3 : Go (fun t => t = .seat i) g H g (upd H sa _) := Go.set (o := .ins (He.ga K "Seat") S.dx (putF "took" (V.int ((max s.took (min n s.row.length) : Nat) : Int)) (seatK.zip [.int s.num, S.mv, S.nv, .ref S.ra, .int s.took, .ref S.ha, S.bv, S.av, S.ov]))) k rs.own rfl
    have rs3 : SeatR K g _ sa i (s.takeC n) S := rs.put e3 rfl rfl rfl rfl rfl (by rw [upd_same, put_Seat_took] <;> rfl) rs.mem rs.news rs.bal rs.agr rfl rfl rfl
    have eT := e3.mono (T' := TS_ i) fun t z => by subst z; exact (rfl : TS_ i (.seat i))
    exact q g _ as (eT.mono TP_seat) (r0.reseat hsv eT rs3) (by rw [List.append_nil]; exact po.go eT TS_post)

end
end Fo
namespace Fo
open PySem PySem.Spec PyProof.Rows L2
section
variable {P : Program} {w : World} {K : PySem.W.Frag} {mg : Str → Option Value} {base : Heap}
theorem off_new {K : PySem.W.Frag} {g : Gh} {H : Hp} (fc : OffF K) (k : Ok g H) {x dx pd ga : Addr} {i : Nat} {bv mv : V} {b : Bal} {ms : List Int} (hx : H x = none) (hdx : H dx = none) (hne : dx ≠ x)
    (hpd : upd (upd H dx (.own x)) x (.ins (He.ga K "Offer") dx []) pd = none) (hga : upd (upd H dx (.own x)) x (.ins (He.ga K "Offer") dx []) ga = none) (hr : ga ≠ pd) (hb : balV K g.D bv b) (hm : memV g.D mv ms) :
    ∃ g' L, Go (TS_ i) g H g' (upd (upd (upd (upd (upd H dx (.own x)) x (.ins (He.ga K "Offer") dx [])) pd (.dK [])) ga (.dK [])) x (.ins (He.ga K "Offer") dx (offK.zip [bv, mv, .ref pd, .non, .ref ga]))) ∧
      OffR K g' (upd (upd (upd (upd (upd H dx (.own x)) x (.ins (He.ga K "Offer") dx [])) pd (.dK [])) ga (.dK [])) x (.ins (He.ga K "Offer") dx (offK.zip [bv, mv, .ref pd, .non, .ref ga]))) x i ⟨b, ms, [], none, []⟩ L := by
  have px : pd ≠ x := fun e => by rw [e, upd_same] at hpd; cases hpd
  have gx : ga ≠ x := fun e => by rw [e, upd_same] at hga; cases hga
  have pdx : pd ≠ dx := fun e => by rw [e, upd_ne hne, upd_same] at hpd; cases hpd
  have gdx : ga ≠ dx := fun e => by rw [e, upd_ne hne, upd_same] at hga; cases hga
  have hpd' : H pd = none := by rw [upd_ne px, upd_ne pdx] at hpd; exact hpd
  have hga' : H ga = none := by rw [upd_ne gx, upd_ne gdx] at hga; exact hga
  rw [upd_over2 px gx]
  have s1 : Go (TS_ i) g H g (upd H dx (.own x)) := Go.ext k (same_upd hdx)
  have f2 : upd H dx (HO.own x) pd = none := by rw [upd_ne pdx]; exact hpd'
  have s2 : Go (TS_ i) g _ (g.addO pd (.proms i)) (upd (upd H dx (.own x)) pd (.dK [])) := Go.newO s1.ok f2 rfl
  have f3 : upd (upd H dx (HO.own x)) pd (.dK []) ga = none := by rw [upd_ne hr, upd_ne gdx]; exact hga'
  have s3 : Go (TS_ i) _ _ ((g.addO pd (.proms i)).addO ga (.ags i)) (upd (upd (upd H dx (.own x)) pd (.dK [])) ga (.dK [])) := Go.newO s2.ok f3 rfl
  have f4 : upd (upd (upd H dx (HO.own x)) pd (.dK [])) ga (.dK []) x = none := by rw [upd_ne gx.symm, upd_ne px.symm, upd_ne hne.symm]; exact hx
  have s4 : Go (TS_ i) _ _ (((g.addO pd (.proms i)).addO ga (.ags i)).addO x (.off i)) (upd (upd (upd (upd H dx (.own x)) pd (.dK [])) ga (.dK [])) x (.ins (He.ga K "Offer") dx (offK.zip [bv, mv, .ref pd, .non, .ref ga]))) := Go.newO s3.ok f4 rfl
  refine ⟨_, ⟨dx, bv, mv, pd, .non, ga, []⟩, ((s1.trans s2).trans s3).trans s4, ⟨addO_same, upd_same, hb, hm, ?_, ?_, .nil, rfl, ?_, ?_, ?_⟩⟩
  · rw [addO_ne px, addO_ne hr.symm, addO_same]
  · rw [upd_ne px, upd_ne hr.symm, upd_same]
  · rw [addO_ne gx, addO_same]
  · rw [upd_ne gx, upd_same]
    rfl
  · exact fc
/-- another offer in the seat -/
theorem SeatR.setOff {K : PySem.W.Frag} {g g' : Gh} {H H' : Hp} {sa : Addr} {i : Nat} {s : Seat} {L : SL} {ov : V} {o : Option Off} (r : SeatR K g H sa i s L) (e : Go (TS_ i) g H g' H') (h0 : H' sa = some (.ins (He.ga K "Seat") L.dx (seatK.zip [.int s.num, L.mv, L.nv, .ref L.ra, .int s.took, .ref L.ha, L.bv, L.av, ov])))
    (h1 : H' L.ra = H L.ra) (h2 : H' L.ha = H L.ha) (ho : OffO K g' H' ov i o) : SeatR K g' H' sa i { s with off := o } { L with ov := ov } :=
  ⟨e.own _ _ r.own, h0, r.mem.up e.D, r.news.up e.D, e.own _ _ r.rown, h1.trans r.robj, paired_imp (fun _ _ => msgV.up e.D) r.row, e.own _ _ r.hown, h2.trans r.hobj, r.bal.up e.D, r.agr.up e.D, ho⟩
theorem SeatR.reoff {K : PySem.W.Frag} {g g' : Gh} {H H' : Hp} {sa oa : Addr} {i : Nat} {s : Seat} {L : SL} {o' : Off} {OL' : OL} {T : Tag → Prop} (r : SeatR K g H sa i s L) (hov : L.ov = .ref oa) (e : Go T g H g' H') (n1 : ¬ T (.seat i)) (n2 : ¬ T (.row i)) (n3 : ¬ T (.hold i)) (ro : OffR K g' H' oa i o' OL') :
    SeatR K g' H' sa i { s with off := some o' } L :=
  ⟨e.own _ _ r.own, e.stay r.obj r.own n1, r.mem.up e.D, r.news.up e.D, e.own _ _ r.rown, e.stay r.robj r.rown n2, paired_imp (fun _ _ => msgV.up e.D) r.row, e.own _ _ r.hown, e.stay r.hobj r.hown n3, r.bal.up e.D, r.agr.up e.D, ⟨oa, OL', hov, ro⟩⟩
/-- the tags of an offer -/
def TO_ (i : Nat) : Tag → Prop
  | .off j | .proms j | .ags j => j = i
  | _ => False
theorem TS_off {i : Nat} : ∀ t, TO_ i t → TS_ i t := fun t h => by cases t <;> first | exact h | exact h.elim
def spSendPrepare (K : PySem.W.Frag) : Sp := fun vs H Q _ => ∃ (g : Gh) (a pa mb : Addr) (i : Nat) (h : Hnd) (L : HL) (s : Seat) (ls : List Ltr) (as : List Addr) (ms : List Int), vs = [.ref a, .ref mb] ∧ Ok g H ∧ HandR K g H a i pa h L ∧ h.seat = some s ∧ SOk i s ∧ PostR K g H pa ls as ∧ H mb = some (.lst (ms.map V.int)) ∧ ms.length ≤ 1000 ∧ ls.length + 1000 ≤ 1000000 ∧
  ∀ g' H' as', Go (TP i) g H g' H' → HandR K g' H' a i pa { h with seat := some (s.propose i ms).1 } L → PostR K g' H' pa (ls ++ (s.propose i ms).2) as' → Q .non H'
theorem sc_send_prepare : FnScope ["hand", "members", "seat", "last", "ballot"] ["hand", "members"] (defScope s_send_prepare) := ⟨rfl, rfl, rfl, by decide +kernel, rfl, by decide +kernel, by decide +kernel⟩
set_option maxRecDepth 100000 in
theorem ok_send_prepare (T : Txt K mg) : OkF P w K mg base CX0 5 (He.ga K "send_prepare") ["hand", "members"] (spSendPrepare K) := by
  obtain ⟨fd, F⟩ := T.F_send_prepare
  obtain ⟨fd_Offer_init, G_Offer_init⟩ := ok_Offer_init (P := P) (w := w) (base := base) T
  obtain ⟨fd_Hand_send_each, G_Hand_send_each⟩ := ok_Hand_send_each (P := P) (w := w) (base := base) T
  refine ⟨fd, F.ok sc_send_prepare (fun vs H Q E h => ?_) (fun cdv A outer s H vs Q E hr h => ?_), F.bindsN fun _ _ _ _ _ _ us hl => match us, hl with | [_, _], _ => rfl, F.kp⟩
  · obtain ⟨_, _, _, _, _, _, _, _, _, _, _, rfl, _⟩ := h
    rfl
  · refine ⟨_, PSs.nox (pss_cons (ps_set (i := 2) sc_send_prepare.nd rfl (Or.inl rfl) (pe_fld (pv 0) rfl)) (pss_cons (ps_set (i := 3) sc_send_prepare.nd rfl (Or.inl rfl) (pe_ix ix_tup (pe_fld (pv 2) rfl) pe_int (fun _ _ => rfl))) (C8.pss_cut (ps_if (pt_cmpR op_notN (pe_fld (pv 2) rfl) pe_non (nomark _)) (pss_one (ps_set (i := 3) sc_send_prepare.nd rfl (Or.inl rfl) (pe_callB (call_max2 rfl) (by rfl) T.b_max (by decide +kernel) (pa_cons (pv 3) (pa_cons (pe_ix ix_tup (pe_fld (pe_fld (pv 2) rfl) rfl) pe_int (fun _ _ => rfl)) pa_nil))))) pss_nil) (pss_cons (ps_set (i := 4) sc_send_prepare.nd rfl (Or.inl rfl) (pe_tup (pa_cons (pe_op op_add (pv 3) pe_int) (pa_cons (pe_fld (pv 0) rfl) pa_nil)))) (pss_cons (ps_fld (pv 2) (pe_make T.mk_Offer G_Offer_init.1 (hr.mono (by decide)) rfl T.g_Offer G_Offer_init.2.1 .nil pass0 (pa_cons (pv 4) (pa_cons (pe_callTy (T := "list") call_list_of (by rfl) T.b_list (by decide +kernel) (pa_cons (pv 1) pa_nil)) pa_nil))) rfl) (pss_one (ps_expr (pe_meth (pv 0) T.cl_Hand T.me_Hand_send_each G_Hand_send_each.1 (hr.mono (by decide)) G_Hand_send_each.2.1 .nil pass0 (pa_cons pe_str (pa_cons (pe_fld (pv 2) rfl) (pa_cons (pv 4) pa_nil))))))))))), ?_⟩
    obtain ⟨g, a, pa, mb, i, h, L, s, ls, as, ms, rfl, k, r, hse, so, po, hmb, hml, hlen, q⟩ := h
    have r0 := r
    obtain ⟨hup, hsaid, hhigh, hpast, hseat⟩ := h
    cases hse
    obtain ⟨sa, S, hsv, rs⟩ := r.seat
    have ro := r.obj
    rw [hsv] at ro
    obtain ⟨ba, hbv, hbt⟩ := rs.bal
    have rso := rs.obj
    rw [hbv] at rso
    have hbH := same_sqT k.sub hbt
    refine ⟨_, rfl, _, _, _, _, _, rfl, ro, T.cl_Hand, T.na_Hand_seat, zl handK_nd (i := 6) rfl rfl, ?_⟩
    refine ⟨_, rfl, _, _, _, _, _, rfl, rso, T.cl_Seat, T.na_Seat_ballot, zl seatK_nd (i := 6) rfl rfl, ba, _, _, V.int s.bal.1, rfl, rfl, hbH, atI_nat (j := 0) rfl, ?_⟩
    obtain ⟨last, hlast⟩ : ∃ last : Int, last = (match s.off with | some o => max s.bal.1 o.bal.1 | none => s.bal.1) := ⟨_, rfl⟩
    refine ⟨fun σ H1 => H1 = H ∧ σ = [some (.ref a), some (.ref mb), some (.ref sa), some (.int last), none], ?_, ?_⟩
    · have hoff := rs.off
      cases hof : s.off with
      | none =>
        rw [hof] at hoff hlast
        have hov : S.ov = .non := hoff
        rw [hov] at rso
        exact ⟨_, rfl, _, _, _, _, _, rfl, rso, T.cl_Seat, T.na_Seat_offer, zl seatK_nd (i := 8) rfl rfl, rfl, _, rfl, iteF ⟨rfl, by rw [hlast]; rfl⟩⟩
      | some o =>
        rw [hof] at hoff hlast
        obtain ⟨oa, OLx, hov, roo⟩ := hoff
        rw [hov] at rso
        obtain ⟨bo, hbo, hbot⟩ := roo.bal
        have rooo := roo.obj
        rw [hbo] at rooo
        refine ⟨_, rfl, _, _, _, _, _, rfl, rso, T.cl_Seat, T.na_Seat_offer, zl seatK_nd (i := 8) rfl rfl, rfl, _, rfl, iteT ⟨_, rfl, _, rfl, _, _, _, _, _, rfl, rso, T.cl_Seat, T.na_Seat_offer, zl seatK_nd (i := 8) rfl rfl, _, _, _, _, _, rfl, rooo, (OffR.fc (by assumption)).cl, (OffR.fc (by assumption)).ballot, zl offK_nd (i := 0) rfl rfl, bo, _, _, V.int o.bal.1, rfl, rfl, same_sqT k.sub hbot, atI_nat (j := 0) rfl, _, _, rfl, rfl, ?_⟩⟩
        have hlast2 : last = max s.bal.1 o.bal.1 := hlast
        have hmx : (if o.bal.1 > s.bal.1 then o.bal.1 else s.bal.1) = max s.bal.1 o.bal.1 := by split <;> omega
        rw [hlast2, ← hmx]
        rfl
    rintro σ H1 ⟨rfl, rfl⟩
    refine ⟨_, rfl, _, _, rfl, rfl, _, rfl, _, _, _, _, _, rfl, ro, T.cl_Hand, T.na_Hand_me, zl handK_nd (i := 0) rfl rfl, (by show 2 ≤ sizeLine; decide), fun t ht => ?_⟩
    have e1 : Go (fun _ => False) g H1 (g.addD t (.tup [.int (last + 1), .int i])) (upd H1 t (.tup [.int (last + 1), .int i])) := Go.newD k ht
    have bt : balV K (g.addD t (.tup [.int (last + 1), .int i])).D (.ref t) (last + 1, (i : Int)) := ⟨t, rfl, .inl (.inl (by show upd g.D t _ t = _; exact upd_same))⟩
    have hmb1 := e1.fr _ _ hmb (fun _ _ z => z)
    have r1 := r0.go e1 (fun _ _ z => z)
    have rs1 := rs.go e1 (fun _ _ z => z)
    have po1 := po.go e1 (fun z => z)
    generalize upd H1 t (.tup [.int (last + 1), .int i]) = H2 at *
    generalize g.addD t (.tup [.int (last + 1), .int i]) = g2 at *
    refine ⟨_, rfl, _, rfl, mb, _, rfl, .inl (SqL.of hmb1), fun l hl => ?_⟩
    have e2 : Go (fun _ => False) g2 H2 (g2.addD l (.lst (ms.map V.int))) (upd H2 l (.lst (ms.map V.int))) := Go.newD e1.ok hl
    have mt : memV (g2.addD l (.lst (ms.map V.int))).D (.ref l) ms := ⟨l, rfl, by show upd g2.D l _ l = _; exact upd_same⟩
    have bt2 := bt.up e2.D
    have r2 := r1.go e2 (fun _ _ z => z)
    have rs2 := rs1.go e2 (fun _ _ z => z)
    have po2 := po1.go e2 (fun z => z)
    generalize upd H2 l (.lst (ms.map V.int)) = H3 at *
    generalize g2.addD l (.lst (ms.map V.int)) = g3 at *
    intro x dx hx hdx hne
    refine ⟨x, dx, _, _, rfl, upd_same, fun pd gb hpd hgb hne2 => ⟨rfl, ?_⟩⟩
    obtain ⟨g4, OLn, e4, rn⟩ := off_new ⟨T.cl_Offer, T.na_Offer_ballot, T.na_Offer_members, T.na_Offer_promises, T.na_Offer_forward, T.na_Offer_agrees⟩ e2.ok (i := i) hx hdx hne hpd hgb hne2 bt2 mt
    have hxo : x ≠ sa := fun e => by rw [e, rs2.obj] at hx; cases hx
    have hsame : ∀ c o, H3 c = some o → (upd (upd (upd (upd (upd H3 dx (.own x)) x (.ins (He.ga K "Offer") dx [])) pd (.dK [])) gb (.dK [])) x (.ins (He.ga K "Offer") dx (offK.zip [.ref t, .ref l, .ref pd, .non, .ref gb]))) c = some o := fun c o hc => by
      have c1 : c ≠ x := ne_of_none hc hx
      have c2 : c ≠ dx := ne_of_none hc hdx
      have c3 : c ≠ pd := fun e => by rw [e] at hc c1 c2; rw [upd_ne c1, upd_ne c2, hc] at hpd; cases hpd
      have c4 : c ≠ gb := fun e => by rw [e] at hc c1 c2; rw [upd_ne c1, upd_ne c2, hc] at hgb; cases hgb
      rw [upd_ne c1, upd_ne c4, upd_ne c3, upd_ne c1, upd_ne c2]
      exact hc
    generalize (upd (upd (upd (upd (upd H3 dx (HO.own x)) x (.ins (He.ga K "Offer") dx [])) pd (.dK [])) gb (.dK [])) x (.ins (He.ga K "Offer") dx (offK.zip [.ref t, .ref l, .ref pd, .non, .ref gb]))) = H4 at *
    have rso4 := hsame _ _ rs2.obj
    refine ⟨_, rfl, _, _, _, _, rfl, rso4, T.cl_Seat, T.na_Seat_offer, zlen, ?_⟩
    have e5 : Go (fun u => u = .seat i) g4 H4 g4 (upd H4 sa (.ins (He.ga K "Seat") S.dx (putF "offer" (.ref x) (seatK.zip [.int s.num, S.mv, S.nv, .ref S.ra, .int s.took, .ref S.ha, S.bv, S.av, S.ov])))) := Go.set e4.ok (e4.own _ _ rs2.own) rfl
    have rn5 := rn.go e5 (by intro z; cases z) (by intro z; cases z) (by intro z; cases z)
    have e45 := e4.trans (e5.mono (T' := TS_ i) fun t z => by subst z; exact (rfl : TS_ i (.seat i)))
    have rs5 := rs2.setOff (ov := .ref x) (o := some ⟨(last + 1, (i : Int)), ms, [], none, []⟩) e45 (by rw [upd_same, put_Seat_offer] <;> rfl) ?h1 ?h2 ⟨x, OLn, rfl, rn5⟩
    case h1 => rw [e5.stay (hsame _ _ rs2.robj) (e4.own _ _ rs2.rown) (by intro z; cases z), rs2.robj]
    case h2 => rw [e5.stay (hsame _ _ rs2.hobj) (e4.own _ _ rs2.hown) (by intro z; cases z), rs2.hobj]
    have r5 := r2.reseat hsv e45 rs5
    have po5 := po2.go e45 TS_post
    have bt5 := bt2.up e45.D
    generalize upd H4 sa (.ins (He.ga K "Seat") S.dx (putF "offer" (.ref x) (seatK.zip [.int s.num, S.mv, S.nv, .ref S.ra, .int s.took, .ref S.ha, S.bv, S.av, S.ov]))) = H5 at *
    obtain ⟨m, hmv, hm⟩ := rs5.mem
    have rso5 := rs5.obj
    have hmv' : S.mv = .ref m := hmv
    rw [hmv] at rso5
    have hmH := e5.ok.sub _ _ hm
    have hmo : g4.own m = none := by
      cases w : g4.own m with
      | none => rfl
      | some t => rw [e5.ok.sep _ _ w] at hm; cases hm
    have hpr : s.propose i ms = ({ s with off := some ⟨(last + 1, (i : Int)), ms, [], none, []⟩ }, mail i s s.mem (.prepare (last + 1, (i : Int)))) := by
      rw [hlast]
      rfl
    rw [hpr] at q
    refine ⟨_, rfl, _, _, _, rfl, r5.obj, zn (by decide +kernel), _, rfl, _, _, _, _, _, rfl, rso5, T.cl_Seat, T.na_Seat_members, zl seatK_nd (i := 1) rfl rfl, _, rfl, g4, a, pa, m, i, _, L, _, ls, as, s.mem, _, .prepare (last + 1, (i : Int)), rfl, e5.ok, r5, rfl, po5, hmH, hmo, so.pos, bt5, ?_, fun g6 H6 as6 e6 p6 => ?_⟩
    · have := so.ml
      omega
    · exact q g6 H6 as6 ((((e1.mono fun _ z => z.elim).trans (e2.mono fun _ z => z.elim)).trans (e45.mono TP_seat)).trans (e6.mono TP_post)) (r5.go e6 nTH_post) p6

end
end Fo
namespace Fo
open PySem PySem.Spec PyProof.Rows L2
section
variable {P : Program} {w : World} {K : PySem.W.Frag} {mg : Str → Option Value} {base : Heap}
theorem balV.lt {K : PySem.W.Frag} {H : Hp} {v w : V} {a b : Bal} (_ : balV K H v a) (_ : balV K H w b) : HT.lexLt [a.1, a.2] [b.1, b.2] = Bal.lt a b := by
  show (if a.1 = b.1 then (if a.2 = b.2 then false else decide (a.2 < b.2)) else decide (a.1 < b.1)) = _
  unfold Bal.lt
  by_cases h1 : a.1 = b.1
  · rw [if_pos h1, if_pos h1]
    by_cases h2 : a.2 = b.2
    · rw [if_pos h2, h2]
      exact (decide_eq_false (by omega)).symm
    · rw [if_neg h2]
  · rw [if_neg h1, if_neg h1]
theorem lexAt_le (a b : Bal) : Ob.lexAt (fun j => decide ([a.1, a.2].getD j 0 = [b.1, b.2].getD j 0)) (fun j => decide ([a.1, a.2].getD j 0 ≤ [b.1, b.2].getD j 0)) (decide ([a.1, a.2].length ≤ [b.1, b.2].length)) 0 (min [a.1, a.2].length [b.1, b.2].length) = !Bal.lt b a := by
  show (if decide (a.1 = b.1) = true then (if decide (a.2 = b.2) = true then true else decide (a.2 ≤ b.2)) else decide (a.1 ≤ b.1)) = _
  unfold Bal.lt
  by_cases h1 : a.1 = b.1
  · rw [decide_eq_true h1, if_pos rfl, if_pos h1.symm]
    by_cases h2 : a.2 = b.2
    · rw [decide_eq_true h2, if_pos rfl, decide_eq_false (show ¬ b.2 < a.2 by omega)]
      rfl
    · rw [decide_eq_false h2, if_neg Bool.false_ne_true]
      by_cases h3 : a.2 ≤ b.2
      · rw [decide_eq_true h3, decide_eq_false (show ¬ b.2 < a.2 by omega)]
        rfl
      · rw [decide_eq_false h3, decide_eq_true (show b.2 < a.2 by omega)]
        rfl
  · rw [decide_eq_false h1, if_neg Bool.false_ne_true, if_neg (fun e => h1 e.symm)]
    by_cases h3 : a.1 ≤ b.1
    · rw [decide_eq_true h3, decide_eq_false (show ¬ b.1 < a.1 by omega)]
      rfl
    · rw [decide_eq_false h3, decide_eq_true (show b.1 < a.1 by omega)]
      rfl
def spSendNews (K : PySem.W.Frag) : Sp := fun vs H Q _ => ∃ (g : Gh) (a pa : Addr) (i : Nat) (h : Hnd) (L : HL) (s : Seat) (ls : List Ltr) (as : List Addr) (o : Nat) (n : News), vs = [.ref a, .int o] ∧ Ok g H ∧ HandR K g H a i pa h L ∧ h.seat = some s ∧ s.news = some n ∧ PostR K g H pa ls as ∧ ls.length ≤ 1000000 ∧
  ∀ g' H' as', Go TPost g H g' H' → PostR K g' H' pa (ls ++ [⟨i, o, s.num, .enter n⟩]) as' → Q .non H'
theorem sc_send_news : FnScope ["hand", "other"] ["hand", "other"] (defScope s_send_news) := ⟨rfl, rfl, rfl, by decide +kernel, rfl, by decide +kernel, by decide +kernel⟩
set_option maxRecDepth 100000 in
theorem ok_send_news (T : Txt K mg) : OkF P w K mg base CX0 4 (He.ga K "send_news") ["hand", "other"] (spSendNews K) := by
  obtain ⟨fd, F⟩ := T.F_send_news
  obtain ⟨fd_Hand_send, G_Hand_send⟩ := ok_Hand_send (P := P) (w := w) (base := base) T
  refine ⟨fd, F.ok sc_send_news (fun vs H Q E h => ?_) (fun cdv A outer s H vs Q E hr h => ?_), F.bindsN fun _ _ _ _ _ _ us hl => match us, hl with | [_, _], _ => rfl, F.kp⟩
  · obtain ⟨_, _, _, _, _, _, _, _, _, _, _, rfl, _⟩ := h
    rfl
  · refine ⟨_, PSs.nox (pss_one (ps_expr (pe_meth (pv 0) T.cl_Hand T.me_Hand_send G_Hand_send.1 (hr.mono (by decide)) G_Hand_send.2.1 .nil pass0 (pa_cons pe_str (pa_cons (pv 1) (pa_cons (pe_fld (pe_fld (pv 0) rfl) rfl) pa_nil)))))), ?_⟩
    obtain ⟨g, a, pa, i, h, L, s, ls, as, o, n, rfl, k, r, hse, hnw, po, hlen, q⟩ := h
    have r0 := r
    obtain ⟨hup, hsaid, hhigh, hpast, hseat⟩ := h
    cases hse
    obtain ⟨sa, S, hsv, rs⟩ := r.seat
    have ro := r.obj
    rw [hsv] at ro
    have hnv := rs.news
    rw [hnw] at hnv
    refine ⟨_, rfl, _, _, _, rfl, ro, zn (by decide +kernel), _, rfl, _, rfl, _, _, _, _, _, rfl, ro, T.cl_Hand, T.na_Hand_seat, zl handK_nd (i := 6) rfl rfl, _, _, _, _, _, rfl, rs.obj, T.cl_Seat, T.na_Seat_news, zl seatK_nd (i := 2) rfl rfl, g, a, pa, i, _, L, s, ls, as, o, _, .enter n, rfl, k, r0, rfl, po, hnv, hlen, fun g' H' p e pp => q g' H' _ e pp⟩
def prePrep (_ : Nat) (_ : Seat) (l : Ltr) : Prop := ∃ b, l.told = .prepare b
theorem sc_prepare_came : FnScope ["hand", "letter", "seat", "ballot"] ["hand", "letter"] (defScope s_prepare_came) := ⟨rfl, rfl, rfl, by decide +kernel, rfl, by decide +kernel, by decide +kernel⟩
set_option maxRecDepth 100000 in
theorem ok_prepare_came (T : Txt K mg) : OkF P w K mg base CX0 4 (He.ga K "prepare_came") ["hand", "letter"] (spMsg K prePrep Seat.read) := by
  obtain ⟨fd, F⟩ := T.F_prepare_came
  obtain ⟨fd_Hand_send, G_Hand_send⟩ := ok_Hand_send (P := P) (w := w) (base := base) T
  refine ⟨fd, F.ok sc_prepare_came (fun vs H Q E h => ?_) (fun cdv A outer s H vs Q E hr h => ?_), F.bindsN fun _ _ _ _ _ _ us hl => match us, hl with | [_, _], _ => rfl, F.kp⟩
  · obtain ⟨_, _, _, _, _, _, _, _, _, _, _, rfl, _⟩ := h
    rfl
  · refine ⟨_, PSs.nox (pss_cons (ps_set (i := 2) sc_prepare_came.nd rfl (Or.inl rfl) (pe_fld (pv 0) rfl)) (pss_cons (ps_set (i := 3) sc_prepare_came.nd rfl (Or.inl rfl) (pe_fld (pv 1) rfl)) (pss_cons (ps_if (pt_cmpR (op_leT hr.units0) (pv 3) (pe_fld (pv 2) rfl) (nomark _)) (pss_one ps_retN) pss_nil) (pss_cons (ps_fld (pv 2) (pv 3) rfl) (pss_one (ps_expr (pe_meth (pv 0) T.cl_Hand T.me_Hand_send G_Hand_send.1 (hr.mono (by decide)) G_Hand_send.2.1 .nil pass0 (pa_cons pe_str (pa_cons (pe_fld (pv 1) rfl) (pa_cons (pe_tup (pa_cons (pv 3) (pa_cons (pe_callTy (T := "list") call_list_of (by rfl) T.b_list (by decide +kernel) (pa_cons (pe_fld (pv 2) rfl) pa_nil)) (pa_cons (pe_fld (pv 2) rfl) pa_nil)))) pa_nil)))))))))), ?_⟩
    obtain ⟨g, a, pa, la, i, h, L, s, ls, as, l, rfl, k, r, hse, so, hrk, po, hla, hs0, ⟨b, hl⟩, hlen, q⟩ := h
    have r0 := r
    obtain ⟨hup, hsaid, hhigh, hpast, hseat⟩ := h
    cases hse
    obtain ⟨sa, S, hsv, rs⟩ := r.seat
    have ro := r.obj
    rw [hsv] at ro
    obtain ⟨ldx, tv, hlo, htv⟩ := hla
    rw [hl] at htv
    have htv' : balV K g.D tv b := htv
    have hloH := k.sub _ _ hlo
    obtain ⟨t1, rfl, ht1⟩ := htv
    obtain ⟨t2, hbv, ht2⟩ := rs.bal
    have rso := rs.obj
    rw [hbv] at rso
    have hfs : s.read i l = s.prepC i l.snd b := by unfold Seat.read; rw [hl]
    rw [hfs] at q
    refine ⟨_, rfl, _, _, _, _, _, rfl, ro, T.cl_Hand, T.na_Hand_seat, zl handK_nd (i := 6) rfl rfl, _, rfl, _, _, _, _, _, rfl, hloH, T.cl_Letter, T.na_Letter_told, zl letK_nd (i := 4) rfl rfl, ?_⟩
    refine ⟨_, rfl, _, rfl, _, _, _, _, _, rfl, rso, T.cl_Seat, T.na_Seat_ballot, zl seatK_nd (i := 6) rfl rfl, t1, t2, [b.1, b.2], [s.bal.1, s.bal.2], rfl, rfl, same_sqT k.sub ht1, same_sqT k.sub ht2, _, rfl, ?_⟩
    rw [lexAt_le]
    cases hlt : Bal.lt s.bal b with
    | false =>
      refine iteT ?_
      have hf : s.prepC i l.snd b = (s, []) := by unfold Seat.prepC; rw [hlt]; rfl
      rw [hf] at q
      exact q g H as (Go.refl k) r0 (by rw [List.append_nil]; exact po)
    | true =>
      have hf : s.prepC i l.snd b = ({ s with bal := b }, [⟨i, l.snd.toNat, s.num, .promise b s.row s.agr⟩]) := by unfold Seat.prepC; rw [hlt]; rfl
      rw [hf] at q
      refine iteF ⟨_, rfl, _, rfl, _, _, _, _, rfl, rs.obj, T.cl_Seat, T.na_Seat_ballot, zlen, ?_⟩
      have e1 : Go (fun t => t = .seat i) g H g (upd H sa (.ins (He.ga K "Seat") S.dx (putF "ballot" (.ref t1) (seatK.zip [.int s.num, S.mv, S.nv, .ref S.ra, .int s.took, .ref S.ha, S.bv, S.av, S.ov])))) := Go.set k rs.own rfl
      have rs1 : SeatR K g _ sa i { s with bal := b } { S with bv := .ref t1 } := rs.put e1 rfl rfl rfl rfl rfl (by rw [upd_same, put_Seat_ballot] <;> rfl) rs.mem rs.news htv' rs.agr rfl rfl rfl
      have e1' := e1.mono (T' := TS_ i) fun t z => by subst z; exact (rfl : TS_ i (.seat i))
      have r1 := r0.reseat hsv e1' rs1
      have po1 := po.go e1' TS_post
      generalize upd H sa (.ins (He.ga K "Seat") S.dx (putF "ballot" (.ref t1) (seatK.zip [.int s.num, S.mv, S.nv, .ref S.ra, .int s.took, .ref S.ha, S.bv, S.av, S.ov]))) = H1 at *
      have hlo1 := e1.ok.sub _ _ hlo
      refine ⟨_, rfl, _, _, _, rfl, r1.obj, zn (by decide +kernel), _, rfl, _, _, _, _, _, rfl, hlo1, T.cl_Letter, T.na_Letter_sender, zl letK_nd (i := 1) rfl rfl, _, rfl, _, rfl, _, _, _, _, _, rfl, rs1.obj, T.cl_Seat, T.na_Seat_row, zl seatK_nd (i := 3) rfl rfl, S.ra, _, rfl, .inl (SqL.of rs1.robj), fun p hp => ?_⟩
      have e2 : Go (fun _ => False) g H1 (g.addD p (.lst S.rxs)) (upd H1 p (.lst S.rxs)) := Go.newD e1.ok hp
      have rw2 : rowV' (g.addD p (.lst S.rxs)).D (.ref p) s.row := ⟨p, S.rxs, rfl, (by show upd g.D p _ p = _; exact upd_same), paired_imp (fun _ _ => msgV.up e2.D) rs.row⟩
      have r2 := r1.go e2 (fun _ _ z => z)
      have rs2 := rs1.go e2 (fun _ _ z => z)
      have po2 := po1.go e2 (fun z => z)
      have bt2 := htv'.up e2.D
      generalize upd H1 p (.lst S.rxs) = H2 at *
      generalize g.addD p (.lst S.rxs) = g2 at *
      refine ⟨_, rfl, _, _, _, _, _, rfl, rs2.obj, T.cl_Seat, T.na_Seat_agreed, zl seatK_nd (i := 7) rfl rfl, (by show 3 ≤ sizeLine; decide), fun t ht => ?_⟩
      have e3 : Go (fun _ => False) g2 H2 (g2.addD t (.tup [.ref t1, .ref p, S.av])) (upd H2 t (.tup [.ref t1, .ref p, S.av])) := Go.newD e2.ok ht
      have tt : toldV K (g2.addD t (.tup [.ref t1, .ref p, S.av])).D (.ref t) (.promise b s.row s.agr) := ⟨t, .ref t1, .ref p, S.av, rfl, (by show upd g2.D t _ t = _; exact upd_same), bt2.up e3.D, rw2.up e3.D, rs2.agr.up e3.D⟩
      refine ⟨_, a, pa, i, _, L, _, ls, as, l.snd.toNat, _, .promise b s.row s.agr, ?_, e3.ok, r2.go e3 (fun _ _ z => z), rfl, po2.go e3 (fun z => z), tt, by omega, fun g' H' p' e pp => ?_⟩
      · show [V.ref a, V.str "promise", V.int l.snd, V.ref t] = _
        rw [show ((l.snd.toNat : Nat) : Int) = l.snd by omega]
        rfl
      · exact q g' H' _ ((((e1'.mono TP_seat).trans (e2.mono fun _ z => z.elim)).trans (e3.mono fun _ z => z.elim)).trans (e.mono TP_post)) ((r2.go e3 (fun _ _ z => z)).go e nTH_post) pp
def preAcc (_ : Nat) (_ : Seat) (l : Ltr) : Prop := ∃ a, l.told = .accept a
theorem sc_accept_came : FnScope ["hand", "letter", "seat", "ballot"] ["hand", "letter"] (defScope s_accept_came) := ⟨rfl, rfl, rfl, by decide +kernel, rfl, by decide +kernel, by decide +kernel⟩
set_option maxRecDepth 100000 in
theorem ok_accept_came (T : Txt K mg) : OkF P w K mg base CX0 4 (He.ga K "accept_came") ["hand", "letter"] (spMsg K preAcc Seat.read) := by
  obtain ⟨fd, F⟩ := T.F_accept_came
  obtain ⟨fd_Hand_send, G_Hand_send⟩ := ok_Hand_send (P := P) (w := w) (base := base) T
  refine ⟨fd, F.ok sc_accept_came (fun vs H Q E h => ?_) (fun cdv A outer s H vs Q E hr h => ?_), F.bindsN fun _ _ _ _ _ _ us hl => match us, hl with | [_, _], _ => rfl, F.kp⟩
  · obtain ⟨_, _, _, _, _, _, _, _, _, _, _, rfl, _⟩ := h
    rfl
  · refine ⟨_, PSs.nox (pss_cons (ps_set (i := 2) sc_accept_came.nd rfl (Or.inl rfl) (pe_fld (pv 0) rfl)) (pss_cons (ps_set (i := 3) sc_accept_came.nd rfl (Or.inl rfl) (pe_ix ix_tup (pe_fld (pv 1) rfl) pe_int (fun _ _ => rfl))) (pss_cons (ps_if (pt_cmpR (op_ltT hr.units0) (pv 3) (pe_fld (pv 2) rfl) (nomark _)) (pss_one ps_retN) pss_nil) (pss_cons (ps_fld (pv 2) (pv 3) rfl) (pss_cons (ps_fld (pv 2) (pe_fld (pv 1) rfl) rfl) (pss_one (ps_expr (pe_meth (pv 0) T.cl_Hand T.me_Hand_send G_Hand_send.1 (hr.mono (by decide)) G_Hand_send.2.1 .nil pass0 (pa_cons pe_str (pa_cons (pe_fld (pv 1) rfl) (pa_cons (pv 3) pa_nil))))))))))), ?_⟩
    obtain ⟨g, a, pa, la, i, h, L, s, ls, as, l, rfl, k, r, hse, so, hrk, po, hla, hs0, ⟨ag, hl⟩, hlen, q⟩ := h
    have r0 := r
    obtain ⟨hup, hsaid, hhigh, hpast, hseat⟩ := h
    cases hse
    obtain ⟨sa, S, hsv, rs⟩ := r.seat
    have ro := r.obj
    rw [hsv] at ro
    obtain ⟨ldx, tv, hlo, htv⟩ := hla
    rw [hl] at htv
    have htv' : agrV K g.D tv ag := htv
    have hloH := k.sub _ _ hlo
    obtain ⟨t0, bv, mv, rv, rfl, ht0, hb, hm, hrw⟩ := htv
    have hb' := hb
    obtain ⟨t1, rfl, ht1⟩ := hb
    obtain ⟨t2, hbv, ht2⟩ := rs.bal
    have rso := rs.obj
    rw [hbv] at rso
    have hfs : s.read i l = s.accC i l.snd ag := by unfold Seat.read; rw [hl]
    rw [hfs] at q
    refine ⟨_, rfl, _, _, _, _, _, rfl, ro, T.cl_Hand, T.na_Hand_seat, zl handK_nd (i := 6) rfl rfl, _, rfl, _, _, _, _, _, rfl, hloH, T.cl_Letter, T.na_Letter_told, zl letK_nd (i := 4) rfl rfl, t0, _, _, V.ref t1, rfl, rfl, .inl (.inl (k.sub _ _ ht0)), atI_nat (j := 0) rfl, ?_⟩
    refine ⟨_, rfl, _, rfl, _, _, _, _, _, rfl, rso, T.cl_Seat, T.na_Seat_ballot, zl seatK_nd (i := 6) rfl rfl, t1, t2, [ag.bal.1, ag.bal.2], [s.bal.1, s.bal.2], rfl, rfl, same_sqT k.sub ht1, same_sqT k.sub ht2, _, rfl, ?_⟩
    rw [balV.lt hb' rs.bal]
    cases hlt : Bal.lt ag.bal s.bal with
    | true =>
      refine iteT ?_
      have hf : s.accC i l.snd ag = (s, []) := by unfold Seat.accC; rw [hlt]; rfl
      rw [hf] at q
      exact q g H as (Go.refl k) r0 (by rw [List.append_nil]; exact po)
    | false =>
      have hf : s.accC i l.snd ag = ({ s with bal := ag.bal, agr := some ag }, [⟨i, l.snd.toNat, s.num, .agree ag.bal⟩]) := by unfold Seat.accC; rw [hlt]; rfl
      rw [hf] at q
      refine iteF ⟨_, rfl, _, rfl, _, _, _, _, rfl, rs.obj, T.cl_Seat, T.na_Seat_ballot, zlen, ?_⟩
      have e1 : Go (fun t => t = .seat i) g H g (upd H sa (.ins (He.ga K "Seat") S.dx (putF "ballot" (.ref t1) (seatK.zip [.int s.num, S.mv, S.nv, .ref S.ra, .int s.took, .ref S.ha, S.bv, S.av, S.ov])))) := Go.set k rs.own rfl
      have rs1 : SeatR K g _ sa i { s with bal := ag.bal } { S with bv := .ref t1 } := rs.put e1 rfl rfl rfl rfl rfl (by rw [upd_same, put_Seat_ballot] <;> rfl) rs.mem rs.news hb' rs.agr rfl rfl rfl
      have hlo1 := e1.ok.sub _ _ hlo
      generalize upd H sa (.ins (He.ga K "Seat") S.dx (putF "ballot" (.ref t1) (seatK.zip [.int s.num, S.mv, S.nv, .ref S.ra, .int s.took, .ref S.ha, S.bv, S.av, S.ov]))) = H1 at *
      refine ⟨_, rfl, _, _, _, _, _, rfl, hlo1, T.cl_Letter, T.na_Letter_told, zl letK_nd (i := 4) rfl rfl, _, rfl, _, _, _, _, rfl, rs1.obj, T.cl_Seat, T.na_Seat_agreed, zlen, ?_⟩
      have e2 : Go (fun t => t = .seat i) g H1 g (upd H1 sa (.ins (He.ga K "Seat") S.dx (putF "agreed" (.ref t0) (seatK.zip [.int s.num, S.mv, S.nv, .ref S.ra, .int s.took, .ref S.ha, .ref t1, S.av, S.ov])))) := Go.set e1.ok rs.own rfl
      have rs2 : SeatR K g _ sa i { s with bal := ag.bal, agr := some ag } { S with bv := .ref t1, av := .ref t0 } := rs1.put e2 rfl rfl rfl rfl rfl (by rw [upd_same, put_Seat_agreed] <;> rfl) rs1.mem rs1.news rs1.bal htv' rfl rfl rfl
      have e2' := (e1.trans e2).mono (T' := TS_ i) fun t z => by subst z; exact (rfl : TS_ i (.seat i))
      have r2 := r0.reseat hsv e2' rs2
      have po2 := po.go e2' TS_post
      have hlo2 := e2.ok.sub _ _ hlo
      refine ⟨_, rfl, _, _, _, rfl, r2.obj, zn (by decide +kernel), _, rfl, _, _, _, _, _, rfl, hlo2, T.cl_Letter, T.na_Letter_sender, zl letK_nd (i := 1) rfl rfl, _, rfl, g, a, pa, i, _, L, _, ls, as, l.snd.toNat, _, .agree ag.bal, ?_, e2.ok, r2, rfl, po2, hb', by omega, fun g' H' p' e pp => ?_⟩
      · show [V.ref a, V.str "agree", V.int l.snd, V.ref t1] = _
        rw [show ((l.snd.toNat : Nat) : Int) = l.snd by omega]
        rfl
      · exact q g' H' _ ((e2'.mono TP_seat).trans (e.mono TP_post)) (r2.go e nTH_post) pp
def spIsLast (K : PySem.W.Frag) : Sp := fun vs H Q _ => ∃ (g : Gh) (ov bv : V) (i : Nat) (o : Option Off) (b : Bal), vs = [ov, bv] ∧ Ok g H ∧ OffO K g H ov i o ∧ balV K g.D bv b ∧ Q (.bl (match o with | none => false | some o => decide (o.bal = b))) H
theorem sc_is_last_offer : FnScope ["offer", "ballot"] ["offer", "ballot"] (defScope s_is_last_offer) := ⟨rfl, rfl, rfl, by decide +kernel, rfl, by decide +kernel, by decide +kernel⟩
set_option maxRecDepth 100000 in
theorem ok_is_last_offer (T : Txt K mg) : OkF P w K mg base CX0 1 (He.ga K "is_last_offer") ["offer", "ballot"] (spIsLast K) := by
  obtain ⟨fd, F⟩ := T.F_is_last_offer
  refine ⟨fd, F.ok sc_is_last_offer (fun vs H Q E h => ?_) (fun cdv A outer s H vs Q E hr h => ?_), F.bindsN fun _ _ _ _ _ _ us hl => match us, hl with | [_, _], _ => rfl, F.kp⟩
  · obtain ⟨_, _, _, _, _, _, rfl, _⟩ := h
    rfl
  · refine ⟨_, PSs.nox (pss_one (ps_ret (pe_and (pe_cmpR op_notN (pv 0) pe_non (nomark _)) (pe_one (pe_cmpR (op_eqD hr.u64) (pe_fld (pv 0) rfl) (pv 1) (nomark _)))))), ?_⟩
    obtain ⟨g, ov, bv, i, o, b, rfl, k, ho, hb, q⟩ := h
    cases o with
    | none =>
      have e : ov = .non := ho
      subst e
      exact ⟨_, rfl, rfl, false, rfl, iteF q⟩
    | some o =>
      obtain ⟨oa, OLx, rfl, ro⟩ := ho
      refine ⟨_, rfl, rfl, true, rfl, iteT ⟨_, rfl, _, _, _, _, _, rfl, ro.obj, (OffR.fc (by assumption)).cl, (OffR.fc (by assumption)).ballot, zl offK_nd (i := 0) rfl rfl, _, rfl, balD o.bal, balD b, (ro.bal.dp).same k.sub, (hb.dp).same k.sub, balD_sh _, balD_sh _, ?_⟩⟩
      rw [balD_eqv]
      exact q

end
end Fo
namespace Fo
open PySem PySem.Spec PyProof.Rows L2
section
variable {P : Program} {w : World} {K : PySem.W.Frag} {mg : Str → Option Value} {base : Heap}
theorem gtP_is (p q : Bal) : Ob.lexAt (fun j => decide ([p.1, p.2].getD j 0 = [q.1, q.2].getD j 0)) (fun j => decide ([q.1, q.2].getD j 0 < [p.1, p.2].getD j 0)) (decide ([q.1, q.2].length < [p.1, p.2].length)) 0 (min [p.1, p.2].length [q.1, q.2].length) = Bal.lt q p := by
  show (if decide (p.1 = q.1) = true then (if decide (p.2 = q.2) = true then false else decide (q.2 < p.2)) else decide (q.1 < p.1)) = _
  unfold Bal.lt
  by_cases h1 : p.1 = q.1
  · rw [decide_eq_true h1, if_pos rfl, if_pos h1.symm]
    by_cases h2 : p.2 = q.2
    · rw [decide_eq_true h2, if_pos rfl, decide_eq_false (show ¬ q.2 < p.2 by omega)]
    · rw [decide_eq_false h2, if_neg Bool.false_ne_true]
  · rw [decide_eq_false h1, if_neg Bool.false_ne_true, if_neg (fun e => h1 e.symm)]
theorem bestA_cons (b : Option Agr) (x : Int) (r : List Msg) (a : Option Agr) (t : List (Int × List Msg × Option Agr)) : bestA b ((x, r, a) :: t) = bestA (bstep b a) t := rfl
theorem oagr_non {K : PySem.W.Frag} {D : Hp} {v : V} {a : Option Agr} (h : oagrV K D v a) : decide (v = V.non) = a.isNone := by
  cases a with
  | none => rw [show v = .non from h]; rfl
  | some a => obtain ⟨t, _, _, _, rfl, _⟩ := h; rfl
def spPutFwd (K : PySem.W.Frag) : Sp := fun vs H Q _ => ∃ (g : Gh) (oa : Addr) (i : Nat) (o : Off) (L : OL), vs = [.ref oa] ∧ Ok g H ∧ OffR K g H oa i o L ∧ o.proms.length ≤ 1000 ∧ ∀ g' H' v, Go (fun _ => False) g H g' H' → fwdV g'.D v (some o.forward) → Q v H'
theorem sc_what_to_put_forward : FnScope ["offer", "best", "_", "agreed", "row"] ["offer"] (defScope s_what_to_put_forward) := ⟨rfl, rfl, rfl, by decide +kernel, rfl, by decide +kernel, by decide +kernel⟩
set_option maxRecDepth 100000 in
theorem ok_what_to_put_forward (T : Txt K mg) : OkF P w K mg base CX0 2 (He.ga K "what_to_put_forward") ["offer"] (spPutFwd K) := by
  obtain ⟨fd, F⟩ := T.F_what_to_put_forward
  obtain ⟨fd_longest, G_longest⟩ := ok_longest (P := P) (w := w) (base := base) T
  refine ⟨fd, F.ok sc_what_to_put_forward (fun vs H Q E h => ?_) (fun cdv A outer s H vs Q E hr h => ?_), F.bindsN fun _ _ _ _ _ _ us hl => match us, hl with | [_], _ => rfl, F.kp⟩
  · obtain ⟨_, _, _, _, _, rfl, _⟩ := h
    rfl
  · refine ⟨_, PSs.nox (pss_cons (ps_set (i := 1) sc_what_to_put_forward.nd rfl (Or.inl rfl) pe_non) (C8.pss_cut (ps_lock (ps_for PassesOwn.never rfl (pi_values (pe_fld (pv 0) rfl)) (pg_tup rfl (pgs_cons (pg_name (i := 2) sc_what_to_put_forward.nd rfl (Or.inl rfl)) (pgs_cons (pg_name (i := 3) sc_what_to_put_forward.nd rfl (Or.inl rfl)) pgs_nil))) (pss_one (ps_if (PW.pt (pw_and (pt_cmpR op_notN (pv 3) pe_non (nomark _)) (pw_and1 (PW.pt (pw_or (pt_cmpR op_isN (pv 1) pe_non (nomark _)) (pw_or1 (pt_cmpR (op_gtP hr.units0) (pe_ix ix_tup (pv 3) pe_int (fun _ _ => rfl)) (pe_ix ix_tup (pv 1) pe_int (fun _ _ => rfl)) (nomark _)))))))) (pss_one (ps_set (i := 1) sc_what_to_put_forward.nd rfl (Or.inl rfl) (pv 3))) pss_nil)))) (pss_cons (ps_if (pt_cmpR op_notN (pv 1) pe_non (nomark _)) (pss_one (ps_ret (pe_tup (pa_cons (pe_ix ix_tup (pv 1) pe_int (fun _ _ => rfl)) (pa_cons (pe_ix ix_tup (pv 1) pe_int (fun _ _ => rfl)) pa_nil))))) pss_nil) (pss_one (ps_ret (pe_tup (pa_cons (pe_fld (pv 0) rfl) (pa_cons (pe_call G_longest.1 (hr.mono (by decide)) rfl T.g_longest G_longest.2.2 G_longest.2.1 .nil pass0 (pa_cons (pe_lock (pe_lc (own := [("row", 4), ("_", 2)]) (g := (gTup K 2 (gCons (gName 4) (gCons (gName 2) gNil)))) (te := (tVar 4)) rfl sc_what_to_put_forward.nd (pi_values (pe_fld (pv 0) rfl)) (blkOk_by (own := [("row", 4), ("_", 2)]) (N := ["offer", "best", "_", "agreed", "row"]) (sc := defScope s_what_to_put_forward) (by decide +kernel)) (fun _ _ _ _ _ => (pg_tup rfl (pgs_cons (pg_name (i := 4) sc_what_to_put_forward.nd rfl (Or.inl rfl)) (pgs_cons (pg_name (i := 2) sc_what_to_put_forward.nd rfl (Or.inl rfl)) pgs_nil)))) (fun _ _ _ _ _ => pts_nil) (fun _ _ _ _ _ => (pv 4)))) pa_nil)) pa_nil)))))))), ?_⟩
    obtain ⟨g, oa, i, o, L, rfl, k, ro, hlen, q⟩ := h
    have hpl : L.pkv.length = o.proms.length := paired_len ro.prom
    refine ⟨fun σ H1 => H1 = H ∧ ∃ bv v2 v3, σ = [some (.ref oa), some bv, v2, v3, none] ∧ oagrV K g.D bv (bestA none o.proms), ?_, ?_⟩
    · refine ⟨L.pa, .dK L.pkv, ro.pobj, True.intro, fun od => ?_⟩
      have elk : Go (fun t => t = .proms i) g H g (upd H L.pa (.frz od (.dK L.pkv))) := Go.set k ro.pown rfl
      have roH := elk.stay ro.obj ro.own (by intro z; cases z)
      refine ⟨_, rfl, _, _, _, _, _, rfl, roH, (OffR.fc (by assumption)).cl, (OffR.fc (by assumption)).promises, zl offK_nd (i := 2) rfl rfl, L.pa, od, L.pkv, rfl, upd_same, for_it walk_values (fun j σ H' => H' = upd H L.pa (.frz od (.dK L.pkv)) ∧ ∃ bv v2 v3 cur, σ = [some (.ref oa), some bv, v2, v3, none] ∧ oagrV K g.D bv cur ∧ bestA none o.proms = bestA cur (o.proms.drop j))
        ⟨rfl, .non, none, none, none, rfl, rfl, rfl⟩ (fun j σ H' _ w => by rw [w.1]; exact upd_same) ?_ ?_⟩
      · rintro j x σ H1 H2 hj ⟨rfl, bv, v2, v3, cur, rfl, hcur, e⟩ ⟨rfl, key, hx⟩
        obtain ⟨p, hp, hkey, t, rv, av, rfl, ht, hrv, hav⟩ := paired_get ro.prom hx
        have htH := elk.ok.sub _ _ ht
        obtain ⟨pk, pr, pa⟩ := p
        rw [drop_cons hp, bestA_cons] at e
        refine ⟨t, _, rfl, .inl (.inl htH), rfl, _, _, rfl, _, _, rfl, rfl, ?_⟩
        refine ⟨_, rfl, rfl, _, rfl, ?_⟩
        rw [oagr_non hav]
        have next : ∀ w c2, oagrV K g.D w c2 → bstep cur pa = c2 → (upd H L.pa (.frz od (.dK L.pkv)) = upd H L.pa (.frz od (.dK L.pkv)) ∧ ∃ bv v2' v3' cur, [some (V.ref oa), some w, some rv, some av, none] = [some (.ref oa), some bv, v2', v3', none] ∧ oagrV K g.D bv cur ∧ bestA none o.proms = bestA cur (o.proms.drop (j + 1))) := fun w c2 hw hc => ⟨rfl, w, _, _, c2, rfl, hw, by rw [e, hc]⟩
        cases pa with
        | none =>
          refine iteF (iteF ?_)
          exact next bv cur hcur (by cases cur <;> rfl)
        | some ag =>
          refine iteT ⟨_, rfl, rfl, _, rfl, ?_⟩
          rw [oagr_non hcur]
          cases cur with
          | none => exact iteT (iteT ⟨_, rfl, next av (some ag) hav rfl⟩)
          | some cu =>
            obtain ⟨t1, b1, m1, r1, rfl, ht1, hb1, _⟩ := id hav
            obtain ⟨t2, b2, m2, r2, rfl, ht2, hb2, _⟩ := id hcur
            obtain ⟨c1, rfl, hc1⟩ := hb1
            obtain ⟨c2, rfl, hc2⟩ := hb2
            refine iteF ⟨_, rfl, t1, _, _, V.ref c1, rfl, rfl, .inl (.inl (elk.ok.sub _ _ ht1)), atI_nat (j := 0) rfl, _, rfl, t2, _, _, V.ref c2, rfl, rfl, .inl (.inl (elk.ok.sub _ _ ht2)), atI_nat (j := 0) rfl, c1, c2, ag.bal, cu.bal, rfl, rfl, same_sqT elk.ok.sub hc1, same_sqT elk.ok.sub hc2, _, rfl, ?_⟩
            rw [gtP_is]
            cases hlt : Bal.lt cu.bal ag.bal with
            | true => exact iteT ⟨_, rfl, next _ (some ag) hav (by show (if Bal.lt cu.bal ag.bal = true then _ else _) = _; rw [hlt]; rfl)⟩
            | false => exact iteF (next _ (some cu) hcur (by show (if Bal.lt cu.bal ag.bal = true then _ else _) = _; rw [hlt]; rfl))
      · rintro σ H1 ⟨rfl, bv, v2, v3, cur, rfl, hcur, e⟩
        rw [hpl, List.drop_length] at e
        refine ⟨upd_same, ?_, bv, v2, v3, rfl, by rw [e]; exact hcur⟩
        rw [upd_upd]
        funext b
        by_cases hb : b = L.pa
        · rw [hb, upd_same, ro.pobj]
        · rw [upd_ne hb]
    rintro σ H1 ⟨rfl, bv, v2, v3, rfl, hb⟩
    refine ⟨_, rfl, rfl, _, rfl, ?_⟩
    rw [oagr_non hb]
    cases hbest : bestA none o.proms with
    | some ag =>
      rw [hbest] at hb
      obtain ⟨t1, b1, m1, r1, rfl, ht1, _, hm1, hr1⟩ := hb
      have sq : SqT K H1 t1 [b1, m1, r1] := .inl (.inl (k.sub _ _ ht1))
      refine iteT ⟨_, rfl, t1, _, _, m1, rfl, rfl, sq, atI_nat (j := 1) rfl, _, rfl, t1, _, _, r1, rfl, rfl, sq, atI_nat (j := 2) rfl, (by show 2 ≤ sizeLine; decide), fun t ht => ?_⟩
      have e1 : Go (fun _ => False) g H1 (g.addD t (.tup [m1, r1])) (upd H1 t (.tup [m1, r1])) := Go.newD k ht
      refine q _ _ _ e1 ⟨t, m1, r1, rfl, (by show upd g.D t _ t = _; exact upd_same), ?_, ?_⟩
      · have : o.forward = (ag.mem, ag.row) := by unfold Off.forward; rw [hbest]
        rw [this]
        exact hm1.up e1.D
      · have : o.forward = (ag.mem, ag.row) := by unfold Off.forward; rw [hbest]
        rw [this]
        exact hr1.up e1.D
    | none =>
      refine iteF ?_
      have hfw : o.forward = (o.mem, longV [] (o.proms.map fun p => p.2.1)) := by unfold Off.forward; rw [hbest]
      rw [hfw] at q
      obtain ⟨mo, hmv, hmo⟩ := ro.mem
      have roo := ro.obj
      rw [hmv] at roo
      refine ⟨_, rfl, _, _, _, _, _, rfl, roo, (OffR.fc (by assumption)).cl, (OffR.fc (by assumption)).members, zl offK_nd (i := 1) rfl rfl, ?_⟩
      refine ⟨L.pa, .dK L.pkv, ro.pobj, True.intro, fun od => ?_⟩
      have elk : Go (fun t => t = .proms i) g H1 g (upd H1 L.pa (.frz od (.dK L.pkv))) := Go.set k ro.pown rfl
      have roH := elk.stay ro.obj ro.own (by intro z; cases z)
      refine ⟨_, rfl, _, _, _, _, _, rfl, roH, (OffR.fc (by assumption)).cl, (OffR.fc (by assumption)).promises, zl offK_nd (i := 2) rfl rfl, L.pa, od, L.pkv, rfl, upd_same, fun D hD => ?_⟩
      have hDp : D ≠ L.pa := fun e => by rw [e, upd_same] at hD; cases hD
      have hD1 : H1 D = none := by rw [upd_ne hDp] at hD; exact hD
      refine lc_it walk_values (fun j H2 => ∃ ras, H2 = upd (upd H1 L.pa (.frz od (.dK L.pkv))) D (.lst (ras.map V.ref)) ∧ Paired (fun (ra : Addr) (row : List Msg) => rowV' g.D (.ref ra) row) ras ((o.proms.take j).map fun p => p.2.1)) ⟨[], rfl, .nil⟩
        (fun j H' _ w => by obtain ⟨_, e, _⟩ := w; rw [e, upd_ne hDp.symm, upd_same]) ?_ ?_
      · rintro j x H2 H3 hj ⟨ras, rfl, hras⟩ ⟨rfl, key, hx⟩
        obtain ⟨p, hp, hkey, t, rv, av, rfl, ht, hrv, hav⟩ := paired_get ro.prom hx
        have htH := same_upd (o := .lst (ras.map V.ref)) hD _ _ (elk.ok.sub _ _ ht)
        refine ⟨t, _, rfl, .inl (.inl htH), rfl, _, _, rfl, _, _, rfl, rfl, rfl, _, rfl, _, upd_same, ?_, ?_⟩
        · rw [List.length_map, paired_len hras, List.length_map]
          exact small1000 (Nat.le_trans (List.length_take_le' _ _) hlen)
        · obtain ⟨ra, xs, rfl, hra, hxs⟩ := id hrv
          refine ⟨ras ++ [ra], by rw [upd_upd, List.map_append]; rfl, ?_⟩
          rw [take_succ_of hp, List.map_append]
          exact paired_app hras (.cons hrv .nil)
      · rintro H2 ⟨ras, rfl, hras⟩
        rw [hpl, List.take_length] at hras
        refine ⟨by rw [upd_ne hDp.symm, upd_same], ?_⟩
        have hback : upd (upd (upd H1 L.pa (.frz od (.dK L.pkv))) D (.lst (ras.map V.ref))) L.pa (.dK L.pkv) = upd H1 D (.lst (ras.map V.ref)) := by
          funext b
          by_cases hb1 : b = L.pa
          · rw [hb1, upd_same, upd_ne hDp.symm, ro.pobj]
          · rw [upd_ne hb1]
            by_cases hb2 : b = D
            · rw [hb2, upd_same, upd_same]
            · rw [upd_ne hb2, upd_ne hb1, upd_ne hb2]
        rw [hback]
        have e1 : Go (fun _ => False) g H1 g (upd H1 D (.lst (ras.map V.ref))) := Go.ext k (same_upd hD1)
        obtain ⟨xss, hx1, hx2⟩ : ∃ xss : List (List V), Paired (fun (r : Addr) (xs : List V) => g.D r = some (.lst xs)) ras xss ∧ Paired (fun (xs : List V) (row : List Msg) => Paired (msgV g.D) xs row) xss (o.proms.map fun p => p.2.1) := by
          have gen : ∀ (as : List Addr) (rws : List (List Msg)), Paired (fun (ra : Addr) (row : List Msg) => rowV' g.D (.ref ra) row) as rws → ∃ xss : List (List V), Paired (fun (r : Addr) (xs : List V) => g.D r = some (.lst xs)) as xss ∧ Paired (fun (xs : List V) (row : List Msg) => Paired (msgV g.D) xs row) xss rws := by
            intro as rws hh
            induction hh with
            | nil => exact ⟨[], .nil, .nil⟩
            | cons a t ih =>
              obtain ⟨xss, y1, y2⟩ := ih
              obtain ⟨ra, xs, e, hra, hxs⟩ := a
              cases e
              exact ⟨xs :: xss, .cons hra y1, .cons hxs y2⟩
          exact gen _ _ hras
        have hlong : ∀ {xss : List (List V)} {rws : List (List Msg)} {b : List V} {c : List Msg}, Paired (fun (xs : List V) (row : List Msg) => Paired (msgV g.D) xs row) xss rws → Paired (msgV g.D) b c → Paired (msgV g.D) (longV b xss) (longV c rws) := by
          intro xss rws b c hh
          induction hh generalizing b c with
          | nil => exact fun h => h
          | cons a t ih =>
            intro hbc
            have l1 := paired_len a
            have l2 := paired_len hbc
            refine ih ?_
            rw [l1, l2]
            split
            · exact a
            · exact hbc
        refine ⟨D, ras, xss, rfl, SqL.of upd_same, paired_imp (fun r xs hr => SqL.of (e1.ok.sub _ _ hr)) hx1, fun p H3 hp hext hpl2 => ?_⟩
        have e2 : Go (fun _ => False) g (upd H1 D (.lst (ras.map V.ref))) g H3 := Go.ext e1.ok hext
        have hfr : H3 p = some (.lst (longV [] xss)) := hpl2
        -- the new list never changes any more: it joins D
        refine ⟨(by show 2 ≤ sizeLine; decide), fun t ht => ?_⟩
        have gp : g.D p = none := e1.ok.dnone hp
        have op : g.own p = none := e1.ok.onone hp
        have okp : Ok (g.addD p (.lst (longV [] xss))) H3 := ⟨fun c u hc => by
            by_cases ec : c = p
            · subst ec
              have hc2 : upd g.D c (.lst (longV [] xss)) c = some u := hc
              rw [upd_same] at hc2
              rw [hfr, ← hc2]
            · have hc2 : upd g.D p (.lst (longV [] xss)) c = some u := hc
              rw [upd_ne ec] at hc2
              exact e2.ok.sub c u hc2, fun c u hc => by
            have ec : c ≠ p := fun e => by rw [e] at hc; have hc2 : g.own p = some u := hc; rw [op] at hc2; cases hc2
            show upd g.D p _ c = none
            rw [upd_ne ec]
            exact e2.ok.sep c u hc, e2.ok.liv⟩
        have ep : Go (fun _ => False) g (upd H1 D (.lst (ras.map V.ref))) (g.addD p (.lst (longV [] xss))) H3 := ⟨okp, same_upd gp, fun c u hc => by
            by_cases ec : c = p
            · exact .inr (ec ▸ hp)
            · have hc2 : upd g.D p (.lst (longV [] xss)) c = some u := hc
              rw [upd_ne ec] at hc2
              exact .inl hc2, fun _ _ h => h, fun _ _ h => .inl h, fun c u hc _ => hext c u hc⟩
        have e3 : Go (fun _ => False) (g.addD p (.lst (longV [] xss))) H3 ((g.addD p (.lst (longV [] xss))).addD t (.tup [.ref mo, .ref p])) (upd H3 t (.tup [.ref mo, .ref p])) := Go.newD okp ht
        refine q _ _ _ ((e1.trans ep).trans e3) ⟨t, .ref mo, .ref p, rfl, (by show upd (g.addD p _).D t _ t = _; exact upd_same), ⟨mo, rfl, e3.D _ _ (ep.D _ _ hmo)⟩, ⟨p, longV [] xss, rfl, e3.D _ _ (by show upd g.D p _ p = _; exact upd_same), paired_imp (fun _ _ => msgV.up (ep.D.trans e3.D)) (hlong hx2 .nil)⟩⟩

end
end Fo
namespace Fo
open PySem PySem.Spec PyProof.Rows L2
section
variable {P : Program} {w : World} {K : PySem.W.Frag} {mg : Str → Option Value} {base : Heap}
theorem prom_any {K : PySem.W.Frag} {D : Hp} {k : Int} : ∀ {pkv : List (Key × V)} {ps : List (Int × List Msg × Option Agr)}, Paired (fun (q : Key × V) (p : Int × List Msg × Option Agr) => q.1 = Sum.inl p.1 ∧ promV K D q.2 p.2) pkv ps → (pkv.any fun kv => decide (kv.1 = Sum.inl k)) = decide (k ∈ ps.map (·.1))
  | _, _, .nil => by simp
  | _, _, .cons (a := q) (b := p) a t => by
    rw [List.any_cons, prom_any t, List.map_cons]
    have e : decide (q.1 = Sum.inl k) = decide (k = p.1) := decide_eq_decide.mpr ⟨fun h => by rw [a.1] at h; exact (Sum.inl.inj h).symm, fun h => by rw [a.1, h]⟩
    rw [e]
    by_cases h : k = p.1
    · simp [h]
    · simp [h]
theorem valV_isSome {k : Key} : ∀ (kvs : List (Key × V)), (valV kvs k).isSome = kvs.any fun kv => decide (kv.1 = k) := by
  intro kvs
  unfold valV
  rw [Option.isSome_map, Bool.eq_iff_iff, List.find?_isSome, List.any_eq_true]
theorem putK_new {kvs : List (Key × V)} {k : Key} {v : V} (h : (kvs.any fun kv => decide (kv.1 = k)) = false) : putK kvs k v = kvs ++ [(k, v)] := by
  unfold putK
  rw [h]
  exact if_neg Bool.false_ne_true
theorem OffR.addProm {K : PySem.W.Frag} {g : Gh} {H H' : Hp} {oa : Addr} {i : Nat} {o : Off} {L : OL} {k : Int} {v : V} {p : List Msg × Option Agr} (r : OffR K g H oa i o L) (e : Go (fun t => t = .proms i) g H g H') (he : H' L.pa = some (.dK (L.pkv ++ [(Sum.inl k, v)]))) (hv : promV K g.D v p) :
    OffR K g H' oa i { o with proms := o.proms ++ [(k, p)] } { L with pkv := L.pkv ++ [(Sum.inl k, v)] } :=
  ⟨r.own, e.stay r.obj r.own (by intro z; cases z), r.bal, r.mem, r.pown, he, paired_app r.prom (.cons ⟨rfl, hv⟩ .nil), r.fwd, r.gown, e.stay r.gobj r.gown (by intro z; cases z), r.fc⟩
theorem OffR.setFwd {K : PySem.W.Frag} {g : Gh} {H H' : Hp} {oa : Addr} {i : Nat} {o : Off} {L : OL} {v : V} {p : Option (List Int × List Msg)} (r : OffR K g H oa i o L) (e : Go (fun t => t = .off i) g H g H') (he : H' oa = some (.ins (He.ga K "Offer") L.dx (offK.zip [L.bv, L.mv, .ref L.pa, v, .ref L.ga]))) (hv : fwdV g.D v p) :
    OffR K g H' oa i { o with fwd := p } { L with fv := v } :=
  ⟨r.own, he, r.bal, r.mem, r.pown, e.stay r.pobj r.pown (by intro z; cases z), r.prom, hv, r.gown, e.stay r.gobj r.gown (by intro z; cases z), r.fc⟩
def preProm (_ : Nat) (s : Seat) (l : Ltr) : Prop := (∀ o, s.off = some o → o.proms.length ≤ 100) ∧ ∃ b row a, l.told = .promise b row a
theorem sc_promise_came : FnScope ["hand", "letter", "seat", "ballot", "row", "agreed", "offer", "members", "whole"] ["hand", "letter"] (defScope s_promise_came) := ⟨rfl, rfl, rfl, by decide +kernel, rfl, by decide +kernel, by decide +kernel⟩
set_option maxRecDepth 100000 in
theorem ok_promise_came (T : Txt K mg) : OkF P w K mg base CX0 5 (He.ga K "promise_came") ["hand", "letter"] (spMsg K preProm Seat.read) := by
  obtain ⟨fd, F⟩ := T.F_promise_came
  obtain ⟨fd_is_last_offer, G_is_last_offer⟩ := ok_is_last_offer (P := P) (w := w) (base := base) T
  obtain ⟨fd_enough, G_enough⟩ := ok_enough (P := P) (w := w) (base := base) T
  obtain ⟨fd_what_to_put_forward, G_what_to_put_forward⟩ := ok_what_to_put_forward (P := P) (w := w) (base := base) T
  obtain ⟨fd_Hand_send_each, G_Hand_send_each⟩ := ok_Hand_send_each (P := P) (w := w) (base := base) T
  refine ⟨fd, F.ok sc_promise_came (fun vs H Q E h => ?_) (fun cdv A outer s H vs Q E hr h => ?_), F.bindsN fun _ _ _ _ _ _ us hl => match us, hl with | [_, _], _ => rfl, F.kp⟩
  · obtain ⟨_, _, _, _, _, _, _, _, _, _, _, rfl, _⟩ := h
    rfl
  · refine ⟨_, PSs.nox (pss_cons (ps_set (i := 2) sc_promise_came.nd rfl (Or.inl rfl) (pe_fld (pv 0) rfl)) (pss_cons (ps_asg (pe_fld (pv 1) rfl) (pg_tup rfl (pgs_cons (pg_name (i := 3) sc_promise_came.nd rfl (Or.inl rfl)) (pgs_cons (pg_name (i := 4) sc_promise_came.nd rfl (Or.inl rfl)) (pgs_cons (pg_name (i := 5) sc_promise_came.nd rfl (Or.inl rfl)) pgs_nil))))) (pss_cons (ps_set (i := 6) sc_promise_came.nd rfl (Or.inl rfl) (pe_fld (pv 2) rfl)) (pss_cons (ps_if (PW.pt (pw_or (pt_not (pt_val (pe_call G_is_last_offer.1 (hr.mono (by decide)) rfl T.g_is_last_offer G_is_last_offer.2.2 G_is_last_offer.2.1 .nil pass0 (pa_cons (pv 6) (pa_cons (pv 3) pa_nil))))) (pw_or1 (pt_cmp (pc_din hr.hu (pe_fld (pv 1) rfl) (pe_fld (pv 6) rfl)) rfl)))) (pss_one ps_retN) pss_nil) (pss_cons (ps_dput hr.hu (pe_fld (pv 6) rfl) (pe_fld (pv 1) rfl) (pe_tup (pa_cons (pv 4) (pa_cons (pv 5) pa_nil))) rfl) (pss_one (ps_if (pt_cmpR op_eq (pe_callB call_lenD (by rfl) T.b_len PySem.boot_len (pa_cons (pe_fld (pv 6) rfl) pa_nil)) (pe_call G_enough.1 (hr.mono (by decide)) rfl T.g_enough G_enough.2.2 G_enough.2.1 .nil pass0 (pa_cons (pe_fld (pv 2) rfl) pa_nil)) (nomark _)) (pss_cons (ps_fld (pv 6) (pe_call G_what_to_put_forward.1 (hr.mono (by decide)) rfl T.g_what_to_put_forward G_what_to_put_forward.2.2 G_what_to_put_forward.2.1 .nil pass0 (pa_cons (pv 6) pa_nil)) rfl) (pss_cons (ps_asg (pe_fld (pv 6) rfl) (pg_tup rfl (pgs_cons (pg_name (i := 7) sc_promise_came.nd rfl (Or.inl rfl)) (pgs_cons (pg_name (i := 8) sc_promise_came.nd rfl (Or.inl rfl)) pgs_nil)))) (pss_one (ps_expr (pe_meth (pv 0) T.cl_Hand T.me_Hand_send_each G_Hand_send_each.1 (hr.mono (by decide)) G_Hand_send_each.2.1 .nil pass0 (pa_cons pe_str (pa_cons (pe_fld (pv 2) rfl) (pa_cons (pe_tup (pa_cons (pv 3) (pa_cons (pv 7) (pa_cons (pv 8) pa_nil)))) pa_nil)))))))) pss_nil))))))), ?_⟩
    obtain ⟨g, a, pa, la, i, h, L, s, ls, as, l, rfl, k, r, hse, so, hrk, po, hla, hs0, ⟨hpl, b, row, ag, hl⟩, hlen, q⟩ := h
    have r0 := r
    obtain ⟨hup, hsaid, hhigh, hpast, hseat⟩ := h
    cases hse
    obtain ⟨sa, S, hsv, rs⟩ := r.seat
    have ro := r.obj
    rw [hsv] at ro
    obtain ⟨ldx, tv, hlo, htv⟩ := hla
    rw [hl] at htv
    obtain ⟨t, bv, rv, av, rfl, ht, hbv, hrv, hav⟩ := htv
    have hloH := k.sub _ _ hlo
    have hfs : s.read i l = s.promC i l.snd b row ag := by unfold Seat.read; rw [hl]
    rw [hfs] at q
    refine ⟨_, rfl, _, _, _, _, _, rfl, ro, T.cl_Hand, T.na_Hand_seat, zl handK_nd (i := 6) rfl rfl, _, rfl, _, _, _, _, _, rfl, hloH, T.cl_Letter, T.na_Letter_told, zl letK_nd (i := 4) rfl rfl, t, _, rfl, .inl (.inl (k.sub _ _ ht)), rfl, _, _, rfl, _, _, rfl, _, _, rfl, rfl, ?_⟩
    have stay : s.promC i l.snd b row ag = (s, []) → Q .non H := fun e => by
      rw [e] at q
      exact q g H as (Go.refl k) r0 (by rw [List.append_nil]; exact po)
    have hoff := rs.off
    have rso := rs.obj
    cases hof : s.off with
    | none =>
      rw [hof] at hoff
      rw [show S.ov = .non from hoff] at rso
      refine ⟨_, rfl, _, _, _, _, _, rfl, rso, T.cl_Seat, T.na_Seat_offer, zl seatK_nd (i := 8) rfl rfl, _, rfl, _, rfl, g, _, _, i, none, b, rfl, k, rfl, hbv, _, rfl, ?_⟩
      refine iteT (iteT (stay ?_))
      unfold Seat.promC
      rw [hof]
    | some o =>
      rw [hof] at hoff
      obtain ⟨oa, OLx, hov, roo⟩ := hoff
      rw [hov] at rso
      have hpl := hpl o hof
      refine ⟨_, rfl, _, _, _, _, _, rfl, rso, T.cl_Seat, T.na_Seat_offer, zl seatK_nd (i := 8) rfl rfl, _, rfl, _, rfl, g, _, _, i, some o, b, rfl, k, ⟨oa, OLx, rfl, roo⟩, hbv, _, rfl, ?_⟩
      show if (!decide (o.bal = b)) = true then _ else _
      by_cases hb : o.bal = b
      · rw [decide_eq_true hb]
        refine iteF ⟨_, rfl, _, _, _, _, _, rfl, hloH, T.cl_Letter, T.na_Letter_sender, zl letK_nd (i := 1) rfl rfl, _, rfl, _, _, _, _, _, rfl, roo.obj, (OffR.fc (by assumption)).cl, (OffR.fc (by assumption)).promises, zl offK_nd (i := 2) rfl rfl, OLx.pa, _, rfl, DGet.k (k := Sum.inl l.snd) roo.pobj, _, rfl, ?_⟩
        rw [valV_isSome, prom_any roo.prom]
        by_cases hin : l.snd ∈ o.proms.map (·.1)
        · rw [decide_eq_true hin]
          refine iteT (stay ?_)
          unfold Seat.promC
          rw [hof]
          show (if o.bal ≠ b ∨ l.snd ∈ o.proms.map (·.1) then _ else _) = _
          rw [if_pos (.inr hin)]
        rw [decide_eq_false hin]
        have hany : (OLx.pkv.any fun kv => decide (kv.1 = Sum.inl l.snd)) = false := by rw [prom_any roo.prom, decide_eq_false hin]
        refine iteF ⟨_, rfl, _, rfl, (by show 2 ≤ sizeLine; decide), fun t2 ht2 => ?_⟩
        have e1 : Go (fun _ => False) g H (g.addD t2 (.tup [rv, av])) (upd H t2 (.tup [rv, av])) := Go.newD k ht2
        have pv1 : promV K (g.addD t2 (.tup [rv, av])).D (.ref t2) (row, ag) := ⟨t2, rv, av, rfl, (by show upd g.D t2 _ t2 = _; exact upd_same), hrv.up e1.D, hav.up e1.D⟩
        have r1 := r0.go e1 (fun _ _ z => z)
        have rs1 := rs.go e1 (fun _ _ z => z)
        have roo1 := roo.go e1 (fun z => z) (fun z => z) (fun z => z)
        have po1 := po.go e1 (fun z => z)
        have hlo1 := e1.ok.sub _ _ (e1.D _ _ hlo)
        have hbv1 := hbv.up e1.D
        generalize upd H t2 (.tup [rv, av]) = H1 at *
        generalize g.addD t2 (.tup [rv, av]) = g1 at *
        refine ⟨_, rfl, _, _, _, _, _, rfl, roo1.obj, (OffR.fc (by assumption)).cl, (OffR.fc (by assumption)).promises, zl offK_nd (i := 2) rfl rfl, _, rfl, _, _, _, _, _, rfl, hlo1, T.cl_Letter, T.na_Letter_sender, zl letK_nd (i := 1) rfl rfl, OLx.pa, _, rfl, DPut.k (k := Sum.inl l.snd) roo1.pobj (small1000 (by rw [paired_len roo1.prom]; omega)), ?_⟩
        rw [putK_new hany]
        have e2 : Go (fun t => t = .proms i) g1 H1 g1 (upd H1 OLx.pa (.dK (OLx.pkv ++ [(Sum.inl l.snd, .ref t2)]))) := Go.set e1.ok roo1.pown rfl
        have roo2 := roo1.addProm e2 upd_same pv1
        have rs2 := rs1.reoff hov e2 (by intro z; cases z) (by intro z; cases z) (by intro z; cases z) roo2
        have e2' := e2.mono (T' := TS_ i) fun t z => by subst z; exact (rfl : TS_ i (.proms i))
        have r2 := r1.reseat hsv e2' rs2
        have po2 := po1.go e2' TS_post
        generalize upd H1 OLx.pa (.dK (OLx.pkv ++ [(Sum.inl l.snd, .ref t2)])) = H2 at *
        have eT2 := (e1.mono (T' := TP i) fun _ z => z.elim).trans (e2'.mono TP_seat)
        obtain ⟨m, hmv, hm⟩ := rs2.mem
        have rso2 := rs2.obj
        have hmv' : S.mv = .ref m := hmv
        rw [hmv] at rso2
        have hmH := e2.ok.sub _ _ hm
        have hf : s.promC i l.snd b row ag = (if (o.proms ++ [(l.snd, row, ag)]).length = enoughN s.mem.length then ({ s with off := some { o with proms := o.proms ++ [(l.snd, row, ag)], fwd := some ({ o with proms := o.proms ++ [(l.snd, row, ag)] } : Off).forward } }, mail i s s.mem (.accept ⟨b, ({ o with proms := o.proms ++ [(l.snd, row, ag)] } : Off).forward.1, ({ o with proms := o.proms ++ [(l.snd, row, ag)] } : Off).forward.2⟩))
            else ({ s with off := some { o with proms := o.proms ++ [(l.snd, row, ag)] } }, [])) := by
          unfold Seat.promC
          rw [hof]
          show (if o.bal ≠ b ∨ l.snd ∈ o.proms.map (·.1) then _ else _) = _
          rw [if_neg]
          rintro (h1 | h1)
          · exact h1 hb
          · exact hin h1
        have hpk : (OLx.pkv ++ [((Sum.inl l.snd : Key), V.ref t2)]).length = (o.proms ++ [(l.snd, row, ag)]).length := by rw [List.length_append, List.length_append, paired_len roo.prom]; rfl
        refine ⟨_, rfl, _, _, _, _, _, rfl, roo2.obj, (OffR.fc (by assumption)).cl, (OffR.fc (by assumption)).promises, zl offK_nd (i := 2) rfl rfl, OLx.pa, _, rfl, roo2.pobj, _, rfl, _, _, _, _, _, rfl, rso2, T.cl_Seat, T.na_Seat_members, zl seatK_nd (i := 1) rfl rfl, m, _, rfl, SqL.of hmH, rfl, _, rfl, ?_⟩
        rw [hpk, List.length_map]
        have hcond : decide (V.int (((o.proms ++ [(l.snd, row, ag)]).length : Nat) : Int) = V.int ((s.mem.length : Int) / 2 + 1)) = decide ((o.proms ++ [(l.snd, row, ag)]).length = enoughN s.mem.length) := by
          refine decide_eq_decide.mpr ⟨fun w => ?_, fun w => ?_⟩
          · have := V.int.inj w
            unfold enoughN
            omega
          · rw [w]
            unfold enoughN
            congr 1
        rw [hcond]
        by_cases hen : (o.proms ++ [(l.snd, row, ag)]).length = enoughN s.mem.length
        · rw [decide_eq_true hen]
          rw [hf, if_pos hen] at q
          generalize ho1 : ({ o with proms := o.proms ++ [(l.snd, row, ag)] } : Off) = o1 at *
          refine iteT ⟨_, rfl, g1, oa, i, o1, _, rfl, e2.ok, roo2, by rw [← ho1]; show (o.proms ++ [(l.snd, row, ag)]).length ≤ 1000; rw [List.length_append, List.length_singleton]; omega, fun g3 H3 fv e3 hfv => ?_⟩
          have roo3 := roo2.go e3 (fun z => z) (fun z => z) (fun z => z)
          have rs3 := rs2.go e3 (fun _ _ z => z)
          have r3 := r2.go e3 (fun _ _ z => z)
          have po3 := po2.go e3 (fun z => z)
          have hbv3 := hbv1.up e3.D
          refine ⟨_, rfl, _, _, _, _, rfl, roo3.obj, (OffR.fc (by assumption)).cl, (OffR.fc (by assumption)).forward, zlen, ?_⟩
          have e4 : Go (fun t => t = .off i) g3 H3 g3 (upd H3 oa _) := Go.set (o := .ins (He.ga K "Offer") OLx.dx (putF "forward" fv (offK.zip [OLx.bv, OLx.mv, .ref OLx.pa, OLx.fv, .ref OLx.ga]))) e3.ok roo3.own rfl
          have roo4 := roo3.setFwd e4 (by rw [upd_same, put_Offer_forward] <;> rfl) hfv
          have rs4 := rs3.reoff hov e4 (by intro z; cases z) (by intro z; cases z) (by intro z; cases z) roo4
          have e4' := e4.mono (T' := TS_ i) fun t z => by subst z; exact (rfl : TS_ i (.off i))
          have r4 := r3.reseat hsv e4' rs4
          have po4 := po3.go e4' TS_post
          generalize upd H3 oa (.ins (He.ga K "Offer") OLx.dx (putF "forward" fv (offK.zip [OLx.bv, OLx.mv, .ref OLx.pa, OLx.fv, .ref OLx.ga]))) = H4 at *
          obtain ⟨t4, mv4, rv4, rfl, ht4, hmv4, hrv4⟩ := hfv
          refine ⟨_, rfl, _, _, _, _, _, rfl, roo4.obj, (OffR.fc (by assumption)).cl, (OffR.fc (by assumption)).forward, zl offK_nd (i := 3) rfl rfl, t4, _, rfl, .inl (.inl (e4.ok.sub _ _ ht4)), rfl, _, _, rfl, _, _, rfl, rfl, ?_⟩
          have rso4 := rs4.obj
          rw [hmv] at rso4
          have hm4 : g3.D m = some (.lst (s.mem.map V.int)) := e3.D _ _ hm
          have hm4o : g3.own m = none := by
            cases w : g3.own m with
            | none => rfl
            | some t => rw [e4.ok.sep _ _ w] at hm4; cases hm4
          refine ⟨_, rfl, _, _, _, rfl, r4.obj, zn (by decide +kernel), _, rfl, _, _, _, _, _, rfl, rso4, T.cl_Seat, T.na_Seat_members, zl seatK_nd (i := 1) rfl rfl, _, rfl, _, rfl, _, rfl, (by show 3 ≤ sizeLine; decide), fun t5 ht5 => ?_⟩
          have e5 : Go (fun _ => False) g3 H4 (g3.addD t5 (.tup [bv, mv4, rv4])) (upd H4 t5 (.tup [bv, mv4, rv4])) := Go.newD e4.ok ht5
          have at5 : agrV K (g3.addD t5 (.tup [bv, mv4, rv4])).D (.ref t5) ⟨b, o1.forward.1, o1.forward.2⟩ := ⟨t5, bv, mv4, rv4, rfl, (by show upd g3.D t5 _ t5 = _; exact upd_same), hbv3.up e5.D, hmv4.up e5.D, hrv4.up e5.D⟩
          refine ⟨_, a, pa, m, i, _, L, _, ls, as, s.mem, _, .accept ⟨b, o1.forward.1, o1.forward.2⟩, rfl, e5.ok, r4.go e5 (fun _ _ z => z), rfl, po4.go e5 (fun z => z), e5.ok.sub _ _ (e5.D _ _ hm4), hm4o, so.pos, at5, by have := so.ml; omega, fun g6 H6 as6 e6 p6 => ?_⟩
          refine q g6 H6 as6 ((((eT2.trans (e3.mono fun _ z => z.elim)).trans (e4'.mono TP_seat)).trans (e5.mono fun _ z => z.elim)).trans (e6.mono TP_post)) ?_ p6
          have r6 := (r4.go e5 (fun _ _ z => z)).go e6 nTH_post
          rw [← ho1] at r6 ⊢
          exact r6
        · rw [decide_eq_false hen]
          rw [hf, if_neg hen] at q
          exact iteF (q g1 H2 as eT2 r2 (by rw [List.append_nil]; exact po2))
      · rw [decide_eq_false hb]
        refine iteT (iteT (stay ?_))
        unfold Seat.promC
        rw [hof]
        show (if o.bal ≠ b ∨ l.snd ∈ o.proms.map (·.1) then _ else _) = _
        rw [if_pos (.inl hb)]

end
end Fo
namespace Fo
open PySem PySem.Spec PyProof.Rows L2
section
variable {P : Program} {w : World} {K : PySem.W.Frag} {mg : Str → Option Value} {base : Heap}
theorem agsK_any (k : Int) : ∀ l : List Int, ((agsK l).any fun kv => decide (kv.1 = Sum.inl k)) = decide (k ∈ l)
  | [] => by simp [agsK]
  | x :: l => by
    show (decide ((Sum.inl x : Key) = Sum.inl k) || (agsK l).any fun kv => decide (kv.1 = Sum.inl k)) = _
    rw [agsK_any k l]
    have e : decide ((Sum.inl x : Key) = Sum.inl k) = decide (k = x) := decide_eq_decide.mpr ⟨fun h => (Sum.inl.inj h).symm, fun h => by rw [h]⟩
    rw [e]
    by_cases h : k = x <;> simp [h]
theorem agsK_keys (l : List Int) : (agsK l).map (·.1) = l.map Sum.inl := by
  unfold agsK
  rw [List.map_map]
  rfl
theorem strict_eq {a b : List Int} (ha : a.Pairwise (· < ·)) (hb : b.Pairwise (· < ·)) (h : ∀ x, x ∈ a ↔ x ∈ b) : a = b := by
  have na : a.Nodup := ha.imp fun {x y} q => by omega
  have nb : b.Nodup := hb.imp fun {x y} q => by omega
  exact List.Perm.eq_of_pairwise (le := fun x y : Int => x < y) (fun x y _ _ h1 h2 => by omega) ha hb ((List.perm_ext_iff_of_nodup na nb).mpr h)
theorem both_nodup {a b : List Int} (ha : a.Nodup) (hb : b.Nodup) : (a ++ b.filter fun h => decide (h ∉ a)).Nodup := by
  refine List.nodup_append.mpr ⟨ha, hb.sublist List.filter_sublist, fun x hx y hy e => ?_⟩
  subst e
  have := (List.mem_filter.mp hy).2
  simp at this
  exact this hx
theorem both_strict {a b : List Int} (ha : a.Nodup) (hb : b.Nodup) : (bothOf a b).Pairwise (· < ·) := by
  have n : (bothOf a b).Nodup := (sortA_perm _).nodup_iff.mpr (both_nodup ha hb)
  have s := sortA_sorted (a ++ b.filter fun h => decide (h ∉ a))
  exact (List.Pairwise.and s n).imp fun {x y} q => by have := q.1; have := q.2; omega
theorem both_mem {a b : List Int} {x : Int} : x ∈ bothOf a b ↔ x ∈ a ++ b := by
  unfold bothOf
  rw [(sortA_perm _).mem_iff, List.mem_append, List.mem_append, List.mem_filter]
  by_cases h : x ∈ a <;> simp [h]
theorem OffR.addAg {K : PySem.W.Frag} {g : Gh} {H H' : Hp} {oa : Addr} {i : Nat} {o : Off} {L : OL} {k : Int} (r : OffR K g H oa i o L) (e : Go (fun t => t = .ags i) g H g H') (he : H' L.ga = some (.dK (agsK (o.ags ++ [k])))) :
    OffR K g H' oa i { o with ags := o.ags ++ [k] } L :=
  ⟨r.own, e.stay r.obj r.own (by intro z; cases z), r.bal, r.mem, r.pown, e.stay r.pobj r.pown (by intro z; cases z), r.prom, r.fwd, r.gown, he, r.fc⟩
def FwdOk (f : List Int × List Msg) : Prop := f.1.Nodup ∧ (∀ x ∈ f.1, 0 ≤ x) ∧ f.1.length ≤ 9
def preAgr (_ : Nat) (s : Seat) (l : Ltr) : Prop := ∃ b, l.told = .agree b ∧ ∀ o, s.off = some o → o.ags.length ≤ 100 ∧ (o.bal = b → ∃ f, o.fwd = some f ∧ FwdOk f)
theorem sc_agree_came : FnScope ["hand", "letter", "seat", "offer", "members", "whole", "told"] ["hand", "letter"] (defScope s_agree_came) := ⟨rfl, rfl, rfl, by decide +kernel, rfl, by decide +kernel, by decide +kernel⟩
set_option maxRecDepth 100000 in
theorem ok_agree_came (T : Txt K mg) : OkF P w K mg base CX0 5 (He.ga K "agree_came") ["hand", "letter"] (spMsg K preAgr Seat.read) := by
  obtain ⟨fd, F⟩ := T.F_agree_came
  obtain ⟨fd_is_last_offer, G_is_last_offer⟩ := ok_is_last_offer (P := P) (w := w) (base := base) T
  obtain ⟨fd_enough, G_enough⟩ := ok_enough (P := P) (w := w) (base := base) T
  obtain ⟨fd_Hand_send_each, G_Hand_send_each⟩ := ok_Hand_send_each (P := P) (w := w) (base := base) T
  refine ⟨fd, F.ok sc_agree_came (fun vs H Q E h => ?_) (fun cdv A outer s H vs Q E hr h => ?_), F.bindsN fun _ _ _ _ _ _ us hl => match us, hl with | [_, _], _ => rfl, F.kp⟩
  · obtain ⟨_, _, _, _, _, _, _, _, _, _, _, rfl, _⟩ := h
    rfl
  · refine ⟨_, PSs.nox (pss_cons (ps_set (i := 2) sc_agree_came.nd rfl (Or.inl rfl) (pe_fld (pv 0) rfl)) (pss_cons (ps_set (i := 3) sc_agree_came.nd rfl (Or.inl rfl) (pe_fld (pv 2) rfl)) (pss_cons (ps_if (PW.pt (pw_or (pt_not (pt_val (pe_call G_is_last_offer.1 (hr.mono (by decide)) rfl T.g_is_last_offer G_is_last_offer.2.2 G_is_last_offer.2.1 .nil pass0 (pa_cons (pv 3) (pa_cons (pe_fld (pv 1) rfl) pa_nil))))) (pw_or1 (pt_cmp (pc_din hr.hu (pe_fld (pv 1) rfl) (pe_fld (pv 3) rfl)) rfl)))) (pss_one ps_retN) pss_nil) (pss_cons (ps_dput hr.hu (pe_fld (pv 3) rfl) (pe_fld (pv 1) rfl) pe_bl rfl) (pss_one (ps_if (pt_cmpR op_eq (pe_callB call_lenD (by rfl) T.b_len PySem.boot_len (pa_cons (pe_fld (pv 3) rfl) pa_nil)) (pe_call G_enough.1 (hr.mono (by decide)) rfl T.g_enough G_enough.2.2 G_enough.2.1 .nil pass0 (pa_cons (pe_fld (pv 2) rfl) pa_nil)) (nomark _)) (pss_cons (ps_asg (pe_fld (pv 3) rfl) (pg_tup rfl (pgs_cons (pg_name (i := 4) sc_agree_came.nd rfl (Or.inl rfl)) (pgs_cons (pg_name (i := 5) sc_agree_came.nd rfl (Or.inl rfl)) pgs_nil)))) (pss_cons (ps_set (i := 6) sc_agree_came.nd rfl (Or.inl rfl) (pe_tup (pa_cons (pe_op op_add (pe_fld (pv 2) rfl) pe_int) (pa_cons (pv 4) (pa_cons (pv 5) (pa_cons (pe_callB (cr_sortedDI rfl) (by rfl) T.b_sorted (by decide +kernel) (pa_cons (pe_fld (pv 3) rfl) pa_nil)) pa_nil)))))) (pss_one (ps_expr (pe_meth (pv 0) T.cl_Hand T.me_Hand_send_each G_Hand_send_each.1 (hr.mono (by decide)) G_Hand_send_each.2.1 .nil pass0 (pa_cons pe_str (pa_cons (pe_callB (cr_sortedSet rfl) (by rfl) T.b_sorted (by decide +kernel) (pa_cons (pe_callTy (T := "set") (cr_setL rfl) (by rfl) T.b_set (by decide +kernel) (pa_cons (pe_op op_cat (pe_fld (pv 2) rfl) (pv 4)) pa_nil)) pa_nil)) (pa_cons (pv 6) pa_nil)))))))) pss_nil)))))), ?_⟩
    obtain ⟨g, a, pa, la, i, h, L, s, ls, as, l, rfl, k, r, hse, so, hrk, po, hla, hs0, ⟨b, hl, hoo⟩, hlen, q⟩ := h
    have r0 := r
    obtain ⟨hup, hsaid, hhigh, hpast, hseat⟩ := h
    cases hse
    obtain ⟨sa, S, hsv, rs⟩ := r.seat
    have ro := r.obj
    rw [hsv] at ro
    obtain ⟨ldx, tv, hlo, htv⟩ := hla
    rw [hl] at htv
    have hbv : balV K g.D tv b := htv
    have hloH := k.sub _ _ hlo
    have hfs : s.read i l = s.agrC i l.snd b := by unfold Seat.read; rw [hl]
    rw [hfs] at q
    have stay : s.agrC i l.snd b = (s, []) → Q .non H := fun e => by
      rw [e] at q
      exact q g H as (Go.refl k) r0 (by rw [List.append_nil]; exact po)
    have hoff := rs.off
    have rso := rs.obj
    refine ⟨_, rfl, _, _, _, _, _, rfl, ro, T.cl_Hand, T.na_Hand_seat, zl handK_nd (i := 6) rfl rfl, ?_⟩
    cases hof : s.off with
    | none =>
      rw [hof] at hoff
      rw [show S.ov = .non from hoff] at rso
      refine ⟨_, rfl, _, _, _, _, _, rfl, rso, T.cl_Seat, T.na_Seat_offer, zl seatK_nd (i := 8) rfl rfl, _, rfl, _, rfl, _, _, _, _, _, rfl, hloH, T.cl_Letter, T.na_Letter_told, zl letK_nd (i := 4) rfl rfl, g, _, _, i, none, b, rfl, k, rfl, hbv, _, rfl, ?_⟩
      refine iteT (iteT (stay ?_))
      unfold Seat.agrC
      rw [hof]
    | some o =>
      rw [hof] at hoff
      obtain ⟨oa, OLx, hov, roo⟩ := hoff
      rw [hov] at rso
      obtain ⟨hal, hfo⟩ := hoo o hof
      refine ⟨_, rfl, _, _, _, _, _, rfl, rso, T.cl_Seat, T.na_Seat_offer, zl seatK_nd (i := 8) rfl rfl, _, rfl, _, rfl, _, _, _, _, _, rfl, hloH, T.cl_Letter, T.na_Letter_told, zl letK_nd (i := 4) rfl rfl, g, _, _, i, some o, b, rfl, k, ⟨oa, OLx, rfl, roo⟩, hbv, _, rfl, ?_⟩
      show if (!decide (o.bal = b)) = true then _ else _
      by_cases hb : o.bal = b
      · rw [decide_eq_true hb]
        obtain ⟨f, hf0, hfnd, hfpos, hfl⟩ := hfo hb
        refine iteF ⟨_, rfl, _, _, _, _, _, rfl, hloH, T.cl_Letter, T.na_Letter_sender, zl letK_nd (i := 1) rfl rfl, _, rfl, _, _, _, _, _, rfl, roo.obj, (OffR.fc (by assumption)).cl, (OffR.fc (by assumption)).agrees, zl offK_nd (i := 4) rfl rfl, OLx.ga, _, rfl, DGet.k (k := Sum.inl l.snd) roo.gobj, _, rfl, ?_⟩
        rw [valV_isSome, agsK_any]
        by_cases hin : l.snd ∈ o.ags
        · rw [decide_eq_true hin]
          refine iteT (stay ?_)
          unfold Seat.agrC
          rw [hof]
          show (if o.bal ≠ b ∨ l.snd ∈ o.ags then _ else _) = _
          rw [if_pos (.inr hin)]
        rw [decide_eq_false hin]
        have hany : ((agsK o.ags).any fun kv => decide (kv.1 = Sum.inl l.snd)) = false := by rw [agsK_any, decide_eq_false hin]
        refine iteF ⟨_, rfl, _, _, _, _, _, rfl, roo.obj, (OffR.fc (by assumption)).cl, (OffR.fc (by assumption)).agrees, zl offK_nd (i := 4) rfl rfl, _, rfl, _, _, _, _, _, rfl, hloH, T.cl_Letter, T.na_Letter_sender, zl letK_nd (i := 1) rfl rfl, OLx.ga, _, rfl, DPut.k (k := Sum.inl l.snd) roo.gobj (small1000 (by rw [agsK, List.length_map]; omega)), ?_⟩
        rw [putK_new hany]
        have hagk : agsK o.ags ++ [((Sum.inl l.snd : Key), V.bl true)] = agsK (o.ags ++ [l.snd]) := by unfold agsK; rw [List.map_append]; rfl
        rw [hagk]
        have e2 : Go (fun t => t = .ags i) g H g (upd H OLx.ga (.dK (agsK (o.ags ++ [l.snd])))) := Go.set k roo.gown rfl
        have roo2 := roo.addAg e2 upd_same
        have rs2 := rs.reoff hov e2 (by intro z; cases z) (by intro z; cases z) (by intro z; cases z) roo2
        have e2' := e2.mono (T' := TS_ i) fun t z => by subst z; exact (rfl : TS_ i (.ags i))
        have r2 := r0.reseat hsv e2' rs2
        have po2 := po.go e2' TS_post
        generalize upd H OLx.ga (.dK (agsK (o.ags ++ [l.snd]))) = H2 at *
        have eT2 := e2'.mono TP_seat
        obtain ⟨m, hmv, hm⟩ := rs2.mem
        have rso2 := rs2.obj
        have hmv' : S.mv = .ref m := hmv
        rw [hmv] at rso2
        have hmH := e2.ok.sub _ _ hm
        have hf : s.agrC i l.snd b = (if (o.ags ++ [l.snd]).length = enoughN s.mem.length then ({ s with off := some { o with ags := o.ags ++ [l.snd] } }, mail i s (bothOf s.mem f.1) (.enter ⟨s.num + 1, f.1, f.2, sortA (o.ags ++ [l.snd])⟩)) else ({ s with off := some { o with ags := o.ags ++ [l.snd] } }, [])) := by
          unfold Seat.agrC
          rw [hof]
          show (if o.bal ≠ b ∨ l.snd ∈ o.ags then _ else _) = _
          rw [if_neg]
          · show (if (o.ags ++ [l.snd]).length = enoughN s.mem.length then (_, mail i s (bothOf s.mem (o.fwd.getD ([], [])).1) (.enter ⟨s.num + 1, (o.fwd.getD ([], [])).1, (o.fwd.getD ([], [])).2, sortA (o.ags ++ [l.snd])⟩)) else _) = _
            rw [hf0]
            rfl
          · rintro (h1 | h1)
            · exact h1 hb
            · exact hin h1
        refine ⟨_, rfl, _, _, _, _, _, rfl, roo2.obj, (OffR.fc (by assumption)).cl, (OffR.fc (by assumption)).agrees, zl offK_nd (i := 4) rfl rfl, OLx.ga, _, rfl, roo2.gobj, _, rfl, _, _, _, _, _, rfl, rso2, T.cl_Seat, T.na_Seat_members, zl seatK_nd (i := 1) rfl rfl, m, _, rfl, SqL.of hmH, rfl, _, rfl, ?_⟩
        rw [show (agsK (o.ags ++ [l.snd])).length = (o.ags ++ [l.snd]).length by rw [agsK, List.length_map], List.length_map]
        have hcond : decide (V.int (((o.ags ++ [l.snd]).length : Nat) : Int) = V.int ((s.mem.length : Int) / 2 + 1)) = decide ((o.ags ++ [l.snd]).length = enoughN s.mem.length) := by
          refine decide_eq_decide.mpr ⟨fun w => ?_, fun w => ?_⟩
          · have := V.int.inj w
            unfold enoughN
            omega
          · rw [w]
            unfold enoughN
            congr 1
        rw [hcond]
        by_cases hen : (o.ags ++ [l.snd]).length = enoughN s.mem.length
        · rw [decide_eq_true hen]
          rw [hf, if_pos hen] at q
          have hfw := roo2.fwd
          rw [show ({ o with ags := o.ags ++ [l.snd] } : Off).fwd = some f from hf0] at hfw
          obtain ⟨t4, mv4, rv4, hfv, ht4, hmv4, hrv4⟩ := hfw
          have roo2o := roo2.obj
          rw [hfv] at roo2o
          refine iteT ⟨_, rfl, _, _, _, _, _, rfl, roo2o, (OffR.fc (by assumption)).cl, (OffR.fc (by assumption)).forward, zl offK_nd (i := 3) rfl rfl, t4, _, rfl, .inl (.inl (e2.ok.sub _ _ ht4)), rfl, _, _, rfl, _, _, rfl, rfl, ?_⟩
          refine ⟨_, rfl, _, _, _, _, _, rfl, rs2.obj, T.cl_Seat, T.na_Seat_number, zl seatK_nd (i := 0) rfl rfl, _, _, rfl, rfl, _, rfl, _, rfl, _, rfl, _, _, _, _, _, rfl, roo2o, (OffR.fc (by assumption)).cl, (OffR.fc (by assumption)).agrees, zl offK_nd (i := 4) rfl rfl, OLx.ga, _, o.ags ++ [l.snd], rfl, roo2.gobj, agsK_keys _, by rw [List.length_append, List.length_singleton]; omega, fun ns p hpm hps hp => ?_⟩
          have ens := sortA_is hpm hps
          subst ens
          have e3 : Go (fun _ => False) g H2 (g.addD p (.lst ((sortA (o.ags ++ [l.snd])).map V.int))) (upd H2 p (.lst ((sortA (o.ags ++ [l.snd])).map V.int))) := Go.newD e2.ok hp
          have wv3 : memV (g.addD p (.lst ((sortA (o.ags ++ [l.snd])).map V.int))).D (.ref p) (sortA (o.ags ++ [l.snd])) := ⟨p, rfl, by show upd g.D p _ p = _; exact upd_same⟩
          have hmv43 := hmv4.up e3.D
          have hrv43 := hrv4.up e3.D
          have hm3 := e3.D _ _ hm
          have r3 := r2.go e3 (fun _ _ z => z)
          have rs3 := rs2.go e3 (fun _ _ z => z)
          have po3 := po2.go e3 (fun z => z)
          generalize upd H2 p (.lst ((sortA (o.ags ++ [l.snd])).map V.int)) = H3 at *
          generalize g.addD p (.lst ((sortA (o.ags ++ [l.snd])).map V.int)) = g3 at *
          refine ⟨(by show 4 ≤ sizeLine; decide), fun t5 ht5 => ?_⟩
          have e4 : Go (fun _ => False) g3 H3 (g3.addD t5 (.tup [.int (s.num + 1), mv4, rv4, .ref p])) (upd H3 t5 (.tup [.int (s.num + 1), mv4, rv4, .ref p])) := Go.newD e3.ok ht5
          have nv4 : newsV (g3.addD t5 (.tup [.int (s.num + 1), mv4, rv4, .ref p])).D (.ref t5) ⟨s.num + 1, f.1, f.2, sortA (o.ags ++ [l.snd])⟩ := ⟨t5, mv4, rv4, .ref p, rfl, (by show upd g3.D t5 _ t5 = _; exact upd_same), hmv43.up e4.D, hrv43.up e4.D, wv3.up e4.D⟩
          have hmv44 := hmv43.up e4.D
          have hm4 := e4.D _ _ hm3
          have r4 := r3.go e4 (fun _ _ z => z)
          have rs4 := rs3.go e4 (fun _ _ z => z)
          have po4 := po3.go e4 (fun z => z)
          generalize upd H3 t5 (.tup [.int (s.num + 1), mv4, rv4, .ref p]) = H4 at *
          generalize g3.addD t5 (.tup [.int (s.num + 1), mv4, rv4, .ref p]) = g4 at *
          obtain ⟨m2, rfl, hm2⟩ := hmv44
          have rso4 := rs4.obj
          rw [hmv] at rso4
          refine ⟨_, rfl, _, _, _, rfl, r4.obj, zn (by decide +kernel), _, rfl, _, _, _, _, _, rfl, rso4, T.cl_Seat, T.na_Seat_members, zl seatK_nd (i := 1) rfl rfl, _, rfl, m, m2, _, _, rfl, rfl, e4.ok.sub _ _ hm4, e4.ok.sub _ _ hm2, ?_, fun c1 hc1 => ?_⟩
          · rw [List.length_map, List.length_map]
            exact Nat.le_trans (Nat.add_le_add so.ml hfl) (by decide)
          have x1 : Go (fun _ => False) g4 H4 g4 (upd H4 c1 (.lst (s.mem.map V.int ++ f.1.map V.int))) := Go.ext e4.ok (same_upd hc1)
          refine ⟨c1, s.mem ++ f.1, rfl, SqL.of (by rw [upd_same, List.map_append]), by rw [List.length_append]; exact Nat.le_trans (Nat.add_le_add so.ml hfl) (by decide), fun c2 n2 hc2 hn2 => ?_⟩
          have x2 := x1.trans (Go.ext x1.ok (same_upd (o := SetO w c2 (fun j => decide (j ∈ s.mem ++ f.1)) n2) hc2))
          refine ⟨c2, _, n2, rfl, upd_same, by rw [List.length_append] at hn2; exact Nat.lt_of_le_of_lt (Nat.le_trans hn2 (Nat.add_le_add so.ml hfl)) (by decide), fun ns c3 hstr hmem _ hc3 => ?_⟩
          have ens : ns = bothOf s.mem f.1 := strict_eq hstr (both_strict so.nd hfnd) fun x => by rw [hmem x, both_mem]; exact decide_eq_true_iff
          subst ens
          have x3 := x2.trans (Go.ext x2.ok (same_upd (o := .lst ((bothOf s.mem f.1).map V.int)) hc3))
          refine ⟨_, rfl, g4, a, pa, c3, i, _, L, _, ls, as, bothOf s.mem f.1, _, .enter ⟨s.num + 1, f.1, f.2, sortA (o.ags ++ [l.snd])⟩, rfl, x3.ok, r4.go x3 (fun _ _ z => z), rfl, po4.go x3 (fun z => z), upd_same, x2.ok.onone hc3, ?_, nv4, ?_, fun g6 H6 as6 e6 p6 => ?_⟩
          · intro x hx
            rcases List.mem_append.mp (both_mem.mp hx) with hx | hx
            · exact so.pos x hx
            · exact hfpos x hx
          · have h1 : (bothOf s.mem f.1).length ≤ s.mem.length + f.1.length := by
              unfold bothOf
              rw [(sortA_perm _).length_eq, List.length_append]
              have := List.length_filter_le (fun h => decide (h ∉ s.mem)) f.1
              omega
            have := so.ml
            omega
          · exact q g6 H6 as6 ((((eT2.trans (e3.mono fun _ z => z.elim)).trans (e4.mono fun _ z => z.elim)).trans (x3.mono fun _ z => z.elim)).trans (e6.mono TP_post)) ((r4.go x3 (fun _ _ z => z)).go e6 nTH_post) p6
        · rw [decide_eq_false hen]
          rw [hf, if_neg hen] at q
          exact iteF (q g H2 as eT2 r2 (by rw [List.append_nil]; exact po2))
      · rw [decide_eq_false hb]
        refine iteT (iteT (stay ?_))
        unfold Seat.agrC
        rw [hof]
        show (if o.bal ≠ b ∨ l.snd ∈ o.ags then _ else _) = _
        rw [if_pos (.inl hb)]

end
end Fo
namespace Fo
open PySem PySem.Spec PyProof.Rows L2
section
variable {P : Program} {w : World} {K : PySem.W.Frag} {mg : Str → Option Value} {base : Heap}
theorem inV_ints (x : Int) : ∀ ms : List Int, inV (.int x) (ms.map V.int) = decide (x ∈ ms)
  | [] => by simp [inV]
  | y :: ms => by
    show (eqV (.int y) (.int x) || inV (.int x) (ms.map V.int)) = _
    rw [inV_ints x ms]
    have e : eqV (.int y) (.int x) = decide (x = y) := by
      show _ = _
      by_cases h : x = y
      · subst h; simp [eqV]
      · have h2 : ¬ y = x := fun e => h e.symm
        simp [eqV, h, h2]
    rw [e]
    by_cases h : x = y <;> simp [h]
theorem flat_ints : ∀ ms : List Int, (ms.map V.int).all flatV = true
  | [] => rfl
  | _ :: ms => by rw [List.map_cons, List.all_cons, flat_ints ms]; rfl
def spEnter (K : PySem.W.Frag) : Sp := fun vs H Q _ => ∃ (g : Gh) (a pa la : Addr) (i : Nat) (h : Hnd) (L : HL) (l : Ltr) (n : News), vs = [.ref a, .ref la] ∧ Ok g H ∧ HandR K g H a i pa h L ∧ letV K g.D la l ∧ l.told = .enter n ∧ n.mem.Nodup ∧ n.mem.length ≤ 9 ∧ h.past.length ≤ 100000 ∧
  ∀ g' H' L', Go (TH_ i) g H g' H' → HandR K g' H' a i pa (h.enterC i n) L' → Q .non H'
theorem sc_enter_came : FnScope ["hand", "letter", "number", "members", "row", "_"] ["hand", "letter"] (defScope s_enter_came) := ⟨rfl, rfl, rfl, by decide +kernel, rfl, by decide +kernel, by decide +kernel⟩
set_option maxRecDepth 100000 in
theorem ok_enter_came (T : Txt K mg) : OkF P w K mg base CX0 4 (He.ga K "enter_came") ["hand", "letter"] (spEnter K) := by
  obtain ⟨fd, F⟩ := T.F_enter_came
  obtain ⟨fd_Hand_go_on, G_Hand_go_on⟩ := ok_Hand_go_on (P := P) (w := w) (base := base) T
  obtain ⟨fd_Hand_sit, G_Hand_sit⟩ := ok_Hand_sit (P := P) (w := w) (base := base) T
  refine ⟨fd, F.ok sc_enter_came (fun vs H Q E h => ?_) (fun cdv A outer s H vs Q E hr h => ?_), F.bindsN fun _ _ _ _ _ _ us hl => match us, hl with | [_, _], _ => rfl, F.kp⟩
  · obtain ⟨_, _, _, _, _, _, _, _, _, rfl, _⟩ := h
    rfl
  · refine ⟨_, PSs.nox (pss_cons (ps_asg (pe_fld (pv 1) rfl) (pg_tup rfl (pgs_cons (pg_name (i := 2) sc_enter_came.nd rfl (Or.inl rfl)) (pgs_cons (pg_name (i := 3) sc_enter_came.nd rfl (Or.inl rfl)) (pgs_cons (pg_name (i := 4) sc_enter_came.nd rfl (Or.inl rfl)) (pgs_cons (pg_name (i := 5) sc_enter_came.nd rfl (Or.inl rfl)) pgs_nil)))))) (C8.pss_cut (ps_if (pt_cmpR op_notN (pe_fld (pv 0) rfl) pe_non (nomark _)) (pss_cons (ps_if (pt_cmpR op_ne (pe_fld (pe_fld (pv 0) rfl) rfl) (pe_op op_sub (pv 2) pe_int) (nomark _)) (pss_one ps_retN) pss_nil) (pss_one (ps_expr (pe_meth (pv 0) T.cl_Hand T.me_Hand_go_on G_Hand_go_on.1 (hr.mono (by decide)) G_Hand_go_on.2.1 .nil pass0 (pa_cons (pv 4) pa_nil))))) pss_nil) (pss_one (ps_if (PW.pt (pw_and (pt_cmpR op_in_seq (pe_fld (pv 0) rfl) (pv 3) (by rfl)) (pw_and1 (pt_cmpR op_gt (pv 2) (pe_fld (pv 0) rfl) (nomark _))))) (pss_one (ps_expr (pe_meth (pv 0) T.cl_Hand T.me_Hand_sit G_Hand_sit.1 (hr.mono (by decide)) G_Hand_sit.2.1 .nil pass0 (pa_cons (pv 2) (pa_cons (pv 3) (pa_cons (pe_fld (pv 1) rfl) pa_nil)))))) pss_nil)))), ?_⟩
    obtain ⟨g, a, pa, la, i, h, L, l, n, rfl, k, r, hla, hl, hnd, hml, hpl, q⟩ := h
    obtain ⟨ldx, tv, hlo, htv⟩ := hla
    rw [hl] at htv
    obtain ⟨t, mv, rv, wv, rfl, ht, hm, hrw, hw⟩ := htv
    have hloH := k.sub _ _ hlo
    refine ⟨_, rfl, _, _, _, _, _, rfl, hloH, T.cl_Letter, T.na_Letter_told, zl letK_nd (i := 4) rfl rfl, t, _, rfl, .inl (.inl (k.sub _ _ ht)), rfl, _, _, rfl, _, _, rfl, _, _, rfl, _, _, rfl, rfl, ?_⟩
    obtain ⟨m, rfl, hmm⟩ := hm
    refine ⟨fun σ H1 => σ = [some (.ref a), some (.ref la), some (.int n.num), some (.ref m), some rv, some wv] ∧ ∃ g1 L1 h1, Go (TH_ i) g H g1 H1 ∧ HandR K g1 H1 a i pa h1 L1 ∧ h.enterC i n = h1.join i n, ?_, ?_⟩
    · obtain ⟨hup, hsaid, hhigh, hpast, hseat⟩ := h
      have ro := r.obj
      have hst := r.seat
      cases hseat with
      | none =>
        rw [show L.sv = .non from hst] at ro
        refine ⟨_, rfl, _, _, _, _, _, rfl, ro, T.cl_Hand, T.na_Hand_seat, zl handK_nd (i := 6) rfl rfl, rfl, _, rfl, iteF ⟨rfl, g, L, _, Go.refl k, r, rfl⟩⟩
      | some s =>
        obtain ⟨sa, S, hsv, rs⟩ := hst
        rw [hsv] at ro
        refine ⟨_, rfl, _, _, _, _, _, rfl, ro, T.cl_Hand, T.na_Hand_seat, zl handK_nd (i := 6) rfl rfl, rfl, _, rfl, iteT ⟨_, rfl, _, _, _, _, _, rfl, ro, T.cl_Hand, T.na_Hand_seat, zl handK_nd (i := 6) rfl rfl, _, _, _, _, _, rfl, rs.obj, T.cl_Seat, T.na_Seat_number, zl seatK_nd (i := 0) rfl rfl, _, rfl, _, _, rfl, rfl, rfl, _, rfl, ?_⟩⟩
        by_cases hn : s.num = n.num - 1
        · rw [decide_eq_true (show V.int s.num = V.int (n.num - 1) by rw [hn])]
          refine iteF ⟨_, rfl, _, _, _, rfl, ro, zn (by decide +kernel), _, rfl, g, a, pa, i, _, L, s, rv, n.row, rfl, k, r, rfl, hrw, hpl, fun g1 H1 L1 e1 r1 => ?_⟩
          refine ⟨rfl, g1, L1, _, e1, r1, ?_⟩
          show (if s.num ≠ n.num - 1 then _ else _) = _
          rw [if_neg (fun z => z hn)]
        · rw [decide_eq_false (show ¬ V.int s.num = V.int (n.num - 1) from fun z => hn (V.int.inj z))]
          refine iteT (q g H L (Go.refl k) ?_)
          have : Hnd.enterC ⟨hup, hsaid, hhigh, hpast, some s⟩ i n = ⟨hup, hsaid, hhigh, hpast, some s⟩ := by
            show (if s.num ≠ n.num - 1 then _ else _) = _
            rw [if_pos hn]
          rw [this]
          exact r
    rintro σ H1 ⟨rfl, g1, L1, h1, e1, r1, he⟩
    rw [he] at q
    have hm1 := e1.ok.sub _ _ (e1.D _ _ hmm)
    have ro := r1.obj
    refine ⟨_, rfl, _, _, _, _, _, rfl, ro, T.cl_Hand, T.na_Hand_me, zl handK_nd (i := 0) rfl rfl, _, rfl, m, _, rfl, .inl (SqL.of hm1), rfl, flat_ints _, _, rfl, ?_⟩
    rw [inV_ints]
    by_cases hin : (i : Int) ∈ n.mem
    · rw [decide_eq_true hin]
      refine iteT ⟨_, rfl, _, rfl, _, _, _, _, _, rfl, ro, T.cl_Hand, T.na_Hand_highest, zl handK_nd (i := 4) rfl rfl, _, _, rfl, rfl, _, rfl, iteD (fun hgt => ?_) (fun hle => ?_)⟩
      · have hj : h1.join i n = { h1 with seat := some (Seat.fresh n.num n.mem (some n)), high := n.num } := by
          unfold Hnd.join
          rw [if_pos ⟨hin, hgt⟩]
        rw [hj] at q
        have hlo1 := e1.ok.sub _ _ (e1.D _ _ hlo)
        have ht1 := e1.D _ _ ht
        refine ⟨_, rfl, _, _, _, rfl, ro, zn (by decide +kernel), _, rfl, _, rfl, _, rfl, _, _, _, _, _, rfl, hlo1, T.cl_Letter, T.na_Letter_told, zl letK_nd (i := 4) rfl rfl, g1, a, pa, i, h1, L1, n.num, _, _, n.mem, some n, rfl, e1.ok, r1, ⟨m, rfl, e1.D _ _ hmm⟩, ⟨t, .ref m, rv, wv, rfl, ht1, ⟨m, rfl, e1.D _ _ hmm⟩, hrw.up e1.D, hw.up e1.D⟩, hnd, by omega, fun g2 H2 L2 e2 r2 => ?_⟩
        exact q g2 H2 L2 (e1.trans e2) r2
      · have hj : h1.join i n = h1 := by
          unfold Hnd.join
          rw [if_neg (fun z => hle z.2)]
        rw [hj] at q
        exact q g1 H1 L1 e1 r1
    · rw [decide_eq_false hin]
      have hj : h1.join i n = h1 := by
        unfold Hnd.join
        rw [if_neg (fun z => hin z.1)]
      rw [hj] at q
      exact iteF (q g1 H1 L1 e1 r1)

end
end Fo
namespace Fo
open PySem PySem.Spec PyProof.Rows L2
section
variable {P : Program} {w : World} {K : PySem.W.Frag} {mg : Str → Option Value} {base : Heap}
theorem mc_skip {z k : Str} {t : TS} {r : List (Str × TS)} {D : Ends} {σ : L2.St} {H : Hp} (h : ¬ z = k) (q : tMc z r D σ H) : tMc z ((k, t) :: r) D σ H := by
  show (if z = k then t D σ H else tMc z r D σ H)
  rw [if_neg h]
  exact q
theorem mc_hit {z : Str} {t : TS} {r : List (Str × TS)} {D : Ends} {σ : L2.St} {H : Hp} (q : t D σ H) : tMc z ((z, t) :: r) D σ H := by
  show (if z = z then t D σ H else tMc z r D σ H)
  rw [if_pos rfl]
  exact q
def preRead (_ : Nat) (s : Seat) (l : Ltr) : Prop := s.row.length < 1000 ∧ (∀ o, s.off = some o → o.proms.length ≤ 100 ∧ o.ags.length ≤ 100) ∧ match l.told with
  | .wish m => mOk m
  | .have_ _ => l.snd ∈ s.mem
  | .agree b => ∀ o, s.off = some o → o.bal = b → ∃ f, o.fwd = some f ∧ FwdOk f
  | .enter _ => False
  | _ => True
theorem sc_read_letter : FnScope ["hand", "letter"] ["hand", "letter"] (defScope s_read_letter) := ⟨rfl, rfl, rfl, by decide +kernel, rfl, by decide +kernel, by decide +kernel⟩
set_option maxRecDepth 100000 in
theorem ok_read_letter (T : Txt K mg) : OkF P w K mg base CX0 8 (He.ga K "read_letter") ["hand", "letter"] (spMsg K preRead Seat.read) := by
  obtain ⟨fd, F⟩ := T.F_read_letter
  obtain ⟨fd_agree_came, G_agree_came⟩ := ok_agree_came (P := P) (w := w) (base := base) T
  obtain ⟨fd_accept_came, G_accept_came⟩ := ok_accept_came (P := P) (w := w) (base := base) T
  obtain ⟨fd_promise_came, G_promise_came⟩ := ok_promise_came (P := P) (w := w) (base := base) T
  obtain ⟨fd_prepare_came, G_prepare_came⟩ := ok_prepare_came (P := P) (w := w) (base := base) T
  obtain ⟨fd_take_came, G_take_came⟩ := ok_take_came (P := P) (w := w) (base := base) T
  obtain ⟨fd_have_came, G_have_came⟩ := ok_have_came (P := P) (w := w) (base := base) T
  obtain ⟨fd_hold_came, G_hold_came⟩ := ok_hold_came (P := P) (w := w) (base := base) T
  obtain ⟨fd_wish_came, G_wish_came⟩ := ok_wish_came (P := P) (w := w) (base := base) T
  refine ⟨fd, F.ok sc_read_letter (fun vs H Q E h => ?_) (fun cdv A outer s H vs Q E hr h => ?_), F.bindsN fun _ _ _ _ _ _ us hl => match us, hl with | [_, _], _ => rfl, F.kp⟩
  · obtain ⟨_, _, _, _, _, _, _, _, _, _, _, rfl, _⟩ := h
    rfl
  · refine ⟨_, PSs.nox (pss_one (ps_matchS (pe_fld (pv 1) rfl) (McOk.cons (pss_one (ps_expr (pe_call G_wish_came.1 (hr.mono (by decide)) rfl T.g_wish_came G_wish_came.2.2 G_wish_came.2.1 .nil pass0 (pa_cons (pv 0) (pa_cons (pv 1) pa_nil))))) (McOk.cons (pss_one (ps_expr (pe_call G_hold_came.1 (hr.mono (by decide)) rfl T.g_hold_came G_hold_came.2.2 G_hold_came.2.1 .nil pass0 (pa_cons (pv 0) (pa_cons (pv 1) pa_nil))))) (McOk.cons (pss_one (ps_expr (pe_call G_have_came.1 (hr.mono (by decide)) rfl T.g_have_came G_have_came.2.2 G_have_came.2.1 .nil pass0 (pa_cons (pv 0) (pa_cons (pv 1) pa_nil))))) (McOk.cons (pss_one (ps_expr (pe_call G_take_came.1 (hr.mono (by decide)) rfl T.g_take_came G_take_came.2.2 G_take_came.2.1 .nil pass0 (pa_cons (pv 0) (pa_cons (pv 1) pa_nil))))) (McOk.cons (pss_one (ps_expr (pe_call G_prepare_came.1 (hr.mono (by decide)) rfl T.g_prepare_came G_prepare_came.2.2 G_prepare_came.2.1 .nil pass0 (pa_cons (pv 0) (pa_cons (pv 1) pa_nil))))) (McOk.cons (pss_one (ps_expr (pe_call G_promise_came.1 (hr.mono (by decide)) rfl T.g_promise_came G_promise_came.2.2 G_promise_came.2.1 .nil pass0 (pa_cons (pv 0) (pa_cons (pv 1) pa_nil))))) (McOk.cons (pss_one (ps_expr (pe_call G_accept_came.1 (hr.mono (by decide)) rfl T.g_accept_came G_accept_came.2.2 G_accept_came.2.1 .nil pass0 (pa_cons (pv 0) (pa_cons (pv 1) pa_nil))))) (McOk.cons (pss_one (ps_expr (pe_call G_agree_came.1 (hr.mono (by decide)) rfl T.g_agree_came G_agree_came.2.2 G_agree_came.2.1 .nil pass0 (pa_cons (pv 0) (pa_cons (pv 1) pa_nil))))) McOk.nil)))))))))), ?_⟩
    obtain ⟨g, a, pa, la, i, h, L, s, ls, as, l, rfl, k, r, hse, so, hrk, po, hla, hs0, ⟨hrl, hoo, hk⟩, hlen, q⟩ := h
    have hla' := hla
    obtain ⟨ldx, tv, hlo, htv⟩ := hla
    have hloH := k.sub _ _ hlo
    refine ⟨_, rfl, _, _, _, _, _, rfl, hloH, T.cl_Letter, T.na_Letter_kind, zl letK_nd (i := 0) rfl rfl, _, rfl, ?_⟩
    cases hl : l.told with
    | wish m =>
      rw [hl] at hk
      refine mc_hit ⟨_, rfl, _, rfl, g, a, pa, la, i, h, L, s, ls, as, l, rfl, k, r, hse, so, hrk, po, hla', hs0, ⟨hrl, m, hl, hk⟩, hlen, q⟩
    | hold m pl =>
      refine mc_skip (by show ¬ ("hold" : Str) = "wish"; decide +kernel) (mc_hit ⟨_, rfl, _, rfl, g, a, pa, la, i, h, L, s, ls, as, l, rfl, k, r, hse, so, hrk, po, hla', hs0, ⟨hrl, m, pl, hl⟩, hlen, q⟩)
    | have_ n =>
      rw [hl] at hk
      refine mc_skip (by show ¬ ("have" : Str) = "wish"; decide +kernel) (mc_skip (by show ¬ ("have" : Str) = "hold"; decide +kernel) (mc_hit ⟨_, rfl, _, rfl, g, a, pa, la, i, h, L, s, ls, as, l, rfl, k, r, hse, so, hrk, po, hla', hs0, ⟨hk, n, hl⟩, hlen, q⟩))
    | take n =>
      refine mc_skip (by show ¬ ("take" : Str) = "wish"; decide +kernel) (mc_skip (by show ¬ ("take" : Str) = "hold"; decide +kernel) (mc_skip (by show ¬ ("take" : Str) = "have"; decide +kernel) (mc_hit ⟨_, rfl, _, rfl, g, a, pa, la, i, h, L, s, ls, as, l, rfl, k, r, hse, so, hrk, po, hla', hs0, ⟨n, hl⟩, hlen, q⟩)))
    | prepare b =>
      refine mc_skip (by show ¬ ("prepare" : Str) = "wish"; decide +kernel) (mc_skip (by show ¬ ("prepare" : Str) = "hold"; decide +kernel) (mc_skip (by show ¬ ("prepare" : Str) = "have"; decide +kernel) (mc_skip (by show ¬ ("prepare" : Str) = "take"; decide +kernel) (mc_hit ⟨_, rfl, _, rfl, g, a, pa, la, i, h, L, s, ls, as, l, rfl, k, r, hse, so, hrk, po, hla', hs0, ⟨b, hl⟩, hlen, q⟩))))
    | promise b row ag =>
      refine mc_skip (by show ¬ ("promise" : Str) = "wish"; decide +kernel) (mc_skip (by show ¬ ("promise" : Str) = "hold"; decide +kernel) (mc_skip (by show ¬ ("promise" : Str) = "have"; decide +kernel) (mc_skip (by show ¬ ("promise" : Str) = "take"; decide +kernel) (mc_skip (by show ¬ ("promise" : Str) = "prepare"; decide +kernel) (mc_hit ⟨_, rfl, _, rfl, g, a, pa, la, i, h, L, s, ls, as, l, rfl, k, r, hse, so, hrk, po, hla', hs0, ⟨fun o ho => (hoo o ho).1, b, row, ag, hl⟩, hlen, q⟩)))))
    | accept ag =>
      refine mc_skip (by show ¬ ("accept" : Str) = "wish"; decide +kernel) (mc_skip (by show ¬ ("accept" : Str) = "hold"; decide +kernel) (mc_skip (by show ¬ ("accept" : Str) = "have"; decide +kernel) (mc_skip (by show ¬ ("accept" : Str) = "take"; decide +kernel) (mc_skip (by show ¬ ("accept" : Str) = "prepare"; decide +kernel) (mc_skip (by show ¬ ("accept" : Str) = "promise"; decide +kernel) (mc_hit ⟨_, rfl, _, rfl, g, a, pa, la, i, h, L, s, ls, as, l, rfl, k, r, hse, so, hrk, po, hla', hs0, ⟨ag, hl⟩, hlen, q⟩))))))
    | agree b =>
      rw [hl] at hk
      refine mc_skip (by show ¬ ("agree" : Str) = "wish"; decide +kernel) (mc_skip (by show ¬ ("agree" : Str) = "hold"; decide +kernel) (mc_skip (by show ¬ ("agree" : Str) = "have"; decide +kernel) (mc_skip (by show ¬ ("agree" : Str) = "take"; decide +kernel) (mc_skip (by show ¬ ("agree" : Str) = "prepare"; decide +kernel) (mc_skip (by show ¬ ("agree" : Str) = "promise"; decide +kernel) (mc_skip (by show ¬ ("agree" : Str) = "accept"; decide +kernel) (mc_hit ⟨_, rfl, _, rfl, g, a, pa, la, i, h, L, s, ls, as, l, rfl, k, r, hse, so, hrk, po, hla', hs0, ⟨b, hl, fun o ho => ⟨(hoo o ho).2, hk o ho⟩⟩, hlen, q⟩)))))))
    | enter n =>
      rw [hl] at hk
      exact hk.elim
def preOver (i : Nat) (h : Hnd) (l : Ltr) : Prop := h.up = true → match l.told with
  | .enter n => n.mem.Nodup ∧ n.mem.length ≤ 9 ∧ h.past.length ≤ 100000
  | _ => ∀ s, h.seat = some s → s.num = l.num → SOk i s ∧ rOk s.row ∧ preRead i s l
def spOver (K : PySem.W.Frag) : Sp := fun vs H Q _ => ∃ (g : Gh) (a pa la : Addr) (i : Nat) (h : Hnd) (L : HL) (ls : List Ltr) (as : List Addr) (l : Ltr), vs = [.ref a, .ref la] ∧ Ok g H ∧ HandR K g H a i pa h L ∧ PostR K g H pa ls as ∧ letV K g.D la l ∧ 0 ≤ l.snd ∧ preOver i h l ∧ ls.length + 3000 ≤ 1000000 ∧
  ∀ g' H' L' as', Go (TP i) g H g' H' → HandR K g' H' a i pa (h.over i l).1 L' → PostR K g' H' pa (ls ++ (h.over i l).2) as' → Q .non H'
theorem sc_hand_over : FnScope ["hand", "letter"] ["hand", "letter"] (defScope s_hand_over) := ⟨rfl, rfl, rfl, by decide +kernel, rfl, by decide +kernel, by decide +kernel⟩
set_option maxRecDepth 100000 in
theorem ok_hand_over (T : Txt K mg) : OkF P w K mg base CX0 9 (He.ga K "hand_over") ["hand", "letter"] (spOver K) := by
  obtain ⟨fd, F⟩ := T.F_hand_over
  obtain ⟨fd_enter_came, G_enter_came⟩ := ok_enter_came (P := P) (w := w) (base := base) T
  obtain ⟨fd_read_letter, G_read_letter⟩ := ok_read_letter (P := P) (w := w) (base := base) T
  refine ⟨fd, F.ok sc_hand_over (fun vs H Q E h => ?_) (fun cdv A outer s H vs Q E hr h => ?_), F.bindsN fun _ _ _ _ _ _ us hl => match us, hl with | [_, _], _ => rfl, F.kp⟩
  · obtain ⟨_, _, _, _, _, _, _, _, _, _, rfl, _⟩ := h
    rfl
  · refine ⟨_, PSs.nox (pss_cons (ps_if (pt_not (pt_val (pe_fld (pv 0) rfl))) (pss_one ps_retN) pss_nil) (pss_one (ps_if (pt_cmpR op_eq (pe_fld (pv 1) rfl) pe_str (nomark _)) (pss_one (ps_expr (pe_call G_enter_came.1 (hr.mono (by decide)) rfl T.g_enter_came G_enter_came.2.2 G_enter_came.2.1 .nil pass0 (pa_cons (pv 0) (pa_cons (pv 1) pa_nil))))) (pss_one (ps_if (PW.pt (pw_and (pt_cmpR op_notN (pe_fld (pv 0) rfl) pe_non (nomark _)) (pw_and1 (pt_cmpR op_eq (pe_fld (pe_fld (pv 0) rfl) rfl) (pe_fld (pv 1) rfl) (nomark _))))) (pss_one (ps_expr (pe_call G_read_letter.1 (hr.mono (by decide)) rfl T.g_read_letter G_read_letter.2.2 G_read_letter.2.1 .nil pass0 (pa_cons (pv 0) (pa_cons (pv 1) pa_nil))))) pss_nil))))), ?_⟩
    obtain ⟨g, a, pa, la, i, h, L, ls, as, l, rfl, k, r, po, hla, hs0, hpre, hlen, q⟩ := h
    have hla' := hla
    obtain ⟨ldx, tv, hlo, htv⟩ := hla
    have hloH := k.sub _ _ hlo
    have ro := r.obj
    have stay : h.over i l = (h, []) → Q .non H := fun e => by
      rw [e] at q
      exact q g H L as (Go.refl k) r (by rw [List.append_nil]; exact po)
    refine ⟨_, rfl, _, _, _, _, _, rfl, ro, T.cl_Hand, T.na_Hand_standing, zl handK_nd (i := 2) rfl rfl, _, rfl, ?_⟩
    cases hup : h.up with
    | false =>
      refine iteT (stay ?_)
      unfold Hnd.over
      rw [hup]
      rfl
    | true =>
      have hpre := hpre hup
      refine iteF ⟨_, rfl, _, _, _, _, _, rfl, hloH, T.cl_Letter, T.na_Letter_kind, zl letK_nd (i := 0) rfl rfl, rfl, _, rfl, ?_⟩
      by_cases hen : ∃ n, l.told = .enter n
      · obtain ⟨n, hl⟩ := hen
        rw [hl] at hpre
        have hf : h.over i l = (h.enterC i n, []) := by
          unfold Hnd.over
          rw [hup, hl]
          rfl
        rw [hf] at q
        rw [hl]
        refine iteT ⟨_, rfl, _, rfl, g, a, pa, la, i, h, L, l, n, rfl, k, r, hla', hl, hpre.1, hpre.2.1, hpre.2.2, fun g1 H1 L1 e1 r1 => ?_⟩
        exact q g1 H1 L1 as (e1.mono TP_hand) r1 (by rw [List.append_nil]; exact po.go e1 (fun z => z))
      · have hne : ¬ l.told.kind = "enter" := by
          cases hl : l.told with
          | enter n => exact absurd ⟨n, hl⟩ hen
          | wish _ => show ¬ ("wish" : Str) = "enter"; decide +kernel
          | hold _ _ => show ¬ ("hold" : Str) = "enter"; decide +kernel
          | have_ _ => show ¬ ("have" : Str) = "enter"; decide +kernel
          | take _ => show ¬ ("take" : Str) = "enter"; decide +kernel
          | prepare _ => show ¬ ("prepare" : Str) = "enter"; decide +kernel
          | promise _ _ _ => show ¬ ("promise" : Str) = "enter"; decide +kernel
          | accept _ => show ¬ ("accept" : Str) = "enter"; decide +kernel
          | agree _ => show ¬ ("agree" : Str) = "enter"; decide +kernel
        rw [decide_eq_false (fun z => hne (V.str.inj z))]
        have hpre2 : ∀ s, h.seat = some s → s.num = l.num → SOk i s ∧ rOk s.row ∧ preRead i s l := by
          cases hl : l.told with
          | enter n => exact absurd ⟨n, hl⟩ hen
          | _ => rw [hl] at hpre; exact hpre
        have hov : h.over i l = (match h.seat with | none => (h, []) | some s => if s.num = l.num then ({ h with seat := some (s.read i l).1 }, (s.read i l).2) else (h, [])) := by
          unfold Hnd.over
          rw [hup]
          cases hl : l.told with
          | enter n => exact absurd ⟨n, hl⟩ hen
          | _ => rfl
        have hst := r.seat
        cases hse : h.seat with
        | none =>
          rw [hse] at hst
          rw [show L.sv = .non from hst] at ro
          refine iteF ⟨_, rfl, _, _, _, _, _, rfl, ro, T.cl_Hand, T.na_Hand_seat, zl handK_nd (i := 6) rfl rfl, rfl, _, rfl, iteF (iteF (stay ?_))⟩
          rw [hov, hse]
        | some s =>
          rw [hse] at hst
          obtain ⟨sa, S, hsv, rs⟩ := hst
          rw [hsv] at ro
          refine iteF ⟨_, rfl, _, _, _, _, _, rfl, ro, T.cl_Hand, T.na_Hand_seat, zl handK_nd (i := 6) rfl rfl, rfl, _, rfl, iteT ⟨_, rfl, _, _, _, _, _, rfl, ro, T.cl_Hand, T.na_Hand_seat, zl handK_nd (i := 6) rfl rfl, _, _, _, _, _, rfl, rs.obj, T.cl_Seat, T.na_Seat_number, zl seatK_nd (i := 0) rfl rfl, _, rfl, _, _, _, _, _, rfl, hloH, T.cl_Letter, T.na_Letter_number, zl letK_nd (i := 3) rfl rfl, rfl, _, rfl, ?_⟩⟩
          by_cases hn : s.num = l.num
          · rw [decide_eq_true (show V.int s.num = V.int l.num by rw [hn])]
            have hf : h.over i l = ({ h with seat := some (s.read i l).1 }, (s.read i l).2) := by
              rw [hov, hse]
              show (if s.num = l.num then _ else _) = _
              rw [if_pos hn]
            rw [hf] at q
            obtain ⟨p1, p2, p3⟩ := hpre2 s hse hn
            exact iteT ⟨_, rfl, _, rfl, g, a, pa, la, i, h, L, s, ls, as, l, rfl, k, r, hse, p1, p2, po, hla', hs0, p3, hlen, fun g1 H1 as1 e1 r1 po1 => q g1 H1 L as1 e1 r1 po1⟩
          · rw [decide_eq_false (show ¬ V.int s.num = V.int l.num from fun z => hn (V.int.inj z))]
            refine iteF (stay ?_)
            rw [hov, hse]
            show (if s.num = l.num then _ else _) = _
            rw [if_neg hn]

end
end Fo
namespace Fo
open PySem PySem.Spec PyProof.Rows L2
section
variable {P : Program} {w : World} {K : PySem.W.Frag} {mg : Str → Option Value} {base : Heap}
/-! ### the folk -/
structure FL where
  dx : Addr
  pa : Addr
  hl : Addr
  as : List Addr
  hs : List Addr
structure FolkR (K : PySem.W.Frag) (g : Gh) (H : Hp) (fa : Addr) (f : Flk) (L : FL) : Prop where
  ok : Ok g H
  obj : g.D fa = some (.ins (He.ga K "Folk") L.dx (folkK.zip [.int (f.hands.length : Nat), .ref L.pa, .ref L.hl]))
  hl : g.D L.hl = some (.lst (L.hs.map V.ref))
  post : PostR K g H L.pa f.post L.as
  len : L.hs.length = f.hands.length
  hand : ∀ i a h, L.hs[i]? = some a → f.hands[i]? = some h → ∃ hL, HandR K g H a i L.pa h hL
/-- the refusals -/
def xi (x : V) : Nat := match x with
  | .int i => i.toNat
  | _ => 0
def Flk.who (f : Flk) (x : V) : Except Str Nat := if isHandB x (f.hands.length : Nat) = true then .ok (xi x) else .error "BadHand"
def Flk.acts (f : Flk) (x : V) : Except Str (Nat × Seat) := match f.who x with
  | .error e => .error e
  | .ok i => if (f.hand i).up = false then .error "Fallen" else match (f.hand i).seat with
    | none => .error "Outside"
    | some s => .ok (i, s)
def Flk.seatOf (f : Flk) (x : V) : Except Str (Nat × Seat) := match f.who x with
  | .error e => .error e
  | .ok i => match (f.hand i).seat with
    | none => .error "Outside"
    | some s => .ok (i, s)
def Flk.place (f : Flk) (x : V) : Except Str Nat := if isHandB x (f.post.length : Nat) = true then .ok (xi x) else .error "NoLetter"
/-- a promise that may refuse -/
def Res {α : Type} (K : PySem.W.Frag) (H : Hp) (E : XK) (r : Except Str α) (Q : α → Prop) : Prop := match r with
  | .ok a => Q a
  | .error e => E (.ref (He.ga K e)) none H
theorem isHandB_lt {x : V} {n : Nat} (h : isHandB x (n : Nat) = true) : ∃ i : Nat, x = .int i ∧ i < n ∧ xi x = i := by
  cases x with
  | int j =>
    have h1 : (decide (0 ≤ j) && decide (j < (n : Int))) = true := h
    have h2 := Bool.and_eq_true_iff.mp h1
    have h3 := of_decide_eq_true h2.1
    have h4 := of_decide_eq_true h2.2
    exact ⟨j.toNat, by rw [show ((j.toNat : Nat) : Int) = j by omega], by omega, rfl⟩
  | _ => cases h
theorem who_ok {f : Flk} {x : V} {i : Nat} (h : f.who x = .ok i) : x = .int i ∧ i < f.hands.length := by
  unfold Flk.who at h
  split at h
  · rename_i q
    obtain ⟨j, e1, e2, e3⟩ := isHandB_lt q
    cases h
    rw [e3]
    exact ⟨e1, e2⟩
  · cases h
theorem place_ok {f : Flk} {x : V} {i : Nat} (h : f.place x = .ok i) : x = .int i ∧ i < f.post.length := by
  unfold Flk.place at h
  split at h
  · rename_i q
    obtain ⟨j, e1, e2, e3⟩ := isHandB_lt q
    cases h
    rw [e3]
    exact ⟨e1, e2⟩
  · cases h
theorem FolkR.at {K : PySem.W.Frag} {g : Gh} {H : Hp} {fa : Addr} {f : Flk} {L : FL} (r : FolkR K g H fa f L) {i : Nat} (hi : i < f.hands.length) : ∃ a hL, L.hs[i]? = some a ∧ HandR K g H a i L.pa (f.hand i) hL := by
  have h1 : f.hands[i]? = some (f.hand i) := by
    unfold Flk.hand
    rw [List.getD_eq_getElem?_getD, List.getElem?_eq_getElem hi]
    rfl
  have h2 : i < L.hs.length := by rw [r.len]; exact hi
  obtain ⟨hL, h⟩ := r.hand i _ _ (List.getElem?_eq_getElem h2) h1
  exact ⟨_, hL, List.getElem?_eq_getElem h2, h⟩
def spWho (K : PySem.W.Frag) : Sp := fun vs H Q E => ∃ (g : Gh) (fa : Addr) (f : Flk) (L : FL) (x : V), vs = [.ref fa, x] ∧ FolkR K g H fa f L ∧ Thg K H x ∧ Res K H E (f.who x) fun i => ∀ a, L.hs[i]? = some a → Q (.ref a) H
theorem sc_Folk_who : FnScope ["self", "hand"] ["self", "hand"] (defScope s_Folk_who) := ⟨rfl, rfl, rfl, by decide +kernel, rfl, by decide +kernel, by decide +kernel⟩
set_option maxRecDepth 100000 in
theorem ok_Folk_who (T : Txt K mg) : OkF P w K mg base (L2.CX P w) 3 (He.ma K (He.ga K "Folk") "_who") ["self", "hand"] (spWho K) := by
  obtain ⟨fd, F⟩ := T.F_Folk_who
  obtain ⟨fd_is_hand, G_is_hand⟩ := ok_is_hand (P := P) (w := w) (base := base) T
  refine ⟨fd, F.ok sc_Folk_who (fun vs H Q E h => ?_) (fun cdv A outer s H vs Q E hr h => ?_), F.bindsN fun _ _ _ _ _ _ us hl => match us, hl with | [_, _], _ => rfl, F.kp⟩
  · obtain ⟨_, _, _, _, _, rfl, _⟩ := h
    rfl
  · refine ⟨_, (pss_cons (ps_if (pt_not (pt_val (pe_call G_is_hand.1 (hr.mono (by decide)) rfl T.g_is_hand G_is_hand.2.2 G_is_hand.2.1 .nil pass0 (pa_cons (pv 1) (pa_cons (pe_fld (pv 0) rfl) pa_nil))))) (pss_one (ps_raise rfl (takes_of rfl rfl rfl rfl) (pmk_own PySem.F.excBase_ValueError T.xi_BadHand T.g_BadHand T.kp_BadHand (raises_own T.xs_BadHand T.xt_BadHand) rfl))) pss_nil) (pss_one (ps_ret (pe_ix ix_list (pe_fld (pv 0) rfl) (pv 1) (fun _ _ => rfl))))), ?_⟩
    obtain ⟨g, fa, f, L, x, rfl, r, hx, q⟩ := h
    have ro := r.ok.sub _ _ r.obj
    refine ⟨_, rfl, _, rfl, _, _, _, _, _, rfl, ro, T.cl_Folk, T.na_Folk_many, zl folkK_nd (i := 0) rfl rfl, x, _, rfl, hx, _, rfl, ?_⟩
    unfold Flk.who at q
    cases hb : isHandB x (f.hands.length : Nat) with
    | false =>
      rw [hb] at q
      exact iteT q
    | true =>
      rw [hb] at q
      obtain ⟨i, rfl, hi, e⟩ := isHandB_lt hb
      obtain ⟨a, hL, ha, hr⟩ := r.at hi
      have q2 : ∀ a, L.hs[i]? = some a → Q (.ref a) H := q
      refine iteF ⟨_, rfl, _, _, _, _, _, rfl, ro, T.cl_Folk, T.na_Folk__hands, zl folkK_nd (i := 2) rfl rfl, _, rfl, L.hl, _, _, _, rfl, rfl, SqL.of (r.ok.sub _ _ r.hl), atI_nat (by rw [List.getElem?_map, ha]; rfl), ?_⟩
      exact q2 a ha
def spWhoActs (K : PySem.W.Frag) : Sp := fun vs H Q E => ∃ (g : Gh) (fa : Addr) (f : Flk) (L : FL) (x : V), vs = [.ref fa, x] ∧ FolkR K g H fa f L ∧ Thg K H x ∧ Res K H E (f.acts x) fun p => ∀ a, L.hs[p.1]? = some a → Q (.ref a) H
theorem sc_Folk_who_acts : FnScope ["self", "hand", "who"] ["self", "hand"] (defScope s_Folk_who_acts) := ⟨rfl, rfl, rfl, by decide +kernel, rfl, by decide +kernel, by decide +kernel⟩
set_option maxRecDepth 100000 in
theorem ok_Folk_who_acts (T : Txt K mg) : OkF P w K mg base (L2.CX P w) 4 (He.ma K (He.ga K "Folk") "_who_acts") ["self", "hand"] (spWhoActs K) := by
  obtain ⟨fd, F⟩ := T.F_Folk_who_acts
  obtain ⟨fd_Folk_who, G_Folk_who⟩ := ok_Folk_who (P := P) (w := w) (base := base) T
  refine ⟨fd, F.ok sc_Folk_who_acts (fun vs H Q E h => ?_) (fun cdv A outer s H vs Q E hr h => ?_), F.bindsN fun _ _ _ _ _ _ us hl => match us, hl with | [_, _], _ => rfl, F.kp⟩
  · obtain ⟨_, _, _, _, _, rfl, _⟩ := h
    rfl
  · refine ⟨_, (pss_cons (ps_set (i := 2) sc_Folk_who_acts.nd rfl (Or.inl rfl) (pe_meth (pv 0) T.cl_Folk T.me_Folk_who G_Folk_who.1 (hr.mono (by decide)) G_Folk_who.2.1 .nil (passX (takes_of rfl rfl rfl rfl) fun _ _ _ _ h => h) (pa_cons (pv 1) pa_nil))) (pss_cons (ps_if (pt_not (pt_val (pe_fld (pv 2) rfl))) (pss_one (ps_raise rfl (takes_of rfl rfl rfl rfl) (pmk_own PySem.F.excBase_ValueError T.xi_Fallen T.g_Fallen T.kp_Fallen (raises_own T.xs_Fallen T.xt_Fallen) rfl))) pss_nil) (pss_cons (ps_if (pt_cmpR op_isN (pe_fld (pv 2) rfl) pe_non (nomark _)) (pss_one (ps_raise rfl (takes_of rfl rfl rfl rfl) (pmk_own PySem.F.excBase_ValueError T.xi_Outside T.g_Outside T.kp_Outside (raises_own T.xs_Outside T.xt_Outside) rfl))) pss_nil) (pss_one (ps_ret (pv 2)))))), ?_⟩
    obtain ⟨g, fa, f, L, x, rfl, r, hx, q⟩ := h
    have ro := r.ok.sub _ _ r.obj
    refine ⟨_, rfl, _, _, _, rfl, ro, zn (by decide +kernel), _, rfl, g, fa, f, L, x, rfl, r, hx, ?_⟩
    unfold Flk.acts at q
    cases hw : f.who x with
    | error e =>
      rw [hw] at q
      exact q
    | ok i =>
      rw [hw] at q
      intro a ha
      obtain ⟨rfl, hi⟩ := who_ok hw
      obtain ⟨a', hL, ha', hr⟩ := r.at hi
      rw [ha] at ha'
      cases ha'
      have q2 : Res K H E (if (f.hand i).up = false then .error "Fallen" else match (f.hand i).seat with
        | none => .error "Outside"
        | some s => .ok (i, s)) fun p => ∀ a, L.hs[p.1]? = some a → Q (.ref a) H := q
      have hro := hr.obj
      refine ⟨_, rfl, _, _, _, _, _, rfl, hro, T.cl_Hand, T.na_Hand_standing, zl handK_nd (i := 2) rfl rfl, _, rfl, ?_⟩
      cases hup : (f.hand i).up with
      | false =>
        rw [hup] at q2
        exact iteT q2
      | true =>
        rw [hup] at q2
        refine iteF ?_
        have hst := hr.seat
        cases hse : (f.hand i).seat with
        | none =>
          rw [hse] at hst q2
          rw [show hL.sv = .non from hst] at hro
          exact ⟨_, rfl, _, _, _, _, _, rfl, hro, T.cl_Hand, T.na_Hand_seat, zl handK_nd (i := 6) rfl rfl, rfl, _, rfl, iteT q2⟩
        | some s =>
          rw [hse] at hst q2
          obtain ⟨sa, S, hsv, rs⟩ := hst
          rw [hsv] at hro
          refine ⟨_, rfl, _, _, _, _, _, rfl, hro, T.cl_Hand, T.na_Hand_seat, zl handK_nd (i := 6) rfl rfl, rfl, _, rfl, iteF ⟨_, rfl, ?_⟩⟩
          exact q2 a ha
def spSeatOf (K : PySem.W.Frag) : Sp := fun vs H Q E => ∃ (g : Gh) (fa : Addr) (f : Flk) (L : FL) (x : V), vs = [.ref fa, x] ∧ FolkR K g H fa f L ∧ Thg K H x ∧ Res K H E (f.seatOf x) fun p => ∀ sa S, SeatR K g H sa p.1 p.2 S → Q (.ref sa) H
theorem sc_Folk_seat_of : FnScope ["self", "hand", "who"] ["self", "hand"] (defScope s_Folk_seat_of) := ⟨rfl, rfl, rfl, by decide +kernel, rfl, by decide +kernel, by decide +kernel⟩
set_option maxRecDepth 100000 in
theorem ok_Folk_seat_of (T : Txt K mg) : OkF P w K mg base (L2.CX P w) 4 (He.ma K (He.ga K "Folk") "_seat_of") ["self", "hand"] (spSeatOf K) := by
  obtain ⟨fd, F⟩ := T.F_Folk_seat_of
  obtain ⟨fd_Folk_who, G_Folk_who⟩ := ok_Folk_who (P := P) (w := w) (base := base) T
  refine ⟨fd, F.ok sc_Folk_seat_of (fun vs H Q E h => ?_) (fun cdv A outer s H vs Q E hr h => ?_), F.bindsN fun _ _ _ _ _ _ us hl => match us, hl with | [_, _], _ => rfl, F.kp⟩
  · obtain ⟨_, _, _, _, _, rfl, _⟩ := h
    rfl
  · refine ⟨_, (pss_cons (ps_set (i := 2) sc_Folk_seat_of.nd rfl (Or.inl rfl) (pe_meth (pv 0) T.cl_Folk T.me_Folk_who G_Folk_who.1 (hr.mono (by decide)) G_Folk_who.2.1 .nil (passX (takes_of rfl rfl rfl rfl) fun _ _ _ _ h => h) (pa_cons (pv 1) pa_nil))) (pss_cons (ps_if (pt_cmpR op_isN (pe_fld (pv 2) rfl) pe_non (nomark _)) (pss_one (ps_raise rfl (takes_of rfl rfl rfl rfl) (pmk_own PySem.F.excBase_ValueError T.xi_Outside T.g_Outside T.kp_Outside (raises_own T.xs_Outside T.xt_Outside) rfl))) pss_nil) (pss_one (ps_ret (pe_fld (pv 2) rfl))))), ?_⟩
    obtain ⟨g, fa, f, L, x, rfl, r, hx, q⟩ := h
    have ro := r.ok.sub _ _ r.obj
    refine ⟨_, rfl, _, _, _, rfl, ro, zn (by decide +kernel), _, rfl, g, fa, f, L, x, rfl, r, hx, ?_⟩
    unfold Flk.seatOf at q
    cases hw : f.who x with
    | error e =>
      rw [hw] at q
      exact q
    | ok i =>
      rw [hw] at q
      intro a ha
      obtain ⟨rfl, hi⟩ := who_ok hw
      obtain ⟨a', hL, ha', hr⟩ := r.at hi
      rw [ha] at ha'
      cases ha'
      have q2 : Res K H E (match (f.hand i).seat with
        | none => .error "Outside"
        | some s => .ok (i, s)) fun p => ∀ sa S, SeatR K g H sa p.1 p.2 S → Q (.ref sa) H := q
      have hro := hr.obj
      have hst := hr.seat
      cases hse : (f.hand i).seat with
      | none =>
        rw [hse] at hst q2
        rw [show hL.sv = .non from hst] at hro
        exact ⟨_, rfl, _, _, _, _, _, rfl, hro, T.cl_Hand, T.na_Hand_seat, zl handK_nd (i := 6) rfl rfl, rfl, _, rfl, iteT q2⟩
      | some s =>
        rw [hse] at hst q2
        obtain ⟨sa, S, hsv, rs⟩ := hst
        rw [hsv] at hro
        refine ⟨_, rfl, _, _, _, _, _, rfl, hro, T.cl_Hand, T.na_Hand_seat, zl handK_nd (i := 6) rfl rfl, rfl, _, rfl, iteF ⟨_, rfl, _, _, _, _, _, rfl, hro, T.cl_Hand, T.na_Hand_seat, zl handK_nd (i := 6) rfl rfl, ?_⟩⟩
        exact q2 sa S rs

end
end Fo
namespace Fo
open PySem PySem.Spec PyProof.Rows L2
section
variable {P : Program} {w : World} {K : PySem.W.Frag} {mg : Str → Option Value} {base : Heap}
theorem FolkR.ext {K : PySem.W.Frag} {g : Gh} {H H' : Hp} {fa : Addr} {f : Flk} {L : FL} (r : FolkR K g H fa f L) (e : Same H H') : FolkR K g H' fa f L := by
  have x : Go (fun _ => False) g H g H' := Go.ext r.ok e
  exact ⟨x.ok, r.obj, r.hl, r.post.go x (fun z => z), r.len, fun i a h h1 h2 => by
    obtain ⟨hL, q⟩ := r.hand i a h h1 h2
    exact ⟨hL, q.go x (fun _ _ z => z)⟩⟩
def spStands (K : PySem.W.Frag) : Sp := fun vs H Q E => ∃ (g : Gh) (fa : Addr) (f : Flk) (L : FL) (x : V), vs = [.ref fa, x] ∧ FolkR K g H fa f L ∧ Thg K H x ∧ Res K H E (f.who x) fun i => Q (.bl (f.hand i).up) H
def spStill (K : PySem.W.Frag) : Sp := fun vs H Q E => ∃ (g : Gh) (fa : Addr) (f : Flk) (L : FL) (x : V), vs = [.ref fa, x] ∧ FolkR K g H fa f L ∧ Thg K H x ∧ Res K H E (f.seatOf x) fun p => Q (.bl p.2.still) H
def spTaken (K : PySem.W.Frag) : Sp := fun vs H Q E => ∃ (g : Gh) (fa : Addr) (f : Flk) (L : FL) (x : V), vs = [.ref fa, x] ∧ FolkR K g H fa f L ∧ Thg K H x ∧ Res K H E (f.seatOf x) fun p => ∀ l xs, H l = none → Paired (msgV g.D) xs (p.2.row.take p.2.took) → Q (.ref l) (upd H l (.lst xs))
theorem paired_take {α β : Type} {R : α → β → Prop} : ∀ {xs : List α} {ys : List β} (n : Nat), Paired R xs ys → Paired R (xs.take n) (ys.take n)
  | _, _, 0, _ => .nil
  | _, _, _ + 1, .nil => .nil
  | _, _, n + 1, .cons r t => .cons r (paired_take n t)
theorem sc_Folk_taken : FnScope ["self", "hand", "seat"] ["self", "hand"] (defScope s_Folk_taken) := ⟨rfl, rfl, rfl, by decide +kernel, rfl, by decide +kernel, by decide +kernel⟩
set_option maxRecDepth 100000 in
theorem ok_Folk_taken (T : Txt K mg) : OkF P w K mg base (L2.CX P w) 5 (He.ma K (He.ga K "Folk") "taken") ["self", "hand"] (spTaken K) := by
  obtain ⟨fd, F⟩ := T.F_Folk_taken
  obtain ⟨fd_Folk_seat_of, G_Folk_seat_of⟩ := ok_Folk_seat_of (P := P) (w := w) (base := base) T
  refine ⟨fd, F.ok sc_Folk_taken (fun vs H Q E h => ?_) (fun cdv A outer s H vs Q E hr h => ?_), F.bindsN fun _ _ _ _ _ _ us hl => match us, hl with | [_, _], _ => rfl, F.kp⟩
  · obtain ⟨_, _, _, _, _, rfl, _⟩ := h
    rfl
  · refine ⟨_, (pss_cons (ps_set (i := 2) sc_Folk_taken.nd rfl (Or.inl rfl) (pe_meth (pv 0) T.cl_Folk T.me_Folk_seat_of G_Folk_seat_of.1 (hr.mono (by decide)) G_Folk_seat_of.2.1 .nil (passX (takes_of rfl rfl rfl rfl) fun _ _ _ _ h => h) (pa_cons (pv 1) pa_nil))) (pss_one (ps_ret (pe_slice sl_list (pe_fld (pv 2) rfl) po_none (po_some (pe_fld (pv 2) rfl)))))), ?_⟩
    obtain ⟨g, fa, f, L, x, rfl, r, hx, q⟩ := h
    have ro := r.ok.sub _ _ r.obj
    refine ⟨_, rfl, _, _, _, rfl, ro, zn (by decide +kernel), _, rfl, g, fa, f, L, x, rfl, r, hx, ?_⟩
    cases hw : f.seatOf x with
    | error e =>
      rw [hw] at q
      exact q
    | ok p =>
      rw [hw] at q
      intro sa S rs
      have rso := rs.obj
      have q2 : ∀ l xs, H l = none → Paired (msgV g.D) xs (p.2.row.take p.2.took) → Q (.ref l) (upd H l (.lst xs)) := q
      refine ⟨_, rfl, _, _, _, _, _, rfl, rso, T.cl_Seat, T.na_Seat_row, zl seatK_nd (i := 3) rfl rfl, _, rfl, _, _, _, _, _, rfl, rso, T.cl_Seat, T.na_Seat_took, zl seatK_nd (i := 4) rfl rfl, _, rfl, S.ra, _, rfl, SqL.of rs.robj, fun l hl => ?_⟩
      have e : cutV S.rxs none (some ((p.2.took : Nat) : Int)) = S.rxs.take p.2.took := by
        unfold cutV
        rw [HT.sIx_none, HT.sIx_nat, List.drop_zero, Nat.sub_zero, List.take_eq_take_iff]
        omega
      rw [e]
      exact q2 l _ hl (paired_take _ rs.row)
def spWitness (K : PySem.W.Frag) : Sp := fun vs H Q E => ∃ (g : Gh) (fa : Addr) (f : Flk) (L : FL) (x : V), vs = [.ref fa, x] ∧ FolkR K g H fa f L ∧ Thg K H x ∧ Res K H E (f.seatOf x) fun p => ∀ l, H l = none → Q (.ref l) (upd H l (.lst ((match p.2.news with | none => ([] : List Int) | some n => n.wit).map V.int)))
def spListOf (K : PySem.W.Frag) : Sp := fun vs H Q E => ∃ (g : Gh) (fa : Addr) (f : Flk) (L : FL) (x : V), vs = [.ref fa, x] ∧ FolkR K g H fa f L ∧ Thg K H x ∧ Res K H E (f.seatOf x) fun p => ∀ l t, H l = none → H t = none → t ≠ l → Q (.ref t) (upd (upd H l (.lst (p.2.mem.map V.int))) t (.tup [.int p.2.num, .ref l]))
theorem sc_Folk_list_of : FnScope ["self", "hand", "seat"] ["self", "hand"] (defScope s_Folk_list_of) := ⟨rfl, rfl, rfl, by decide +kernel, rfl, by decide +kernel, by decide +kernel⟩
set_option maxRecDepth 100000 in
theorem ok_Folk_list_of (T : Txt K mg) : OkF P w K mg base (L2.CX P w) 5 (He.ma K (He.ga K "Folk") "list_of") ["self", "hand"] (spListOf K) := by
  obtain ⟨fd, F⟩ := T.F_Folk_list_of
  obtain ⟨fd_Folk_seat_of, G_Folk_seat_of⟩ := ok_Folk_seat_of (P := P) (w := w) (base := base) T
  refine ⟨fd, F.ok sc_Folk_list_of (fun vs H Q E h => ?_) (fun cdv A outer s H vs Q E hr h => ?_), F.bindsN fun _ _ _ _ _ _ us hl => match us, hl with | [_, _], _ => rfl, F.kp⟩
  · obtain ⟨_, _, _, _, _, rfl, _⟩ := h
    rfl
  · refine ⟨_, (pss_cons (ps_set (i := 2) sc_Folk_list_of.nd rfl (Or.inl rfl) (pe_meth (pv 0) T.cl_Folk T.me_Folk_seat_of G_Folk_seat_of.1 (hr.mono (by decide)) G_Folk_seat_of.2.1 .nil (passX (takes_of rfl rfl rfl rfl) fun _ _ _ _ h => h) (pa_cons (pv 1) pa_nil))) (pss_one (ps_ret (pe_tup (pa_cons (pe_fld (pv 2) rfl) (pa_cons (pe_callTy (T := "list") call_list_of (by rfl) T.b_list (by decide +kernel) (pa_cons (pe_fld (pv 2) rfl) pa_nil)) pa_nil)))))), ?_⟩
    obtain ⟨g, fa, f, L, x, rfl, r, hx, q⟩ := h
    have ro := r.ok.sub _ _ r.obj
    refine ⟨_, rfl, _, _, _, rfl, ro, zn (by decide +kernel), _, rfl, g, fa, f, L, x, rfl, r, hx, ?_⟩
    cases hw : f.seatOf x with
    | error e =>
      rw [hw] at q
      exact q
    | ok p =>
      rw [hw] at q
      intro sa S rs
      have rso := rs.obj
      have q2 : ∀ l t, H l = none → H t = none → t ≠ l → Q (.ref t) (upd (upd H l (.lst (p.2.mem.map V.int))) t (.tup [.int p.2.num, .ref l])) := q
      obtain ⟨m, hmv, hm⟩ := rs.mem
      rw [hmv] at rso
      refine ⟨_, rfl, _, _, _, _, _, rfl, rso, T.cl_Seat, T.na_Seat_number, zl seatK_nd (i := 0) rfl rfl, _, rfl, _, _, _, _, _, rfl, rso, T.cl_Seat, T.na_Seat_members, zl seatK_nd (i := 1) rfl rfl, m, _, rfl, .inl (SqL.of (r.ok.sub _ _ hm)), fun l hl => ⟨(by show 2 ≤ sizeLine; decide), fun t ht => ?_⟩⟩
      have n1 : t ≠ l := fun e => by rw [e, upd_same] at ht; cases ht
      rw [upd_ne n1] at ht
      exact q2 l t hl ht n1
/-- a tuple told of a list gone on from, its lists of their own -/
def pastF (D H H' : Hp) (v : V) (p : Int × List Int × List Msg) : Prop := ∃ t l m xs, v = .ref t ∧ H t = none ∧ H l = none ∧ H m = none ∧ H' t = some (.tup [.int p.1, .ref l, .ref m]) ∧ H' l = some (.lst (p.2.1.map V.int)) ∧ H' m = some (.lst xs) ∧ Paired (msgV D) xs p.2.2
def spPast (K : PySem.W.Frag) : Sp := fun vs H Q E => ∃ (g : Gh) (fa : Addr) (f : Flk) (L : FL) (x : V), vs = [.ref fa, x] ∧ FolkR K g H fa f L ∧ Thg K H x ∧ Res K H E (f.who x) fun i => (f.hand i).past.length ≤ 100000 ∧ ∀ l xs H', H l = none → Same H H' → H' l = some (.lst xs) → Paired (pastF g.D H H') xs (f.hand i).past → (∀ v ∈ xs, v ≠ .ref l) → Q (.ref l) H'
theorem pastF.up {D H H1 H2 : Hp} (e : Same H1 H2) {v : V} {p : Int × List Int × List Msg} (h : pastF D H H1 v p) : pastF D H H2 v p := by
  obtain ⟨t, l, m, xs, e1, e2, e3, e4, e5, e6, e7, e8⟩ := h
  exact ⟨t, l, m, xs, e1, e2, e3, e4, e _ _ e5, e _ _ e6, e _ _ e7, e8⟩
/-- a heap told of twice: the list D set aside -/
theorem same_but {H H1 H2 : Hp} {D : Addr} {o u : HO} (hD : H D = none) (e : Same H H1) (h1 : H1 D = some o) (e2 : Same H1 H2) : Same H (upd H2 D u) := fun a w h => by
  rw [upd_ne (fun z => by rw [z, hD] at h; cases h)]
  exact e2 _ _ (e _ _ h)
theorem pastF.but {D H H1 : Hp} {Dd : Addr} {o : HO} {v : V} {p : Int × List Int × List Msg} (h : pastF D H H1 v p) (n : ∀ t l m xs, H1 t = some (.tup [.int p.1, .ref l, .ref m]) → H1 l = some (.lst (p.2.1.map V.int)) → H1 m = some (.lst xs) → v = .ref t → H t = none → H l = none → H m = none → t ≠ Dd ∧ l ≠ Dd ∧ m ≠ Dd) : pastF D H (upd H1 Dd o) v p := by
  obtain ⟨t, l, m, xs, e1, e2, e3, e4, e5, e6, e7, e8⟩ := h
  obtain ⟨n1, n2, n3⟩ := n t l m xs e5 e6 e7 e1 e2 e3 e4
  exact ⟨t, l, m, xs, e1, e2, e3, e4, by rw [upd_ne n1]; exact e5, by rw [upd_ne n2]; exact e6, by rw [upd_ne n3]; exact e7, e8⟩
/-- as pastF, and apart from one address -/
def pastA (D H : Hp) (Dd : Addr) (H' : Hp) (v : V) (p : Int × List Int × List Msg) : Prop := ∃ t l m xs, v = .ref t ∧ H t = none ∧ H l = none ∧ H m = none ∧ t ≠ Dd ∧ l ≠ Dd ∧ m ≠ Dd ∧ H' t = some (.tup [.int p.1, .ref l, .ref m]) ∧ H' l = some (.lst (p.2.1.map V.int)) ∧ H' m = some (.lst xs) ∧ Paired (msgV D) xs p.2.2
theorem pastA.f {D H H' : Hp} {Dd : Addr} {v : V} {p : Int × List Int × List Msg} (h : pastA D H Dd H' v p) : pastF D H H' v p := by
  obtain ⟨t, l, m, xs, e1, e2, e3, e4, _, _, _, e5, e6, e7, e8⟩ := h
  exact ⟨t, l, m, xs, e1, e2, e3, e4, e5, e6, e7, e8⟩
theorem pastA.ne {D H H' : Hp} {Dd : Addr} {v : V} {p : Int × List Int × List Msg} (h : pastA D H Dd H' v p) : v ≠ .ref Dd := by
  obtain ⟨t, l, m, xs, rfl, e2, e3, e4, n, _⟩ := h
  exact fun z => n (V.ref.inj z)
theorem pastA.up {D H H1 H2 : Hp} {Dd : Addr} {v : V} {p : Int × List Int × List Msg} (e : ∀ a o, a ≠ Dd → H1 a = some o → H2 a = some o) (h : pastA D H Dd H1 v p) : pastA D H Dd H2 v p := by
  obtain ⟨t, l, m, xs, e1, e2, e3, e4, n1, n2, n3, e5, e6, e7, e8⟩ := h
  exact ⟨t, l, m, xs, e1, e2, e3, e4, n1, n2, n3, e _ _ n1 e5, e _ _ n2 e6, e _ _ n3 e7, e8⟩
theorem paired_all {α β : Type} {R : α → β → Prop} {P : α → Prop} (h : ∀ a b, R a b → P a) : ∀ {xs : List α} {ys : List β}, Paired R xs ys → ∀ x ∈ xs, P x
  | _, _, .cons r t, x, hx => by
    rcases List.mem_cons.mp hx with rfl | hx
    · exact h _ _ r
    · exact paired_all h t x hx
theorem sc_Folk_past : FnScope ["self", "hand", "behind", "number", "members", "row"] ["self", "hand"] (defScope s_Folk_past) := ⟨rfl, rfl, rfl, by decide +kernel, rfl, by decide +kernel, by decide +kernel⟩
set_option maxRecDepth 100000 in
theorem ok_Folk_past (T : Txt K mg) : OkF P w K mg base (L2.CX P w) 4 (He.ma K (He.ga K "Folk") "past") ["self", "hand"] (spPast K) := by
  obtain ⟨fd, F⟩ := T.F_Folk_past
  obtain ⟨fd_Folk_who, G_Folk_who⟩ := ok_Folk_who (P := P) (w := w) (base := base) T
  refine ⟨fd, F.ok sc_Folk_past (fun vs H Q E h => ?_) (fun cdv A outer s H vs Q E hr h => ?_), F.bindsN fun _ _ _ _ _ _ us hl => match us, hl with | [_, _], _ => rfl, F.kp⟩
  · obtain ⟨_, _, _, _, _, rfl, _⟩ := h
    rfl
  · refine ⟨_, (pss_cons (ps_set (i := 2) sc_Folk_past.nd rfl (Or.inl rfl) (pe_fld (pe_meth (pv 0) T.cl_Folk T.me_Folk_who G_Folk_who.1 (hr.mono (by decide)) G_Folk_who.2.1 .nil (passX (takes_of rfl rfl rfl rfl) fun _ _ _ _ h => h) (pa_cons (pv 1) pa_nil)) rfl)) (pss_one (ps_ret (pe_lc (own := [("number", 3), ("members", 4), ("row", 5)]) (g := (gTup K 3 (gCons (gName 3) (gCons (gName 4) (gCons (gName 5) gNil))))) (te := (tTup (tCons (tVar 3) (tCons (tCB (rListOf K) (tCons (tVar 4) tNil)) (tCons (tCB (rListOf K) (tCons (tVar 5) tNil)) tNil))))) rfl sc_Folk_past.nd (pi_list (pv 2)) (blkOk_by (own := [("number", 3), ("members", 4), ("row", 5)]) (N := ["self", "hand", "behind", "number", "members", "row"]) (sc := defScope s_Folk_past) (by decide +kernel)) (fun _ _ _ _ _ => (pg_tup rfl (pgs_cons (pg_name (i := 3) sc_Folk_past.nd rfl (Or.inl rfl)) (pgs_cons (pg_name (i := 4) sc_Folk_past.nd rfl (Or.inl rfl)) (pgs_cons (pg_name (i := 5) sc_Folk_past.nd rfl (Or.inl rfl)) pgs_nil))))) (fun _ _ _ _ _ => pts_nil) (fun _ _ _ _ _ => (pe_tup (pa_cons (pv 3) (pa_cons (pe_callTy (T := "list") call_list_of (by rfl) T.b_list (by decide +kernel) (pa_cons (pv 4) pa_nil)) (pa_cons (pe_callTy (T := "list") call_list_of (by rfl) T.b_list (by decide +kernel) (pa_cons (pv 5) pa_nil)) pa_nil))))))))), ?_⟩
    obtain ⟨g, fa, f, L, x, rfl, r, hx, q⟩ := h
    have ro := r.ok.sub _ _ r.obj
    refine ⟨_, rfl, _, _, _, rfl, ro, zn (by decide +kernel), _, rfl, g, fa, f, L, x, rfl, r, hx, ?_⟩
    cases hw : f.who x with
    | error e =>
      rw [hw] at q
      exact q
    | ok i =>
      rw [hw] at q
      intro a ha
      obtain ⟨rfl, hi⟩ := who_ok hw
      obtain ⟨a', hL, ha', hr⟩ := r.at hi
      rw [ha] at ha'
      cases ha'
      obtain ⟨hlen, q⟩ := q
      refine ⟨_, _, _, _, _, rfl, hr.obj, T.cl_Hand, T.na_Hand_behind, zl handK_nd (i := 5) rfl rfl, _, rfl, hL.bh, rfl, ⟨_, SqL.of hr.bobj⟩, fun D hD => ?_⟩
      refine lc_list (K := K) (a := hL.bh) (xs := hL.bxs) (fun j H1 => ∃ xs, H1 D = some (.lst xs) ∧ Same H H1 ∧ Paired (pastA g.D H D H1) xs ((f.hand i).past.take j)) ⟨[], upd_same, same_upd hD, .nil⟩ (fun j H1 _ w => ?_) ?_ ?_
      · obtain ⟨_, _, e, _⟩ := w
        exact SqL.of (e _ _ hr.bobj)
      · rintro j x H1 hj ⟨xs, h1, e1, p1⟩
        obtain ⟨pp, hp, t0, mv, rv, rfl, ht0, ⟨m0, rfl, hm0⟩, ⟨r0, rxs, rfl, hr0, hrx⟩⟩ := paired_get hr.past hj
        have f1 := e1 _ _ (r.ok.sub _ _ hm0)
        have f2 := e1 _ _ (r.ok.sub _ _ hr0)
        refine ⟨t0, _, rfl, .inl (.inl (e1 _ _ (r.ok.sub _ _ ht0))), rfl, _, _, rfl, _, _, rfl, _, _, rfl, rfl, rfl, _, rfl, _, rfl, m0, _, rfl, .inl (SqL.of f1), fun l hl => ?_⟩
        refine ⟨_, rfl, r0, _, rfl, .inl (SqL.of (same_upd hl _ _ f2)), fun m hm => ⟨(by show 3 ≤ sizeLine; decide), fun t ht => ?_⟩⟩
        have nm : m ≠ l := fun z => by rw [z, upd_same] at hm; cases hm
        have nt1 : t ≠ m := fun z => by rw [z, upd_same] at ht; cases ht
        rw [upd_ne nm] at hm
        have nt2 : t ≠ l := fun z => by rw [z, upd_ne nm.symm, upd_same] at ht; cases ht
        rw [upd_ne nt1, upd_ne nt2] at ht
        have lD : l ≠ D := fun z => by rw [z, h1] at hl; cases hl
        have mD : m ≠ D := fun z => by rw [z, h1] at hm; cases hm
        have tD : t ≠ D := fun z => by rw [z, h1] at ht; cases ht
        have hlen2 : xs.length < sizeLine := by
          rw [paired_len p1, List.length_take]
          have : min j (f.hand i).past.length ≤ 100000 := Nat.le_trans (Nat.min_le_right _ _) hlen
          exact Nat.lt_of_le_of_lt this (by decide)
        refine ⟨xs, by rw [upd_ne tD.symm, upd_ne mD.symm, upd_ne lD.symm]; exact h1, hlen2, xs ++ [.ref t], upd_same, ?_, ?_⟩
        · intro a o h
          rw [upd_ne (fun z => by rw [z, hD] at h; cases h)]
          have h2 := e1 _ _ h
          rw [upd_ne (fun z => by rw [z, ht] at h2; cases h2), upd_ne (fun z => by rw [z, hm] at h2; cases h2), upd_ne (fun z => by rw [z, hl] at h2; cases h2)]
          exact h2
        · rw [take_succ_of hp]
          have up1 : ∀ a o, a ≠ D → H1 a = some o → upd (upd (upd (upd H1 l (.lst (pp.2.1.map V.int))) m (.lst rxs)) t (.tup [.int pp.1, .ref l, .ref m])) D (.lst (xs ++ [.ref t])) a = some o := fun a o n h2 => by
            rw [upd_ne n, upd_ne (fun z => by rw [z, ht] at h2; cases h2), upd_ne (fun z => by rw [z, hm] at h2; cases h2), upd_ne (fun z => by rw [z, hl] at h2; cases h2)]
            exact h2
          refine paired_app (paired_imp (fun v p w => w.up up1) p1) (.cons ⟨t, l, m, rxs, rfl, e1.free ht, e1.free hl, e1.free hm, tD, lD, mD, ?_, ?_, ?_, hrx⟩ .nil)
          · rw [upd_ne tD, upd_same]
          · rw [upd_ne lD, upd_ne nt2.symm, upd_ne nm.symm, upd_same]
          · rw [upd_ne mD, upd_ne nt1.symm, upd_same]
      · rintro H1 ⟨xs, h1, e1, p1⟩
        rw [paired_len hr.past, List.take_length] at p1
        exact q D xs H1 hD e1 h1 (paired_imp (fun _ _ w => w.f) p1) (paired_all (fun _ _ w => w.ne) p1)
/-- a tuple told of a letter -/
def letF (H : Hp) (Dd : Addr) (H' : Hp) (v : V) (l : Ltr) : Prop := ∃ t, v = .ref t ∧ H t = none ∧ t ≠ Dd ∧ H' t = some (.tup [.str l.told.kind, .int l.snd, .int l.to])
def spLetters (K : PySem.W.Frag) : Sp := fun vs H Q _ => ∃ (g : Gh) (fa : Addr) (f : Flk) (L : FL), vs = [.ref fa] ∧ FolkR K g H fa f L ∧ f.post.length ≤ 1000000 ∧ ∀ l xs H', H l = none → Same H H' → H' l = some (.lst xs) → Paired (letF H l H') xs f.post → Q (.ref l) H'
theorem sc_Folk_letters : FnScope ["self", "letter"] ["self"] (defScope s_Folk_letters) := ⟨rfl, rfl, rfl, by decide +kernel, rfl, by decide +kernel, by decide +kernel⟩
set_option maxRecDepth 100000 in
theorem ok_Folk_letters (T : Txt K mg) : OkF P w K mg base CX0 1 (He.ma K (He.ga K "Folk") "letters") ["self"] (spLetters K) := by
  obtain ⟨fd, F⟩ := T.F_Folk_letters
  refine ⟨fd, F.ok sc_Folk_letters (fun vs H Q E h => ?_) (fun cdv A outer s H vs Q E hr h => ?_), F.bindsN fun _ _ _ _ _ _ us hl => match us, hl with | [_], _ => rfl, F.kp⟩
  · obtain ⟨_, _, _, _, rfl, _⟩ := h
    rfl
  · refine ⟨_, PSs.nox (pss_one (ps_ret (pe_lc (own := [("letter", 1)]) (g := (gName 1)) (te := (tTup (tCons (tFld K (tVar 1) "kind") (tCons (tFld K (tVar 1) "sender") (tCons (tFld K (tVar 1) "to") tNil))))) rfl sc_Folk_letters.nd (pi_list (pe_fld (pv 0) rfl)) (blkOk_by (own := [("letter", 1)]) (N := ["self", "letter"]) (sc := defScope s_Folk_letters) (by decide +kernel)) (fun _ _ _ _ _ => (pg_name (i := 1) sc_Folk_letters.nd rfl (Or.inl rfl))) (fun _ _ _ _ _ => pts_nil) (fun _ _ _ _ _ => (pe_tup (pa_cons (pe_fld (pv 1) rfl) (pa_cons (pe_fld (pv 1) rfl) (pa_cons (pe_fld (pv 1) rfl) pa_nil)))))))), ?_⟩
    obtain ⟨g, fa, f, L, rfl, r, hlen, q⟩ := h
    have ro := r.ok.sub _ _ r.obj
    refine ⟨_, rfl, _, _, _, _, _, rfl, ro, T.cl_Folk, T.na_Folk__post, zl folkK_nd (i := 1) rfl rfl, L.pa, rfl, ⟨_, SqL.of r.post.obj⟩, fun D hD => ?_⟩
    refine lc_list (K := K) (a := L.pa) (xs := L.as.map V.ref) (fun j H1 => ∃ xs, H1 D = some (.lst xs) ∧ Same H H1 ∧ Paired (letF H D H1) xs (f.post.take j)) ⟨[], upd_same, same_upd hD, .nil⟩ (fun j H1 _ w => ?_) ?_ ?_
    · obtain ⟨_, _, e, _⟩ := w
      exact SqL.of (e _ _ r.post.obj)
    · rintro j x H1 hj ⟨xs, h1, e1, p1⟩
      rw [List.getElem?_map] at hj
      cases hz : L.as[j]? with
      | none => rw [hz] at hj; cases hj
      | some la =>
        rw [hz] at hj
        cases hj
        obtain ⟨l, hl, dx, tv, hla, _⟩ := paired_get r.post.ls hz
        have ho := e1 _ _ (r.ok.sub _ _ hla)
        refine ⟨rfl, _, rfl, _, _, _, _, _, rfl, ho, T.cl_Letter, T.na_Letter_kind, zl letK_nd (i := 0) rfl rfl, _, rfl, _, _, _, _, _, rfl, ho, T.cl_Letter, T.na_Letter_sender, zl letK_nd (i := 1) rfl rfl, _, rfl, _, _, _, _, _, rfl, ho, T.cl_Letter, T.na_Letter_to, zl letK_nd (i := 2) rfl rfl, (by show 3 ≤ sizeLine; decide), fun t ht => ?_⟩
        have tD : t ≠ D := fun z => by rw [z, h1] at ht; cases ht
        have hlen2 : xs.length < sizeLine := by
          rw [paired_len p1, List.length_take]
          exact Nat.lt_of_le_of_lt (Nat.le_trans (Nat.min_le_right _ _) hlen) (by decide)
        refine ⟨xs, by rw [upd_ne tD.symm]; exact h1, hlen2, xs ++ [.ref t], upd_same, ?_, ?_⟩
        · intro a o h
          rw [upd_ne (fun z => by rw [z, hD] at h; cases h)]
          have h2 := e1 _ _ h
          rw [upd_ne (fun z => by rw [z, ht] at h2; cases h2)]
          exact h2
        · rw [take_succ_of hl]
          refine paired_app (paired_imp (fun v p w => ?_) p1) (.cons ⟨t, rfl, e1.free ht, tD, by rw [upd_ne tD, upd_same]⟩ .nil)
          obtain ⟨u, rfl, w1, w2, w3⟩ := w
          refine ⟨u, rfl, w1, w2, ?_⟩
          rw [upd_ne w2, upd_ne (fun z => by rw [z, ht] at w3; cases w3)]
          exact w3
    · rintro H1 ⟨xs, h1, e1, p1⟩
      rw [List.length_map, paired_len r.post.ls, List.take_length] at p1
      exact q D xs H1 hD e1 h1 p1

end
end Fo
namespace Fo
open PySem PySem.Spec PyProof.Rows L2
section
variable {P : Program} {w : World} {K : PySem.W.Frag} {mg : Str → Option Value} {base : Heap}
/-! ### deeds -/
def TA : Tag → Prop := fun _ => True
theorem acts_ok {f : Flk} {x : V} {p : Nat × Seat} (h : f.acts x = .ok p) : x = .int p.1 ∧ p.1 < f.hands.length ∧ (f.hand p.1).up = true ∧ (f.hand p.1).seat = some p.2 := by
  unfold Flk.acts at h
  cases hw : f.who x with
  | error e => rw [hw] at h; cases h
  | ok i =>
    rw [hw] at h
    obtain ⟨e1, e2⟩ := who_ok hw
    have h2 : (if (f.hand i).up = false then (.error "Fallen" : Except Str (Nat × Seat)) else match (f.hand i).seat with
      | none => .error "Outside"
      | some s => .ok (i, s)) = .ok p := h
    cases hu : (f.hand i).up with
    | false => rw [hu] at h2; cases h2
    | true =>
      rw [hu] at h2
      cases hs : (f.hand i).seat with
      | none => rw [hs] at h2; cases h2
      | some s =>
        rw [hs] at h2
        cases h2
        exact ⟨e1, e2, hu, hs⟩
def Flk.deed (f : Flk) (i : Nat) (r : Hnd × List Ltr) : Flk := ⟨f.hands.set i r.1, f.post ++ r.2⟩
theorem TH_TP {i j : Nat} (h : j ≠ i) : ∀ t, TH_ j t → ¬ TP i t := fun t a b => by
  rcases b with rfl | b
  · exact a
  · cases t <;> first | exact a.elim | exact h (a.symm.trans b)
/-- one hand and the post are others -/
theorem FolkR.deed {K : PySem.W.Frag} {g g' : Gh} {H H' : Hp} {fa a : Addr} {f : Flk} {L : FL} {i : Nat} {h' : Hnd} {hL : HL} {ls : List Ltr} {as : List Addr} (r : FolkR K g H fa f L) (ha : L.hs[i]? = some a) (e : Go (TP i) g H g' H') (rh : HandR K g' H' a i L.pa h' hL) (po : PostR K g' H' L.pa ls as) :
    FolkR K g' H' fa ⟨f.hands.set i h', ls⟩ { L with as := as } := by
  refine ⟨e.ok, ?_, e.D _ _ r.hl, po, ?_, fun j b h h1 h2 => ?_⟩
  · have := e.D _ _ r.obj
    show g'.D fa = some (.ins (He.ga K "Folk") L.dx (folkK.zip [.int ((f.hands.set i h').length : Nat), .ref L.pa, .ref L.hl]))
    rw [List.length_set]
    exact this
  · show L.hs.length = (f.hands.set i h').length
    rw [List.length_set]
    exact r.len
  · have h1' : L.hs[j]? = some b := h1
    have h2' : (f.hands.set i h')[j]? = some h := h2
    by_cases q : j = i
    · subst q
      rw [ha] at h1'
      cases h1'
      have hi : j < f.hands.length := by
        rw [← r.len]
        exact (List.getElem?_eq_some_iff.mp ha).1
      rw [List.getElem?_set_self hi] at h2'
      cases h2'
      exact ⟨hL, rh⟩
    · rw [List.getElem?_set_ne (fun z => q z.symm)] at h2'
      obtain ⟨hL', w⟩ := r.hand j b h h1' h2'
      exact ⟨hL', w.go e (TH_TP q)⟩
def spSay (K : PySem.W.Frag) : Sp := fun vs H Q E => ∃ (g : Gh) (fa : Addr) (f : Flk) (L : FL) (x : V) (word : Str), vs = [.ref fa, x, .str word] ∧ FolkR K g H fa f L ∧ Thg K H x ∧ Res K H E (f.acts x) fun p => SOk p.1 p.2 ∧ f.post.length + 1000 ≤ 1000000 ∧
  ∀ g' H' L', Go TA g H g' H' → FolkR K g' H' fa (f.deed p.1 ((f.hand p.1).say p.1 p.2 word)) L' → Q .non H'
theorem sc_Folk_say : FnScope ["self", "hand", "word"] ["self", "hand", "word"] (defScope s_Folk_say) := ⟨rfl, rfl, rfl, by decide +kernel, rfl, by decide +kernel, by decide +kernel⟩
set_option maxRecDepth 100000 in
theorem ok_Folk_say (T : Txt K mg) : OkF P w K mg base (L2.CX P w) 5 (He.ma K (He.ga K "Folk") "say") ["self", "hand", "word"] (spSay K) := by
  obtain ⟨fd, F⟩ := T.F_Folk_say
  obtain ⟨fd_send_wish, G_send_wish⟩ := ok_send_wish (P := P) (w := w) (base := base) T
  obtain ⟨fd_Folk_who_acts, G_Folk_who_acts⟩ := ok_Folk_who_acts (P := P) (w := w) (base := base) T
  refine ⟨fd, F.ok sc_Folk_say (fun vs H Q E h => ?_) (fun cdv A outer s H vs Q E hr h => ?_), F.bindsN fun _ _ _ _ _ _ us hl => match us, hl with | [_, _, _], _ => rfl, F.kp⟩
  · obtain ⟨_, _, _, _, _, _, rfl, _⟩ := h
    rfl
  · refine ⟨_, (pss_one (ps_expr (pe_call G_send_wish.1 (hr.mono (by decide)) rfl T.g_send_wish G_send_wish.2.2 G_send_wish.2.1 .nil pass0 (pa_cons (pe_meth (pv 0) T.cl_Folk T.me_Folk_who_acts G_Folk_who_acts.1 (hr.mono (by decide)) G_Folk_who_acts.2.1 .nil (passX (takes_of rfl rfl rfl rfl) fun _ _ _ _ h => h) (pa_cons (pv 1) pa_nil)) (pa_cons (pv 2) pa_nil))))), ?_⟩
    obtain ⟨g, fa, f, L, x, word, rfl, r, hx, q⟩ := h
    have ro := r.ok.sub _ _ r.obj
    refine ⟨_, rfl, _, _, _, rfl, ro, zn (by decide +kernel), _, rfl, g, fa, f, L, x, rfl, r, hx, ?_⟩
    cases hw : f.acts x with
    | error e =>
      rw [hw] at q
      exact q
    | ok p =>
      rw [hw] at q
      intro a ha
      obtain ⟨rfl, hi, hup, hse⟩ := acts_ok hw
      obtain ⟨a', hL, ha', hr⟩ := r.at hi
      rw [ha] at ha'
      cases ha'
      obtain ⟨so, hlen, q⟩ := q
      exact ⟨_, rfl, g, a, L.pa, p.1, _, hL, p.2, f.post, L.as, word, rfl, r.ok, hr, hse, so, r.post, hlen, fun g' H' as' e rh po => q g' H' _ (e.mono fun _ _ => trivial) (r.deed ha e rh po)⟩
def spPress (K : PySem.W.Frag) : Sp := fun vs H Q E => ∃ (g : Gh) (fa : Addr) (f : Flk) (L : FL) (x : V), vs = [.ref fa, x] ∧ FolkR K g H fa f L ∧ Thg K H x ∧ Res K H E (f.acts x) fun p => SOk p.1 p.2 ∧ f.post.length + 20000 ≤ 1000000 ∧ Res K H E (if p.2.lead ≠ p.1 then .error "NotFirst" else .ok ()) fun _ =>
  ∀ g' H' L', Go TA g H g' H' → FolkR K g' H' fa (f.deed p.1 (f.hand p.1, p.2.press p.1)) L' → Q .non H'
theorem sc_Folk_press : FnScope ["self", "hand", "who"] ["self", "hand"] (defScope s_Folk_press) := ⟨rfl, rfl, rfl, by decide +kernel, rfl, by decide +kernel, by decide +kernel⟩
set_option maxRecDepth 100000 in
theorem ok_Folk_press (T : Txt K mg) : OkF P w K mg base (L2.CX P w) 7 (He.ma K (He.ga K "Folk") "press") ["self", "hand"] (spPress K) := by
  obtain ⟨fd, F⟩ := T.F_Folk_press
  obtain ⟨fd_Folk_who_acts, G_Folk_who_acts⟩ := ok_Folk_who_acts (P := P) (w := w) (base := base) T
  obtain ⟨fd_Seat_leader, G_Seat_leader⟩ := ok_Seat_leader (P := P) (w := w) (base := base) T
  obtain ⟨fd_send_again, G_send_again⟩ := ok_send_again (P := P) (w := w) (base := base) T
  refine ⟨fd, F.ok sc_Folk_press (fun vs H Q E h => ?_) (fun cdv A outer s H vs Q E hr h => ?_), F.bindsN fun _ _ _ _ _ _ us hl => match us, hl with | [_, _], _ => rfl, F.kp⟩
  · obtain ⟨_, _, _, _, _, rfl, _⟩ := h
    rfl
  · refine ⟨_, (pss_cons (ps_set (i := 2) sc_Folk_press.nd rfl (Or.inl rfl) (pe_meth (pv 0) T.cl_Folk T.me_Folk_who_acts G_Folk_who_acts.1 (hr.mono (by decide)) G_Folk_who_acts.2.1 .nil (passX (takes_of rfl rfl rfl rfl) fun _ _ _ _ h => h) (pa_cons (pv 1) pa_nil))) (pss_cons (ps_if (pt_cmpR op_ne (pe_meth0 (pe_fld (pv 2) rfl) T.cl_Seat T.me_Seat_leader G_Seat_leader.1 (hr.mono (by decide)) G_Seat_leader.2.1 .nil pass0) (pv 1) (nomark _)) (pss_one (ps_raise rfl (takes_of rfl rfl rfl rfl) (pmk_own PySem.F.excBase_ValueError T.xi_NotFirst T.g_NotFirst T.kp_NotFirst (raises_own T.xs_NotFirst T.xt_NotFirst) rfl))) pss_nil) (pss_one (ps_expr (pe_call G_send_again.1 (hr.mono (by decide)) rfl T.g_send_again G_send_again.2.2 G_send_again.2.1 .nil pass0 (pa_cons (pv 2) pa_nil)))))), ?_⟩
    obtain ⟨g, fa, f, L, x, rfl, r, hx, q⟩ := h
    have ro := r.ok.sub _ _ r.obj
    refine ⟨_, rfl, _, _, _, rfl, ro, zn (by decide +kernel), _, rfl, g, fa, f, L, x, rfl, r, hx, ?_⟩
    cases hw : f.acts x with
    | error e =>
      rw [hw] at q
      exact q
    | ok p =>
      rw [hw] at q
      intro a ha
      obtain ⟨rfl, hi, hup, hse⟩ := acts_ok hw
      obtain ⟨a', hL, ha', hr⟩ := r.at hi
      rw [ha] at ha'
      cases ha'
      obtain ⟨so, hlen, q⟩ := q
      have hst := hr.seat
      have hro := hr.obj
      rw [hse] at hst
      obtain ⟨sa, S, hsv, rs⟩ := hst
      rw [hsv] at hro
      obtain ⟨m, hmv, hm⟩ := rs.mem
      have rso := rs.obj
      rw [hmv] at rso
      refine ⟨_, rfl, _, _, _, _, _, rfl, hro, T.cl_Hand, T.na_Hand_seat, zl handK_nd (i := 6) rfl rfl, _, _, _, rfl, rso, zn (by decide +kernel), sa, _, m, _, p.2.mem, rfl, rso, rfl, SqL.of (r.ok.sub _ _ hm), List.ne_nil_of_mem so.me, _, rfl, rfl, _, rfl, ?_⟩
      by_cases hl : p.2.lead = p.1
      · rw [if_neg (fun z => z hl)] at q
        have q2 : ∀ g' H' L', Go TA g H g' H' → FolkR K g' H' fa (f.deed p.1 (f.hand p.1, p.2.press p.1)) L' → Q .non H' := q
        rw [decide_eq_true (show V.int (p.2.mem.headD 0) = V.int p.1 from congrArg V.int hl)]
        exact iteF ⟨_, rfl, g, a, L.pa, p.1, _, hL, p.2, f.post, L.as, rfl, r.ok, hr, hse, so, r.post, hlen, fun g' H' as' e rh po => q2 g' H' _ (e.mono fun _ _ => trivial) (r.deed ha e rh po)⟩
      · rw [if_pos hl] at q
        rw [decide_eq_false (show ¬ V.int (p.2.mem.headD 0) = V.int p.1 from fun z => hl (V.int.inj z))]
        exact iteT q
/-- a thing that is a list of hands, or none -/
def LstIs (K : PySem.W.Frag) (H : Hp) (v : V) (m : Int) : Option (List Int) → Prop
  | some ms => ∃ a, v = .ref a ∧ H a = some (.lst (ms.map V.int)) ∧ isListB (ms.map V.int) m = true
  | none => (∃ a xs, v = .ref a ∧ H a = some (.lst xs) ∧ (∀ y ∈ xs, Thg K H y) ∧ isListB xs m = false) ∨ (∃ n, TyX K H v (.type n) ∧ kitB n "list" = some false)
theorem isList_of {K : PySem.W.Frag} {H : Hp} {v : V} {m : Int} {ml : Option (List Int)} {Q : VK} (h : LstIs K H v m ml) (q : Q (.bl ml.isSome) H) : spIsList K [v, .int m] H Q E0 := by
  cases ml with
  | some ms =>
    obtain ⟨a, rfl, h1, h2⟩ := h
    refine ⟨_, m, rfl, .inl ⟨a, _, rfl, h1, ?_, by rw [h2]; exact q⟩⟩
    intro y hy
    obtain ⟨z, _, rfl⟩ := List.mem_map.mp hy
    exact thg_int
  | none =>
    rcases h with ⟨a, xs, rfl, h1, h2, h3⟩ | ⟨n, h1, h2⟩
    · exact ⟨_, m, rfl, .inl ⟨a, xs, rfl, h1, h2, by rw [h3]; exact q⟩⟩
    · exact ⟨_, m, rfl, .inr ⟨n, h1, h2, q⟩⟩
theorem isListGo_up {m : Int} : ∀ {ms : List Int} {b : Int}, isListGo m b (ms.map V.int) = true → (∀ x ∈ ms, b < x ∧ 0 ≤ x ∧ x < m) ∧ ms.Pairwise (· < ·)
  | [], _, _ => ⟨(fun _ h => nomatch h), List.Pairwise.nil⟩
  | x :: r, b, h => by
    have h1 : (if 0 ≤ x ∧ x < m ∧ b < x then isListGo m x (r.map V.int) else false) = true := h
    split at h1
    · rename_i c
      obtain ⟨q1, q2⟩ := isListGo_up h1
      refine ⟨fun y hy => ?_, List.pairwise_cons.mpr ⟨fun y hy => (q1 y hy).1, q2⟩⟩
      rcases List.mem_cons.mp hy with rfl | hy
      · exact ⟨c.2.2, c.1, c.2.1⟩
      · have := q1 y hy
        exact ⟨by omega, this.2⟩
    · cases h1
theorem isListB_up {m : Int} {ms : List Int} (h : isListB (ms.map V.int) m = true) : ms ≠ [] ∧ (∀ x ∈ ms, 0 ≤ x ∧ x < m) ∧ ms.Pairwise (· < ·) := by
  have h1 : (!(ms.map V.int).isEmpty && isListGo m (-1) (ms.map V.int)) = true := h
  obtain ⟨h2, h3⟩ := Bool.and_eq_true_iff.mp h1
  obtain ⟨q1, q2⟩ := isListGo_up h3
  refine ⟨fun e => ?_, fun x hx => (q1 x hx).2, q2⟩
  rw [e] at h2
  cases h2
theorem rising_gap {n : Int} : ∀ {ms : List Int} {b : Int}, b < n → (∀ x ∈ ms, b < x ∧ x < n) → ms.Pairwise (· < ·) → (ms.length : Int) + b < n
  | [], b, hb, _, _ => by
    show ((0 : Nat) : Int) + b < n
    omega
  | x :: r, b, hb, h, p => by
    have p1 := List.pairwise_cons.mp p
    have h1 := h x List.mem_cons_self
    have := rising_gap (b := x) h1.2 (fun y hy => ⟨p1.1 y hy, (h y (List.mem_cons_of_mem _ hy)).2⟩) p1.2
    show ((r.length + 1 : Nat) : Int) + b < n
    omega
theorem rising_len {ms : List Int} {n : Nat} (h : ∀ x ∈ ms, 0 ≤ x ∧ x < n) (p : ms.Pairwise (· < ·)) : ms.length ≤ n := by
  have := rising_gap (n := n) (b := -1) (by omega) (fun x hx => ⟨by have := h x hx; omega, (h x hx).2⟩) p
  omega
def spPropose (K : PySem.W.Frag) : Sp := fun vs H Q E => ∃ (g : Gh) (fa : Addr) (f : Flk) (L : FL) (x mv : V) (ml : Option (List Int)), vs = [.ref fa, x, mv] ∧ FolkR K g H fa f L ∧ Thg K H x ∧ LstIs K H mv (f.hands.length : Nat) ml ∧ f.hands.length ≤ 9 ∧ Res K H E (f.acts x) fun p => SOk p.1 p.2 ∧ f.post.length + 1000 ≤ 1000000 ∧ Res K H E (match ml with | none => .error "BadList" | some ms => .ok ms) fun ms =>
  ∀ g' H' L', Go TA g H g' H' → FolkR K g' H' fa (f.deed p.1 ({ f.hand p.1 with seat := some (p.2.propose p.1 ms).1 }, (p.2.propose p.1 ms).2)) L' → Q .non H'
theorem sc_Folk_propose : FnScope ["self", "hand", "members", "who"] ["self", "hand", "members"] (defScope s_Folk_propose) := ⟨rfl, rfl, rfl, by decide +kernel, rfl, by decide +kernel, by decide +kernel⟩
set_option maxRecDepth 100000 in
theorem ok_Folk_propose (T : Txt K mg) : OkF P w K mg base (L2.CX P w) 6 (He.ma K (He.ga K "Folk") "propose") ["self", "hand", "members"] (spPropose K) := by
  obtain ⟨fd, F⟩ := T.F_Folk_propose
  obtain ⟨fd_Folk_who_acts, G_Folk_who_acts⟩ := ok_Folk_who_acts (P := P) (w := w) (base := base) T
  obtain ⟨fd_is_list, G_is_list⟩ := ok_is_list (P := P) (w := w) (base := base) T
  obtain ⟨fd_send_prepare, G_send_prepare⟩ := ok_send_prepare (P := P) (w := w) (base := base) T
  refine ⟨fd, F.ok sc_Folk_propose (fun vs H Q E h => ?_) (fun cdv A outer s H vs Q E hr h => ?_), F.bindsN fun _ _ _ _ _ _ us hl => match us, hl with | [_, _, _], _ => rfl, F.kp⟩
  · obtain ⟨_, _, _, _, _, _, _, rfl, _⟩ := h
    rfl
  · refine ⟨_, (pss_cons (ps_set (i := 3) sc_Folk_propose.nd rfl (Or.inl rfl) (pe_meth (pv 0) T.cl_Folk T.me_Folk_who_acts G_Folk_who_acts.1 (hr.mono (by decide)) G_Folk_who_acts.2.1 .nil (passX (takes_of rfl rfl rfl rfl) fun _ _ _ _ h => h) (pa_cons (pv 1) pa_nil))) (pss_cons (ps_if (pt_not (pt_val (pe_call G_is_list.1 (hr.mono (by decide)) rfl T.g_is_list G_is_list.2.2 G_is_list.2.1 .nil pass0 (pa_cons (pv 2) (pa_cons (pe_fld (pv 0) rfl) pa_nil))))) (pss_one (ps_raise rfl (takes_of rfl rfl rfl rfl) (pmk_own PySem.F.excBase_ValueError T.xi_BadList T.g_BadList T.kp_BadList (raises_own T.xs_BadList T.xt_BadList) rfl))) pss_nil) (pss_one (ps_expr (pe_call G_send_prepare.1 (hr.mono (by decide)) rfl T.g_send_prepare G_send_prepare.2.2 G_send_prepare.2.1 .nil pass0 (pa_cons (pv 3) (pa_cons (pv 2) pa_nil))))))), ?_⟩
    obtain ⟨g, fa, f, L, x, mv, ml, rfl, r, hx, hml, h9, q⟩ := h
    have ro := r.ok.sub _ _ r.obj
    refine ⟨_, rfl, _, _, _, rfl, ro, zn (by decide +kernel), _, rfl, g, fa, f, L, x, rfl, r, hx, ?_⟩
    cases hw : f.acts x with
    | error e =>
      rw [hw] at q
      exact q
    | ok p =>
      rw [hw] at q
      intro a ha
      obtain ⟨rfl, hi, hup, hse⟩ := acts_ok hw
      obtain ⟨a', hL, ha', hr⟩ := r.at hi
      rw [ha] at ha'
      cases ha'
      obtain ⟨so, hlen, q⟩ := q
      refine ⟨_, rfl, _, rfl, _, _, _, _, _, rfl, ro, T.cl_Folk, T.na_Folk_many, zl folkK_nd (i := 0) rfl rfl, ?_⟩
      dsimp only [tNil]
      refine isList_of hml ⟨_, rfl, ?_⟩
      cases ml with
      | none => exact iteT q
      | some ms =>
        obtain ⟨b, rfl, hb, hB⟩ := hml
        obtain ⟨_, h2, h3⟩ := isListB_up hB
        have h4 := rising_len h2 h3
        exact iteF ⟨_, rfl, _, rfl, g, a, L.pa, b, p.1, _, hL, p.2, f.post, L.as, ms, rfl, r.ok, hr, hse, so, r.post, hb, by omega, hlen, fun g' H' as' e rh po => q g' H' _ (e.mono fun _ _ => trivial) (r.deed ha e rh po)⟩
def spShow (K : PySem.W.Frag) : Sp := fun vs H Q E => ∃ (g : Gh) (fa : Addr) (f : Flk) (L : FL) (x y : V), vs = [.ref fa, x, y] ∧ FolkR K g H fa f L ∧ Thg K H x ∧ Thg K H y ∧ f.post.length ≤ 1000000 ∧ Res K H E (f.acts x) fun p => Res K H E (f.who y) fun o => Res K H E (match p.2.news with | none => .error "NoNews" | some n => .ok n) fun n =>
  ∀ g' H' L', Go TA g H g' H' → FolkR K g' H' fa ⟨f.hands, f.post ++ [⟨p.1, o, p.2.num, .enter n⟩]⟩ L' → Q .non H'
theorem FolkR.same {K : PySem.W.Frag} {g : Gh} {H : Hp} {fa : Addr} {f : Flk} {L : FL} (r : FolkR K g H fa f L) {i : Nat} (hi : i < f.hands.length) : f.hands.set i (f.hand i) = f.hands := by
  unfold Flk.hand
  rw [List.getD_eq_getElem?_getD, List.getElem?_eq_getElem hi]
  exact List.set_getElem_self hi
theorem sc_Folk_show : FnScope ["self", "hand", "other", "who"] ["self", "hand", "other"] (defScope s_Folk_show) := ⟨rfl, rfl, rfl, by decide +kernel, rfl, by decide +kernel, by decide +kernel⟩
set_option maxRecDepth 100000 in
theorem ok_Folk_show (T : Txt K mg) : OkF P w K mg base (L2.CX P w) 6 (He.ma K (He.ga K "Folk") "show") ["self", "hand", "other"] (spShow K) := by
  obtain ⟨fd, F⟩ := T.F_Folk_show
  obtain ⟨fd_Folk_who_acts, G_Folk_who_acts⟩ := ok_Folk_who_acts (P := P) (w := w) (base := base) T
  obtain ⟨fd_Folk_who, G_Folk_who⟩ := ok_Folk_who (P := P) (w := w) (base := base) T
  obtain ⟨fd_send_news, G_send_news⟩ := ok_send_news (P := P) (w := w) (base := base) T
  refine ⟨fd, F.ok sc_Folk_show (fun vs H Q E h => ?_) (fun cdv A outer s H vs Q E hr h => ?_), F.bindsN fun _ _ _ _ _ _ us hl => match us, hl with | [_, _, _], _ => rfl, F.kp⟩
  · obtain ⟨_, _, _, _, _, _, rfl, _⟩ := h
    rfl
  · refine ⟨_, (pss_cons (ps_set (i := 3) sc_Folk_show.nd rfl (Or.inl rfl) (pe_meth (pv 0) T.cl_Folk T.me_Folk_who_acts G_Folk_who_acts.1 (hr.mono (by decide)) G_Folk_who_acts.2.1 .nil (passX (takes_of rfl rfl rfl rfl) fun _ _ _ _ h => h) (pa_cons (pv 1) pa_nil))) (pss_cons (ps_expr (pe_meth (pv 0) T.cl_Folk T.me_Folk_who G_Folk_who.1 (hr.mono (by decide)) G_Folk_who.2.1 .nil (passX (takes_of rfl rfl rfl rfl) fun _ _ _ _ h => h) (pa_cons (pv 2) pa_nil))) (pss_cons (ps_if (pt_cmpR op_isN (pe_fld (pe_fld (pv 3) rfl) rfl) pe_non (nomark _)) (pss_one (ps_raise rfl (takes_of rfl rfl rfl rfl) (pmk_own PySem.F.excBase_ValueError T.xi_NoNews T.g_NoNews T.kp_NoNews (raises_own T.xs_NoNews T.xt_NoNews) rfl))) pss_nil) (pss_one (ps_expr (pe_call G_send_news.1 (hr.mono (by decide)) rfl T.g_send_news G_send_news.2.2 G_send_news.2.1 .nil pass0 (pa_cons (pv 3) (pa_cons (pv 2) pa_nil)))))))), ?_⟩
    obtain ⟨g, fa, f, L, x, y, rfl, r, hx, hy, hlen, q⟩ := h
    have ro := r.ok.sub _ _ r.obj
    refine ⟨_, rfl, _, _, _, rfl, ro, zn (by decide +kernel), _, rfl, g, fa, f, L, x, rfl, r, hx, ?_⟩
    cases hw : f.acts x with
    | error e =>
      rw [hw] at q
      exact q
    | ok p =>
      rw [hw] at q
      intro a ha
      obtain ⟨rfl, hi, hup, hse⟩ := acts_ok hw
      obtain ⟨a', hL, ha', hr⟩ := r.at hi
      rw [ha] at ha'
      cases ha'
      refine ⟨_, rfl, _, _, _, rfl, ro, zn (by decide +kernel), _, rfl, g, fa, f, L, y, rfl, r, hy, ?_⟩
      cases hv : f.who y with
      | error e =>
        rw [hv] at q
        exact q
      | ok o =>
        rw [hv] at q
        intro _ _
        obtain ⟨rfl, ho⟩ := who_ok hv
        have hst := hr.seat
        have hro := hr.obj
        rw [hse] at hst
        obtain ⟨sa, S, hsv, rs⟩ := hst
        rw [hsv] at hro
        have rso := rs.obj
        have hn := rs.news
        refine ⟨_, rfl, _, _, _, _, _, rfl, hro, T.cl_Hand, T.na_Hand_seat, zl handK_nd (i := 6) rfl rfl, ?_⟩
        cases hne : p.2.news with
        | none =>
          rw [hne] at hn
          rw [show S.nv = .non from hn] at rso
          have q2 : Res K H E (match p.2.news with | none => .error "NoNews" | some n => .ok n) fun n => ∀ g' H' L', Go TA g H g' H' → FolkR K g' H' fa ⟨f.hands, f.post ++ [⟨p.1, o, p.2.num, .enter n⟩]⟩ L' → Q .non H' := q
          rw [hne] at q2
          exact ⟨_, _, _, _, _, rfl, rso, T.cl_Seat, T.na_Seat_news, zl seatK_nd (i := 2) rfl rfl, rfl, _, rfl, iteT q2⟩
        | some n =>
          rw [hne] at hn
          have hn2 := hn
          obtain ⟨t, mv, rv, wv, hnv, _⟩ := hn
          rw [hnv] at rso
          have q2 : Res K H E (match p.2.news with | none => .error "NoNews" | some n => .ok n) fun n => ∀ g' H' L', Go TA g H g' H' → FolkR K g' H' fa ⟨f.hands, f.post ++ [⟨p.1, o, p.2.num, .enter n⟩]⟩ L' → Q .non H' := q
          rw [hne] at q2
          refine ⟨_, _, _, _, _, rfl, rso, T.cl_Seat, T.na_Seat_news, zl seatK_nd (i := 2) rfl rfl, rfl, _, rfl, iteF ⟨_, rfl, _, rfl, g, a, L.pa, p.1, _, hL, p.2, f.post, L.as, o, n, rfl, r.ok, hr, hse, hne, r.post, hlen, fun g' H' as' e po => ?_⟩⟩
          have w := r.deed ha (e.mono TP_post) (hr.go e nTH_post) po
          rw [r.same hi] at w
          exact q2 g' H' _ (e.mono fun _ _ => trivial) w
def Hnd.down (h : Hnd) : Hnd := { h with up := false }
def spFall (K : PySem.W.Frag) : Sp := fun vs H Q E => ∃ (g : Gh) (fa : Addr) (f : Flk) (L : FL) (x : V), vs = [.ref fa, x] ∧ FolkR K g H fa f L ∧ Thg K H x ∧ Res K H E (f.who x) fun i => Res K H E (if (f.hand i).up = false then .error "Fallen" else .ok ()) fun _ =>
  ∀ g' H' L', Go TA g H g' H' → FolkR K g' H' fa (f.setHand i (f.hand i).down) L' → Q .non H'
theorem sc_Folk_fall : FnScope ["self", "hand", "who"] ["self", "hand"] (defScope s_Folk_fall) := ⟨rfl, rfl, rfl, by decide +kernel, rfl, by decide +kernel, by decide +kernel⟩
set_option maxRecDepth 100000 in
theorem ok_Folk_fall (T : Txt K mg) : OkF P w K mg base (L2.CX P w) 4 (He.ma K (He.ga K "Folk") "fall") ["self", "hand"] (spFall K) := by
  obtain ⟨fd, F⟩ := T.F_Folk_fall
  obtain ⟨fd_Folk_who, G_Folk_who⟩ := ok_Folk_who (P := P) (w := w) (base := base) T
  refine ⟨fd, F.ok sc_Folk_fall (fun vs H Q E h => ?_) (fun cdv A outer s H vs Q E hr h => ?_), F.bindsN fun _ _ _ _ _ _ us hl => match us, hl with | [_, _], _ => rfl, F.kp⟩
  · obtain ⟨_, _, _, _, _, rfl, _⟩ := h
    rfl
  · refine ⟨_, (pss_cons (ps_set (i := 2) sc_Folk_fall.nd rfl (Or.inl rfl) (pe_meth (pv 0) T.cl_Folk T.me_Folk_who G_Folk_who.1 (hr.mono (by decide)) G_Folk_who.2.1 .nil (passX (takes_of rfl rfl rfl rfl) fun _ _ _ _ h => h) (pa_cons (pv 1) pa_nil))) (pss_cons (ps_if (pt_not (pt_val (pe_fld (pv 2) rfl))) (pss_one (ps_raise rfl (takes_of rfl rfl rfl rfl) (pmk_own PySem.F.excBase_ValueError T.xi_Fallen T.g_Fallen T.kp_Fallen (raises_own T.xs_Fallen T.xt_Fallen) rfl))) pss_nil) (pss_one (ps_fld (pv 2) pe_bl rfl)))), ?_⟩
    obtain ⟨g, fa, f, L, x, rfl, r, hx, q⟩ := h
    have ro := r.ok.sub _ _ r.obj
    refine ⟨_, rfl, _, _, _, rfl, ro, zn (by decide +kernel), _, rfl, g, fa, f, L, x, rfl, r, hx, ?_⟩
    cases hw : f.who x with
    | error e =>
      rw [hw] at q
      exact q
    | ok i =>
      rw [hw] at q
      intro a ha
      obtain ⟨rfl, hi⟩ := who_ok hw
      obtain ⟨a', hL, ha', hr⟩ := r.at hi
      rw [ha] at ha'
      cases ha'
      refine ⟨_, rfl, _, _, _, _, _, rfl, hr.obj, T.cl_Hand, T.na_Hand_standing, zl handK_nd (i := 2) rfl rfl, _, rfl, ?_⟩
      have q2 : Res K H E (if (f.hand i).up = false then .error "Fallen" else .ok ()) fun _ =>
        ∀ g' H' L', Go TA g H g' H' → FolkR K g' H' fa (f.setHand i (f.hand i).down) L' → Q .non H' := q
      cases hup : (f.hand i).up with
      | false =>
        rw [hup] at q2
        exact iteT q2
      | true =>
        rw [hup] at q2
        have q3 : ∀ g' H' L', Go TA g H g' H' → FolkR K g' H' fa (f.setHand i (f.hand i).down) L' → Q .non H' := q2
        refine iteF ⟨_, rfl, _, _, _, _, rfl, hr.obj, T.cl_Hand, T.na_Hand_standing, zlen, ?_⟩
        have e : Go (fun t => t = .hand i) g H g (upd H a (.ins (He.ga K "Hand") hL.dx (putF "standing" (.bl false) (handK.zip [.int i, .ref L.pa, .bl (f.hand i).up, .int (f.hand i).said, .int (f.hand i).high, .ref hL.bh, hL.sv])))) := Go.set r.ok hr.own rfl
        have rh : HandR K g (upd H a (.ins (He.ga K "Hand") hL.dx (putF "standing" (.bl false) (handK.zip [.int i, .ref L.pa, .bl (f.hand i).up, .int (f.hand i).said, .int (f.hand i).high, .ref hL.bh, hL.sv])))) a i L.pa (f.hand i).down hL :=
          ⟨hr.own, (by rw [upd_same, put_Hand_standing] <;> rfl), hr.bown, e.stay hr.bobj hr.bown (by intro z; cases z), hr.past, hr.seat.go e (fun t z w => by subst w; exact z)⟩
        exact q3 _ _ _ (e.mono fun _ _ => trivial) (r.deed ha (e.mono fun t z => by subst z; exact .inr rfl) rh (r.post.go e (by intro z; cases z)))
def spPlace (K : PySem.W.Frag) : Sp := fun vs H Q E => ∃ (g : Gh) (fa : Addr) (f : Flk) (L : FL) (x : V), vs = [.ref fa, x] ∧ FolkR K g H fa f L ∧ Thg K H x ∧ Res K H E (f.place x) fun _ => Q .non H
theorem sc_Folk_check_place : FnScope ["self", "place"] ["self", "place"] (defScope s_Folk_check_place) := ⟨rfl, rfl, rfl, by decide +kernel, rfl, by decide +kernel, by decide +kernel⟩
set_option maxRecDepth 100000 in
theorem ok_Folk_check_place (T : Txt K mg) : OkF P w K mg base (L2.CX P w) 2 (He.ma K (He.ga K "Folk") "_check_place") ["self", "place"] (spPlace K) := by
  obtain ⟨fd, F⟩ := T.F_Folk_check_place
  obtain ⟨fd_is_whole, G_is_whole⟩ := ok_is_whole (P := P) (w := w) (base := base) T
  refine ⟨fd, F.ok sc_Folk_check_place (fun vs H Q E h => ?_) (fun cdv A outer s H vs Q E hr h => ?_), F.bindsN fun _ _ _ _ _ _ us hl => match us, hl with | [_, _], _ => rfl, F.kp⟩
  · obtain ⟨_, _, _, _, _, rfl, _⟩ := h
    rfl
  · refine ⟨_, (pss_one (ps_if (PW.pt (pw_or (pt_not (pt_val (pe_call G_is_whole.1 (hr.mono (by decide)) rfl T.g_is_whole G_is_whole.2.2 G_is_whole.2.1 .nil pass0 (pa_cons (pv 1) pa_nil)))) (pw_or (pt_cmpR op_lt (pv 1) pe_int (nomark _)) (pw_or1 (pt_cmpR op_ge (pv 1) (pe_callB call_len_seq (by rfl) T.b_len PySem.boot_len (pa_cons (pe_fld (pv 0) rfl) pa_nil)) (nomark _)))))) (pss_one (ps_raise rfl (takes_of rfl rfl rfl rfl) (pmk_own PySem.F.excBase_ValueError T.xi_NoLetter T.g_NoLetter T.kp_NoLetter (raises_own T.xs_NoLetter T.xt_NoLetter) rfl))) pss_nil)), ?_⟩
    obtain ⟨g, fa, f, L, x, rfl, r, hx, q⟩ := h
    have ro := r.ok.sub _ _ r.obj
    refine ⟨_, rfl, x, rfl, hx, _, rfl, ?_⟩
    have hpl : (L.as.map V.ref).length = f.post.length := by rw [List.length_map, paired_len r.post.ls]
    unfold Flk.place at q
    cases x with
    | int j =>
      refine iteF ⟨_, rfl, _, _, rfl, rfl, _, rfl, ?_⟩
      by_cases h0 : j < 0
      · rw [decide_eq_true h0]
        have e : isHandB (.int j) (f.post.length : Nat) = false := by show (decide (0 ≤ j) && _) = false; rw [decide_eq_false (by omega)]; rfl
        rw [e] at q
        exact iteT (iteT q)
      · rw [decide_eq_false h0]
        refine iteF ⟨_, rfl, _, rfl, _, _, _, _, _, rfl, ro, T.cl_Folk, T.na_Folk__post, zl folkK_nd (i := 1) rfl rfl, L.pa, _, rfl, .inl (SqL.of r.post.obj), _, _, rfl, rfl, _, rfl, ?_⟩
        rw [hpl]
        by_cases h1 : j < (f.post.length : Nat)
        · have e : isHandB (.int j) (f.post.length : Nat) = true := by show (decide (0 ≤ j) && decide (j < ((f.post.length : Nat) : Int))) = true; rw [decide_eq_true (by omega), decide_eq_true h1]; rfl
          rw [e] at q
          rw [decide_eq_false (by omega)]
          exact iteF q
        · have e : isHandB (.int j) (f.post.length : Nat) = false := by show (decide (0 ≤ j) && decide (j < ((f.post.length : Nat) : Int))) = false; rw [decide_eq_false h1, Bool.and_false]
          rw [e] at q
          rw [decide_eq_true (by omega)]
          exact iteT q
    | _ => exact iteT q

end
end Fo
namespace Fo
open PySem PySem.Spec PyProof.Rows L2
section
variable {P : Program} {w : World} {K : PySem.W.Frag} {mg : Str → Option Value} {base : Heap}
theorem paired_erase {α β : Type} {R : α → β → Prop} : ∀ {xs : List α} {ys : List β} (i : Nat), Paired R xs ys → Paired R (xs.eraseIdx i) (ys.eraseIdx i)
  | _, _, _, .nil => .nil
  | _, _, 0, .cons _ t => t
  | _, _, i + 1, .cons r t => .cons r (paired_erase i t)
theorem map_erase {α β : Type} (f : α → β) : ∀ (xs : List α) (i : Nat), (xs.map f).eraseIdx i = (xs.eraseIdx i).map f
  | [], _ => rfl
  | _ :: _, 0 => rfl
  | x :: xs, i + 1 => by
    show f x :: (xs.map f).eraseIdx i = f x :: (xs.eraseIdx i).map f
    rw [map_erase f xs i]
def ComeOk (f : Flk) (p : Nat) : Prop := ∀ l, f.post[p]? = some l → l.to < f.hands.length ∧ preOver l.to (f.hand l.to) l ∧ 0 ≤ l.snd ∧ f.post.length + 3000 ≤ 1000000
theorem FolkR.repost {K : PySem.W.Frag} {g g' : Gh} {H H' : Hp} {fa : Addr} {f : Flk} {L : FL} {ls : List Ltr} {as : List Addr} (r : FolkR K g H fa f L) (e : Go TPost g H g' H') (po : PostR K g' H' L.pa ls as) : FolkR K g' H' fa ⟨f.hands, ls⟩ { L with as := as } :=
  ⟨e.ok, e.D _ _ r.obj, e.D _ _ r.hl, po, r.len, fun i a h h1 h2 => by
    obtain ⟨hL, q⟩ := r.hand i a h h1 h2
    exact ⟨hL, q.go e nTH_post⟩⟩
theorem PostR.pop {K : PySem.W.Frag} {g : Gh} {H : Hp} {pa : Addr} {ls : List Ltr} {as : List Addr} (k : Ok g H) (po : PostR K g H pa ls as) (p : Nat) : Go TPost g H g (upd H pa (.lst ((as.map V.ref).eraseIdx p))) ∧ PostR K g (upd H pa (.lst ((as.map V.ref).eraseIdx p))) pa (ls.eraseIdx p) (as.eraseIdx p) :=
  ⟨Go.set k po.own rfl, po.own, by rw [upd_same, map_erase], paired_erase p po.ls⟩
theorem seqIx {i n : Nat} (h : i < n) : seqIndex? (i : Int) n = some i := by
  have h1 : ¬ (i : Int) < 0 := by omega
  show (if (0 ≤ (if (i : Int) < 0 then (i : Int) + n else i) && (if (i : Int) < 0 then (i : Int) + n else (i : Int)) < (n : Int)) = true then some (if (i : Int) < 0 then (i : Int) + n else (i : Int)).toNat else none) = _
  rw [if_neg h1]
  rw [if_pos (by simp; omega)]
  rfl
theorem place_lt {f : Flk} {K : PySem.W.Frag} {g : Gh} {H : Hp} {fa : Addr} {L : FL} (r : FolkR K g H fa f L) {p : Nat} (hp : p < f.post.length) : ∃ la l, L.as[p]? = some la ∧ f.post[p]? = some l ∧ letV K g.D la l := by
  have h1 : p < L.as.length := by rw [paired_len r.post.ls]; exact hp
  obtain ⟨l, h2, h3⟩ := paired_get r.post.ls (List.getElem?_eq_getElem h1)
  exact ⟨_, l, List.getElem?_eq_getElem h1, h2, h3⟩
def spLose (K : PySem.W.Frag) : Sp := fun vs H Q E => ∃ (g : Gh) (fa : Addr) (f : Flk) (L : FL) (x : V), vs = [.ref fa, x] ∧ FolkR K g H fa f L ∧ Thg K H x ∧ f.post.length ≤ 1000000 ∧ Res K H E (f.place x) fun p => ∀ g' H' L', Go TA g H g' H' → FolkR K g' H' fa (f.lose p) L' → Q .non H'
theorem sc_Folk_lose : FnScope ["self", "place"] ["self", "place"] (defScope s_Folk_lose) := ⟨rfl, rfl, rfl, by decide +kernel, rfl, by decide +kernel, by decide +kernel⟩
set_option maxRecDepth 100000 in
theorem ok_Folk_lose (T : Txt K mg) : OkF P w K mg base (L2.CX P w) 3 (He.ma K (He.ga K "Folk") "lose") ["self", "place"] (spLose K) := by
  obtain ⟨fd, F⟩ := T.F_Folk_lose
  obtain ⟨fd_Folk_check_place, G_Folk_check_place⟩ := ok_Folk_check_place (P := P) (w := w) (base := base) T
  refine ⟨fd, F.ok sc_Folk_lose (fun vs H Q E h => ?_) (fun cdv A outer s H vs Q E hr h => ?_), F.bindsN fun _ _ _ _ _ _ us hl => match us, hl with | [_, _], _ => rfl, F.kp⟩
  · obtain ⟨_, _, _, _, _, rfl, _⟩ := h
    rfl
  · refine ⟨_, (pss_cons (ps_expr (pe_meth (pv 0) T.cl_Folk T.me_Folk_check_place G_Folk_check_place.1 (hr.mono (by decide)) G_Folk_check_place.2.1 .nil (passX (takes_of rfl rfl rfl rfl) fun _ _ _ _ h => h) (pa_cons (pv 1) pa_nil))) (pss_one (ps_expr (pe_bm PySem.F.plainAttrs_list PySem.F.slot_list_pop PySem.F.type_list_pop mt_popAt (pe_fld (pv 0) rfl) (pa_cons (pv 1) pa_nil))))), ?_⟩
    obtain ⟨g, fa, f, L, x, rfl, r, hx, hlen, q⟩ := h
    have ro := r.ok.sub _ _ r.obj
    refine ⟨_, rfl, _, _, _, rfl, ro, zn (by decide +kernel), _, rfl, g, fa, f, L, x, rfl, r, hx, ?_⟩
    cases hw : f.place x with
    | error e =>
      rw [hw] at q
      exact q
    | ok p =>
      rw [hw] at q
      have q2 : ∀ g' H' L', Go TA g H g' H' → FolkR K g' H' fa (f.lose p) L' → Q .non H' := q
      obtain ⟨rfl, hp⟩ := place_ok hw
      obtain ⟨la, l, h1, h2, h3⟩ := place_lt r hp
      obtain ⟨e, po⟩ := r.post.pop r.ok p
      refine ⟨_, rfl, _, _, _, _, _, rfl, ro, T.cl_Folk, T.na_Folk__post, zl folkK_nd (i := 1) rfl rfl, .inl ⟨rfl, _, SqL.of r.post.obj⟩, _, rfl, L.pa, _, _, p, _, rfl, rfl, r.post.obj, by omega, by omega, seqIx (by rw [List.length_map, paired_len r.post.ls]; exact hp), by rw [List.getElem?_map, h1]; rfl, ?_⟩
      exact q2 _ _ _ (e.mono fun _ _ => trivial) (r.repost e po)
def spDouble (K : PySem.W.Frag) : Sp := fun vs H Q E => ∃ (g : Gh) (fa : Addr) (f : Flk) (L : FL) (x : V), vs = [.ref fa, x] ∧ FolkR K g H fa f L ∧ Thg K H x ∧ f.post.length ≤ 1000000 ∧ Res K H E (f.place x) fun p => ∀ g' H' L', Go TA g H g' H' → FolkR K g' H' fa (f.double p) L' → Q .non H'
theorem sc_Folk_double : FnScope ["self", "place"] ["self", "place"] (defScope s_Folk_double) := ⟨rfl, rfl, rfl, by decide +kernel, rfl, by decide +kernel, by decide +kernel⟩
set_option maxRecDepth 100000 in
theorem ok_Folk_double (T : Txt K mg) : OkF P w K mg base (L2.CX P w) 3 (He.ma K (He.ga K "Folk") "double") ["self", "place"] (spDouble K) := by
  obtain ⟨fd, F⟩ := T.F_Folk_double
  obtain ⟨fd_Folk_check_place, G_Folk_check_place⟩ := ok_Folk_check_place (P := P) (w := w) (base := base) T
  refine ⟨fd, F.ok sc_Folk_double (fun vs H Q E h => ?_) (fun cdv A outer s H vs Q E hr h => ?_), F.bindsN fun _ _ _ _ _ _ us hl => match us, hl with | [_, _], _ => rfl, F.kp⟩
  · obtain ⟨_, _, _, _, _, rfl, _⟩ := h
    rfl
  · refine ⟨_, (pss_cons (ps_expr (pe_meth (pv 0) T.cl_Folk T.me_Folk_check_place G_Folk_check_place.1 (hr.mono (by decide)) G_Folk_check_place.2.1 .nil (passX (takes_of rfl rfl rfl rfl) fun _ _ _ _ h => h) (pa_cons (pv 1) pa_nil))) (pss_one (ps_expr (pe_bm PySem.F.plainAttrs_list PySem.F.slot_list_append PySem.F.type_list_append mt_append (pe_fld (pv 0) rfl) (pa_cons (pe_ix ix_list (pe_fld (pv 0) rfl) (pv 1) (fun _ _ => rfl)) pa_nil))))), ?_⟩
    obtain ⟨g, fa, f, L, x, rfl, r, hx, hlen, q⟩ := h
    have ro := r.ok.sub _ _ r.obj
    refine ⟨_, rfl, _, _, _, rfl, ro, zn (by decide +kernel), _, rfl, g, fa, f, L, x, rfl, r, hx, ?_⟩
    cases hw : f.place x with
    | error e =>
      rw [hw] at q
      exact q
    | ok p =>
      rw [hw] at q
      have q2 : ∀ g' H' L', Go TA g H g' H' → FolkR K g' H' fa (f.double p) L' → Q .non H' := q
      obtain ⟨rfl, hp⟩ := place_ok hw
      obtain ⟨la, l, h1, h2, h3⟩ := place_lt r hp
      have hd : f.double p = ⟨f.hands, f.post ++ [l]⟩ := by
        unfold Flk.double
        rw [h2]
      rw [hd] at q2
      have e : Go TPost g H g (upd H L.pa (.lst (L.as.map V.ref ++ [V.ref la]))) := Go.set r.ok r.post.own rfl
      refine ⟨_, rfl, _, _, _, _, _, rfl, ro, T.cl_Folk, T.na_Folk__post, zl folkK_nd (i := 1) rfl rfl, .inl ⟨rfl, _, SqL.of r.post.obj⟩, _, rfl, _, _, _, _, _, rfl, ro, T.cl_Folk, T.na_Folk__post, zl folkK_nd (i := 1) rfl rfl, _, rfl, L.pa, _, _, _, rfl, rfl, SqL.of r.post.obj, atI_nat (by rw [List.getElem?_map, h1]; rfl), _, _, _, rfl, rfl, r.post.obj, Nat.lt_of_le_of_lt (show _ ≤ 1000000 by rw [List.length_map, paired_len r.post.ls]; exact hlen) (by decide), ?_⟩
      exact q2 _ _ _ (e.mono fun _ _ => trivial) (r.repost (as := L.as ++ [la]) e ⟨r.post.own, by rw [upd_same, List.map_append]; rfl, paired_app r.post.ls (.cons h3 .nil)⟩)
def spCome (K : PySem.W.Frag) : Sp := fun vs H Q E => ∃ (g : Gh) (fa : Addr) (f : Flk) (L : FL) (x : V), vs = [.ref fa, x] ∧ FolkR K g H fa f L ∧ Thg K H x ∧ Res K H E (f.place x) fun p => ComeOk f p ∧ ∀ g' H' L', Go TA g H g' H' → FolkR K g' H' fa (f.come p) L' → Q .non H'
theorem sc_Folk_come : FnScope ["self", "place", "letter"] ["self", "place"] (defScope s_Folk_come) := ⟨rfl, rfl, rfl, by decide +kernel, rfl, by decide +kernel, by decide +kernel⟩
set_option maxRecDepth 100000 in
theorem ok_Folk_come (T : Txt K mg) : OkF P w K mg base (L2.CX P w) 10 (He.ma K (He.ga K "Folk") "come") ["self", "place"] (spCome K) := by
  obtain ⟨fd, F⟩ := T.F_Folk_come
  obtain ⟨fd_Folk_check_place, G_Folk_check_place⟩ := ok_Folk_check_place (P := P) (w := w) (base := base) T
  obtain ⟨fd_hand_over, G_hand_over⟩ := ok_hand_over (P := P) (w := w) (base := base) T
  refine ⟨fd, F.ok sc_Folk_come (fun vs H Q E h => ?_) (fun cdv A outer s H vs Q E hr h => ?_), F.bindsN fun _ _ _ _ _ _ us hl => match us, hl with | [_, _], _ => rfl, F.kp⟩
  · obtain ⟨_, _, _, _, _, rfl, _⟩ := h
    rfl
  · refine ⟨_, (pss_cons (ps_expr (pe_meth (pv 0) T.cl_Folk T.me_Folk_check_place G_Folk_check_place.1 (hr.mono (by decide)) G_Folk_check_place.2.1 .nil (passX (takes_of rfl rfl rfl rfl) fun _ _ _ _ h => h) (pa_cons (pv 1) pa_nil))) (pss_cons (ps_set (i := 2) sc_Folk_come.nd rfl (Or.inl rfl) (pe_bm PySem.F.plainAttrs_list PySem.F.slot_list_pop PySem.F.type_list_pop mt_popAt (pe_fld (pv 0) rfl) (pa_cons (pv 1) pa_nil))) (pss_one (ps_expr (pe_call G_hand_over.1 (hr.mono (by decide)) rfl T.g_hand_over G_hand_over.2.2 G_hand_over.2.1 .nil pass0 (pa_cons (pe_ix ix_list (pe_fld (pv 0) rfl) (pe_fld (pv 2) rfl) (fun _ _ => rfl)) (pa_cons (pv 2) pa_nil))))))), ?_⟩
    obtain ⟨g, fa, f, L, x, rfl, r, hx, q⟩ := h
    have ro := r.ok.sub _ _ r.obj
    refine ⟨_, rfl, _, _, _, rfl, ro, zn (by decide +kernel), _, rfl, g, fa, f, L, x, rfl, r, hx, ?_⟩
    cases hw : f.place x with
    | error e =>
      rw [hw] at q
      exact q
    | ok p =>
      rw [hw] at q
      obtain ⟨co, q⟩ := q
      have q2 : ∀ g' H' L', Go TA g H g' H' → FolkR K g' H' fa (f.come p) L' → Q .non H' := q
      obtain ⟨rfl, hp⟩ := place_ok hw
      obtain ⟨la, l, h1, h2, h3⟩ := place_lt r hp
      obtain ⟨c1, c2, c3, c4⟩ := co l h2
      obtain ⟨e, po⟩ := r.post.pop r.ok p
      have hc : f.come p = ⟨f.hands.set l.to ((f.hand l.to).over l.to l).1, f.post.eraseIdx p ++ ((f.hand l.to).over l.to l).2⟩ := by
        unfold Flk.come
        rw [h2]
      rw [hc] at q2
      have hpl := seqIx (n := (L.as.map V.ref).length) (by rw [List.length_map, paired_len r.post.ls]; exact hp)
      refine ⟨_, rfl, _, _, _, _, _, rfl, ro, T.cl_Folk, T.na_Folk__post, zl folkK_nd (i := 1) rfl rfl, .inl ⟨rfl, _, SqL.of r.post.obj⟩, _, rfl, L.pa, _, _, p, _, rfl, rfl, r.post.obj, by omega, by omega, hpl, (by rw [List.getElem?_map, h1]; rfl), ?_⟩
      have r1 := r.repost e po
      have ro1 := r1.ok.sub _ _ r1.obj
      obtain ⟨ldx, tv, hlo, htv⟩ := h3
      have hloH := r1.ok.sub _ _ hlo
      obtain ⟨a, hL, ha, hr⟩ := r1.at c1
      refine ⟨_, rfl, _, _, _, _, _, rfl, ro1, T.cl_Folk, T.na_Folk__hands, zl folkK_nd (i := 2) rfl rfl, _, rfl, _, _, _, _, _, rfl, hloH, T.cl_Letter, T.na_Letter_to, zl letK_nd (i := 2) rfl rfl, L.hl, _, _, _, rfl, rfl, SqL.of (r1.ok.sub _ _ r1.hl), atI_nat (by rw [List.getElem?_map, ha]; rfl), _, rfl, ?_⟩
      have hel : (f.post.eraseIdx p).length + 3000 ≤ 1000000 := by
        have := List.length_eraseIdx_le f.post p
        omega
      exact ⟨g, a, L.pa, la, l.to, _, hL, f.post.eraseIdx p, L.as.eraseIdx p, l, rfl, r1.ok, hr, po, ⟨ldx, tv, hlo, htv⟩, c3, c2, hel, fun g' H' L' as' e2 rh po2 => q2 g' H' _ ((e.mono fun _ _ => trivial).trans (e2.mono fun _ _ => trivial)) (r1.deed ha e2 rh po2)⟩
def Flk.runs : Nat → Flk → Prop
  | 0, f => f.post = []
  | n + 1, f => f.post ≠ [] ∧ ComeOk f 0 ∧ Flk.runs n (f.come 0)
def Flk.cames : Nat → Flk → Flk
  | 0, f => f
  | n + 1, f => Flk.cames n (f.come 0)
def spCalm (K : PySem.W.Frag) : Sp := fun vs H Q E => ∃ (g : Gh) (fa : Addr) (f : Flk) (L : FL) (n : Nat), vs = [.ref fa] ∧ FolkR K g H fa f L ∧ f.runs n ∧ ∀ g' H' L', Go TA g H g' H' → FolkR K g' H' fa (f.cames n) L' → Q (.int n) H'
theorem sc_Folk_calm : FnScope ["self", "came"] ["self"] (defScope s_Folk_calm) := ⟨rfl, rfl, rfl, by decide +kernel, rfl, by decide +kernel, by decide +kernel⟩
set_option maxRecDepth 100000 in
theorem ok_Folk_calm (T : Txt K mg) : OkF P w K mg base (L2.CX P w) 11 (He.ma K (He.ga K "Folk") "calm") ["self"] (spCalm K) := by
  obtain ⟨fd, F⟩ := T.F_Folk_calm
  obtain ⟨fd_Folk_come, G_Folk_come⟩ := ok_Folk_come (P := P) (w := w) (base := base) T
  refine ⟨fd, F.ok sc_Folk_calm (fun vs H Q E h => ?_) (fun cdv A outer s H vs Q E hr h => ?_), F.bindsN fun _ _ _ _ _ _ us hl => match us, hl with | [_], _ => rfl, F.kp⟩
  · obtain ⟨_, _, _, _, _, rfl, _⟩ := h
    rfl
  · refine ⟨_, (pss_cons (ps_set (i := 1) sc_Folk_calm.nd rfl (Or.inl rfl) pe_int) (pss_cons (ps_while (passes_of rfl) (pt_cmpR op_gt (pe_callB call_len_seq (by rfl) T.b_len PySem.boot_len (pa_cons (pe_fld (pv 0) rfl) pa_nil)) pe_int (nomark _)) (pss_cons (ps_expr (pe_meth (pv 0) T.cl_Folk T.me_Folk_come G_Folk_come.1 (hr.mono (by decide)) G_Folk_come.2.1 .nil (passX (takes_of rfl rfl rfl rfl) fun _ _ _ _ h => h) (pa_cons pe_int pa_nil))) (pss_one (ps_aug (i := 1) sc_Folk_calm.nd rfl (Or.inl rfl) pe_int ip_add)))) (pss_one (ps_ret (pv 1))))), ?_⟩
    obtain ⟨g, fa, f, L, n, rfl, r, hr, q⟩ := h
    refine while_by (fun σ H1 => ∃ g1 f1 L1 j k, σ = [some (.ref fa), some (.int (j : Nat))] ∧ Go TA g H g1 H1 ∧ FolkR K g1 H1 fa f1 L1 ∧ j + k = n ∧ f1.runs k ∧ f.cames n = f1.cames k)
      (fun σ _ => match σ with | [_, some (.int j)] => n - j.toNat | _ => 0) ⟨g, f, L, 0, n, rfl, Go.refl r.ok, r, by omega, hr, rfl⟩ ?_ ?_
    · rintro σ H1 ⟨g1, f1, L1, j, k, rfl, e1, r1, hjk, hr1, hc⟩
      have ro1 := r1.ok.sub _ _ r1.obj
      have hpl : (L1.as.map V.ref).length = f1.post.length := by rw [List.length_map, paired_len r1.post.ls]
      refine ⟨_, rfl, _, _, _, _, _, rfl, ro1, T.cl_Folk, T.na_Folk__post, zl folkK_nd (i := 1) rfl rfl, L1.pa, _, rfl, .inl (SqL.of r1.post.obj), _, _, rfl, rfl, _, rfl, ?_⟩
      rw [hpl]
      cases k with
      | zero =>
        have h0 : f1.post = [] := hr1
        rw [h0]
        refine iteF ⟨_, rfl, ?_⟩
        have hj : j = n := by omega
        subst hj
        exact q g1 H1 L1 e1 (by rw [hc]; exact r1)
      | succ k =>
        obtain ⟨h0, h2, h3⟩ := hr1
        have hlen := List.length_pos_iff.mpr h0
        rw [decide_eq_true (by omega)]
        refine iteT ⟨_, rfl, _, _, _, rfl, ro1, zn (by decide +kernel), g1, fa, f1, L1, _, rfl, r1, thg_int, ?_⟩
        have hp : f1.place (.int 0) = .ok 0 := by
          unfold Flk.place
          have e : isHandB (.int 0) (f1.post.length : Nat) = true := by show (decide ((0 : Int) ≤ 0) && decide ((0 : Int) < ((f1.post.length : Nat) : Int))) = true; rw [decide_eq_true (by omega), decide_eq_true (by omega)]; rfl
          rw [if_pos e]
          rfl
        rw [hp]
        refine ⟨h2, fun g2 H2 L2' e2 r2 => ?_⟩
        refine ⟨_, rfl, _, _, rfl, rfl, ⟨g2, f1.come 0, L2', j + 1, k, rfl, e1.trans e2, r2, by omega, h3, hc⟩, ?_⟩
        show n - ((j : Int) + 1).toNat < n - (j : Int).toNat
        omega
    · intro σ H1 Q1 Q2 hq w
      obtain ⟨v, h1, a, C, dx, fs, u, h2, h3, h4, h5, h6, p, ys, h7, h8, i, j, h9, h10, b, h11, h12⟩ := w
      exact ⟨v, h1, a, C, dx, fs, u, h2, h3, h4, h5, h6, p, ys, h7, h8, i, j, h9, h10, b, h11, hq _ _ h12⟩

end
end Fo
namespace Fo
open PySem PySem.Spec PyProof.Rows L2
section
variable {P : Program} {w : World} {K : PySem.W.Frag} {mg : Str → Option Value} {base : Heap}
/-! ### a folk is made -/
section
variable {K : PySem.W.Frag} {g g' : Gh} {H H' : Hp} (o : ∀ a t, g.own a = some t → g'.own a = some t) (d : Same g.D g'.D) (e : ∀ a t, g.own a = some t → H' a = H a)
include o d e
theorem OffR.mv {oa : Addr} {i : Nat} {f : Off} {L : OL} (r : OffR K g H oa i f L) : OffR K g' H' oa i f L :=
  ⟨o _ _ r.own, (e _ _ r.own).trans r.obj, r.bal.up d, r.mem.up d, o _ _ r.pown, (e _ _ r.pown).trans r.pobj, paired_imp (fun _ _ q => ⟨q.1, q.2.up d⟩) r.prom, r.fwd.up d, o _ _ r.gown, (e _ _ r.gown).trans r.gobj, r.fc⟩
theorem OffO.mv {v : V} {i : Nat} : ∀ {f : Option Off}, OffO K g H v i f → OffO K g' H' v i f
  | none, h => h
  | some _, ⟨oa, L, q, r⟩ => ⟨oa, L, q, r.mv o d e⟩
theorem SeatR.mv {sa : Addr} {i : Nat} {s : Seat} {L : SL} (r : SeatR K g H sa i s L) : SeatR K g' H' sa i s L :=
  ⟨o _ _ r.own, (e _ _ r.own).trans r.obj, r.mem.up d, r.news.up d, o _ _ r.rown, (e _ _ r.rown).trans r.robj, paired_imp (fun _ _ => msgV.up d) r.row, o _ _ r.hown, (e _ _ r.hown).trans r.hobj, r.bal.up d, r.agr.up d, r.off.mv o d e⟩
theorem SeatO.mv {v : V} {i : Nat} : ∀ {s : Option Seat}, SeatO K g H v i s → SeatO K g' H' v i s
  | none, h => h
  | some _, ⟨sa, L, q, r⟩ => ⟨sa, L, q, r.mv o d e⟩
theorem HandR.mv {a pa : Addr} {i : Nat} {h : Hnd} {L : HL} (r : HandR K g H a i pa h L) : HandR K g' H' a i pa h L :=
  ⟨o _ _ r.own, (e _ _ r.own).trans r.obj, o _ _ r.bown, (e _ _ r.bown).trans r.bobj, paired_imp (fun _ _ => pastV.up d) r.past, r.seat.mv o d e⟩
theorem PostR.mv {pa : Addr} {ls : List Ltr} {as : List Addr} (r : PostR K g H pa ls as) : PostR K g' H' pa ls as :=
  ⟨o _ _ r.own, (e _ _ r.own).trans r.obj, paired_imp (fun _ _ => letV.up d) r.ls⟩
end
theorem FolkR.mv {K : PySem.W.Frag} {g : Gh} {H H' : Hp} {fa : Addr} {f : Flk} {L : FL} (r : FolkR K g H fa f L) (k : Ok g H') (e : ∀ a t, g.own a = some t → H' a = H a) : FolkR K g H' fa f L :=
  ⟨k, r.obj, r.hl, r.post.mv (fun _ _ z => z) (Same.refl _) e, r.len, fun i a h h1 h2 => by
    obtain ⟨hL, q⟩ := r.hand i a h h1 h2
    exact ⟨hL, q.mv (fun _ _ z => z) (Same.refl _) e⟩⟩
/-- the caller changes a thing of its own -/
theorem FolkR.mine {K : PySem.W.Frag} {g : Gh} {H : Hp} {fa a : Addr} {u : HO} {f : Flk} {L : FL} (r : FolkR K g H fa f L) (hD : g.D a = none) (hO : g.own a = none) : FolkR K g (upd H a u) fa f L :=
  r.mv (r.ok.mine hD hO) fun b t h => upd_ne fun z => by rw [z, hO] at h; cases h
structure HandsR (K : PySem.W.Frag) (g : Gh) (H : Hp) (pa : Addr) (hs : List Addr) (hands : List Hnd) : Prop where
  len : hs.length = hands.length
  hand : ∀ i a h, hs[i]? = some a → hands[i]? = some h → ∃ hL, HandR K g H a i pa h hL
theorem HandsR.mv {K : PySem.W.Frag} {g g' : Gh} {H H' : Hp} {pa : Addr} {hs : List Addr} {hands : List Hnd} (r : HandsR K g H pa hs hands) (o : ∀ a t, g.own a = some t → g'.own a = some t) (d : Same g.D g'.D) (e : ∀ a t, g.own a = some t → H' a = H a) : HandsR K g' H' pa hs hands :=
  ⟨r.len, fun i a h h1 h2 => by
    obtain ⟨hL, q⟩ := r.hand i a h h1 h2
    exact ⟨hL, q.mv o d e⟩⟩
/-- what the caller had before is there, and is the caller's -/
structure Kp (p : Addr) (H0 : Hp) (g : Gh) (H : Hp) : Prop where
  ok : Ok g H
  old : ∀ a o, a ≠ p → H0 a = some o → H a = some o ∧ g.own a = none ∧ g.D a = none
theorem Kp.go {T : Tag → Prop} {p : Addr} {H0 H H' : Hp} {g g' : Gh} (k : Kp p H0 g H) (e : Go T g H g' H') : Kp p H0 g' H' :=
  ⟨e.ok, fun a o n h => by
    obtain ⟨h1, h2, h3⟩ := k.old a o n h
    exact ⟨e.keep h1 h2, e.free h1 h2, e.notD h1 h3⟩⟩
theorem Kp.mine {p a : Addr} {H0 H : Hp} {g : Gh} {u : HO} (k : Kp p H0 g H) (h : a = p ∨ H0 a = none) (hD : g.D a = none) (hO : g.own a = none) : Kp p H0 g (upd H a u) :=
  ⟨k.ok.mine hD hO, fun b o n h0 => by
    obtain ⟨h1, h2, h3⟩ := k.old b o n h0
    refine ⟨?_, h2, h3⟩
    rw [upd_ne fun z => ?_]
    · exact h1
    · rcases h with h | h
      · exact n (z.trans h)
      · rw [z, h] at h0; cases h0⟩
theorem Kp.start (p : Addr) (H : Hp) : Kp p H ⟨fun _ => none, fun _ => none⟩ H := ⟨⟨(fun _ _ h => nomatch h), (fun _ _ h => nomatch h), (fun _ _ h => nomatch h)⟩, fun _ _ _ h => ⟨h, rfl, rfl⟩⟩
theorem hand_new {K : PySem.W.Frag} {g : Gh} {H : Hp} (k : Ok g H) {x dx bh pa : Addr} {i : Nat} (hx : H x = none) (hdx : H dx = none) (hne : dx ≠ x) (hbh : upd (upd H dx (.own x)) x (.ins (He.ga K "Hand") dx []) bh = none) :
    ∃ g' hL, Go (TH_ i) g H g' (upd (upd (upd (upd H dx (.own x)) x (.ins (He.ga K "Hand") dx [])) bh (.lst [])) x (.ins (He.ga K "Hand") dx (handK.zip [.int i, .ref pa, .bl true, .int 0, .int (-1), .ref bh, .non]))) ∧
      HandR K g' (upd (upd (upd (upd H dx (.own x)) x (.ins (He.ga K "Hand") dx [])) bh (.lst [])) x (.ins (He.ga K "Hand") dx (handK.zip [.int i, .ref pa, .bl true, .int 0, .int (-1), .ref bh, .non]))) x i pa Hnd.new hL := by
  have bx : bh ≠ x := fun e => by rw [e, upd_same] at hbh; cases hbh
  have bd : bh ≠ dx := fun e => by rw [e, upd_ne hne, upd_same] at hbh; cases hbh
  have hbh' : H bh = none := by rw [upd_ne bx, upd_ne bd] at hbh; exact hbh
  rw [upd_over bx]
  have s1 : Go (TH_ i) g H g (upd H dx (.own x)) := Go.ext k (same_upd hdx)
  have f2 : upd H dx (HO.own x) bh = none := by rw [upd_ne bd]; exact hbh'
  have s2 : Go (TH_ i) g _ (g.addO bh (.past i)) (upd (upd H dx (.own x)) bh (.lst [])) := Go.newO s1.ok f2 rfl
  have f3 : upd (upd H dx (HO.own x)) bh (.lst []) x = none := by rw [upd_ne bx.symm, upd_ne hne.symm]; exact hx
  have s3 : Go (TH_ i) _ _ ((g.addO bh (.past i)).addO x (.hand i)) (upd (upd (upd H dx (.own x)) bh (.lst [])) x (.ins (He.ga K "Hand") dx (handK.zip [.int i, .ref pa, .bl true, .int 0, .int (-1), .ref bh, .non]))) := Go.newO s2.ok f3 rfl
  exact ⟨_, ⟨dx, bh, [], .non⟩, (s1.trans s2).trans s3, ⟨addO_same, upd_same, by rw [addO_ne bx, addO_same], by rw [upd_ne bx, upd_same], .nil, rfl⟩⟩
/-- an object that is there is known never to change -/
theorem Ok.addX {g : Gh} {H : Hp} {a : Addr} {o : HO} (k : Ok g H) (h : H a = some o) (hO : g.own a = none) : Ok (g.addD a o) H :=
  ⟨fun b u q => by
    have q2 : upd g.D a o b = some u := q
    by_cases e : b = a
    · rw [e, upd_same] at q2
      cases q2
      rw [e]; exact h
    · rw [upd_ne e] at q2
      exact k.sub b u q2, fun b t q => by
    show upd g.D a o b = none
    rw [upd_ne (fun e => by rw [e] at q; have q2 : g.own a = some t := q; rw [hO] at q2; cases q2)]
    exact k.sep b t q, k.liv⟩
theorem folkK_mk {a b c : V} : putF "_hands" c (putF "_post" b (putF "many" a [])) = folkK.zip [a, b, c] := by
  rw [show ([] : List (Str × V)) = folkK.zip [] from rfl, zq folkK_nd (k := "many") rfl, zq folkK_nd (k := "_post") rfl, zq folkK_nd (k := "_hands") rfl]
  rfl
/-- the hands when these were seated -/
def seatedH (ms : List Int) : Hnd := { Hnd.new with seat := some (Seat.fresh 0 ms none), high := 0 }
def seated (n : Nat) (ms seen : List Int) : List Hnd := (List.range n).map fun (i : Nat) => if (i : Int) ∈ seen then seatedH ms else Hnd.new
theorem seated_len (n : Nat) (ms seen : List Int) : (seated n ms seen).length = n := by
  unfold seated
  rw [List.length_map, List.length_range]
theorem seated_get {n : Nat} (ms seen : List Int) {i : Nat} (h : i < n) : (seated n ms seen)[i]? = some (if (i : Int) ∈ seen then seatedH ms else Hnd.new) := by
  unfold seated
  rw [List.getElem?_map, List.getElem?_range h]
  rfl
theorem seated_nil (n : Nat) (ms : List Int) : seated n ms [] = List.replicate n Hnd.new := by
  refine List.ext_getElem? fun i => ?_
  by_cases h : i < n
  · rw [seated_get ms [] h, if_neg (fun z => nomatch z), List.getElem?_replicate, if_pos h]
  · rw [List.getElem?_eq_none (by rw [seated_len]; omega), List.getElem?_eq_none (by rw [List.length_replicate]; omega)]
theorem seated_set {n : Nat} {ms seen : List Int} {z : Int} (hz : 0 ≤ z) : (seated n ms seen).set z.toNat (seatedH ms) = seated n ms (seen ++ [z]) := by
  refine List.ext_getElem? fun i => ?_
  by_cases h : i < n
  · rw [seated_get ms _ h, List.getElem?_set]
    by_cases q : z.toNat = i
    · rw [if_pos q, if_pos (by rw [seated_len]; omega), if_pos (List.mem_append.mpr (.inr (List.mem_singleton.mpr (by omega))))]
    · rw [if_neg q, seated_get ms _ h]
      have e : ((i : Int) ∈ seen ++ [z]) ↔ (i : Int) ∈ seen := by
        rw [List.mem_append, List.mem_singleton]
        constructor
        · rintro (w | w)
          · exact w
          · omega
        · exact .inl
      by_cases w : (i : Int) ∈ seen
      · rw [if_pos w, if_pos (e.mpr w)]
      · rw [if_neg w, if_neg (fun z => w (e.mp z))]
  · rw [List.getElem?_eq_none (by rw [List.length_set, seated_len]; omega), List.getElem?_eq_none (by rw [seated_len]; omega)]
theorem TH_TH {i j : Nat} (h : j ≠ i) : ∀ t, TH_ j t → ¬ TH_ i t := fun t a b => TH_TP h t a (.inr b)
theorem HandsR.snoc {K : PySem.W.Frag} {g g' : Gh} {H H' : Hp} {pa x : Addr} {hs : List Addr} {hands : List Hnd} {n : Nat} {h : Hnd} {hL : HL} (r : HandsR K g H pa hs hands) (hn : hs.length = n) (e : Go (TH_ n) g H g' H') (rh : HandR K g' H' x n pa h hL) : HandsR K g' H' pa (hs ++ [x]) (hands ++ [h]) := by
  have hl := r.len
  refine ⟨by rw [List.length_append, List.length_append, hl]; rfl, fun i a u h1 h2 => ?_⟩
  by_cases q : i < n
  · rw [List.getElem?_append_left (by omega)] at h1 h2
    obtain ⟨hL', w⟩ := r.hand i a u h1 h2
    exact ⟨hL', w.go e (TH_TH (by omega))⟩
  · have hi : i = n := by
      have := (List.getElem?_eq_some_iff.mp h1).1
      rw [List.length_append] at this
      have h3 : i < hs.length + 1 := this
      omega
    subst hi
    rw [← hn, List.getElem?_append_right (Nat.le_refl _), Nat.sub_self] at h1
    rw [← hn, hl, List.getElem?_append_right (Nat.le_refl _), Nat.sub_self] at h2
    cases h1
    cases h2
    exact ⟨hL, rh⟩
theorem HandsR.set {K : PySem.W.Frag} {g g' : Gh} {H H' : Hp} {pa a : Addr} {hs : List Addr} {hands : List Hnd} {n : Nat} {h : Hnd} {hL : HL} (r : HandsR K g H pa hs hands) (ha : hs[n]? = some a) (e : Go (TH_ n) g H g' H') (rh : HandR K g' H' a n pa h hL) : HandsR K g' H' pa hs (hands.set n h) := by
  refine ⟨by rw [List.length_set]; exact r.len, fun i b u h1 h2 => ?_⟩
  by_cases q : i = n
  · subst q
    rw [ha] at h1
    cases h1
    rw [List.getElem?_set_self (by rw [← r.len]; exact (List.getElem?_eq_some_iff.mp ha).1)] at h2
    cases h2
    exact ⟨hL, rh⟩
  · rw [List.getElem?_set_ne (fun z => q z.symm)] at h2
    obtain ⟨hL', w⟩ := r.hand i b u h1 h2
    exact ⟨hL', w.go e (TH_TH q)⟩
def firstIs (m : Nat) : Option (List Int) → Except Str Flk
  | none => .error "BadList"
  | some ms => .ok (Flk.new m ms)
def Flk.make (mv : V) (ml : Option (List Int)) : Except Str Flk := match mv with
  | .int m => if 1 ≤ m ∧ m ≤ 9 then firstIs m.toNat ml else .error "BadHand"
  | _ => .error "BadHand"
/-- the folk in the making -/
structure Making (K : PySem.W.Frag) (p dx pa D : Addr) (H : Hp) (fs : List V) (g : Gh) (H1 : Hp) (hs : List Addr) (hands : List Hnd) : Prop where
  kp : Kp p H g H1
  obj : H1 p = some (.ins (He.ga K "Folk") dx (folkK.zip fs))
  po : g.own p = none
  pD : g.D p = none
  lst : H1 D = some (.lst (hs.map V.ref))
  lo : g.own D = none
  lD : g.D D = none
  post : PostR K g H1 pa [] []
  hands : HandsR K g H1 pa hs hands
theorem Making.go {K : PySem.W.Frag} {T : Tag → Prop} {p dx pa D : Addr} {H : Hp} {fs : List V} {g g' : Gh} {H1 H2 : Hp} {hs : List Addr} {hands hands' : List Hnd} (r : Making K p dx pa D H fs g H1 hs hands) (e : Go T g H1 g' H2) (n : ¬ T .post) (w : HandsR K g' H2 pa hs hands') : Making K p dx pa D H fs g' H2 hs hands' :=
  ⟨r.kp.go e, e.keep r.obj r.po, e.free r.obj r.po, e.notD r.obj r.pD, e.keep r.lst r.lo, e.free r.lst r.lo, e.notD r.lst r.lD, r.post.go e n, w⟩
def spFolkI (K : PySem.W.Frag) : Sp := fun vs H Q E => ∃ (p dx : Addr) (mv fv : V) (ml : Option (List Int)), vs = [.ref p, mv, fv] ∧ H p = some (.ins (He.ga K "Folk") dx []) ∧ Thg K H mv ∧ (∀ m, mv = .int m → 1 ≤ m → m ≤ 9 → LstIs K H fv m ml) ∧ Res K H E (Flk.make mv ml) fun f =>
  ∀ g H' L, Kp p H g H' → FolkR K g H' p f L → Q .non H'
theorem sc_Folk_init : FnScope ["self", "many", "first", "hand", "members", "member"] ["self", "many", "first"] (defScope s_Folk_init) := ⟨rfl, rfl, rfl, by decide +kernel, rfl, by decide +kernel, by decide +kernel⟩
set_option maxRecDepth 100000 in
theorem ok_Folk_init (T : Txt K mg) : OkF P w K mg base (L2.CX P w) 4 (He.ma K (He.ga K "Folk") "__init__") ["self", "many", "first"] (spFolkI K) := by
  obtain ⟨fd, F⟩ := T.F_Folk_init
  obtain ⟨fd_is_whole, G_is_whole⟩ := ok_is_whole (P := P) (w := w) (base := base) T
  obtain ⟨fd_is_list, G_is_list⟩ := ok_is_list (P := P) (w := w) (base := base) T
  obtain ⟨fd_Hand_init, G_Hand_init⟩ := ok_Hand_init (P := P) (w := w) (base := base) T
  obtain ⟨fd_Hand_sit, G_Hand_sit⟩ := ok_Hand_sit (P := P) (w := w) (base := base) T
  refine ⟨fd, F.ok sc_Folk_init (fun vs H Q E h => ?_) (fun cdv A outer s H vs Q E hr h => ?_), F.bindsN fun _ _ _ _ _ _ us hl => match us, hl with | [_, _, _], _ => rfl, F.kp⟩
  · obtain ⟨_, _, _, _, _, rfl, _⟩ := h
    rfl
  · refine ⟨_, (pss_cons (ps_if (PW.pt (pw_or (pt_not (pt_val (pe_call G_is_whole.1 (hr.mono (by decide)) rfl T.g_is_whole G_is_whole.2.2 G_is_whole.2.1 .nil pass0 (pa_cons (pv 1) pa_nil)))) (pw_or (pt_cmpR op_lt (pv 1) pe_int (nomark _)) (pw_or1 (pt_cmpR op_gt (pv 1) (pe_glob (v := .int 9) rfl T.i_MOST_HANDS.choose_spec ⟨_, rfl⟩) (nomark _)))))) (pss_one (ps_raise rfl (takes_of rfl rfl rfl rfl) (pmk_own PySem.F.excBase_ValueError T.xi_BadHand T.g_BadHand T.kp_BadHand (raises_own T.xs_BadHand T.xt_BadHand) rfl))) pss_nil) (pss_cons (ps_if (pt_not (pt_val (pe_call G_is_list.1 (hr.mono (by decide)) rfl T.g_is_list G_is_list.2.2 G_is_list.2.1 .nil pass0 (pa_cons (pv 2) (pa_cons (pv 1) pa_nil))))) (pss_one (ps_raise rfl (takes_of rfl rfl rfl rfl) (pmk_own PySem.F.excBase_ValueError T.xi_BadList T.g_BadList T.kp_BadList (raises_own T.xs_BadList T.xt_BadList) rfl))) pss_nil) (pss_cons (ps_fld (pv 0) (pv 1) rfl) (pss_cons (ps_fld (pv 0) (pe_lst pa_nil) rfl) (pss_cons (ps_fld (pv 0) (pe_lc (own := [("hand", 3)]) (g := (gName 3)) (te := (tMake (He.ga K "Hand") (spHandI K) [] E0 (tCons (tVar 3) (tCons (tFld K (tVar 0) "_post") tNil)))) rfl sc_Folk_init.nd (pi_range1 rfl T.b_range (pa_cons (pv 1) pa_nil)) (blkOk_by (own := [("hand", 3)]) (N := ["self", "many", "first", "hand", "members", "member"]) (sc := defScope s_Folk_init) (by decide +kernel)) (fun _ _ _ _ _ => (pg_name (i := 3) sc_Folk_init.nd rfl (Or.inl rfl))) (fun _ _ _ _ _ => pts_nil) (fun _ _ _ _ _ => (pe_make T.mk_Hand G_Hand_init.1 (hr.mono (by decide)) rfl T.g_Hand G_Hand_init.2.1 .nil pass0 (pa_cons (pv 3) (pa_cons (pe_fld (pv 0) rfl) pa_nil))))) rfl) (pss_cons (ps_set (i := 4) sc_Folk_init.nd rfl (Or.inl rfl) (pe_callTy (T := "list") call_list_of (by rfl) T.b_list (by decide +kernel) (pa_cons (pv 2) pa_nil))) (pss_one (ps_for (passes_of rfl) rfl (pi_list (pv 4)) (pg_name (i := 5) sc_Folk_init.nd rfl (Or.inl rfl)) (pss_one (ps_expr (pe_meth (pe_ix ix_list (pe_fld (pv 0) rfl) (pv 5) (fun _ _ => rfl)) T.cl_Hand T.me_Hand_sit G_Hand_sit.1 (hr.mono (by decide)) G_Hand_sit.2.1 .nil pass0 (pa_cons pe_int (pa_cons (pv 4) (pa_cons pe_non pa_nil)))))))))))))), ?_⟩
    obtain ⟨p, dx, mv, fv, ml, rfl, hp, hm, hl, q⟩ := h
    refine ⟨_, rfl, mv, rfl, hm, _, rfl, ?_⟩
    have bad : Flk.make mv ml = .error "BadHand" → E (.ref (He.ga K "BadHand")) none H := fun e => by
      rw [e] at q
      exact q
    cases mv with
    | int m =>
      refine iteF ⟨_, rfl, _, _, rfl, rfl, _, rfl, ?_⟩
      by_cases h0 : m < 1
      · rw [decide_eq_true h0]
        exact iteT (iteT (bad (by show (if 1 ≤ m ∧ m ≤ 9 then _ else _) = _; rw [if_neg (by omega)])))
      rw [decide_eq_false h0]
      refine iteF ⟨_, rfl, _, _, rfl, rfl, _, rfl, ?_⟩
      by_cases h9 : m > 9
      · rw [decide_eq_true h9]
        exact iteT (bad (by show (if 1 ≤ m ∧ m ≤ 9 then _ else _) = _; rw [if_neg (by omega)]))
      rw [decide_eq_false h9]
      have hm2 : Flk.make (.int m) ml = firstIs m.toNat ml := by
        show (if 1 ≤ m ∧ m ≤ 9 then _ else _) = _
        rw [if_pos (by omega)]
      rw [hm2] at q
      refine iteF ⟨_, rfl, _, rfl, ?_⟩
      dsimp only [tNil]
      have hli := hl m rfl (by omega) (by omega)
      refine isList_of hli ⟨_, rfl, ?_⟩
      cases ml with
      | none => exact iteT q
      | some ms =>
        have q2 : ∀ g H' L, Kp p H g H' → FolkR K g H' p (Flk.new m.toNat ms) L → Q .non H' := q
        obtain ⟨fa, rfl, hfa, hB⟩ := hli
        obtain ⟨hne, hms, hup⟩ := isListB_up hB
        have hpf : fa ≠ p := fun z => by rw [z, hp] at hfa; cases hfa
        refine iteF ⟨_, rfl, _, rfl, p, _, dx, _, rfl, hp, T.cl_Folk, T.na_Folk_many, (by show 0 < 1000; decide), Nat.zero_le _, fun pa hpa => ?_⟩
        have n1 : pa ≠ p := fun e => by rw [e, upd_same] at hpa; cases hpa
        have hpa' : H pa = none := by rw [upd_ne n1] at hpa; exact hpa
        refine ⟨_, rfl, p, _, dx, _, rfl, (by rw [upd_ne n1.symm, upd_same]), T.cl_Folk, T.na_Folk__post, lt1000 pl1, ?_⟩
        rw [upd_over n1, show putF "_post" (V.ref pa) (putF "many" (V.int m) []) = folkK.zip [.int m, .ref pa] by
          rw [show ([] : List (Str × V)) = folkK.zip [] from rfl, zq folkK_nd (k := "many") rfl, zq folkK_nd (k := "_post") rfl]; rfl]
        have e1 : Go TPost ⟨fun _ => none, fun _ => none⟩ H _ (upd H pa (.lst [])) := Go.newO (Kp.start p H).ok hpa' rfl
        have k1 := (Kp.start p H).go e1
        have kA : Kp p H _ (upd (upd H pa (.lst [])) p (.ins (He.ga K "Folk") dx (folkK.zip [.int m, .ref pa]))) := k1.mine (.inl rfl) rfl (addO_ne n1.symm)
        have hAo : (Gh.addO ⟨fun _ => none, fun _ => none⟩ pa Tag.post).own p = none := addO_ne n1.symm
        have hAp : (upd (upd H pa (.lst [])) p (.ins (He.ga K "Folk") dx (folkK.zip [.int m, .ref pa]))) p = some (.ins (He.ga K "Folk") dx (folkK.zip [.int m, .ref pa])) := upd_same
        have pA : PostR K (Gh.addO ⟨fun _ => none, fun _ => none⟩ pa .post) (upd (upd H pa (.lst [])) p (.ins (He.ga K "Folk") dx (folkK.zip [.int m, .ref pa]))) pa [] [] := ⟨addO_same, by rw [upd_ne n1, upd_same]; rfl, .nil⟩
        have hAD : (Gh.addO ⟨fun _ => none, fun _ => none⟩ pa Tag.post).D = fun _ => none := rfl
        generalize Gh.addO ⟨fun _ => none, fun _ => none⟩ pa Tag.post = gA at *
        generalize upd (upd H pa (.lst [])) p (.ins (He.ga K "Folk") dx (folkK.zip [.int m, .ref pa])) = HA at *
        refine ⟨_, rfl, m, rfl, by omega, by omega, fun D hD => ?_⟩
        refine lc_range (lo := 0) (n := m.toNat) (fun j H1 => ∃ g hs, hs.length = j ∧ Making K p dx pa D H [.int m, .ref pa] g H1 hs (List.replicate j Hnd.new)) ?_ ?_ ?_
        · have x : Go (fun _ => False) gA HA gA (upd HA D (.lst [])) := Go.ext kA.ok (same_upd hD)
          exact ⟨gA, [], rfl, kA.go x, x.keep hAp hAo, hAo, by rw [hAD], upd_same, kA.ok.onone hD, by rw [hAD], pA.go x (fun z => z), ⟨rfl, fun i a h h1 _ => nomatch h1⟩⟩
        · rintro j H1 hj ⟨g, hs, hsl, M⟩
          have mo := M.obj
          refine ⟨rfl, _, rfl, _, rfl, _, _, _, _, _, rfl, mo, T.cl_Folk, T.na_Folk__post, zl folkK_nd (i := 1) rfl rfl, fun x dx2 hx hdx hne2 => ?_⟩
          refine ⟨x, dx2, _, _, rfl, upd_same, fun bh hbh hb2 => ⟨rfl, ?_⟩⟩
          obtain ⟨g2, hL, e2, rh⟩ := hand_new (pa := pa) (i := j) M.kp.ok hx hdx hne2 hbh
          have hj0 : V.int (0 + (j : Int)) = V.int j := by rw [Int.zero_add]
          rw [hj0]
          generalize (upd (upd (upd (upd H1 dx2 (HO.own x)) x (.ins (He.ga K "Hand") dx2 [])) bh (.lst [])) x (.ins (He.ga K "Hand") dx2 (handK.zip [.int j, .ref pa, .bl true, .int 0, .int (-1), .ref bh, .non]))) = H2 at *
          have w := M.hands.snoc hsl e2 rh
          have HD2 := e2.keep M.lst M.lo
          have DO2 := e2.free M.lst M.lo
          have DD2 := e2.notD M.lst M.lD
          have hDp : D ≠ p := fun z => by have := M.lst; rw [z, M.obj] at this; cases this
          refine ⟨_, HD2, Nat.lt_of_le_of_lt (show _ ≤ 1000 by rw [List.length_map]; omega) (by decide), g2, hs ++ [x], by rw [List.length_append, hsl]; rfl, ?_⟩
          have k2 := M.kp.go e2
          have ch : ∀ b t, g2.own b = some t → upd H2 D (.lst (hs.map V.ref ++ [V.ref x])) b = H2 b := fun b t h => upd_ne fun z => by rw [z, DO2] at h; cases h
          have hH0 : H D = none := by
            cases y : H D with
            | none => rfl
            | some o =>
              have h1 := (kA.old D o hDp y).1
              rw [hD] at h1; cases h1
          refine ⟨k2.mine (.inr hH0) DD2 DO2, ?_, e2.free M.obj M.po, e2.notD M.obj M.pD, by rw [upd_same, List.map_append]; rfl, DO2, DD2, (M.post.go e2 (fun z => z)).mv (fun _ _ z => z) (Same.refl _) ch, ?_⟩
          · rw [upd_ne hDp.symm]
            exact e2.keep M.obj M.po
          · rw [List.replicate_succ']
            exact w.mv (fun _ _ z => z) (Same.refl _) ch
        · rintro H2 ⟨g, hs, hsl, M⟩
          refine ⟨_, rfl, p, _, dx, _, rfl, M.obj, T.cl_Folk, T.na_Folk__hands, lt1000 (zle (ks := folkK)), ?_⟩
          rw [show putF "_hands" (V.ref D) (folkK.zip [.int m, .ref pa]) = folkK.zip [.int m, .ref pa, .ref D] from zq folkK_nd (k := "_hands") rfl]
          have hDp : D ≠ p := fun z => by have := M.lst; rw [z, M.obj] at this; cases this
          have ch : ∀ b t, g.own b = some t → upd H2 p (.ins (He.ga K "Folk") dx (folkK.zip [.int m, .ref pa, .ref D])) b = H2 b := fun b t h => upd_ne fun z => by rw [z, M.po] at h; cases h
          have M2 : Making K p dx pa D H [.int m, .ref pa, .ref D] g (upd H2 p (.ins (He.ga K "Folk") dx (folkK.zip [.int m, .ref pa, .ref D]))) hs (seated m.toNat ms []) :=
            ⟨M.kp.mine (.inl rfl) M.pD M.po, upd_same, M.po, M.pD, by rw [upd_ne hDp]; exact M.lst, M.lo, M.lD, M.post.mv (fun _ _ z => z) (Same.refl _) ch, by rw [seated_nil]; exact M.hands.mv (fun _ _ z => z) (Same.refl _) ch⟩
          generalize upd H2 p (.ins (He.ga K "Folk") dx (folkK.zip [.int m, .ref pa, .ref D])) = H3 at *
          have hfa3 := (M2.kp.old fa _ hpf hfa).1
          refine ⟨_, rfl, fa, _, rfl, .inl (SqL.of hfa3), fun l hl3 => ?_⟩
          have e4 : Go (fun _ => False) g H3 (g.addD l (.lst (ms.map V.int))) (upd H3 l (.lst (ms.map V.int))) := Go.newD M2.kp.ok hl3
          have M4 := M2.go e4 (fun z => z) (M2.hands.mv e4.own e4.D (fun b t h => by
            cases y : H3 b with
            | none => exact absurd y (M2.kp.ok.liv b t h)
            | some o => exact e4.stay y h (fun z => z)))
          have hl4 : (g.addD l (.lst (ms.map V.int))).D l = some (.lst (ms.map V.int)) := by show upd g.D l _ l = _; exact upd_same
          generalize g.addD l (.lst (ms.map V.int)) = g4 at *
          generalize upd H3 l (.lst (ms.map V.int)) = H4 at *
          refine ⟨_, rfl, l, rfl, ⟨_, SqL.of (M4.kp.ok.sub _ _ hl4)⟩, for_list (K := K) (a := l) (xs := ms.map V.int) (fun j σ H1 => ∃ g1 v, σ = [some (.ref p), some (.int m), some (.ref fa), none, some (.ref l), v] ∧ Making K p dx pa D H [.int m, .ref pa, .ref D] g1 H1 hs (seated m.toNat ms (ms.take j)) ∧ g1.D l = some (.lst (ms.map V.int)))
            ⟨g4, none, rfl, M4, hl4⟩ (fun j σ H1 _ ⟨g1, v, _, M1, h1⟩ => SqL.of (M1.kp.ok.sub _ _ h1)) ?_ ?_⟩
          · rintro j x σ H1 hx ⟨g1, v, rfl, M1, hl1⟩
            rw [List.getElem?_map] at hx
            cases hz : ms[j]? with
            | none => rw [hz] at hx; cases hx
            | some z =>
              rw [hz] at hx
              cases hx
              have hz2 := hms z (List.mem_of_getElem? hz)
              have hzn : z.toNat < m.toNat := by omega
              have hzh : z.toNat < hs.length := by omega
              obtain ⟨a, ha⟩ : ∃ a, hs[z.toNat]? = some a := ⟨_, List.getElem?_eq_getElem hzh⟩
              have hnot : ((z.toNat : Nat) : Int) ∉ ms.take j := by
                rw [show ((z.toNat : Nat) : Int) = z by omega]
                intro w
                obtain ⟨i, hi⟩ := List.getElem?_of_mem w
                rw [List.getElem?_take] at hi
                split at hi
                · rename_i hij
                  obtain ⟨hi2, ei⟩ := List.getElem?_eq_some_iff.mp hi
                  obtain ⟨hj2, ej⟩ := List.getElem?_eq_some_iff.mp hz
                  have := List.pairwise_iff_getElem.mp hup i j hi2 hj2 hij
                  omega
                · cases hi
              obtain ⟨hL, rh⟩ := M1.hands.hand z.toNat a Hnd.new ha (by rw [seated_get ms _ hzn, if_neg hnot])
              have hml := rising_len (n := m.toNat) (fun x hx => ⟨(hms x hx).1, by have := (hms x hx).2; omega⟩) hup
              refine ⟨_, rfl, _, _, _, _, _, rfl, M1.obj, T.cl_Folk, T.na_Folk__hands, zl folkK_nd (i := 2) rfl rfl, _, rfl, D, _, _, V.ref a, rfl, rfl, SqL.of M1.lst, ?_, _, _, _, rfl, rh.obj, zn (by decide +kernel), _, rfl, g1, a, pa, z.toNat, Hnd.new, hL, 0, .ref l, .non, ms, none, rfl, M1.kp.ok, rh, ⟨l, rfl, hl1⟩, rfl, hup.imp (fun h => by omega), by omega, fun g5 H5 L5 e5 r5 => ?_⟩
              · rw [show z = ((z.toNat : Nat) : Int) by omega]
                exact atI_nat (by rw [List.getElem?_map, ha]; rfl)
              · have w := M1.hands.set ha e5 r5
                have hs2 : (seated m.toNat ms (ms.take j)).set z.toNat { Hnd.new with seat := some (Seat.fresh 0 ms none), high := 0 } = seated m.toNat ms (ms.take (j + 1)) := by
                  rw [take_succ_of hz]
                  exact seated_set hz2.1
                rw [hs2] at w
                exact ⟨g5, _, rfl, M1.go e5 (fun z => z) w, e5.D _ _ hl1⟩
          · rintro σ H1 ⟨g1, v, rfl, M1, hl1⟩
            rw [List.length_map, List.take_length] at M1
            have hDp1 : D ≠ p := hDp
            have ok1 := M1.kp.ok.addX M1.obj M1.po
            have ok2 := ok1.addX (a := D) M1.lst M1.lo
            have sm : Same g1.D ((g1.addD p (.ins (He.ga K "Folk") dx (folkK.zip [.int m, .ref pa, .ref D]))).addD D (.lst (hs.map V.ref))).D := fun b o h => by
              show upd (upd g1.D p _) D _ b = some o
              rw [upd_ne (fun z => by rw [z, M1.lD] at h; cases h), upd_ne (fun z => by rw [z, M1.pD] at h; cases h)]
              exact h
            have so : ∀ a t, g1.own a = some t → ((g1.addD p (.ins (He.ga K "Folk") dx (folkK.zip [.int m, .ref pa, .ref D]))).addD D (.lst (hs.map V.ref))).own a = some t := fun _ _ z => z
            refine q2 ((g1.addD p (.ins (He.ga K "Folk") dx (folkK.zip [.int m, .ref pa, .ref D]))).addD D (.lst (hs.map V.ref))) H1 ⟨dx, pa, D, [], hs⟩ ⟨ok2, fun b o n h => ?_⟩ ⟨ok2, ?_, ?_, ?_, ?_, fun i a h h1 h2 => ?_⟩
            · obtain ⟨w1, w2, w3⟩ := M1.kp.old b o n h
              refine ⟨w1, w2, ?_⟩
              show upd (upd g1.D p _) D _ b = none
              have bD : b ≠ D := fun z => by
                rw [z] at h
                have h1 := (kA.old D o hDp h).1
                rw [hD] at h1; cases h1
              rw [upd_ne bD, upd_ne n]
              exact w3
            · show upd (upd g1.D p _) D _ p = _
              rw [upd_ne hDp.symm, upd_same]
              have hl2 : ((Flk.new m.toNat ms).hands.length : Int) = m := by
                show ((seated m.toNat ms ms).length : Int) = m
                rw [seated_len]
                omega
              rw [hl2]
            · show upd (upd g1.D p _) D _ D = _
              rw [upd_same]
            · exact M1.post.mv so sm (fun _ _ _ => rfl)
            · show hs.length = (seated m.toNat ms ms).length
              exact M1.hands.len
            · obtain ⟨hL, w⟩ := M1.hands.hand i a h h1 h2
              exact ⟨hL, w.mv so sm (fun _ _ _ => rfl)⟩
    | _ => exact iteT (bad rfl)

end
end Fo
namespace Fo
open PySem PySem.Spec PyProof.Rows L2
section
variable {P : Program} {w : World} {K : PySem.W.Frag} {mg : Str → Option Value} {base : Heap}
/-! ### what keeps, whatever comes -/
def BalGe (s : Seat) (b : Bal) : Prop := ∃ o, s.off = some o ∧ b.1 ≤ o.bal.1 ∧ (o.bal = b → o.fwd.isSome = true)
/-- what is known of lists, of messages -/
structure Prm where
  Y : List Int → Prop
  Z : Msg → Prop
  ok : ∀ x, Z x → mOk x
structure MemOk (X : Prm) (m : Nat) (ms : List Int) : Prop where
  y : X.Y ms
  ne : ms ≠ []
  rg : ∀ x ∈ ms, 0 ≤ x ∧ x < (m : Int)
  up : ms.Pairwise (· < ·)
theorem MemOk.len {X : Prm} {m : Nat} {ms : List Int} (h : MemOk X m ms) : ms.length ≤ m := rising_len h.rg h.up
theorem MemOk.nd {X : Prm} {m : Nat} {ms : List Int} (h : MemOk X m ms) : ms.Nodup := h.up.imp fun q => by omega
structure RowOk (X : Prm) (B : Nat) (r : List Msg) : Prop where
  len : r.length ≤ B
  z : ∀ x ∈ r, X.Z x
theorem RowOk.ok {X : Prm} {B : Nat} {r : List Msg} (h : RowOk X B r) : rOk r := fun x hx => X.ok x (h.z x hx)
structure AgrOk (X : Prm) (m B : Nat) (a : Agr) : Prop where
  mem : MemOk X m a.mem
  row : RowOk X B a.row
structure NewsOk (X : Prm) (m B : Nat) (c : Int) (n : News) : Prop where
  mem : MemOk X m n.mem
  row : RowOk X B n.row
  num : n.num ≤ c
structure OffOk (X : Prm) (m B : Nat) (o : Off) : Prop where
  mem : MemOk X m o.mem
  prow : ∀ p ∈ o.proms, RowOk X B p.2.1 ∧ ∀ a, p.2.2 = some a → AgrOk X m B a
  pk : (o.proms.map (·.1)).Nodup
  pr : ∀ x ∈ o.proms.map (·.1), 0 ≤ x ∧ x < (m : Int)
  fwd : ∀ f, o.fwd = some f → MemOk X m f.1 ∧ RowOk X B f.2
  ak : o.ags.Nodup
  ar : ∀ x ∈ o.ags, 0 ≤ x ∧ x < (m : Int)
structure SeatOk (X : Prm) (m B : Nat) (c : Int) (i : Nat) (s : Seat) : Prop where
  mem : MemOk X m s.mem
  me : (i : Int) ∈ s.mem
  row : RowOk X B s.row
  hk : s.hold.map (·.1) = s.mem
  news : ∀ n, s.news = some n → NewsOk X m B c n
  agr : ∀ a, s.agr = some a → AgrOk X m B a
  off : ∀ o, s.off = some o → OffOk X m B o ∧ s.num < c
structure HandOk (X : Prm) (m B : Nat) (c : Int) (i : Nat) (h : Hnd) : Prop where
  high : h.high ≤ c
  past : (h.past.length : Int) ≤ h.high + 1
  seat : ∀ s, h.seat = some s → SeatOk X m B c i s ∧ s.num = h.high ∧ (h.past.length : Int) ≤ s.num
def ToldOk (X : Prm) (m B : Nat) (c : Int) : Told → Prop
  | .wish x => X.Z x
  | .hold x pl => X.Z x ∧ pl < B
  | .promise _ row a => RowOk X B row ∧ ∀ x, a = some x → AgrOk X m B x
  | .accept a => AgrOk X m B a
  | .enter n => NewsOk X m B c n
  | _ => True
structure LetOk (X : Prm) (m B : Nat) (c : Int) (l : Ltr) : Prop where
  to : l.to < m
  s0 : 0 ≤ l.snd
  s1 : l.snd < (m : Int)
  told : ToldOk X m B c l.told
/-- what a letter tells of its sender's seat, of its receiver's -/
def sndC (l : Ltr) (s : Seat) : Prop := match l.told with
  | .hold _ _ => (l.to : Int) ∈ s.mem
  | .accept a => BalGe s a.bal
  | _ => True
def needC (l : Ltr) : Prop := match l.told with
  | .have_ _ => True
  | .agree _ => True
  | _ => False
def toC (l : Ltr) (s : Seat) : Prop := match l.told with
  | .have_ _ => l.snd ∈ s.mem
  | .agree b => BalGe s b
  | _ => True
structure LetOn (l : Ltr) (i : Nat) (h : Hnd) : Prop where
  n1 : l.snd = i → l.num ≤ h.high
  c1 : l.snd = i → ∀ s, h.seat = some s → s.num = l.num → sndC l s
  n2 : l.to = i → needC l → l.num ≤ h.high
  c2 : l.to = i → ∀ s, h.seat = some s → s.num = l.num → toC l s
structure HStep (h h' : Hnd) : Prop where
  high : h.high ≤ h'.high
  seat : ∀ s', h'.seat = some s' → h.high < s'.num ∨ ∃ s, h.seat = some s ∧ s'.num = s.num ∧ s'.mem = s.mem ∧ ∀ b, BalGe s b → BalGe s' b
theorem LetOn.step {l : Ltr} {i : Nat} {h h' : Hnd} (o : LetOn l i h) (e : HStep h h') : LetOn l i h' where
  n1 := fun q => Int.le_trans (o.n1 q) e.high
  n2 := fun q k => Int.le_trans (o.n2 q k) e.high
  c1 := fun q s' hs hn => by
    rcases e.seat s' hs with w | ⟨s, h1, h2, h3, h4⟩
    · have := o.n1 q
      omega
    · have w := o.c1 q s h1 (h2 ▸ hn)
      unfold sndC at w ⊢
      cases ht : l.told with
      | hold a b => rw [ht] at w; exact h3 ▸ w
      | accept a => rw [ht] at w; exact h4 _ w
      | _ => trivial
  c2 := fun q s' hs hn => by
    rcases e.seat s' hs with w | ⟨s, h1, h2, h3, h4⟩
    · unfold toC
      have n := o.n2 q
      unfold needC at n
      cases ht : l.told with
      | have_ a =>
        rw [ht] at n
        have := n trivial
        omega
      | agree a =>
        rw [ht] at n
        have := n trivial
        omega
      | _ => trivial
    · have w := o.c2 q s h1 (h2 ▸ hn)
      unfold toC at w ⊢
      cases ht : l.told with
      | have_ a => rw [ht] at w; exact h3 ▸ w
      | agree a => rw [ht] at w; exact h4 _ w
      | _ => trivial
theorem HStep.refl (h : Hnd) : HStep h h := ⟨Int.le_refl _, fun s hs => .inr ⟨s, hs, rfl, rfl, fun _ q => q⟩⟩
theorem HStep.trans {h h1 h2 : Hnd} (a : HStep h h1) (b : HStep h1 h2) : HStep h h2 := ⟨Int.le_trans a.high b.high, fun s2 e2 => by
  rcases b.seat s2 e2 with w | ⟨s1, e1, n1, m1, k1⟩
  · exact .inl (Int.lt_of_le_of_lt a.high w)
  · rcases a.seat s1 e1 with w | ⟨s, e, n, m, k⟩
    · exact .inl (n1 ▸ w)
    · exact .inr ⟨s, e, n1.trans n, m1.trans m, fun q z => k1 q (k q z)⟩⟩
/-! growing bounds -/
theorem RowOk.mono {X : Prm} {B B' : Nat} {r : List Msg} (h : RowOk X B r) (e : B ≤ B') : RowOk X B' r := ⟨Nat.le_trans h.len e, h.z⟩
theorem AgrOk.mono {X : Prm} {m B B' : Nat} {a : Agr} (h : AgrOk X m B a) (e : B ≤ B') : AgrOk X m B' a := ⟨h.mem, h.row.mono e⟩
theorem NewsOk.mono {X : Prm} {m B B' : Nat} {c c' : Int} {n : News} (h : NewsOk X m B c n) (e : B ≤ B') (d : c ≤ c') : NewsOk X m B' c' n := ⟨h.mem, h.row.mono e, Int.le_trans h.num d⟩
theorem OffOk.mono {X : Prm} {m B B' : Nat} {o : Off} (h : OffOk X m B o) (e : B ≤ B') : OffOk X m B' o :=
  ⟨h.mem, fun p hp => ⟨(h.prow p hp).1.mono e, fun a ha => ((h.prow p hp).2 a ha).mono e⟩, h.pk, h.pr, fun f hf => ⟨(h.fwd f hf).1, (h.fwd f hf).2.mono e⟩, h.ak, h.ar⟩
theorem SeatOk.mono {X : Prm} {m B B' : Nat} {c c' : Int} {i : Nat} {s : Seat} (h : SeatOk X m B c i s) (e : B ≤ B') (d : c ≤ c') : SeatOk X m B' c' i s :=
  ⟨h.mem, h.me, h.row.mono e, h.hk, fun n hn => (h.news n hn).mono e d, fun a ha => (h.agr a ha).mono e, fun o ho => ⟨(h.off o ho).1.mono e, Int.lt_of_lt_of_le (h.off o ho).2 d⟩⟩
theorem HandOk.mono {X : Prm} {m B B' : Nat} {c c' : Int} {i : Nat} {h : Hnd} (r : HandOk X m B c i h) (e : B ≤ B') (d : c ≤ c') : HandOk X m B' c' i h :=
  ⟨Int.le_trans r.high d, r.past, fun s hs => ⟨(r.seat s hs).1.mono e d, (r.seat s hs).2⟩⟩
theorem LetOk.mono {X : Prm} {m B B' : Nat} {c c' : Int} {l : Ltr} (h : LetOk X m B c l) (e : B ≤ B') (d : c ≤ c') : LetOk X m B' c' l := by
  refine ⟨h.to, h.s0, h.s1, ?_⟩
  have w := h.told
  cases ht : l.told with
  | wish x => rw [ht] at w; exact w
  | hold x pl => rw [ht] at w; exact ⟨w.1, Nat.lt_of_lt_of_le w.2 e⟩
  | promise b row a => rw [ht] at w; exact ⟨w.1.mono e, fun x hx => (w.2 x hx).mono e⟩
  | accept a => rw [ht] at w; exact AgrOk.mono w e
  | enter n => rw [ht] at w; exact NewsOk.mono w e d
  | _ => trivial
/-! weights -/
def Told.wt : Told → Nat
  | .wish _ => 89 | .hold _ _ => 10 | .have_ _ => 9 | .take _ => 1 | .prepare _ => 101 | .promise _ _ _ => 100 | .accept _ => 11 | .agree _ => 10 | .enter _ => 1
def Told.wn : Told → Nat
  | .wish _ => 1 | _ => 0
def wsum (ls : List Ltr) : Nat := (ls.map fun l => l.told.wt).sum
def wcnt (ls : List Ltr) : Nat := (ls.map fun l => l.told.wn).sum
theorem wt_pos (t : Told) : 1 ≤ t.wt := by cases t <;> simp [Told.wt]
theorem wsum_app (a b : List Ltr) : wsum (a ++ b) = wsum a + wsum b := by
  unfold wsum
  rw [List.map_append, List.sum_append]
theorem wcnt_app (a b : List Ltr) : wcnt (a ++ b) = wcnt a + wcnt b := by
  unfold wcnt
  rw [List.map_append, List.sum_append]
theorem wsum_len : ∀ ls : List Ltr, ls.length ≤ wsum ls
  | [] => Nat.le_refl _
  | l :: r => by
    have h1 := wsum_len r
    have h2 := wt_pos l.told
    show r.length + 1 ≤ l.told.wt + wsum r
    omega
theorem sum_erase (g : Ltr → Nat) : ∀ (ls : List Ltr) (p : Nat) (l : Ltr), ls[p]? = some l → ((ls.eraseIdx p).map g).sum + g l = (ls.map g).sum
  | [], _, _, h => by simp at h
  | x :: r, 0, l, h => by
    simp at h
    subst h
    show (r.map g).sum + g x = g x + (r.map g).sum
    omega
  | x :: r, p + 1, l, h => by
    have := sum_erase g r p l (by simpa using h)
    show g x + ((r.eraseIdx p).map g).sum + g l = g x + (r.map g).sum
    omega
theorem mail_wsum (i : Nat) (s : Seat) (t : Told) : ∀ hs : List Int, wsum (mail i s hs t) = hs.length * t.wt
  | [] => by simp [mail, wsum]
  | x :: r => by
    show t.wt + wsum (mail i s r t) = (r.length + 1) * t.wt
    rw [mail_wsum i s t r, Nat.add_mul, Nat.one_mul, Nat.add_comm]
theorem mail_wcnt (i : Nat) (s : Seat) (t : Told) (h : t.wn = 0) : ∀ hs : List Int, wcnt (mail i s hs t) = 0
  | [] => rfl
  | x :: r => by
    show t.wn + wcnt (mail i s r t) = 0
    rw [mail_wcnt i s t h r, h]
theorem mail_mem {i : Nat} {s : Seat} {hs : List Int} {t : Told} {l : Ltr} (h : l ∈ mail i s hs t) : ∃ x ∈ hs, l = ⟨i, x.toNat, s.num, t⟩ := by
  obtain ⟨x, hx, e⟩ := List.mem_map.mp h
  exact ⟨x, hx, e.symm⟩
theorem others_lt {i : Nat} {s : Seat} (h : (i : Int) ∈ s.mem) : (s.others i).length < s.mem.length := by
  unfold Seat.others
  rw [List.length_filter_lt_length_iff_exists]
  exact ⟨_, h, by simp⟩
theorem nodup_len {m : Nat} {l : List Int} (h : l.Nodup) (r : ∀ x ∈ l, 0 ≤ x ∧ x < (m : Int)) : l.length ≤ m := by
  rw [← (sortA_perm l).length_eq]
  refine rising_len (fun x hx => r x ((sortA_perm l).mem_iff.mp hx)) ?_
  have h1 := sortA_sorted l
  have h2 : (sortA l).Nodup := (sortA_perm l).nodup_iff.mpr h
  exact (h1.and h2).imp fun ⟨a, b⟩ => by omega
theorem both_ok {X : Prm} {m : Nat} {a b : List Int} (ha : MemOk X m a) (hb : MemOk X m b) : (bothOf a b).length ≤ m ∧ ∀ x ∈ bothOf a b, 0 ≤ x ∧ x < (m : Int) := by
  have h1 : ∀ x ∈ a ++ b.filter (fun h => decide (h ∉ a)), 0 ≤ x ∧ x < (m : Int) := fun x hx => by
    rcases List.mem_append.mp hx with w | w
    · exact ha.rg x w
    · exact hb.rg x (List.mem_filter.mp w).1
  refine ⟨?_, fun x hx => h1 x ((sortA_perm _).mem_iff.mp hx)⟩
  show (sortA _).length ≤ m
  rw [(sortA_perm _).length_eq]
  refine nodup_len (List.nodup_append.mpr ⟨ha.nd, hb.nd.filter _, fun x hx y hy e => ?_⟩) h1
  have := of_decide_eq_true (List.mem_filter.mp hy).2
  exact this (e ▸ hx)

end
end Fo
namespace Fo
open PySem PySem.Spec PyProof.Rows L2
section
variable {P : Program} {w : World} {K : PySem.W.Frag} {mg : Str → Option Value} {base : Heap}
/-- what a seat's doings keep: s with bound B gives s' with B' and the letters out, where l came -/
structure Did (X : Prm) (m B' : Nat) (c : Int) (i : Nat) (l : Ltr) (s s' : Seat) (out : List Ltr) : Prop where
  ok : SeatOk X m B' c i s'
  num : s'.num = s.num
  mem : s'.mem = s.mem
  ge : ∀ b, BalGe s b → BalGe s' b
  let_ : ∀ x ∈ out, LetOk X m B' c x ∧ x.snd = i ∧ x.num = s.num
  snd : ∀ x ∈ out, sndC x s'
  to : ∀ x ∈ out, needC x → x.to = l.snd.toNat ∧ (∀ j hj, LetOn l j hj → l.snd = (j : Nat) → (∀ s2, hj.seat = some s2 → s2.num = l.num → sndC l s2) → ∀ s2, hj.seat = some s2 → s2.num = l.num → toC x s2)
  wsum : wsum out < l.told.wt
  wcnt : wcnt out = 0
theorem keys_ok {i : Nat} {s : Seat} (hk : s.hold.map (·.1) = s.mem) (me : (i : Int) ∈ s.mem) {k : Int} {n : Nat} (hm : k ∈ s.mem) : (putA k n s.hold).map (·.1) = s.mem := by
  rw [putA_keys (by rw [hk]; exact hm), hk]
theorem others_mem {s : Seat} {i : Nat} {x : Int} (h : x ∈ s.others i) : x ∈ s.mem := (List.mem_filter.mp h).1
theorem others_mul {X : Prm} {m B : Nat} {c : Int} {i : Nat} {s : Seat} (hm : m ≤ 9) (h : SeatOk X m B c i s) : (s.others i).length ≤ 8 := by
  have h1 := others_lt h.me
  have h2 := h.mem.len
  omega
/-- a mail to hands of the list -/
theorem mail_let {X : Prm} {m B : Nat} {c : Int} {i : Nat} {s : Seat} (h : SeatOk X m B c i s) {hs : List Int} (hh : ∀ x ∈ hs, 0 ≤ x ∧ x < (m : Int)) {t : Told} (ht : ToldOk X m B c t) : ∀ x ∈ mail i s hs t, LetOk X m B c x ∧ x.snd = i ∧ x.num = s.num := fun x hx => by
  obtain ⟨y, hy, rfl⟩ := mail_mem hx
  have h1 := hh y hy
  have h2 := h.mem.rg _ h.me
  exact ⟨⟨by show y.toNat < m; omega, by show (0 : Int) ≤ i; omega, h2.2, ht⟩, rfl, rfl⟩
theorem tweh_did {X : Prm} {m B : Nat} {c : Int} {i : Nat} {s : Seat} (hm : m ≤ 9) (h : SeatOk X m B c i s) : SeatOk X m B c i (s.tweh i).1 ∧ (s.tweh i).1.num = s.num ∧ (s.tweh i).1.mem = s.mem ∧ (s.tweh i).1.off = s.off ∧ (s.tweh i).1.row = s.row ∧ (∀ x ∈ (s.tweh i).2, LetOk X m B c x ∧ x.snd = i ∧ x.num = s.num ∧ ∃ n, x.told = .take n) ∧ wsum (s.tweh i).2 ≤ 8 ∧ wcnt (s.tweh i).2 = 0 := by
  have hk : (putA (i : Int) s.row.length s.hold).map (·.1) = s.mem := keys_ok h.hk h.me h.me
  show SeatOk X m B c i (if (s.note i s.row.length).most > s.took then (({ s.note i s.row.length with took := (s.note i s.row.length).most } : Seat), mail i s (s.others i) (.take (s.note i s.row.length).most)) else (s.note i s.row.length, [])).1 ∧ (if (s.note i s.row.length).most > s.took then (({ s.note i s.row.length with took := (s.note i s.row.length).most } : Seat), mail i s (s.others i) (.take (s.note i s.row.length).most)) else (s.note i s.row.length, [])).1.num = s.num ∧ (if (s.note i s.row.length).most > s.took then (({ s.note i s.row.length with took := (s.note i s.row.length).most } : Seat), mail i s (s.others i) (.take (s.note i s.row.length).most)) else (s.note i s.row.length, [])).1.mem = s.mem ∧ (if (s.note i s.row.length).most > s.took then (({ s.note i s.row.length with took := (s.note i s.row.length).most } : Seat), mail i s (s.others i) (.take (s.note i s.row.length).most)) else (s.note i s.row.length, [])).1.off = s.off ∧ (if (s.note i s.row.length).most > s.took then (({ s.note i s.row.length with took := (s.note i s.row.length).most } : Seat), mail i s (s.others i) (.take (s.note i s.row.length).most)) else (s.note i s.row.length, [])).1.row = s.row ∧ (∀ x ∈ (if (s.note i s.row.length).most > s.took then (({ s.note i s.row.length with took := (s.note i s.row.length).most } : Seat), mail i s (s.others i) (.take (s.note i s.row.length).most)) else (s.note i s.row.length, [])).2, LetOk X m B c x ∧ x.snd = i ∧ x.num = s.num ∧ ∃ n, x.told = .take n) ∧ wsum (if (s.note i s.row.length).most > s.took then (({ s.note i s.row.length with took := (s.note i s.row.length).most } : Seat), mail i s (s.others i) (.take (s.note i s.row.length).most)) else (s.note i s.row.length, [])).2 ≤ 8 ∧ wcnt (if (s.note i s.row.length).most > s.took then (({ s.note i s.row.length with took := (s.note i s.row.length).most } : Seat), mail i s (s.others i) (.take (s.note i s.row.length).most)) else (s.note i s.row.length, [])).2 = 0
  split
  · refine ⟨⟨h.mem, h.me, h.row, hk, h.news, h.agr, h.off⟩, rfl, rfl, rfl, rfl, fun x hx => ?_, ?_, mail_wcnt _ _ _ rfl _⟩
    · obtain ⟨a, b, d⟩ := mail_let h (fun y hy => h.mem.rg y (others_mem hy)) (t := .take _) trivial x hx
      obtain ⟨y, hy, rfl⟩ := mail_mem hx
      exact ⟨a, b, d, _, rfl⟩
    · rw [mail_wsum]
      have := others_mul hm h
      show _ * 1 ≤ 8
      omega
  · exact ⟨⟨h.mem, h.me, h.row, hk, h.news, h.agr, h.off⟩, rfl, rfl, rfl, rfl, (fun x hx => (nomatch hx)), Nat.zero_le 8, rfl⟩
theorem BalGe.off {s s' : Seat} (e : s'.off = s.off) {b : Bal} (h : BalGe s b) : BalGe s' b := by
  unfold BalGe at h ⊢
  rw [e]
  exact h
/-- nothing is done -/
theorem Did.none {X : Prm} {m B : Nat} {c : Int} {i : Nat} {l : Ltr} {s : Seat} (h : SeatOk X m B c i s) : Did X m B c i l s s [] :=
  ⟨h, rfl, rfl, fun _ q => q, fun x hx => (nomatch hx), fun x hx => (nomatch hx), fun x hx => (nomatch hx), wt_pos _, rfl⟩
theorem wish_did {X : Prm} {m B : Nat} {c : Int} {i : Nat} {l : Ltr} {s : Seat} {x : Msg} (hm : m ≤ 9) (h : SeatOk X m B c i s) (hl : l.told = .wish x) (ok : X.Z x) : Did X m (B + 1) c i l s (s.wish i x).1 (s.wish i x).2 := by
  have hB := h.mono (B' := B + 1) (by omega) (Int.le_refl c)
  unfold Seat.wish
  split
  · exact Did.none hB
  · have h1 : SeatOk X m (B + 1) c i { s with row := s.row ++ [x] } := ⟨h.mem, h.me, ⟨by rw [List.length_append]; have := h.row.len; show s.row.length + 1 ≤ B + 1; omega, fun y hy => by
      rcases List.mem_append.mp hy with w | w
      · exact h.row.z y w
      · rw [List.mem_singleton.mp w]; exact ok⟩, h.hk, hB.news, hB.agr, hB.off⟩
    obtain ⟨a1, a2, a3, a4, a5, a6, a7, a8⟩ := tweh_did hm h1
    generalize hr : ({ s with row := s.row ++ [x] } : Seat).tweh i = r at *
    have hmail := mail_let hB (hs := s.others i) (fun y hy => h.mem.rg y (others_mem hy)) (t := .hold x s.row.length) ⟨ok, by have := h.row.len; omega⟩
    refine ⟨a1, a2, a3, fun b q => q.off a4, fun y hy => ?_, fun y hy => ?_, fun y hy n => ?_, ?_, ?_⟩
    · rcases List.mem_append.mp hy with w | w
      · exact hmail y w
      · exact ⟨(a6 y w).1, (a6 y w).2.1, (a6 y w).2.2.1⟩
    · rcases List.mem_append.mp hy with w | w
      · obtain ⟨z, hz, rfl⟩ := mail_mem w
        show ((z.toNat : Nat) : Int) ∈ r.1.mem
        rw [a3]
        have := (h.mem.rg z (others_mem hz)).1
        rw [show ((z.toNat : Nat) : Int) = z by omega]
        exact others_mem hz
      · obtain ⟨_, _, _, n, e⟩ := a6 y w
        unfold sndC
        rw [e]
        trivial
    · rcases List.mem_append.mp hy with w | w
      · obtain ⟨z, hz, rfl⟩ := mail_mem w
        exact n.elim
      · obtain ⟨_, _, _, k, e⟩ := a6 y w
        unfold needC at n
        rw [e] at n
        exact n.elim
    · show wsum (_ ++ r.2) < _
      rw [wsum_app, mail_wsum, hl]
      have := others_mul hm h
      show _ * 10 + _ < 89
      omega
    · show wcnt (_ ++ r.2) = 0
      rw [wcnt_app, mail_wcnt _ _ _ rfl, a8]
/-- one letter back to the sender -/
theorem back_let {X : Prm} {m B : Nat} {c : Int} {i : Nat} {l : Ltr} {s : Seat} (h : SeatOk X m B c i s) (hl : LetOk X m B c l) {t : Told} (ht : ToldOk X m B c t) : ∀ x ∈ [(⟨i, l.snd.toNat, s.num, t⟩ : Ltr)], LetOk X m B c x ∧ x.snd = i ∧ x.num = s.num := fun x hx => by
  rw [List.mem_singleton.mp hx]
  have h1 := hl.s0
  have h2 := hl.s1
  have h3 := h.mem.rg _ h.me
  exact ⟨⟨by show l.snd.toNat < m; omega, by show (0 : Int) ≤ i; omega, h3.2, ht⟩, rfl, rfl⟩
theorem hold_did {X : Prm} {m B : Nat} {c : Int} {i : Nat} {l : Ltr} {s : Seat} {x : Msg} {pl : Nat} (h : SeatOk X m B c i s) (hl : LetOk X m B c l) (ht : l.told = .hold x pl) (hto : l.to = i) : Did X m B c i l s (s.holdC i l.snd x pl).1 (s.holdC i l.snd x pl).2 := by
  have w := hl.told
  rw [ht] at w
  obtain ⟨w1, w2⟩ := w
  unfold Seat.holdC
  split
  · exact Did.none h
  · have h1 : SeatOk X m B c i (if pl = s.row.length then { s with row := s.row ++ [x] } else s) := by
      split
      · rename_i e
        refine ⟨h.mem, h.me, ⟨by rw [List.length_append]; show s.row.length + 1 ≤ B; omega, fun y hy => ?_⟩, h.hk, h.news, h.agr, h.off⟩
        rcases List.mem_append.mp hy with w | w
        · exact h.row.z y w
        · rw [List.mem_singleton.mp w]; exact w1
      · exact h
    have e1 : (if pl = s.row.length then { s with row := s.row ++ [x] } else s).num = s.num := by split <;> rfl
    have e2 : (if pl = s.row.length then { s with row := s.row ++ [x] } else s).mem = s.mem := by split <;> rfl
    have e3 : (if pl = s.row.length then { s with row := s.row ++ [x] } else s).off = s.off := by split <;> rfl
    refine ⟨h1, e1, e2, fun b q => q.off e3, back_let h hl (t := .have_ _) trivial, fun y hy => ?_, fun y hy n => ?_, ?_, rfl⟩
    · rw [List.mem_singleton.mp hy]; trivial
    · rw [List.mem_singleton.mp hy]
      refine ⟨rfl, fun j hj _ _ sn s2 e2 n2 => ?_⟩
      have := sn s2 e2 n2
      unfold sndC at this
      rw [ht] at this
      show (i : Int) ∈ s2.mem
      rw [← hto]
      exact this
    · rw [ht]
      show 9 + 0 < 10
      omega
theorem have_did {X : Prm} {m B : Nat} {c : Int} {i : Nat} {l : Ltr} {s : Seat} {n : Nat} (hm : m ≤ 9) (h : SeatOk X m B c i s) (ht : l.told = .have_ n) (hs : l.snd ∈ s.mem) : Did X m B c i l s (s.haveC i l.snd n).1 (s.haveC i l.snd n).2 := by
  unfold Seat.haveC
  have h1 : SeatOk X m B c i (s.note l.snd (max (getA l.snd 0 s.hold) n)) := ⟨h.mem, h.me, h.row, keys_ok h.hk h.me hs, h.news, h.agr, h.off⟩
  obtain ⟨a1, a2, a3, a4, a5, a6, a7, a8⟩ := tweh_did hm h1
  refine ⟨a1, a2, a3, fun b q => q.off a4, fun y hy => ⟨(a6 y hy).1, (a6 y hy).2.1, (a6 y hy).2.2.1⟩, fun y hy => ?_, fun y hy n => ?_, ?_, a8⟩
  · obtain ⟨_, _, _, k, e⟩ := a6 y hy
    unfold sndC
    rw [e]
    trivial
  · obtain ⟨_, _, _, k, e⟩ := a6 y hy
    unfold needC at n
    rw [e] at n
    exact n.elim
  · rw [ht]
    show _ < 9
    omega
theorem take_did {X : Prm} {m B : Nat} {c : Int} {i : Nat} {l : Ltr} {s : Seat} {n : Nat} (h : SeatOk X m B c i s) : Did X m B c i l s (s.takeC n) [] :=
  ⟨⟨h.mem, h.me, h.row, h.hk, h.news, h.agr, h.off⟩, rfl, rfl, fun b q => q.off rfl, fun x hx => (nomatch hx), fun x hx => (nomatch hx), fun x hx => (nomatch hx), wt_pos _, rfl⟩
theorem prep_did {X : Prm} {m B : Nat} {c : Int} {i : Nat} {l : Ltr} {s : Seat} {b : Bal} (h : SeatOk X m B c i s) (hl : LetOk X m B c l) (ht : l.told = .prepare b) : Did X m B c i l s (s.prepC i l.snd b).1 (s.prepC i l.snd b).2 := by
  unfold Seat.prepC
  split
  · refine ⟨⟨h.mem, h.me, h.row, h.hk, h.news, h.agr, h.off⟩, rfl, rfl, fun b q => q.off rfl, back_let h hl (t := .promise _ _ _) ⟨h.row, h.agr⟩, fun y hy => ?_, fun y hy n => ?_, ?_, rfl⟩
    · rw [List.mem_singleton.mp hy]; trivial
    · rw [List.mem_singleton.mp hy] at n; exact n.elim
    · rw [ht]
      show 100 + 0 < 101
      omega
  · exact Did.none h
theorem acc_did {X : Prm} {m B : Nat} {c : Int} {i : Nat} {l : Ltr} {s : Seat} {a : Agr} (h : SeatOk X m B c i s) (hl : LetOk X m B c l) (ht : l.told = .accept a) : Did X m B c i l s (s.accC i l.snd a).1 (s.accC i l.snd a).2 := by
  have w := hl.told
  rw [ht] at w
  unfold Seat.accC
  split
  · exact Did.none h
  · refine ⟨⟨h.mem, h.me, h.row, h.hk, h.news, fun x hx => by cases hx; exact w, h.off⟩, rfl, rfl, fun b q => q.off rfl, back_let h hl (t := .agree _) trivial, fun y hy => ?_, fun y hy n => ?_, ?_, rfl⟩
    · rw [List.mem_singleton.mp hy]; trivial
    · rw [List.mem_singleton.mp hy]
      refine ⟨rfl, fun j hj _ _ sn s2 e2 n2 => ?_⟩
      have := sn s2 e2 n2
      unfold sndC at this
      rw [ht] at this
      exact this
    · rw [ht]
      show 10 + 0 < 11
      omega
theorem bestA_of : ∀ (l : List (Int × List Msg × Option Agr)) (b : Option Agr) (a : Agr), bestA b l = some a → b = some a ∨ ∃ p ∈ l, p.2.2 = some a
  | [], b, a, h => .inl h
  | (k, r, x) :: l, b, a, h => by
    have h1 : bestA (bstep b x) l = some a := h
    rcases bestA_of l _ a h1 with w | ⟨p, hp, e⟩
    · unfold bstep at w
      cases x with
      | none =>
        cases b with
        | none => cases w
        | some y => exact .inl w
      | some y =>
        cases b with
        | none => exact .inr ⟨_, List.mem_cons_self, w⟩
        | some z =>
          have w1 : (if Bal.lt z.bal y.bal = true then some y else some z) = some a := w
          split at w1
          · exact .inr ⟨_, List.mem_cons_self, w1⟩
          · exact .inl w1
    · exact .inr ⟨p, List.mem_cons_of_mem _ hp, e⟩
theorem longV_of : ∀ (xss : List (List Msg)) (b : List Msg), longV b xss = b ∨ longV b xss ∈ xss
  | [], _ => .inl rfl
  | r :: xss, b => by
    show longV (if r.length > b.length then r else b) xss = b ∨ _
    split
    · rcases longV_of xss r with w | w
      · exact .inr (by rw [show longV b (r :: xss) = longV (if r.length > b.length then r else b) xss from rfl]; rename_i h; rw [if_pos h, w]; exact List.mem_cons_self)
      · exact .inr (by rw [show longV b (r :: xss) = longV (if r.length > b.length then r else b) xss from rfl]; rename_i h; rw [if_pos h]; exact List.mem_cons_of_mem _ w)
    · rcases longV_of xss b with w | w
      · exact .inl w
      · exact .inr (by rw [show longV b (r :: xss) = longV (if r.length > b.length then r else b) xss from rfl]; rename_i h; rw [if_neg h]; exact List.mem_cons_of_mem _ w)
theorem forward_ok {X : Prm} {m B : Nat} {o : Off} (h : OffOk X m B o) : MemOk X m o.forward.1 ∧ RowOk X B o.forward.2 := by
  unfold Off.forward
  cases hb : bestA none o.proms with
  | some a =>
    rcases bestA_of _ _ _ hb with w | ⟨p, hp, e⟩
    · cases w
    · have := (h.prow p hp).2 a e
      exact ⟨this.mem, this.row⟩
  | none =>
    refine ⟨h.mem, ?_⟩
    show RowOk X B (longV [] (o.proms.map fun p => p.2.1))
    rcases longV_of (o.proms.map fun p => p.2.1) [] with w | w
    · rw [w]
      exact ⟨Nat.zero_le _, fun x hx => (nomatch hx)⟩
    · obtain ⟨p, hp, e⟩ := List.mem_map.mp w
      rw [← e]
      exact (h.prow p hp).1
theorem BalGe.off2 {s s' : Seat} {o o' : Off} (h1 : s.off = some o) (h2 : s'.off = some o') (e : o'.bal = o.bal) (k : o.fwd.isSome = true → o'.fwd.isSome = true) {b : Bal} (h : BalGe s b) : BalGe s' b := by
  obtain ⟨x, hx, q1, q2⟩ := h
  rw [h1] at hx
  cases hx
  exact ⟨o', h2, e ▸ q1, fun z => k (q2 (e ▸ z))⟩
theorem prom_did {X : Prm} {m B : Nat} {c : Int} {i : Nat} {l : Ltr} {s : Seat} {b : Bal} {row : List Msg} {a : Option Agr} (hm : m ≤ 9) (h : SeatOk X m B c i s) (hl : LetOk X m B c l) (ht : l.told = .promise b row a) : Did X m B c i l s (s.promC i l.snd b row a).1 (s.promC i l.snd b row a).2 := by
  have w := hl.told
  rw [ht] at w
  unfold Seat.promC
  cases ho : s.off with
  | none => exact Did.none h
  | some o =>
    obtain ⟨oo, on⟩ := h.off o ho
    show Did X m B c i l s (if o.bal ≠ b ∨ l.snd ∈ o.proms.map (·.1) then (s, []) else _).1 (if o.bal ≠ b ∨ l.snd ∈ o.proms.map (·.1) then (s, []) else _).2
    split
    · exact Did.none h
    · rename_i hc
      have hb : o.bal = b := Decidable.byContradiction fun z => hc (.inl z)
      have hn : l.snd ∉ o.proms.map (·.1) := fun z => hc (.inr z)
      have o1 : OffOk X m B { o with proms := o.proms ++ [(l.snd, row, a)] } := by
        refine ⟨oo.mem, fun p hp => ?_, ?_, fun x hx => ?_, oo.fwd, oo.ak, oo.ar⟩
        · rcases List.mem_append.mp hp with z | z
          · exact oo.prow p z
          · rw [List.mem_singleton.mp z]; exact w
        · rw [List.map_append]
          refine List.nodup_append.mpr ⟨oo.pk, List.pairwise_singleton _ _, fun x hx y hy e => ?_⟩
          rw [List.mem_singleton.mp hy] at e
          have e' : x = l.snd := e
          rw [e'] at hx
          exact hn hx
        · rw [List.map_append] at hx
          rcases List.mem_append.mp hx with z | z
          · exact oo.pr x z
          · rw [List.mem_singleton.mp z]; exact ⟨hl.s0, hl.s1⟩
      dsimp only
      split
      · have fw := forward_ok o1
        refine ⟨⟨h.mem, h.me, h.row, h.hk, h.news, h.agr, fun x hx => ?_⟩, rfl, rfl, fun b' q => q.off2 (o' := { o with proms := o.proms ++ [(l.snd, row, a)], fwd := some (Off.forward { o with proms := o.proms ++ [(l.snd, row, a)] }) }) ho rfl rfl (fun _ => rfl), mail_let h (fun y hy => h.mem.rg y hy) (t := .accept _) ⟨fw.1, fw.2⟩, fun y hy => ?_, fun y hy n => ?_, ?_, mail_wcnt _ _ _ rfl _⟩
        · cases hx
          exact ⟨⟨o1.mem, o1.prow, o1.pk, o1.pr, fun f hf => by cases hf; exact fw, o1.ak, o1.ar⟩, on⟩
        · obtain ⟨z, hz, rfl⟩ := mail_mem hy
          exact ⟨_, rfl, by rw [← hb]; exact Int.le_refl _, fun _ => rfl⟩
        · obtain ⟨z, hz, rfl⟩ := mail_mem hy
          exact n.elim
        · rw [mail_wsum, ht]
          have := h.mem.len
          show _ * 11 < 100
          omega
      · refine ⟨⟨h.mem, h.me, h.row, h.hk, h.news, h.agr, fun x hx => ?_⟩, rfl, rfl, fun b' q => q.off2 (o' := { o with proms := o.proms ++ [(l.snd, row, a)] }) ho rfl rfl (fun z => z), fun x hx => (nomatch hx), fun x hx => (nomatch hx), fun x hx => (nomatch hx), wt_pos _, rfl⟩
        cases hx
        exact ⟨o1, on⟩
theorem agr_did {X : Prm} {m B : Nat} {c : Int} {i : Nat} {l : Ltr} {s : Seat} {b : Bal} (hm : m ≤ 9) (h : SeatOk X m B c i s) (hl : LetOk X m B c l) (ht : l.told = .agree b) (hg : BalGe s b) : Did X m B c i l s (s.agrC i l.snd b).1 (s.agrC i l.snd b).2 := by
  unfold Seat.agrC
  cases ho : s.off with
  | none => exact Did.none h
  | some o =>
    obtain ⟨oo, on⟩ := h.off o ho
    show Did X m B c i l s (if o.bal ≠ b ∨ l.snd ∈ o.ags then (s, []) else _).1 (if o.bal ≠ b ∨ l.snd ∈ o.ags then (s, []) else _).2
    split
    · exact Did.none h
    · rename_i hc
      have hb : o.bal = b := Decidable.byContradiction fun z => hc (.inl z)
      have hn : l.snd ∉ o.ags := fun z => hc (.inr z)
      obtain ⟨o', e', _, hf⟩ := hg
      rw [ho] at e'
      cases e'
      obtain ⟨f, hf⟩ := Option.isSome_iff_exists.mp (hf hb)
      obtain ⟨f1, f2⟩ := oo.fwd f hf
      have o1 : OffOk X m B { o with ags := o.ags ++ [l.snd] } := by
        refine ⟨oo.mem, oo.prow, oo.pk, oo.pr, oo.fwd, ?_, fun x hx => ?_⟩
        · refine List.nodup_append.mpr ⟨oo.ak, List.pairwise_singleton _ _, fun x hx y hy e => ?_⟩
          rw [List.mem_singleton.mp hy] at e
          have e' : x = l.snd := e
          rw [e'] at hx
          exact hn hx
        · rcases List.mem_append.mp hx with z | z
          · exact oo.ar x z
          · rw [List.mem_singleton.mp z]; exact ⟨hl.s0, hl.s1⟩
      have k1 : SeatOk X m B c i { s with off := some { o with ags := o.ags ++ [l.snd] } } := ⟨h.mem, h.me, h.row, h.hk, h.news, h.agr, fun x hx => by cases hx; exact ⟨o1, on⟩⟩
      dsimp only
      split
      · rw [show o.fwd.getD ([], []) = f by rw [hf]; rfl]
        obtain ⟨g1, g2⟩ := both_ok h.mem f1
        refine ⟨k1, rfl, rfl, fun b' q => q.off2 (o' := { o with ags := o.ags ++ [l.snd] }) ho rfl rfl (fun z => z), mail_let h g2 (t := .enter _) ⟨f1, f2, by show s.num + 1 ≤ c; omega⟩, fun y hy => ?_, fun y hy n => ?_, ?_, mail_wcnt _ _ _ rfl _⟩
        · obtain ⟨z, hz, rfl⟩ := mail_mem hy
          trivial
        · obtain ⟨z, hz, rfl⟩ := mail_mem hy
          exact n.elim
        · rw [mail_wsum, ht]
          show _ * 1 < 10
          have : (bothOf s.mem f.1).length ≤ m := g1
          omega
      · exact ⟨k1, rfl, rfl, fun b' q => q.off2 (o' := { o with ags := o.ags ++ [l.snd] }) ho rfl rfl (fun z => z), fun x hx => (nomatch hx), fun x hx => (nomatch hx), fun x hx => (nomatch hx), wt_pos _, rfl⟩

end
end Fo
namespace Fo
open PySem PySem.Spec PyProof.Rows L2
section
variable {P : Program} {w : World} {K : PySem.W.Frag} {mg : Str → Option Value} {base : Heap}
theorem read_did {X : Prm} {m B : Nat} {c : Int} {i : Nat} {l : Ltr} {s : Seat} (hm : m ≤ 9) (h : SeatOk X m B c i s) (hl : LetOk X m B c l) (hto : l.to = i) (c2 : toC l s) : Did X m (B + l.told.wn) c i l s (s.read i l).1 (s.read i l).2 := by
  have w := hl.told
  unfold toC at c2
  unfold Seat.read
  cases ht : l.told with
  | wish x => rw [ht] at w; exact wish_did hm h ht w
  | hold x pl => exact hold_did h hl ht hto
  | have_ n => rw [ht] at c2; exact have_did hm h ht c2
  | take n => exact take_did h
  | prepare b => exact prep_did h hl ht
  | promise b row a => exact prom_did hm h hl ht
  | accept a => exact acc_did h hl ht
  | agree b => rw [ht] at c2; exact agr_did hm h hl ht c2
  | enter n => exact Did.none h
theorem fresh_ok {X : Prm} {m B : Nat} {c : Int} {i : Nat} {n : Int} {ms : List Int} {nw : Option News} (hm : MemOk X m ms) (me : (i : Int) ∈ ms) (hn : ∀ x, nw = some x → NewsOk X m B c x) : SeatOk X m B c i (Seat.fresh n ms nw) := by
  refine ⟨hm, me, ⟨Nat.zero_le _, fun x hx => (nomatch hx)⟩, ?_, hn, fun a ha => (nomatch ha), fun o ho => (nomatch ho)⟩
  show (ms.map fun h => (h, 0)).map (·.1) = ms
  rw [List.map_map]
  exact (List.map_congr_left fun _ _ => rfl).trans (List.map_id ms)
theorem join_ok {X : Prm} {m B : Nat} {c : Int} {i : Nat} {h : Hnd} {n : News} (r : HandOk X m B c i h) (hs : h.seat = none) (hn : NewsOk X m B c n) : HandOk X m B c i (h.join i n) ∧ HStep h (h.join i n) := by
  unfold Hnd.join
  split
  · rename_i q
    have hp := r.past
    refine ⟨⟨hn.num, by show (h.past.length : Int) ≤ n.num + 1; omega, fun s e => ?_⟩, ⟨by show h.high ≤ n.num; omega, fun s e => ?_⟩⟩
    · cases e
      exact ⟨fresh_ok hn.mem q.1 (fun x hx => by cases hx; exact hn), rfl, by show (h.past.length : Int) ≤ n.num; omega⟩
    · cases e
      exact .inl q.2
  · exact ⟨r, HStep.refl h⟩
theorem enter_ok {X : Prm} {m B : Nat} {c : Int} {i : Nat} {h : Hnd} {n : News} (r : HandOk X m B c i h) (hn : NewsOk X m B c n) : HandOk X m B c i (h.enterC i n) ∧ HStep h (h.enterC i n) := by
  unfold Hnd.enterC
  cases hs : h.seat with
  | none => exact join_ok r hs hn
  | some s =>
    show HandOk X m B c i (if s.num ≠ n.num - 1 then h else _) ∧ HStep h (if s.num ≠ n.num - 1 then h else _)
    split
    · exact ⟨r, HStep.refl h⟩
    · obtain ⟨a1, a2, a3⟩ := r.seat s hs
      have r1 : HandOk X m B c i { h with past := h.past ++ [(s.num, s.mem, n.row)], seat := none } := ⟨r.high, by
        show ((h.past ++ [(s.num, s.mem, n.row)]).length : Int) ≤ h.high + 1
        rw [List.length_append]
        show ((h.past.length + 1 : Nat) : Int) ≤ h.high + 1
        omega, fun s e => (nomatch e)⟩
      obtain ⟨b1, b2⟩ := join_ok r1 rfl hn
      have st : HStep h { h with past := h.past ++ [(s.num, s.mem, n.row)], seat := none } := ⟨Int.le_refl _, fun s e => by cases e⟩
      exact ⟨b1, st.trans b2⟩
theorem toC_plain {x : Ltr} (h : ¬ needC x) (s : Seat) : toC x s := by
  unfold needC at h
  unfold toC
  cases ht : x.told with
  | have_ n => rw [ht] at h; exact absurd trivial h
  | agree n => rw [ht] at h; exact absurd trivial h
  | _ => trivial
structure OverOk (X : Prm) (m B : Nat) (c : Int) (i : Nat) (l : Ltr) (h h' : Hnd) (out : List Ltr) : Prop where
  hand : HandOk X m B c i h'
  step : HStep h h'
  wsum : wsum out < l.told.wt
  wcnt : wcnt out = 0
  out : ∀ x ∈ out, LetOk X m B c x ∧ ∀ j hj, LetOn l j hj → (j = i → hj = h') → LetOn x j hj
theorem OverOk.same {X : Prm} {m B : Nat} {c : Int} {i : Nat} {l : Ltr} {h : Hnd} (r : HandOk X m B c i h) : OverOk X m B c i l h h [] := ⟨r, HStep.refl h, wt_pos _, rfl, fun x hx => (nomatch hx)⟩
theorem over_ok {X : Prm} {m B : Nat} {c : Int} {i : Nat} {l : Ltr} {h : Hnd} (hm : m ≤ 9) (r : HandOk X m B c i h) (hl : LetOk X m B c l) (hto : l.to = i) (ho : LetOn l i h) : OverOk X m (B + l.told.wn) c i l h (h.over i l).1 (h.over i l).2 := by
  have rB := r.mono (B' := B + l.told.wn) (Nat.le_add_right _ _) (Int.le_refl c)
  unfold Hnd.over
  split
  · exact OverOk.same rB
  · have main : OverOk X m (B + l.told.wn) c i l h (match h.seat with | none => (h, ([] : List Ltr)) | some s => if s.num = l.num then (({ h with seat := some (s.read i l).1 } : Hnd), (s.read i l).2) else (h, [])).1 (match h.seat with | none => (h, ([] : List Ltr)) | some s => if s.num = l.num then (({ h with seat := some (s.read i l).1 } : Hnd), (s.read i l).2) else (h, [])).2 := by
      cases hs : h.seat with
      | none => exact OverOk.same rB
      | some s =>
        dsimp only
        split
        · rename_i hn
          obtain ⟨a1, a2, a3⟩ := r.seat s hs
          have d := read_did hm a1 hl hto (ho.c2 hto s hs hn)
          have dn := d.num
          refine ⟨⟨rB.high, rB.past, fun s2 e => ?_⟩, ⟨Int.le_refl _, fun s2 e => ?_⟩, d.wsum, d.wcnt, fun x hx => ?_⟩
          · cases e
            exact ⟨d.ok, dn.trans a2, by rw [dn]; exact a3⟩
          · cases e
            exact .inr ⟨s, hs, dn, d.mem, d.ge⟩
          · obtain ⟨x1, x2, x3⟩ := d.let_ x hx
            refine ⟨x1, fun j hj lo he => ?_⟩
            have hi : x.snd = (j : Nat) → j = i := fun e => by rw [x2] at e; omega
            refine ⟨fun e => ?_, fun e s2 e2 n2 => ?_, fun e nd => ?_, fun e s2 e2 n2 => ?_⟩
            · rw [he (hi e)]
              show x.num ≤ h.high
              omega
            · rw [he (hi e)] at e2
              cases e2
              exact d.snd x hx
            · obtain ⟨t1, _⟩ := d.to x hx nd
              have h0 := hl.s0
              have := lo.n1 (by omega)
              omega
            · by_cases nd : needC x
              · obtain ⟨t1, t2⟩ := d.to x hx nd
                have h0 := hl.s0
                have lj : l.snd = (j : Nat) := by omega
                exact t2 j hj lo lj (fun s3 e3 n3 => lo.c1 lj s3 e3 n3) s2 e2 (by omega)
              · exact toC_plain nd s2
        · exact OverOk.same rB
    have w := hl.told
    cases ht : l.told with
    | enter n =>
      rw [ht] at w
      obtain ⟨b1, b2⟩ := enter_ok r w
      exact ⟨b1, b2, by rw [ht]; show 0 < 1; decide, rfl, fun x hx => (nomatch hx)⟩
    | _ => rw [ht] at main; exact main
theorem sok_of {X : Prm} {m B : Nat} {c : Int} {i : Nat} {s : Seat} (hm : m ≤ 9) (hB : B ≤ 900) (h : SeatOk X m B c i s) : SOk i s :=
  ⟨h.me, fun x hx => (h.mem.rg x hx).1, Nat.le_trans h.mem.len hm, by have := h.row.len; omega, h.mem.nd, h.hk⟩
theorem pre_of {X : Prm} {m B : Nat} {c : Int} {i : Nat} {l : Ltr} {h : Hnd} (hm : m ≤ 9) (hB : B ≤ 900) (hc : c ≤ 90000) (r : HandOk X m B c i h) (hl : LetOk X m B c l) (hto : l.to = i) (ho : LetOn l i h) : preOver i h l := by
  intro hup
  have main : ∀ s, h.seat = some s → s.num = l.num → SOk i s ∧ rOk s.row ∧ ((∀ n, l.told ≠ .enter n) → preRead i s l) := fun s hs hn => by
    obtain ⟨a1, a2, a3⟩ := r.seat s hs
    refine ⟨sok_of hm hB a1, a1.row.ok, fun ne => ⟨by have := a1.row.len; omega, fun o hof => ?_, ?_⟩⟩
    · obtain ⟨oo, _⟩ := a1.off o hof
      have h1 := nodup_len oo.pk oo.pr
      have h2 := nodup_len oo.ak oo.ar
      rw [List.length_map] at h1
      omega
    · have w := hl.told
      have c2 := ho.c2 hto s hs hn
      unfold toC at c2
      cases ht : l.told with
      | wish x => rw [ht] at w; exact X.ok x w
      | have_ n => rw [ht] at c2; exact c2
      | agree b =>
        rw [ht] at c2
        intro o hof hb
        obtain ⟨o', e', _, k⟩ := c2
        rw [hof] at e'
        cases e'
        obtain ⟨f, hf⟩ := Option.isSome_iff_exists.mp (k hb)
        obtain ⟨f1, f2⟩ := (a1.off o hof).1.fwd f hf
        exact ⟨f, hf, f1.nd, fun x hx => (f1.rg x hx).1, Nat.le_trans f1.len hm⟩
      | enter n => exact absurd ht (ne n)
      | _ => trivial
  have w := hl.told
  cases ht : l.told with
  | enter n =>
    rw [ht] at w
    have h1 : NewsOk X m B c n := w
    refine ⟨h1.mem.nd, Nat.le_trans h1.mem.len hm, ?_⟩
    have := r.past
    have := r.high
    omega
  | _ => exact fun s hs hn => ⟨(main s hs hn).1, (main s hs hn).2.1, (main s hs hn).2.2 (fun n e => by rw [ht] at e; cases e)⟩
structure FInv (X : Prm) (m B : Nat) (c : Int) (f : Flk) : Prop where
  len : f.hands.length = m
  hands : ∀ i, i < m → HandOk X m B c i (f.hand i)
  post : ∀ l ∈ f.post, LetOk X m B c l ∧ ∀ i, i < m → LetOn l i (f.hand i)
theorem hand_set {f : Flk} {i j : Nat} {h : Hnd} {ls : List Ltr} (hi : i < f.hands.length) : (⟨f.hands.set i h, ls⟩ : Flk).hand j = if j = i then h else f.hand j := by
  unfold Flk.hand
  rw [List.getD_eq_getElem?_getD, List.getD_eq_getElem?_getD]
  show ((f.hands.set i h)[j]?).getD Hnd.new = _
  rw [List.getElem?_set]
  by_cases e : i = j
  · subst e
    rw [if_pos rfl, if_pos rfl, if_pos hi]
    rfl
  · rw [if_neg e, if_neg (fun z => e z.symm)]
theorem FInv.mono {X : Prm} {m B B' : Nat} {c c' : Int} {f : Flk} (F : FInv X m B c f) (e : B ≤ B') (d : c ≤ c') : FInv X m B' c' f :=
  ⟨F.len, fun i hi => (F.hands i hi).mono e d, fun l hl => ⟨(F.post l hl).1.mono e d, (F.post l hl).2⟩⟩
/-- one hand goes on, letters go, letters come -/
theorem FInv.deed {X : Prm} {m B B' : Nat} {c c' : Int} {f : Flk} (F : FInv X m B c f) (e : B ≤ B') (d : c ≤ c') {i : Nat} (hi : i < m) {h' : Hnd} (rh : HandOk X m B' c' i h') (st : HStep (f.hand i) h') {old out : List Ltr} (ho : ∀ x ∈ old, x ∈ f.post)
    (hx : ∀ x ∈ out, LetOk X m B' c' x ∧ ∀ j, j < m → LetOn x j (if j = i then h' else f.hand j)) : FInv X m B' c' ⟨f.hands.set i h', old ++ out⟩ := by
  have hl := F.len
  refine ⟨by rw [List.length_set]; exact hl, fun j hj => ?_, fun l hm => ?_⟩
  · rw [hand_set (by omega)]
    split
    · rename_i q
      rw [q]
      exact rh
    · exact (F.hands j hj).mono e d
  · rcases List.mem_append.mp hm with w | w
    · obtain ⟨p1, p2⟩ := F.post l (ho l w)
      refine ⟨p1.mono e d, fun j hj => ?_⟩
      rw [hand_set (by omega)]
      split
      · rename_i q
        rw [q]
        exact (p2 i hi).step st
      · exact p2 j hj
    · obtain ⟨p1, p2⟩ := hx l w
      refine ⟨p1, fun j hj => ?_⟩
      rw [hand_set (by omega)]
      exact p2 j hj
theorem come_inv {X : Prm} {m B : Nat} {c : Int} {f : Flk} {p : Nat} {l : Ltr} (hm : m ≤ 9) (F : FInv X m B c f) (hp : f.post[p]? = some l) : FInv X m (B + l.told.wn) c (f.come p) ∧ wsum (f.come p).post < wsum f.post ∧ wcnt (f.come p).post + l.told.wn = wcnt f.post := by
  obtain ⟨q1, q2⟩ := F.post l (List.mem_of_getElem? hp)
  have ov := over_ok hm (F.hands l.to q1.to) q1 rfl (q2 l.to q1.to)
  have hc : f.come p = ⟨f.hands.set l.to ((f.hand l.to).over l.to l).1, f.post.eraseIdx p ++ ((f.hand l.to).over l.to l).2⟩ := by
    unfold Flk.come
    rw [hp]
  rw [hc]
  refine ⟨F.deed (Nat.le_add_right _ _) (Int.le_refl c) q1.to ov.hand ov.step (fun x hx => List.mem_of_mem_eraseIdx hx) (fun x hx => ?_), ?_, ?_⟩
  · obtain ⟨x1, x2⟩ := ov.out x hx
    refine ⟨x1, fun j hj => x2 j _ ?_ (fun e => by rw [if_pos e])⟩
    split
    · rename_i e
      rw [e]
      exact (q2 l.to q1.to).step ov.step
    · exact q2 j hj
  · show wsum (_ ++ _) < _
    rw [wsum_app]
    have h1 := sum_erase (fun l => l.told.wt) f.post p l hp
    have h2 := ov.wsum
    unfold wsum at h2 ⊢
    omega
  · show wcnt (_ ++ _) + _ = _
    rw [wcnt_app, ov.wcnt]
    exact sum_erase (fun l => l.told.wn) f.post p l hp
theorem come_ok {X : Prm} {m B : Nat} {c : Int} {f : Flk} {p : Nat} (hm : m ≤ 9) (hB : B ≤ 900) (hc : c ≤ 90000) (hw : wsum f.post + 3000 ≤ 1000000) (F : FInv X m B c f) : ComeOk f p := fun l hp => by
  obtain ⟨q1, q2⟩ := F.post l (List.mem_of_getElem? hp)
  have := wsum_len f.post
  exact ⟨by rw [F.len]; exact q1.to, pre_of hm hB hc (F.hands l.to q1.to) q1 rfl (q2 l.to q1.to), q1.s0, by omega⟩
theorem runs_of {X : Prm} {m : Nat} {c : Int} (hm : m ≤ 9) (hc : c ≤ 90000) : ∀ (k B : Nat) (f : Flk), wsum f.post ≤ k → FInv X m B c f → B + wcnt f.post ≤ 900 → wsum f.post + 3000 ≤ 1000000 → ∃ n, f.runs n ∧ (f.cames n).post = [] ∧ ∃ B', FInv X m B' c (f.cames n) ∧ B' ≤ B + wcnt f.post
  | 0, B, f, h0, F, hB, hw => by
    have := wsum_len f.post
    have e : f.post = [] := List.length_eq_zero_iff.mp (by omega)
    exact ⟨0, e, e, B, F, Nat.le_add_right _ _⟩
  | k + 1, B, f, h0, F, hB, hw => by
    cases hp : f.post with
    | nil => exact ⟨0, hp, hp, B, F, Nat.le_add_right _ _⟩
    | cons l r =>
      have hp0 : f.post[0]? = some l := by rw [hp]; rfl
      obtain ⟨F1, w1, w2⟩ := come_inv hm F hp0
      obtain ⟨n, a, b, B', F', hB'⟩ := runs_of hm hc k (B + l.told.wn) (f.come 0) (by omega) F1 (by omega) (by omega)
      rw [← hp]
      exact ⟨n + 1, ⟨by rw [hp]; exact fun z => (nomatch z), come_ok hm (by omega) hc hw F, a⟩, b, B', F', by omega⟩

end
end Fo
namespace Fo
open PySem PySem.Spec PyProof.Rows L2
section
variable {P : Program} {w : World} {K : PySem.W.Frag} {mg : Str → Option Value} {base : Heap}
/-! ### the deeds keep it -/
theorem hand_get {X : Prm} {m B : Nat} {c : Int} {f : Flk} (F : FInv X m B c f) {x : V} {p : Nat × Seat} (h : f.acts x = .ok p) : p.1 < m ∧ SeatOk X m B c p.1 p.2 ∧ p.2.num = (f.hand p.1).high ∧ HandOk X m B c p.1 (f.hand p.1) := by
  obtain ⟨_, h1, _, h2⟩ := acts_ok h
  rw [F.len] at h1
  have r := F.hands _ h1
  exact ⟨h1, (r.seat _ h2).1, (r.seat _ h2).2.1, r⟩
/-- a letter that asks nothing but its sender's number -/
theorem LetOn.plain {x : Ltr} {i : Nat} {h : Hnd} (n : x.snd = i → x.num ≤ h.high) (c : x.snd = i → ∀ s, h.seat = some s → s.num = x.num → sndC x s) (nd : ¬ needC x) : LetOn x i h :=
  ⟨n, c, fun _ k => absurd k nd, fun _ s _ _ => toC_plain nd s⟩
theorem lead_mem {X : Prm} {s : Seat} {m : Nat} (h : MemOk X m s.mem) : s.lead ∈ s.mem := by
  unfold Seat.lead
  cases hs : s.mem with
  | nil => exact absurd hs h.ne
  | cons x r => exact List.mem_cons_self
theorem say_inv {X : Prm} {m B : Nat} {c : Int} {f : Flk} (F : FInv X m B c f) {x : V} {p : Nat × Seat} {word : Str} (h : f.acts x = .ok p) (ok : X.Z ⟨p.1, (f.hand p.1).said, word⟩) : FInv X m B c (f.deed p.1 ((f.hand p.1).say p.1 p.2 word)) ∧ wsum (f.deed p.1 ((f.hand p.1).say p.1 p.2 word)).post = wsum f.post + 89 ∧ wcnt (f.deed p.1 ((f.hand p.1).say p.1 p.2 word)).post = wcnt f.post + 1 := by
  obtain ⟨h1, a1, a2, r⟩ := hand_get F h
  have hl := a1.mem.rg _ (lead_mem a1.mem)
  have hi := a1.mem.rg _ a1.me
  refine ⟨F.deed (Nat.le_refl _) (Int.le_refl _) h1 (h' := { f.hand p.1 with said := (f.hand p.1).said + 1 }) ⟨r.high, r.past, r.seat⟩ ⟨Int.le_refl _, fun s hs => .inr ⟨s, hs, rfl, rfl, fun _ q => q⟩⟩ (fun _ h => h) (fun y hy => ?_), ?_, ?_⟩
  · rw [List.mem_singleton.mp hy]
    refine ⟨⟨by show p.2.lead.toNat < m; omega, by show (0 : Int) ≤ p.1; omega, hi.2, ok⟩, fun j hj => LetOn.plain (fun e => ?_) (fun _ _ _ _ => trivial) (fun z => z)⟩
    have e2 : j = p.1 := by have e3 : (p.1 : Int) = (j : Nat) := e; omega
    rw [if_pos e2]
    show p.2.num ≤ (f.hand p.1).high
    omega
  · show wsum (f.post ++ _) = _
    rw [wsum_app]
    rfl
  · show wcnt (f.post ++ _) = _
    rw [wcnt_app]
    rfl
theorem press_mem {i : Nat} {s : Seat} : ∀ {ms : List Msg} {p : Nat} {x : Ltr}, x ∈ pressGo i s p ms → ∃ y ∈ s.others i, ∃ m ∈ ms, ∃ q, p ≤ q ∧ q < p + ms.length ∧ x = ⟨i, y.toNat, s.num, .hold m q⟩
  | [], _, _, h => nomatch h
  | m :: r, p, x, h => by
    rcases List.mem_append.mp (show x ∈ mail i s (s.others i) (.hold m p) ++ pressGo i s (p + 1) r from h) with w | w
    · obtain ⟨y, hy, e⟩ := mail_mem w
      exact ⟨y, hy, m, List.mem_cons_self, p, Nat.le_refl _, by show p < p + (r.length + 1); omega, e⟩
    · obtain ⟨y, hy, n, hn, q, q1, q2, e⟩ := press_mem w
      exact ⟨y, hy, n, List.mem_cons_of_mem _ hn, q, by omega, by show q < p + (r.length + 1); omega, e⟩
theorem press_wsum {i : Nat} {s : Seat} : ∀ (ms : List Msg) (p : Nat), wsum (pressGo i s p ms) = ms.length * ((s.others i).length * 10) ∧ wcnt (pressGo i s p ms) = 0
  | [], _ => ⟨by simp [pressGo, wsum], rfl⟩
  | m :: r, p => by
    obtain ⟨h1, h2⟩ := press_wsum (i := i) (s := s) r (p + 1)
    constructor
    · show wsum (_ ++ _) = (r.length + 1) * _
      rw [wsum_app, h1, mail_wsum, Nat.add_mul, Nat.one_mul]
      show _ * 10 + _ = _
      omega
    · show wcnt (_ ++ _) = 0
      rw [wcnt_app, h2, mail_wcnt _ _ _ rfl]
theorem press_inv {X : Prm} {m B : Nat} {c : Int} {f : Flk} (hm : m ≤ 9) (F : FInv X m B c f) {x : V} {p : Nat × Seat} (h : f.acts x = .ok p) : FInv X m B c (f.deed p.1 (f.hand p.1, p.2.press p.1)) ∧ wsum (f.deed p.1 (f.hand p.1, p.2.press p.1)).post ≤ wsum f.post + B * 80 + 8 ∧ wcnt (f.deed p.1 (f.hand p.1, p.2.press p.1)).post = wcnt f.post := by
  obtain ⟨h1, a1, a2, r⟩ := hand_get F h
  have hi := a1.mem.rg _ a1.me
  have ho := others_mul hm a1
  have hr := a1.row.len
  refine ⟨F.deed (Nat.le_refl _) (Int.le_refl _) h1 r (HStep.refl _) (fun _ h => h) (fun y hy => ?_), ?_, ?_⟩
  · have key : ∀ j, j < m → y.snd = p.1 → y.num = p.2.num → ¬ needC y → (∀ s, (f.hand p.1).seat = some s → s.num = y.num → sndC y s) → LetOn y j (if j = p.1 then f.hand p.1 else f.hand j) := fun j hj e1 e2 nd cs => by
      refine LetOn.plain (fun e => ?_) (fun e s hs hn => ?_) nd
      · have e3 : j = p.1 := by rw [e1] at e; omega
        rw [if_pos e3]
        omega
      · have e3 : j = p.1 := by rw [e1] at e; omega
        rw [if_pos e3] at hs
        exact cs s hs hn
    have hseat := (acts_ok h).2.2.2
    rcases List.mem_append.mp (show y ∈ pressGo p.1 p.2 0 p.2.row ++ mail p.1 p.2 (p.2.others p.1) (.take p.2.took) from hy) with w | w
    · obtain ⟨z, hz, mm, hmm, q, q1, q2, rfl⟩ := press_mem w
      have hz2 := a1.mem.rg z (others_mem hz)
      refine ⟨⟨by show z.toNat < m; omega, by show (0 : Int) ≤ p.1; omega, hi.2, a1.row.z mm hmm, by omega⟩, fun j hj => key j hj rfl rfl (fun z => z) (fun s hs _ => ?_)⟩
      rw [hseat] at hs
      cases hs
      show ((z.toNat : Nat) : Int) ∈ p.2.mem
      rw [show ((z.toNat : Nat) : Int) = z by omega]
      exact others_mem hz
    · obtain ⟨z, hz, rfl⟩ := mail_mem w
      have hz2 := a1.mem.rg z (others_mem hz)
      exact ⟨⟨by show z.toNat < m; omega, by show (0 : Int) ≤ p.1; omega, hi.2, trivial⟩, fun j hj => key j hj rfl rfl (fun z => z) (fun s hs _ => trivial)⟩
  · show wsum (f.post ++ (pressGo p.1 p.2 0 p.2.row ++ mail p.1 p.2 (p.2.others p.1) (.take p.2.took))) ≤ _
    rw [wsum_app, wsum_app, (press_wsum _ _).1, mail_wsum]
    have h3 : p.2.row.length * ((p.2.others p.1).length * 10) ≤ B * 80 := Nat.mul_le_mul hr (by omega)
    show _ + (_ + _ * 1) ≤ _
    omega
  · show wcnt (f.post ++ (pressGo p.1 p.2 0 p.2.row ++ mail p.1 p.2 (p.2.others p.1) (.take p.2.took))) = _
    rw [wcnt_app, wcnt_app, (press_wsum _ _).2, mail_wcnt _ _ _ rfl]
    rfl
theorem propose_inv {X : Prm} {m B : Nat} {c : Int} {f : Flk} (F : FInv X m B c f) {x : V} {p : Nat × Seat} {ms : List Int} (h : f.acts x = .ok p) (hms : MemOk X m ms) :
    FInv X m B (c + 1) (f.deed p.1 ({ f.hand p.1 with seat := some (p.2.propose p.1 ms).1 }, (p.2.propose p.1 ms).2)) ∧ wsum (f.deed p.1 ({ f.hand p.1 with seat := some (p.2.propose p.1 ms).1 }, (p.2.propose p.1 ms).2)).post ≤ wsum f.post + m * 101 ∧ wcnt (f.deed p.1 ({ f.hand p.1 with seat := some (p.2.propose p.1 ms).1 }, (p.2.propose p.1 ms).2)).post = wcnt f.post := by
  obtain ⟨h1, a1, a2, r⟩ := hand_get F h
  have hseat := (acts_ok h).2.2.2
  have hi := a1.mem.rg _ a1.me
  have rm := r.mono (Nat.le_refl B) (show c ≤ c + 1 by omega)
  have am := a1.mono (Nat.le_refl B) (show c ≤ c + 1 by omega)
  have hp := (r.seat _ hseat).2.2
  obtain ⟨last, hlast⟩ : ∃ last : Int, last = (match p.2.off with | some o => max p.2.bal.1 o.bal.1 | none => p.2.bal.1) := ⟨_, rfl⟩
  have hpr : p.2.propose p.1 ms = ({ p.2 with off := some ⟨(last + 1, (p.1 : Int)), ms, [], none, []⟩ }, mail p.1 p.2 p.2.mem (.prepare (last + 1, (p.1 : Int)))) := by
    rw [hlast]
    rfl
  rw [hpr]
  refine ⟨F.deed (Nat.le_refl _) (by omega) h1 (h' := { f.hand p.1 with seat := some { p.2 with off := some ⟨(last + 1, (p.1 : Int)), ms, [], none, []⟩ } }) ⟨rm.high, rm.past, fun s e => ?_⟩ ⟨Int.le_refl _, fun s e => ?_⟩ (fun _ h => h) (fun y hy => ?_), ?_, ?_⟩
  · cases e
    refine ⟨⟨am.mem, am.me, am.row, am.hk, am.news, am.agr, fun o ho => ?_⟩, a2, hp⟩
    cases ho
    refine ⟨⟨hms, fun q hq => (nomatch hq), List.Pairwise.nil, fun q hq => (nomatch hq), fun f hf => (nomatch hf), List.Pairwise.nil, fun q hq => (nomatch hq)⟩, ?_⟩
    have := r.high
    show p.2.num < c + 1
    omega
  · cases e
    refine .inr ⟨p.2, hseat, rfl, rfl, fun b q => ?_⟩
    obtain ⟨o, ho, q1, q2⟩ := q
    rw [ho] at hlast
    have hl2 : last = max p.2.bal.1 o.bal.1 := hlast
    refine ⟨_, rfl, by show b.1 ≤ last + 1; omega, fun e => ?_⟩
    have e2 : last + 1 = b.1 := congrArg Prod.fst e
    omega
  · obtain ⟨z, hz, rfl⟩ := mail_mem hy
    have hz2 := a1.mem.rg z hz
    refine ⟨⟨by show z.toNat < m; omega, by show (0 : Int) ≤ p.1; omega, hi.2, trivial⟩, fun j hj => LetOn.plain (fun e => ?_) (fun _ _ _ _ => trivial) (fun z => z)⟩
    have e2 : j = p.1 := by have e3 : (p.1 : Int) = (j : Nat) := e; omega
    rw [if_pos e2]
    show p.2.num ≤ (f.hand p.1).high
    omega
  · show wsum (f.post ++ mail _ _ _ _) ≤ _
    rw [wsum_app, mail_wsum]
    have : p.2.mem.length * 101 ≤ m * 101 := Nat.mul_le_mul a1.mem.len (Nat.le_refl _)
    show _ + _ * 101 ≤ _
    omega
  · show wcnt (f.post ++ mail _ _ _ _) = _
    rw [wcnt_app, mail_wcnt _ _ _ rfl]
    rfl
theorem set_same {f : Flk} {i : Nat} (hi : i < f.hands.length) : f.hands.set i (f.hand i) = f.hands := by
  unfold Flk.hand
  rw [List.getD_eq_getElem?_getD, List.getElem?_eq_getElem hi]
  exact List.set_getElem_self hi
theorem show_inv {X : Prm} {m B : Nat} {c : Int} {f : Flk} (F : FInv X m B c f) {x : V} {p : Nat × Seat} {o : Nat} {n : News} (h : f.acts x = .ok p) (ho : o < m) (hn : p.2.news = some n) : FInv X m B c ⟨f.hands, f.post ++ [⟨p.1, o, p.2.num, .enter n⟩]⟩ ∧ wsum (f.post ++ [(⟨p.1, o, p.2.num, .enter n⟩ : Ltr)]) = wsum f.post + 1 ∧ wcnt (f.post ++ [(⟨p.1, o, p.2.num, .enter n⟩ : Ltr)]) = wcnt f.post := by
  obtain ⟨h1, a1, a2, r⟩ := hand_get F h
  have hi := a1.mem.rg _ a1.me
  have w := F.deed (Nat.le_refl _) (Int.le_refl _) h1 r (HStep.refl _) (old := f.post) (out := [⟨p.1, o, p.2.num, .enter n⟩]) (fun _ h => h) (fun y hy => by
    rw [List.mem_singleton.mp hy]
    refine ⟨⟨ho, by show (0 : Int) ≤ p.1; omega, hi.2, a1.news n hn⟩, fun j hj => LetOn.plain (fun e => ?_) (fun _ _ _ _ => trivial) (fun z => z)⟩
    have e2 : j = p.1 := by have e3 : (p.1 : Int) = (j : Nat) := e; omega
    rw [if_pos e2]
    show p.2.num ≤ (f.hand p.1).high
    omega)
  rw [set_same (by rw [F.len]; exact h1)] at w
  refine ⟨w, ?_, ?_⟩
  · rw [wsum_app]; rfl
  · rw [wcnt_app]; rfl
theorem fall_inv {X : Prm} {m B : Nat} {c : Int} {f : Flk} (F : FInv X m B c f) {i : Nat} (hi : i < m) : FInv X m B c (f.setHand i (f.hand i).down) := by
  have r := F.hands i hi
  have w := F.deed (Nat.le_refl _) (Int.le_refl _) hi (h' := (f.hand i).down) ⟨r.high, r.past, r.seat⟩ ⟨Int.le_refl _, fun s hs => .inr ⟨s, hs, rfl, rfl, fun _ q => q⟩⟩ (old := f.post) (out := []) (fun _ h => h) (fun y hy => (nomatch hy))
  rw [List.append_nil] at w
  exact w
theorem lose_inv {X : Prm} {m B : Nat} {c : Int} {f : Flk} (F : FInv X m B c f) {p : Nat} {l : Ltr} (hp : f.post[p]? = some l) : FInv X m B c (f.lose p) ∧ wsum (f.lose p).post ≤ wsum f.post ∧ wcnt (f.lose p).post ≤ wcnt f.post := by
  refine ⟨⟨F.len, F.hands, fun l hl => F.post l (List.mem_of_mem_eraseIdx hl)⟩, ?_, ?_⟩
  · have := sum_erase (fun l => l.told.wt) f.post p l hp
    unfold wsum
    show ((f.post.eraseIdx p).map _).sum ≤ _
    omega
  · have := sum_erase (fun l => l.told.wn) f.post p l hp
    unfold wcnt
    show ((f.post.eraseIdx p).map _).sum ≤ _
    omega
theorem wt_le (t : Told) : t.wt ≤ 101 := by cases t <;> simp [Told.wt]
theorem wn_le (t : Told) : t.wn ≤ 1 := by cases t <;> simp [Told.wn]
theorem double_inv {X : Prm} {m B : Nat} {c : Int} {f : Flk} (F : FInv X m B c f) {p : Nat} {l : Ltr} (hp : f.post[p]? = some l) : FInv X m B c (f.double p) ∧ wsum (f.double p).post ≤ wsum f.post + 101 ∧ wcnt (f.double p).post ≤ wcnt f.post + 1 := by
  have hd : f.double p = ⟨f.hands, f.post ++ [l]⟩ := by
    unfold Flk.double
    rw [hp]
  rw [hd]
  refine ⟨⟨F.len, F.hands, fun x hx => ?_⟩, ?_, ?_⟩
  · rcases List.mem_append.mp hx with w | w
    · exact F.post x w
    · rw [List.mem_singleton.mp w]
      exact F.post l (List.mem_of_getElem? hp)
  · show wsum (f.post ++ [l]) ≤ _
    rw [wsum_app]
    have := wt_le l.told
    show _ + (l.told.wt + 0) ≤ _
    omega
  · show wcnt (f.post ++ [l]) ≤ _
    rw [wcnt_app]
    have := wn_le l.told
    show _ + (l.told.wn + 0) ≤ _
    omega
theorem new_inv {X : Prm} {m : Nat} {ms : List Int} (h : MemOk X m ms) : FInv X m 0 0 (Flk.new m ms) := by
  refine ⟨seated_len m ms ms, fun i hi => ?_, fun l hl => (nomatch hl)⟩
  have e : (Flk.new m ms).hand i = if (i : Int) ∈ ms then seatedH ms else Hnd.new := by
    show ((seated m ms ms).getD i Hnd.new) = _
    rw [List.getD_eq_getElem?_getD, seated_get ms ms hi]
    rfl
  rw [e]
  split
  · rename_i w
    refine ⟨Int.le_refl _, by show ((0 : Nat) : Int) ≤ 0 + 1; omega, fun s hs => ?_⟩
    cases hs
    exact ⟨fresh_ok h w (fun _ z => (nomatch z)), rfl, Int.le_refl _⟩
  · exact ⟨by show (-1 : Int) ≤ 0; omega, by show ((0 : Nat) : Int) ≤ -1 + 1; omega, fun s hs => (nomatch hs)⟩

end
end Fo
namespace Fo
open PySem PySem.Spec PyProof.Rows L2
section
variable {P : Program} {w : World} {K : PySem.W.Frag} {mg : Str → Option Value} {base : Heap}
/-! ### calls in a try, whose wish speaks of the slots -/
def tMethE (C : Addr) (m : Str) (sp : Sp) (E : L2.St → XK) (ta : TE) (t : L2.TA) : TE := fun σ H Q => ta σ H fun x H1 => ∃ a dx fs, x = .ref a ∧ H1 a = some (.ins C dx fs) ∧ fs.lookup m = none ∧ t σ H1 fun vs H2 => sp (x :: vs) H2 Q (E σ)
section
variable {X : Cx} {CX : CXT} {k : Nat} {f C : Addr} {fd : FuncData} {ps : List Str} {sp : Sp} {E : L2.St → XK} {x m : Str} {p pos apos : Pos} {e o : Expr} {es : List Expr} {ta : TE} {t : L2.TA}
theorem pe_methE {pl : Sem Bool} (he : PE X o ta) (c : Cls X.K C) (hm : Meth X.K C m f) (F : FnOk X.prog X.w X.K X.mg X.base CX k f fd ps sp) (hr : Room k X.A) (hb : L2.Binds X.K fd ps []) (hx : ∀ σ, PassesAt CX X σ (E σ)) (ha : PA X (e :: es) t)
    (hst : starEach (e :: es) X.env = (false, eval e X.env) :: starEach es X.env := by rfl) (hpl : (backTo pos (starEach es X.env)).any (·.1) = false := by rfl)
    (ht : eval (.Call (.Attribute o m apos) (e :: es) [] pos) X.env = (do
      let ov ← eval o X.env
      standAt apos.atName
      let (f, first) ← holding [ov] (getMethod ov m pl)
      callWith pos f first (backTo pos (starEach (e :: es) X.env)) (backToKw pos (keywordEach [] X.env))) := by rfl) :
    PE X (.Call (.Attribute o m apos) (e :: es) [] pos) (tMethE C m sp E ta t) := by
  constructor
  intro pn sh sl Hp0 Qv J wish
  refine PySem.W.methodCall_KW (pl := pl) (thn (he.run pn sh sl Hp0 _ J wish) fun ov sh1 ⟨rv, Hp1, J1, rel, self, sdx, sfs, isref, there, nof, rest⟩ => ?_) ht
  subst isref
  have hself : ov = Value.ref self := rel
  subst hself
  refine getmeth_ok J1 there c hm nof (PySem.W.callWith_K (first := [.ref self]) (h₀ := X.base) J.ok.mod.kin hm.kp (thn (ha.run pos pn sh1 sl Hp1 _ J1 rest) fun given sh2 ⟨seen, Hp2, J2, rels, fin⟩ => ⟨J2.kIn, ?_⟩) hst hpl)
  exact run_fnS (us := .ref self :: given) (vs := .ref self :: seen) F hr hb (hx sl) J2 (.cons rfl rels) fin
end
/-- a block that is run only where p holds -/
theorem pss_guard {X : Cx} {p : Prop} {b : List Stmt} {t : TS} (h : p → PSs X b t) : PSs X b (fun D σ H => p ∧ t D σ H) := ⟨fun pins s σ H D I q => (h q.1).run pins s σ H D I q.2⟩
def refOf : Value → Addr
  | .ref a => a
  | _ => 0
/-- isinstance(e, (C, ..)), e the exception that the suite holds -/
def rIsET (K : PySem.W.Frag) (D a : Addr) : List V → Hp → VK → Prop := fun xs H Q => ∃ (tp : Addr) (cs : List V) (us : List Value) (b : Bool), xs = [.ref a, .ref tp] ∧ H tp = some (.tup cs) ∧ Paired ClsV cs us ∧ PySem.W.kitAny K (.ref D) us = some b ∧ Q (.bl b) H
theorem call_isET {X : Cx} {a D : Addr} {oe : Obj} {pn : List (Addr × Obj)} (C : ExcC X.K D) (hz : Zc (.ref D) none oe) (hf : ∃ vs, oe.data = .fields vs) : CallR (X.suite a ((a, oe) :: pn)) (.builtin "isinstance") (rIsET X.K D a) := by
  intro pn sh sl Hp0 given seen Qv inv rels wish
  obtain ⟨tup, named, vals, ans, rfl, htup, kinds, told, fin⟩ := wish
  cases rels with
  | cons r1 rs =>
    cases rs with
    | cons r2 rs2 =>
      cases rs2
      cases r1
      cases r2
      have held := (inv.pin (a, oe) (List.mem_append.mpr (.inl List.mem_cons_self))).1
      obtain ⟨fields, hfields⟩ := hf
      have at_ : PySem.W.InstAt sh.heap a oe D none := by
        obtain ⟨c1, c2, c3, c4⟩ := oe
        obtain ⟨z1, z2⟩ := hz
        dsimp only at z1 z2 hfields
        subst z1 z2 hfields
        exact ⟨held, rfl, rfl, trivial⟩
      have ob : ObjOk X.prog X.w Hp0 sh.heap tup (.tup named) := inv.hok tup _ htup
      obtain ⟨_, its, rv, obj, g1, g2, cnt, g3⟩ := ob
      have same := ClsV.all kinds rv
      subst same
      obtain ⟨c1, c2, c3, c4⟩ := obj
      simp only at g2 g3
      subst g2 g3
      exact PySem.W.kia_tup (PySem.W.handS_kitx_exc C.hg C.hk C.hs C.hd C.ha C.hn C.ht C.hm) inv.kIn at_ g1 told (fun bad => nomatch bad) fun tok => ⟨.bl ans, Hp0, inv.kept (t' := tok) fun _ _ keep => keep, rfl, fin⟩
theorem guard_hz {K : PySem.W.Frag} {D : Addr} {cls : Value} {d : Option Addr} {oe : Obj} (g : cls = .ref D ∧ d = none ∧ ExcC K D) (hz : Zc cls d oe) : Zc (.ref D) none oe := by
  obtain ⟨rfl, rfl, _⟩ := g
  exact hz

end
end Fo
namespace Fo
open PySem PySem.Spec PyProof.Rows L2
section
variable {P : Program} {w : World} {K : PySem.W.Frag} {mg : Str → Option Value} {base : Heap}
/-! ### of all laws (as in C5c, C5d) -/
theorem isListGo_of {m : Int} : ∀ {ms : List Int} {b : Int}, (∀ x ∈ ms, b < x ∧ 0 ≤ x ∧ x < m) → ms.Pairwise (· < ·) → isListGo m b (ms.map V.int) = true
  | [], _, _, _ => rfl
  | x :: r, b, h, p => by
    have p1 := List.pairwise_cons.mp p
    have h1 := h x List.mem_cons_self
    show (if 0 ≤ x ∧ x < m ∧ b < x then isListGo m x (r.map V.int) else false) = true
    rw [if_pos ⟨h1.2.1, h1.2.2, h1.1⟩]
    exact isListGo_of (fun y hy => ⟨p1.1 y hy, (h y (List.mem_cons_of_mem _ hy)).2⟩) p1.2
theorem isListB_of {m : Int} {ms : List Int} (h : ms ≠ []) (r : ∀ x ∈ ms, 0 ≤ x ∧ x < m) (p : ms.Pairwise (· < ·)) : isListB (ms.map V.int) m = true := by
  show (!(ms.map V.int).isEmpty && isListGo m (-1) (ms.map V.int)) = true
  rw [isListGo_of (fun x hx => ⟨by have := (r x hx).1; omega, r x hx⟩) p]
  cases ms with
  | nil => exact absurd rfl h
  | cons x r => rfl
theorem tOr_of {ta tb : TT} {σ : L2.St} {H : Hp} {Kq : Bool → Hp → Prop} {c1 c2 : Bool} (h1 : ∀ Q : Bool → Hp → Prop, Q c1 H → ta σ H Q) (h2 : ∀ Q : Bool → Hp → Prop, (∀ H1, Same H H1 → Q c2 H1) → tb σ H Q) (k : ∀ H1, Same H H1 → Kq (c1 || c2) H1) : tOr ta tb σ H Kq := by
  refine h1 _ ?_
  cases c1 with
  | true => exact iteT (k H (Same.refl _))
  | false => exact iteF (h2 _ fun H1 e => k H1 e)
theorem tAnd_of {ta tb : TT} {σ : L2.St} {H : Hp} {Kq : Bool → Hp → Prop} {c1 c2 : Bool} (h1 : ∀ Q : Bool → Hp → Prop, Q c1 H → ta σ H Q) (h2 : ∀ Q : Bool → Hp → Prop, Q c2 H → tb σ H Q) (k : Kq (c1 && c2) H) : tAnd ta tb σ H Kq := by
  refine h1 _ ?_
  cases c1 with
  | true => exact iteT (h2 _ k)
  | false => exact iteF k
theorem paired_drop {α β : Type} {R : α → β → Prop} : ∀ {xs : List α} {ys : List β} (n : Nat), Paired R xs ys → Paired R (xs.drop n) (ys.drop n)
  | _, _, 0, h => h
  | _, _, _ + 1, .nil => .nil
  | _, _, n + 1, .cons _ t => paired_drop n t
theorem cut_to {xs : List V} {p : Nat} (hp : p ≤ xs.length) : cutV xs none (some ((p : Nat) : Int)) = xs.take p := by
  unfold cutV
  rw [HT.sIx_none, HT.sIx_nat, List.drop_zero, Nat.sub_zero, Nat.min_eq_left hp]
theorem cut_from {xs : List V} {p : Nat} (hp : p ≤ xs.length) : cutV xs (some ((p : Nat) : Int)) none = xs.drop p := by
  unfold cutV
  rw [HT.sIx_none, HT.sIx_nat, Nat.min_eq_left hp]
  exact List.take_of_length_le (by rw [List.length_drop]; exact Nat.le_refl _)
theorem int_dec (i j : Int) : decide (V.int i = V.int j) = decide (i = j) := decide_eq_decide.mpr ⟨fun z => V.int.inj z, fun z => by rw [z]⟩
theorem who_in {f : Flk} {i : Nat} (hi : i < f.hands.length) : f.who (.int i) = .ok i := by
  unfold Flk.who
  have e : isHandB (.int i) (f.hands.length : Nat) = true := by
    show (decide ((0 : Int) ≤ i) && decide ((i : Int) < ((f.hands.length : Nat) : Int))) = true
    rw [decide_eq_true (by omega), decide_eq_true (by omega)]
    rfl
  rw [if_pos e]
  rfl
/-- a list that the caller holds -/
def Held (K : PySem.W.Frag) (g : Gh) (H : Hp) (a : Addr) (xs : List V) : Prop := (SqL K H a xs ∧ (∃ o, H a = some o) ∧ g.own a = none) ∨ (∀ H', SqL K H' a xs)
theorem Held.sq {K : PySem.W.Frag} {g : Gh} {H : Hp} {a : Addr} {xs : List V} (h : Held K g H a xs) : SqL K H a xs := by
  rcases h with h | h
  · exact h.1
  · exact h H
theorem sqL_at {K : PySem.W.Frag} {H H' : Hp} {a : Addr} {xs : List V} {o : HO} (h : SqL K H a xs) (h1 : H a = some o) (h2 : H' a = some o) : SqL K H' a xs := by
  rcases h with (h | ⟨u, h⟩) | h
  · rw [h1] at h; cases h
    exact .inl (.inl h2)
  · rw [h1] at h; cases h
    exact .inl (.inr ⟨u, h2⟩)
  · exact .inr h
theorem Held.of {K : PySem.W.Frag} {g : Gh} {H : Hp} {a : Addr} {xs : List V} (h : SqL K H a xs) (n : ∀ o, H a = some o → g.own a = none) : Held K g H a xs := by
  rcases h with (h | ⟨u, h⟩) | h
  · exact .inl ⟨.inl (.inl h), ⟨_, h⟩, n _ h⟩
  · exact .inl ⟨.inl (.inr ⟨u, h⟩), ⟨_, h⟩, n _ h⟩
  · exact .inr fun H' => .inr h
theorem Held.go {K : PySem.W.Frag} {T : Tag → Prop} {g g' : Gh} {H H' : Hp} {a : Addr} {xs : List V} (h : Held K g H a xs) (e : Go T g H g' H') : Held K g' H' a xs := by
  rcases h with ⟨h, ⟨o, h1⟩, h2⟩ | h
  · exact .inl ⟨sqL_at h h1 (e.keep h1 h2), ⟨o, e.keep h1 h2⟩, e.free h1 h2⟩
  · exact .inr h
theorem Held.same {K : PySem.W.Frag} {g : Gh} {H H' : Hp} {a : Addr} {xs : List V} (h : Held K g H a xs) (e : Same H H') : Held K g H' a xs := by
  rcases h with ⟨h, ⟨o, h1⟩, h2⟩ | h
  · exact .inl ⟨e.seq h, ⟨o, e _ _ h1⟩, h2⟩
  · exact .inr h
theorem kept_ne {H : Hp} {a l : Addr} {o : HO} (h : H a = some o) (hl : H l = none) : a ≠ l := fun z => by rw [z, hl] at h; cases h

end
end Fo
namespace Fo
open PySem PySem.Spec PyProof.Rows L2
section
variable {P : Program} {w : World} {K : PySem.W.Frag} {mg : Str → Option Value} {base : Heap}
/-! ### one list of each number: ballots, promises, votes -/
abbrev Val := List Int × List Msg
structure PG where
  cfg : Int → Option Val
  V : Int → Int → Bal → Val → Prop
  Pm : Int → Int → Bal → List Msg → Option Agr → Prop
  Pr : Int → Bal → Val → Prop
def bl (a b : Bal) : Prop := a.1 < b.1 ∨ (a.1 = b.1 ∧ a.2 < b.2)
theorem bl_iff {a b : Bal} : Bal.lt a b = true ↔ bl a b := by
  unfold Bal.lt bl
  split
  · rename_i h
    exact ⟨fun z => .inr ⟨h, of_decide_eq_true z⟩, fun z => by
      rcases z with z | z
      · omega
      · exact decide_eq_true z.2⟩
  · rename_i h
    exact ⟨fun z => .inl (of_decide_eq_true z), fun z => by
      rcases z with z | z
      · exact decide_eq_true z
      · exact absurd z.1 h⟩
theorem bl_irr {a : Bal} : ¬ bl a a := by unfold bl; omega
theorem bl_tr {a b c : Bal} (h : bl a b) (k : bl b c) : bl a c := by unfold bl at *; omega
theorem nbl_tr {a b c : Bal} (h : ¬ bl b a) (k : ¬ bl c b) : ¬ bl c a := by unfold bl at *; omega
theorem nbl_bl {a b c : Bal} (h : ¬ bl b a) (k : bl b c) : bl a c := by unfold bl at *; omega
theorem bl_nbl {a b c : Bal} (h : bl a b) (k : ¬ bl c b) : bl a c := by unfold bl at *; omega
theorem bl_asym {a b : Bal} (h : bl a b) : ¬ bl b a := by unfold bl at *; omega
theorem nbl_eq {a b : Bal} (h : ¬ bl a b) (k : ¬ bl b a) : a = b := by
  unfold bl at *
  exact Prod.ext (by omega) (by omega)
def DecG (G : PG) (n : Int) (v : Val) : Prop := ∃ (b : Bal) (W : List Int) (M : Val), G.cfg n = some M ∧ W.length = enoughN M.1.length ∧ W.Nodup ∧ ∀ w ∈ W, w ∈ M.1 ∧ G.V n w b v
structure GOk (m : Nat) (first : List Int) (G : PG) : Prop where
  ok : ∀ n v, G.cfg n = some v → 0 ≤ n ∧ v.1 ≠ [] ∧ (∀ x ∈ v.1, 0 ≤ x ∧ x < (m : Int)) ∧ v.1.Pairwise (· < ·)
  c0 : G.cfg 0 = some (first, [])
  dec : ∀ n v, G.cfg n = some v → 0 < n → DecG G (n - 1) v
  v1 : ∀ n i b v, G.V n i b v → G.Pr n b v ∧ ∃ M, G.cfg n = some M ∧ i ∈ M.1
  p0 : ∀ n i b row ao, G.Pm n i b row ao → ∃ M, G.cfg n = some M ∧ i ∈ M.1
  p1 : ∀ n i b row ao b' v', G.Pm n i b row ao → G.V n i b' v' → bl b' b → ∃ a, ao = some a ∧ ¬ bl a.bal b'
  p2 : ∀ n i b row a, G.Pm n i b row (some a) → G.V n i a.bal (a.mem, a.row) ∧ bl a.bal b
  p3 : ∀ n i b row ao, G.Pm n i b row ao → bl noBal b
  uniq : ∀ n b v v', G.Pr n b v → G.Pr n b v' → v = v'
  safe : ∀ n b v, G.Pr n b v → 1 ≤ b.1 ∧ 0 ≤ b.2 ∧ ∃ M, G.cfg n = some M ∧ ∃ ps : List (Int × List Msg × Option Agr), ps.length = enoughN M.1.length ∧ (ps.map (·.1)).Nodup ∧ (∀ p ∈ ps, G.Pm n p.1 b p.2.1 p.2.2) ∧
    match bestA none ps with
    | some a => v = (a.mem, a.row)
    | none => v.2 = longV [] (ps.map fun p => p.2.1)
structure PG.Le (i : Int) (G G' : PG) : Prop where
  cfg : ∀ n v, G.cfg n = some v → G'.cfg n = some v
  V : ∀ n j b v, G.V n j b v → G'.V n j b v
  Pm : ∀ n j b r a, G.Pm n j b r a → G'.Pm n j b r a
  Pr : ∀ n b v, G.Pr n b v → G'.Pr n b v
  V' : ∀ n j b v, j ≠ i → G'.V n j b v → G.V n j b v
  Pm' : ∀ n j b r a, j ≠ i → G'.Pm n j b r a → G.Pm n j b r a
  Pr' : ∀ n k j v, j ≠ i → G'.Pr n (k, j) v → G.Pr n (k, j) v
theorem PG.Le.refl (i : Int) (G : PG) : PG.Le i G G := ⟨fun _ _ h => h, fun _ _ _ _ h => h, fun _ _ _ _ _ h => h, fun _ _ _ h => h, fun _ _ _ _ _ h => h, fun _ _ _ _ _ _ h => h, fun _ _ _ _ _ h => h⟩
/-! #### lists that must meet -/
theorem sub_len {l M : List Int} (nd : l.Nodup) (h : ∀ x ∈ l, x ∈ M) : l.length ≤ M.length := by
  induction l generalizing M with
  | nil => exact Nat.zero_le _
  | cons a l ih =>
    have n1 := List.nodup_cons.mp nd
    have ha := h a List.mem_cons_self
    have h2 := ih n1.2 (M := M.erase a) fun x hx => (List.mem_erase_of_ne (fun (z : x = a) => n1.1 (z ▸ hx))).mpr (h x (List.mem_cons_of_mem _ hx))
    rw [List.length_erase_of_mem ha] at h2
    have := List.length_pos_of_mem ha
    rw [List.length_cons]
    omega
theorem meet {a b M : List Int} (na : a.Nodup) (nb : b.Nodup) (ha : ∀ x ∈ a, x ∈ M) (hb : ∀ x ∈ b, x ∈ M) (la : a.length = enoughN M.length) (lb : b.length = enoughN M.length) : ∃ x, x ∈ a ∧ x ∈ b := by
  apply Decidable.byContradiction
  intro z
  have h := sub_len (l := a ++ b) (M := M) (List.nodup_append.mpr ⟨na, nb, fun x hx y hy e => z ⟨x, hx, e ▸ hy⟩⟩) fun x hx => (List.mem_append.mp hx).elim (ha x) (hb x)
  rw [List.length_append, la, lb] at h
  unfold enoughN at h
  omega
/-! #### the greatest vote -/
theorem bstep_le (b a : Option Agr) {x : Agr} (h : bstep b a = some x) : (b = some x ∨ a = some x) ∧ (∀ y, b = some y ∨ a = some y → ¬ bl x.bal y.bal) := by
  unfold bstep at h
  cases a with
  | none =>
    cases b with
    | none => cases h
    | some y =>
      cases h
      exact ⟨.inl rfl, fun z hz => by
        rcases hz with e | e
        · cases e; exact bl_irr
        · cases e⟩
  | some u =>
    cases b with
    | none =>
      cases h
      exact ⟨.inr rfl, fun z hz => by
        rcases hz with e | e
        · cases e
        · cases e; exact bl_irr⟩
    | some y =>
      dsimp only at h
      split at h
      · rename_i hl
        have hl' := bl_iff.mp hl
        cases h
        exact ⟨.inr rfl, fun z hz => by
          rcases hz with e | e
          · cases e; exact bl_asym hl'
          · cases e; exact bl_irr⟩
      · rename_i hl
        have hl' : ¬ bl y.bal u.bal := fun z => hl (bl_iff.mpr z)
        cases h
        exact ⟨.inl rfl, fun z hz => by
          rcases hz with e | e
          · cases e; exact bl_irr
          · cases e; exact hl'⟩
theorem bestA_le : ∀ (ps : List (Int × List Msg × Option Agr)) (b : Option Agr) {x : Agr}, bestA b ps = some x → (b = some x ∨ ∃ p ∈ ps, p.2.2 = some x) ∧ (∀ y, (b = some y ∨ ∃ p ∈ ps, p.2.2 = some y) → ¬ bl x.bal y.bal)
  | [], b, x, h => by
    have h' : b = some x := h
    refine ⟨.inl h', fun y hy => ?_⟩
    rcases hy with e | ⟨p, hp, _⟩
    · rw [h'] at e; cases e; exact bl_irr
    · cases hp
  | (j, row, a) :: r, b, x, h => by
    obtain ⟨h1, h2⟩ := bestA_le r (bstep b a) (x := x) h
    have key : ∀ y, (b = some y ∨ a = some y) → ¬ bl x.bal y.bal := fun y hy => by
      cases hs : bstep b a with
      | none =>
        unfold bstep at hs
        cases a with
        | none => cases b with
          | none => rcases hy with e | e <;> cases e
          | some z => cases hs
        | some u => cases b with
          | none => cases hs
          | some z =>
            dsimp only at hs
            split at hs <;> cases hs
      | some z =>
        exact nbl_tr ((bstep_le b a hs).2 y hy) (h2 z (.inl hs))
    refine ⟨?_, fun y hy => ?_⟩
    · rcases h1 with e | ⟨p, hp, e⟩
      · rcases (bstep_le b a e).1 with e | e
        · exact .inl e
        · exact .inr ⟨_, List.mem_cons_self, e⟩
      · exact .inr ⟨p, List.mem_cons_of_mem _ hp, e⟩
    · rcases hy with e | ⟨p, hp, e⟩
      · exact key y (.inl e)
      · rcases List.mem_cons.mp hp with rfl | hp
        · exact key y (.inr e)
        · exact h2 y (.inr ⟨p, hp, e⟩)
theorem bestA_none : ∀ (ps : List (Int × List Msg × Option Agr)) (b : Option Agr), bestA b ps = none → b = none ∧ ∀ p ∈ ps, p.2.2 = none
  | [], b, h => ⟨h, fun _ h => nomatch h⟩
  | (j, row, a) :: r, b, h => by
    obtain ⟨h1, h2⟩ := bestA_none r (bstep b a) h
    have : b = none ∧ a = none := by
      unfold bstep at h1
      cases a with
      | none => cases b with
        | none => exact ⟨rfl, rfl⟩
        | some z => cases h1
      | some u => cases b with
        | none => cases h1
        | some z =>
          dsimp only at h1
          split at h1 <;> cases h1
    refine ⟨this.1, fun p hp => ?_⟩
    rcases List.mem_cons.mp hp with rfl | hp
    · exact this.2
    · exact h2 p hp
/-! #### agreement -/
section
variable {m : Nat} {first : List Int} {G : PG} (g : GOk m first G)
include g
theorem pr_dec_aux {n : Int} {v : Val} {b0 : Bal} {W : List Int} {M : Val} (hM : G.cfg n = some M) (wl : W.length = enoughN M.1.length) (wnd : W.Nodup) (hW : ∀ w ∈ W, w ∈ M.1 ∧ G.V n w b0 v) : ∀ (k : Nat × Nat) (b : Bal), (b.1.toNat, b.2.toNat) = k → ∀ v', G.Pr n b v' → ¬ bl b b0 → v' = v := by
  have wne : W ≠ [] := fun z => by rw [z] at wl; unfold enoughN at wl; simp at wl
  obtain ⟨w0, hw0⟩ := List.exists_mem_of_ne_nil _ wne
  have h0 := (g.v1 _ _ _ _ (hW w0 hw0).2).1
  intro k
  refine WellFounded.induction (C := fun k => ∀ b : Bal, (b.1.toNat, b.2.toNat) = k → ∀ v', G.Pr n b v' → ¬ bl b b0 → v' = v) (Prod.lex Nat.lt_wfRel Nat.lt_wfRel).wf k fun k ih => ?_
  · intro b hb v' hv hbl
    obtain ⟨b1, b2, M', hM', ps, pl, pnd, pp, best⟩ := g.safe _ _ _ hv
    rw [hM] at hM'
    cases hM'
    by_cases e : bl b0 b
    · have pin : ∀ x ∈ ps.map (·.1), x ∈ M.1 := fun x hx => by
        obtain ⟨p, hp, rfl⟩ := List.mem_map.mp hx
        obtain ⟨M2, h1, h2⟩ := g.p0 _ _ _ _ _ (pp p hp)
        rw [hM] at h1
        cases h1
        exact h2
      obtain ⟨j, j1, j2⟩ := meet wnd pnd (fun w hw => (hW w hw).1) pin wl (by rw [List.length_map]; exact pl)
      obtain ⟨p, hp, rfl⟩ := List.mem_map.mp j2
      obtain ⟨a, ha, hab⟩ := g.p1 _ _ _ _ _ _ _ (pp p hp) (hW _ j1).2 e
      cases hbest : bestA none ps with
      | none => rw [(bestA_none ps none hbest).2 p hp] at ha; cases ha
      | some x =>
        rw [hbest] at best
        obtain ⟨q1, q2⟩ := bestA_le ps none hbest
        rcases q1 with q1 | ⟨q, hq, hqx⟩
        · cases q1
        · have hp2 := pp q hq
          rw [hqx] at hp2
          obtain ⟨w1, w2⟩ := g.p2 _ _ _ _ _ hp2
          have w3 := (g.v1 _ _ _ _ w1).1
          obtain ⟨x1, x2, _⟩ := g.safe _ _ _ w3
          have hlex : Prod.Lex Nat.lt Nat.lt (x.bal.1.toNat, x.bal.2.toNat) k := by
            rw [← hb]
            rcases w2 with w2 | ⟨w2, w4⟩
            · exact Prod.Lex.left _ _ (show x.bal.1.toNat < b.1.toNat by omega)
            · rw [w2]
              exact Prod.Lex.right _ (show x.bal.2.toNat < b.2.toNat by omega)
          have hxb : ¬ bl x.bal b0 := nbl_tr hab (q2 a (.inr ⟨p, hp, ha⟩))
          rw [show v' = (x.mem, x.row) from best]
          exact ih _ hlex x.bal rfl _ w3 hxb
    · have : b = b0 := nbl_eq hbl e
      rw [this] at hv
      exact g.uniq _ _ _ _ hv h0
theorem dec_uniq {n : Int} {v v' : Val} (h : DecG G n v) (h' : DecG G n v') : v = v' := by
  obtain ⟨b, W, M, hM, wl, wnd, hW⟩ := h
  obtain ⟨b', W', M', hM', wl', wnd', hW'⟩ := h'
  rw [hM] at hM'
  cases hM'
  have ne : ∀ {W : List Int}, W.length = enoughN M.1.length → ∃ w, w ∈ W := fun {W} wl => List.exists_mem_of_ne_nil _ fun z => by rw [z] at wl; unfold enoughN at wl; simp at wl
  obtain ⟨w, hw⟩ := ne wl
  obtain ⟨w', hw'⟩ := ne wl'
  have p := (g.v1 _ _ _ _ (hW w hw).2).1
  have p' := (g.v1 _ _ _ _ (hW' w' hw').2).1
  by_cases e : bl b b'
  · exact (pr_dec_aux g hM wl wnd hW _ b' rfl v' p' (bl_asym e)).symm
  · exact pr_dec_aux g hM wl' wnd' hW' _ b rfl v p e
end

end
end Fo
namespace Fo
open PySem PySem.Spec PyProof.Rows L2
section
variable {P : Program} {w : World} {K : PySem.W.Frag} {mg : Str → Option Value} {base : Heap}
def NP (G : PG) (nw : News) : Prop := 1 ≤ nw.num ∧ G.cfg nw.num = some (nw.mem, nw.row) ∧ ∃ (M : Val) (b : Bal), G.cfg (nw.num - 1) = some M ∧ nw.wit.length = enoughN M.1.length ∧ nw.wit.Pairwise (· < ·) ∧ ∀ w ∈ nw.wit, w ∈ M.1 ∧ G.V (nw.num - 1) w b (nw.mem, nw.row)
structure OP (G : PG) (n i : Int) (en : Nat) (o : Off) : Prop where
  b2 : o.bal.2 = i
  b1 : 1 ≤ o.bal.1
  pm : ∀ p ∈ o.proms, G.Pm n p.1 o.bal p.2.1 p.2.2
  fw : o.fwd = none ↔ o.proms.length < en
  fv : ∀ v, o.fwd = some v → G.Pr n o.bal v
  ag : ∀ j ∈ o.ags, ∃ v, G.V n j o.bal v
structure SP (G : PG) (i : Int) (s : Seat) : Prop where
  mem : ∃ r, G.cfg s.num = some (s.mem, r)
  me : i ∈ s.mem
  news : ∀ nw, s.news = some nw → NP G nw ∧ nw.num = s.num ∧ nw.mem = s.mem
  none : s.news = none → s.num = 0
  agr : ∀ a, s.agr = some a → G.V s.num i a.bal (a.mem, a.row) ∧ ¬ bl s.bal a.bal
  off : ∀ o, s.off = some o → OP G s.num i (enoughN s.mem.length) o
  bal : ¬ bl s.bal noBal
def Left (h : Hnd) (n : Int) : Prop := ∃ e ∈ h.past, e.1 = n
structure HP (G : PG) (i : Int) (h : Hnd) : Prop where
  seat : ∀ s, h.seat = some s → SP G i s ∧ s.num = h.high
  past : ∀ e ∈ h.past, (∃ r, G.cfg e.1 = some (e.2.1, r)) ∧ i ∈ e.2.1 ∧ e.1 ≤ h.high ∧ (∀ s, h.seat = some s → e.1 < s.num) ∧ ∃ M, G.cfg (e.1 + 1) = some (M, e.2.2) ∧ (i ∈ M → Left h (e.1 + 1) ∨ ∃ s, h.seat = some s ∧ s.num = e.1 + 1)
  rise : h.past.Pairwise fun a b => a.1 < b.1
  v : ∀ n b v, G.V n i b v → Left h n ∨ ∃ s, h.seat = some s ∧ s.num = n ∧ ¬ bl s.bal b ∧ ∃ a, s.agr = some a ∧ ¬ bl a.bal b
  pm : ∀ n b r a, G.Pm n i b r a → Left h n ∨ ∃ s, h.seat = some s ∧ s.num = n ∧ ¬ bl s.bal b
  pr : ∀ n k v, G.Pr n (k, i) v → Left h n ∨ ∃ s o, h.seat = some s ∧ s.num = n ∧ s.off = some o ∧ ((o.bal = (k, i) ∧ o.fwd = some v) ∨ k < o.bal.1)
def LP (G : PG) (l : Ltr) : Prop := match l.told with
  | .promise b row ao => G.Pm l.num l.snd b row ao
  | .accept a => G.Pr l.num a.bal (a.mem, a.row)
  | .agree b => ∃ v, G.V l.num l.snd b v
  | .enter n => NP G n
  | _ => True
section
variable {i : Int} {G G' : PG} (L : PG.Le i G G')
include L
theorem NP.up {nw : News} (h : NP G nw) : NP G' nw := by
  obtain ⟨h0, h1, M, b, h2, h3, h4, h5⟩ := h
  exact ⟨h0, L.cfg _ _ h1, M, b, L.cfg _ _ h2, h3, h4, fun w hw => ⟨(h5 w hw).1, L.V _ _ _ _ (h5 w hw).2⟩⟩
theorem OP.up {n j : Int} {en : Nat} {o : Off} (h : OP G n j en o) : OP G' n j en o :=
  ⟨h.b2, h.b1, fun p hp => L.Pm _ _ _ _ _ (h.pm p hp), h.fw, fun v e => L.Pr _ _ _ (h.fv v e), fun j hj => (h.ag j hj).elim fun v w => ⟨v, L.V _ _ _ _ w⟩⟩
theorem SP.up {j : Int} {s : Seat} (h : SP G j s) : SP G' j s :=
  ⟨h.mem.elim fun r w => ⟨r, L.cfg _ _ w⟩, h.me, fun nw e => ⟨NP.up L (h.news nw e).1, (h.news nw e).2⟩, h.none, fun a e => ⟨L.V _ _ _ _ (h.agr a e).1, (h.agr a e).2⟩, fun o e => OP.up L (h.off o e), h.bal⟩
theorem LP.up {l : Ltr} (h : LP G l) : LP G' l := by
  unfold LP at *
  cases ht : l.told with
  | promise b row ao => rw [ht] at h; exact L.Pm _ _ _ _ _ h
  | accept a => rw [ht] at h; exact L.Pr _ _ _ h
  | agree b => rw [ht] at h; exact h.elim fun v w => ⟨v, L.V _ _ _ _ w⟩
  | enter n => rw [ht] at h; exact NP.up L h
  | _ => trivial
theorem HP.past_up {j : Int} {h : Hnd} (p : HP G j h) : ∀ e ∈ h.past, (∃ r, G'.cfg e.1 = some (e.2.1, r)) ∧ j ∈ e.2.1 ∧ e.1 ≤ h.high ∧ (∀ s, h.seat = some s → e.1 < s.num) ∧ ∃ M, G'.cfg (e.1 + 1) = some (M, e.2.2) ∧ (j ∈ M → Left h (e.1 + 1) ∨ ∃ s, h.seat = some s ∧ s.num = e.1 + 1) := fun e he => by
  obtain ⟨⟨r, h1⟩, h2, h3, h4, M, h5, h6⟩ := p.past e he
  exact ⟨⟨r, L.cfg _ _ h1⟩, h2, h3, h4, M, L.cfg _ _ h5, h6⟩
theorem HP.other {j : Int} {h : Hnd} (p : HP G j h) (ne : j ≠ i) : HP G' j h :=
  ⟨fun s hs => ⟨SP.up L (p.seat s hs).1, (p.seat s hs).2⟩, HP.past_up L p, p.rise, fun n b v w => p.v n b v (L.V' _ _ _ _ ne w), fun n b r a w => p.pm n b r a (L.Pm' _ _ _ _ _ ne w), fun n k v w => p.pr n k v (L.Pr' _ _ _ _ ne w)⟩
end
theorem PG.Le.trans {i : Int} {G G1 G2 : PG} (a : PG.Le i G G1) (b : PG.Le i G1 G2) : PG.Le i G G2 :=
  ⟨fun _ _ h => b.cfg _ _ (a.cfg _ _ h), fun _ _ _ _ h => b.V _ _ _ _ (a.V _ _ _ _ h), fun _ _ _ _ _ h => b.Pm _ _ _ _ _ (a.Pm _ _ _ _ _ h), fun _ _ _ h => b.Pr _ _ _ (a.Pr _ _ _ h), fun _ _ _ _ n h => a.V' _ _ _ _ n (b.V' _ _ _ _ n h), fun _ _ _ _ _ n h => a.Pm' _ _ _ _ _ n (b.Pm' _ _ _ _ _ n h), fun _ _ _ _ n h => a.Pr' _ _ _ _ n (b.Pr' _ _ _ _ n h)⟩
/-- a seat of the same number: what is said of the hand but for it stays -/
theorem HP.sit {G G' : PG} {i : Int} {h : Hnd} {s s' : Seat} (p : HP G i h) (L : PG.Le i G G') (hs : h.seat = some s) (hn : s'.num = s.num) (sp : SP G' i s')
    (hv : ∀ b v, G'.V s.num i b v → ¬ bl s'.bal b ∧ ∃ a, s'.agr = some a ∧ ¬ bl a.bal b) (hV : ∀ n b v, n ≠ s.num → G'.V n i b v → G.V n i b v)
    (hp : ∀ b r a, G'.Pm s.num i b r a → ¬ bl s'.bal b) (hP : ∀ n b r a, n ≠ s.num → G'.Pm n i b r a → G.Pm n i b r a)
    (hr : ∀ k v, G'.Pr s.num (k, i) v → ∃ o, s'.off = some o ∧ ((o.bal = (k, i) ∧ o.fwd = some v) ∨ k < o.bal.1)) (hR : ∀ n k v, n ≠ s.num → G'.Pr n (k, i) v → G.Pr n (k, i) v) : HP G' i { h with seat := some s' } := by
  have hi := (p.seat s hs).2
  refine ⟨fun t e => ?_, fun e he => ?_, p.rise, fun n b v w => ?_, fun n b r a w => ?_, fun n k v w => ?_⟩
  · cases e
    exact ⟨sp, hn.trans hi⟩
  · obtain ⟨⟨r, h1⟩, h2, h3, h4, M, h5, h6⟩ := p.past e he
    refine ⟨⟨r, L.cfg _ _ h1⟩, h2, h3, fun t ht => ?_, M, L.cfg _ _ h5, fun z => ?_⟩
    · cases ht
      rw [hn]
      exact h4 s hs
    · rcases h6 z with w | ⟨t, w1, w2⟩
      · exact .inl w
      · rw [hs] at w1
        cases w1
        exact .inr ⟨s', rfl, hn.trans w2⟩
  · by_cases e : n = s.num
    · subst e
      obtain ⟨q1, q2⟩ := hv b v w
      exact .inr ⟨s', rfl, hn, q1, q2⟩
    · rcases p.v n b v (hV n b v e w) with w | ⟨t, w1, w2, _⟩
      · exact .inl w
      · rw [hs] at w1
        cases w1
        exact absurd w2.symm e
  · by_cases e : n = s.num
    · subst e
      exact .inr ⟨s', rfl, hn, hp b r a w⟩
    · rcases p.pm n b r a (hP n b r a e w) with w | ⟨t, w1, w2, _⟩
      · exact .inl w
      · rw [hs] at w1
        cases w1
        exact absurd w2.symm e
  · by_cases e : n = s.num
    · subst e
      obtain ⟨o, q1, q2⟩ := hr k v w
      exact .inr ⟨s', o, rfl, hn, q1, q2⟩
    · rcases p.pr n k v (hR n k v e w) with w | ⟨t, o, w1, w2, _⟩
      · exact .inl w
      · rw [hs] at w1
        cases w1
        exact absurd w2.symm e
/-- what is known of a seat that a hand has -/
theorem HP.here {G : PG} {i : Int} {h : Hnd} {s : Seat} (p : HP G i h) (hs : h.seat = some s) : (∀ b v, G.V s.num i b v → ¬ bl s.bal b ∧ ∃ a, s.agr = some a ∧ ¬ bl a.bal b) ∧ (∀ b r a, G.Pm s.num i b r a → ¬ bl s.bal b) ∧ ∀ k v, G.Pr s.num (k, i) v → ∃ o, s.off = some o ∧ ((o.bal = (k, i) ∧ o.fwd = some v) ∨ k < o.bal.1) := by
  have nl : ¬ Left h s.num := fun ⟨e, he, hn⟩ => by
    have := (p.past e he).2.2.2.1 s hs
    omega
  refine ⟨fun b v w => ?_, fun b r a w => ?_, fun k v w => ?_⟩
  · rcases p.v _ _ _ w with z | ⟨t, w1, _, w3⟩
    · exact absurd z nl
    · rw [hs] at w1; cases w1; exact w3
  · rcases p.pm _ _ _ _ w with z | ⟨t, w1, _, w3⟩
    · exact absurd z nl
    · rw [hs] at w1; cases w1; exact w3
  · rcases p.pr _ _ _ w with z | ⟨t, o, w1, _, w3⟩
    · exact absurd z nl
    · rw [hs] at w1; cases w1; exact ⟨o, w3⟩
/-- nothing but rows changes -/
theorem HP.same {G : PG} {i : Int} {h : Hnd} {s s' : Seat} (p : HP G i h) (hs : h.seat = some s) (e1 : s'.num = s.num) (e2 : s'.mem = s.mem) (e3 : s'.news = s.news) (e4 : s'.bal = s.bal) (e5 : s'.agr = s.agr) (e6 : s'.off = s.off) : HP G i { h with seat := some s' } := by
  obtain ⟨q1, q2, q3⟩ := p.here hs
  have sp := (p.seat s hs).1
  refine p.sit (PG.Le.refl i G) hs e1 ⟨by rw [e1, e2]; exact sp.mem, by rw [e2]; exact sp.me, by rw [e1, e2, e3]; exact sp.news, by rw [e1, e3]; exact sp.none, by rw [e1, e4, e5]; exact sp.agr, by rw [e1, e2, e6]; exact sp.off, by rw [e4]; exact sp.bal⟩ ?_ (fun _ _ _ _ h => h) ?_ (fun _ _ _ _ _ h => h) ?_ (fun _ _ _ _ h => h)
  · rw [e4, e5]; exact q1
  · rw [e4]; exact q2
  · rw [e6]; exact q3
/-- what a letter does to a hand, and to what is known -/
def Doe (m : Nat) (first : List Int) (G : PG) (i : Int) (h' : Hnd) (out : List Ltr) : Prop := ∃ G', PG.Le i G G' ∧ GOk m first G' ∧ HP G' i h' ∧ (∀ y ∈ out, LP G' y) ∧ ∀ n b r a, G'.Pm n i b r a → G.Pm n i b r a ∨ ∃ s', h'.seat = some s' ∧ n = s'.num ∧ r = s'.row
theorem mail_told {i : Nat} {s : Seat} {hs : List Int} {t : Told} {y : Ltr} (h : y ∈ mail i s hs t) : y.told = t ∧ y.num = s.num ∧ y.snd = (i : Int) := by
  obtain ⟨z, _, rfl⟩ := mail_mem h
  exact ⟨rfl, rfl, rfl⟩
theorem lp_plain {G : PG} {y : Ltr} (h : (∃ x, y.told = .wish x) ∨ (∃ x p, y.told = .hold x p) ∨ (∃ n, y.told = .have_ n) ∨ (∃ n, y.told = .take n) ∨ ∃ b, y.told = .prepare b) : LP G y := by
  unfold LP
  rcases h with ⟨_, e⟩ | ⟨_, _, e⟩ | ⟨_, e⟩ | ⟨_, e⟩ | ⟨_, e⟩ <;> rw [e] <;> trivial
section
variable {m : Nat} {first : List Int} {G : PG} {i : Nat} {h : Hnd} {s : Seat} (g : GOk m first G) (p : HP G i h) (hs : h.seat = some s)
include g p hs
theorem doe_same {s' : Seat} {out : List Ltr} (e1 : s'.num = s.num) (e2 : s'.mem = s.mem) (e3 : s'.news = s.news) (e4 : s'.bal = s.bal) (e5 : s'.agr = s.agr) (e6 : s'.off = s.off) (ho : ∀ y ∈ out, LP G y) : Doe m first G i { h with seat := some s' } out :=
  ⟨G, PG.Le.refl _ _, g, p.same hs e1 e2 e3 e4 e5 e6, ho, fun _ _ _ _ w => .inl w⟩
theorem doe_none : Doe m first G i { h with seat := some s } [] := doe_same g p hs rfl rfl rfl rfl rfl rfl fun _ h => nomatch h
theorem doe_tweh {s1 : Seat} {out : List Ltr} (e1 : s1.num = s.num) (e2 : s1.mem = s.mem) (e3 : s1.news = s.news) (e4 : s1.bal = s.bal) (e5 : s1.agr = s.agr) (e6 : s1.off = s.off) (ho : ∀ y ∈ out, LP G y) : Doe m first G i { h with seat := some (s1.tweh i).1 } (out ++ (s1.tweh i).2) := by
  unfold Seat.tweh
  dsimp only
  split
  · refine doe_same g p hs e1 e2 e3 e4 e5 e6 fun y hy => ?_
    rcases List.mem_append.mp hy with hy | hy
    · exact ho y hy
    · exact lp_plain (.inr (.inr (.inr (.inl ⟨_, (mail_told hy).1⟩))))
  · refine doe_same g p hs e1 e2 e3 e4 e5 e6 fun y hy => ?_
    rw [List.append_nil] at hy
    exact ho y hy
theorem doe_row {l : Ltr} (hl : (∃ x, l.told = .wish x) ∨ (∃ x p, l.told = .hold x p) ∨ (∃ n, l.told = .have_ n) ∨ (∃ n, l.told = .take n) ∨ ∃ n, l.told = .enter n) : Doe m first G i { h with seat := some (s.read i l).1 } (s.read i l).2 := by
  unfold Seat.read
  rcases hl with ⟨x, ht⟩ | ⟨x, pl, ht⟩ | ⟨n, ht⟩ | ⟨n, ht⟩ | ⟨n, ht⟩
  · rw [ht]
    dsimp only
    unfold Seat.wish
    split
    · exact doe_none g p hs
    · exact doe_tweh g p hs rfl rfl rfl rfl rfl rfl fun y hy => lp_plain (.inr (.inl ⟨_, _, (mail_told hy).1⟩))
  · rw [ht]
    dsimp only
    unfold Seat.holdC
    split
    · exact doe_none g p hs
    · dsimp only
      split
      · exact doe_same g p hs rfl rfl rfl rfl rfl rfl fun y hy => lp_plain (.inr (.inr (.inl ⟨_, congrArg Ltr.told (List.mem_singleton.mp hy)⟩)))
      · exact doe_same g p hs rfl rfl rfl rfl rfl rfl fun y hy => lp_plain (.inr (.inr (.inl ⟨_, congrArg Ltr.told (List.mem_singleton.mp hy)⟩)))
  · rw [ht]
    exact doe_tweh g p hs (s1 := s.note l.snd (max (getA l.snd 0 s.hold) n)) (out := []) rfl rfl rfl rfl rfl rfl fun _ h => nomatch h
  · rw [ht]
    exact doe_same g p hs rfl rfl rfl rfl rfl rfl fun _ h => nomatch h
  · rw [ht]
    exact doe_none g p hs
end

end
end Fo
namespace Fo
open PySem PySem.Spec PyProof.Rows L2
section
variable {P : Program} {w : World} {K : PySem.W.Frag} {mg : Str → Option Value} {base : Heap}
section
variable {m : Nat} {first : List Int} {G : PG} {i : Nat} {h : Hnd} {s : Seat} (g : GOk m first G) (p : HP G i h) (hs : h.seat = some s)
include g p hs
theorem doe_prep {l : Ltr} {b : Bal} : Doe m first G i { h with seat := some (s.prepC i l.snd b).1 } (s.prepC i l.snd b).2 := by
  unfold Seat.prepC
  split
  · rename_i hb
    have hb := bl_iff.mp hb
    obtain ⟨q1, q2, q3⟩ := p.here hs
    have sp := (p.seat s hs).1
    let G' : PG := { G with Pm := fun n j b' r a => G.Pm n j b' r a ∨ (n = s.num ∧ j = i ∧ b' = b ∧ r = s.row ∧ a = s.agr) }
    have L : PG.Le i G G' := ⟨fun _ _ h => h, fun _ _ _ _ h => h, fun _ _ _ _ _ h => .inl h, fun _ _ _ h => h, fun _ _ _ _ _ h => h, fun _ _ _ _ _ n h => by
      rcases h with h | ⟨_, h, _⟩
      · exact h
      · exact absurd h n, fun _ _ _ _ _ h => h⟩
    refine ⟨G', L, ⟨g.ok, g.c0, g.dec, g.v1, fun n j b' r a w => ?_, fun n j b' r a b2 v w w2 w3 => ?_, fun n j b' r a w => ?_, fun n j b' r a w => ?_, g.uniq, fun n b' v w => ?_⟩, ?_, fun y hy => ?_, fun n b' r a w => ?_⟩
    · rcases w with w | ⟨rfl, rfl, rfl, rfl, rfl⟩
      · exact g.p0 _ _ _ _ _ w
      · obtain ⟨r, hr⟩ := sp.mem
        exact ⟨_, hr, sp.me⟩
    · rcases w with w | ⟨rfl, rfl, rfl, rfl, rfl⟩
      · exact g.p1 _ _ _ _ _ _ _ w w2 w3
      · exact (q1 _ _ w2).2
    · rcases w with w | ⟨rfl, rfl, rfl, rfl, w⟩
      · exact g.p2 _ _ _ _ _ w
      · obtain ⟨w1, w2⟩ := sp.agr a w.symm
        exact ⟨w1, nbl_bl w2 hb⟩
    · rcases w with w | ⟨rfl, rfl, rfl, rfl, w⟩
      · exact g.p3 _ _ _ _ _ w
      · exact nbl_bl sp.bal hb
    · obtain ⟨w1, w2, M, w3, ps, w4, w5, w6, w7⟩ := g.safe _ _ _ w
      exact ⟨w1, w2, M, w3, ps, w4, w5, fun q hq => .inl (w6 q hq), w7⟩
    · refine p.sit L hs rfl ⟨sp.mem, sp.me, sp.news, sp.none, fun a e => ⟨(sp.agr a e).1, bl_asym (nbl_bl (sp.agr a e).2 hb)⟩, fun o e => OP.up L (sp.off o e), bl_asym (nbl_bl sp.bal hb)⟩ (fun b' v w => ?_) (fun _ _ _ _ h => h) (fun b' r a w => ?_) (fun n b' r a ne w => ?_) q3 (fun _ _ _ _ h => h)
      · obtain ⟨w1, w2⟩ := q1 b' v w
        exact ⟨bl_asym (nbl_bl w1 hb), w2⟩
      · rcases w with w | ⟨_, _, rfl, _⟩
        · exact bl_asym (nbl_bl (q2 _ _ _ w) hb)
        · exact bl_irr
      · rcases w with w | ⟨e, _⟩
        · exact w
        · exact absurd e ne
    · rw [List.mem_singleton.mp hy]
      exact .inr ⟨rfl, rfl, rfl, rfl, rfl⟩
    · rcases w with w | ⟨e, _, _, e2, _⟩
      · exact .inl w
      · exact .inr ⟨_, rfl, e, e2⟩
  · exact doe_none g p hs
theorem doe_acc {l : Ltr} {a : Agr} (hl : G.Pr s.num a.bal (a.mem, a.row)) : Doe m first G i { h with seat := some (s.accC i l.snd a).1 } (s.accC i l.snd a).2 := by
  unfold Seat.accC
  split
  · exact doe_none g p hs
  · rename_i hb
    have hb : ¬ bl a.bal s.bal := fun z => hb (bl_iff.mpr z)
    obtain ⟨q1, q2, q3⟩ := p.here hs
    have sp := (p.seat s hs).1
    let G' : PG := { G with V := fun n j b' v => G.V n j b' v ∨ (n = s.num ∧ j = i ∧ b' = a.bal ∧ v = (a.mem, a.row)) }
    have L : PG.Le i G G' := ⟨fun _ _ h => h, fun _ _ _ _ h => .inl h, fun _ _ _ _ _ h => h, fun _ _ _ h => h, fun _ _ _ _ n h => by
      rcases h with h | ⟨_, h, _⟩
      · exact h
      · exact absurd h n, fun _ _ _ _ _ _ h => h, fun _ _ _ _ _ h => h⟩
    have b1 := (g.safe _ _ _ hl).1
    refine ⟨G', L, ⟨g.ok, g.c0, fun n v w h0 => ?_, fun n j b' v w => ?_, g.p0, fun n j b' r x b2 v w w2 w3 => ?_, fun n j b' r x w => ⟨.inl (g.p2 _ _ _ _ _ w).1, (g.p2 _ _ _ _ _ w).2⟩, g.p3, g.uniq, g.safe⟩, ?_, fun y hy => ?_, fun _ _ _ _ w => .inl w⟩
    · obtain ⟨b, W, M, w1, w2, w3, w4⟩ := g.dec n v w h0
      exact ⟨b, W, M, w1, w2, w3, fun x hx => ⟨(w4 x hx).1, .inl (w4 x hx).2⟩⟩
    · rcases w with w | ⟨rfl, rfl, rfl, rfl⟩
      · exact g.v1 _ _ _ _ w
      · obtain ⟨r, hr⟩ := sp.mem
        exact ⟨hl, _, hr, sp.me⟩
    · rcases w2 with w2 | ⟨rfl, rfl, rfl, rfl⟩
      · exact g.p1 _ _ _ _ _ _ _ w w2 w3
      · exact absurd (bl_nbl w3 (q2 _ _ _ w)) hb
    · refine p.sit L hs rfl ⟨sp.mem, sp.me, fun nw e => ⟨NP.up L (sp.news nw e).1, (sp.news nw e).2⟩, sp.none, fun x e => ?_, fun o e => OP.up L (sp.off o e), ?_⟩ (fun b' v w => ?_) (fun n b' v ne w => ?_) (fun b' r x w => nbl_tr (q2 _ _ _ w) hb) (fun _ _ _ _ _ h => h) q3 (fun _ _ _ _ h => h)
      · cases e
        exact ⟨.inr ⟨rfl, rfl, rfl, rfl⟩, bl_irr⟩
      · exact nbl_tr sp.bal hb
      · rcases w with w | ⟨_, _, rfl, _⟩
        · have w1 := nbl_tr (q1 b' v w).1 hb
          exact ⟨w1, a, rfl, w1⟩
        · exact ⟨bl_irr, a, rfl, bl_irr⟩
      · rcases w with w | ⟨e, _⟩
        · exact w
        · exact absurd e ne
    · rw [List.mem_singleton.mp hy]
      exact ⟨_, .inr ⟨rfl, rfl, rfl, rfl⟩⟩
theorem doe_prom {l : Ltr} {b : Bal} {row : List Msg} {ao : Option Agr} (hl : G.Pm s.num l.snd b row ao) (hk : ∀ o, s.off = some o → (o.proms.map (·.1)).Nodup) : Doe m first G i { h with seat := some (s.promC i l.snd b row ao).1 } (s.promC i l.snd b row ao).2 := by
  unfold Seat.promC
  cases ho : s.off with
  | none => exact doe_none g p hs
  | some o =>
    dsimp only
    split
    · exact doe_none g p hs
    · rename_i hc
      obtain ⟨hb, hnew⟩ := not_or.mp hc
      have hb : o.bal = b := Decidable.byContradiction hb
      subst hb
      obtain ⟨q1, q2, q3⟩ := p.here hs
      have sp := (p.seat s hs).1
      have op := sp.off o ho
      obtain ⟨r0, hr0⟩ := sp.mem
      have pm1 : ∀ x ∈ o.proms ++ [(l.snd, row, ao)], G.Pm s.num x.1 o.bal x.2.1 x.2.2 := fun x hx => by
        rcases List.mem_append.mp hx with hx | hx
        · exact op.pm x hx
        · rw [List.mem_singleton.mp hx]; exact hl
      split
      · rename_i hen
        have hen : (o.proms ++ [(l.snd, row, ao)]).length = enoughN s.mem.length := hen
        have hfn : o.fwd = none := op.fw.mpr (by rw [← hen, List.length_append]; show _ < _ + 1; omega)
        obtain ⟨vf, hvf⟩ : ∃ vf, ({ o with proms := o.proms ++ [(l.snd, row, ao)] } : Off).forward = vf := ⟨_, rfl⟩
        rw [hvf]
        have old : ∀ v, ¬ G.Pr s.num o.bal v := fun v w => by
          have e : o.bal = (o.bal.1, (i : Int)) := Prod.ext rfl op.b2
          rw [e] at w
          obtain ⟨o', z1, z2⟩ := q3 _ _ w
          rw [ho] at z1
          cases z1
          rcases z2 with ⟨_, z2⟩ | z2
          · rw [hfn] at z2; cases z2
          · omega
        let G' : PG := { G with Pr := fun n b' v => G.Pr n b' v ∨ (n = s.num ∧ b' = o.bal ∧ v = vf) }
        have L : PG.Le i G G' := ⟨fun _ _ h => h, fun _ _ _ _ h => h, fun _ _ _ _ _ h => h, fun _ _ _ h => .inl h, fun _ _ _ _ _ h => h, fun _ _ _ _ _ _ h => h, fun n k j v ne h => by
          rcases h with h | ⟨_, h, _⟩
          · exact h
          · exact absurd ((congrArg Prod.snd h).trans op.b2) ne⟩
        refine ⟨G', L, ⟨g.ok, g.c0, g.dec, fun n j b' v w => ⟨.inl (g.v1 _ _ _ _ w).1, (g.v1 _ _ _ _ w).2⟩, g.p0, g.p1, g.p2, g.p3, fun n b' v v' w w' => ?_, fun n b' v w => ?_⟩, ?_, fun y hy => ?_, fun _ _ _ _ w => .inl w⟩
        · rcases w with w | ⟨rfl, rfl, rfl⟩
          · rcases w' with w' | ⟨rfl, rfl, rfl⟩
            · exact g.uniq _ _ _ _ w w'
            · exact absurd w (old _)
          · rcases w' with w' | ⟨_, _, rfl⟩
            · exact absurd w' (old _)
            · rfl
        · rcases w with w | ⟨rfl, rfl, rfl⟩
          · exact g.safe _ _ _ w
          · refine ⟨op.b1, by rw [op.b2]; omega, _, hr0, o.proms ++ [(l.snd, row, ao)], hen, ?_, pm1, ?_⟩
            · rw [List.map_append]
              refine List.nodup_append.mpr ⟨hk o ho, List.nodup_cons.mpr ⟨List.not_mem_nil, List.Pairwise.nil⟩, fun x hx y hy e => ?_⟩
              rw [List.mem_singleton.mp hy] at e
              have e' : x = l.snd := e
              exact hnew (e' ▸ hx)
            · rw [← hvf]
              unfold Off.forward
              dsimp only
              cases bestA none (o.proms ++ [(l.snd, row, ao)]) <;> rfl
        · refine p.sit L hs rfl ⟨sp.mem, sp.me, fun nw e => ⟨NP.up L (sp.news nw e).1, (sp.news nw e).2⟩, sp.none, sp.agr, fun o' e => ?_, sp.bal⟩ q1 (fun _ _ _ _ h => h) q2 (fun _ _ _ _ _ h => h) (fun k v w => ?_) (fun n k v ne w => ?_)
          · cases e
            refine ⟨op.b2, op.b1, pm1, ?_, fun v e => ?_, op.ag⟩
            · show some vf = none ↔ (o.proms ++ [(l.snd, row, ao)]).length < enoughN s.mem.length
              rw [hen]
              exact ⟨fun z => (nomatch z), fun z => absurd z (Nat.lt_irrefl _)⟩
            · have e' : some vf = some v := e
              cases e'
              exact .inr ⟨rfl, rfl, rfl⟩
          · refine ⟨_, rfl, ?_⟩
            rcases w with w | ⟨_, w, rfl⟩
            · obtain ⟨o', z1, z2⟩ := q3 _ _ w
              rw [ho] at z1
              cases z1
              rcases z2 with ⟨_, z2⟩ | z2
              · rw [hfn] at z2; cases z2
              · exact .inr z2
            · exact .inl ⟨w.symm, rfl⟩
          · rcases w with w | ⟨e, _⟩
            · exact w
            · exact absurd e ne
        · unfold LP
          obtain ⟨t1, t2, _⟩ := mail_told hy
          rw [t1, t2]
          exact .inr ⟨rfl, rfl, rfl⟩
      · rename_i hen
        have hen : ¬ (o.proms ++ [(l.snd, row, ao)]).length = enoughN s.mem.length := hen
        rw [List.length_append] at hen
        have hen : ¬ o.proms.length + 1 = enoughN s.mem.length := hen
        refine ⟨G, PG.Le.refl _ _, g, p.sit (PG.Le.refl _ _) hs rfl ⟨sp.mem, sp.me, sp.news, sp.none, sp.agr, fun o' e => ?_, sp.bal⟩ q1 (fun _ _ _ _ h => h) q2 (fun _ _ _ _ _ h => h) (fun k v w => ?_) (fun _ _ _ _ h => h), (fun _ h => nomatch h), fun _ _ _ _ w => .inl w⟩
        · cases e
          refine ⟨op.b2, op.b1, pm1, ?_, op.fv, op.ag⟩
          show o.fwd = none ↔ (o.proms ++ [(l.snd, row, ao)]).length < enoughN s.mem.length
          rw [op.fw, List.length_append]
          show _ ↔ o.proms.length + 1 < _
          omega
        · obtain ⟨o', z1, z2⟩ := q3 _ _ w
          rw [ho] at z1
          cases z1
          exact ⟨_, rfl, z2⟩
theorem doe_agr {l : Ltr} {b : Bal} {B : Nat} {X : Prm} (hl : ∃ v, G.V s.num l.snd b v) (hk : ∀ o, s.off = some o → OffOk X m B o) : Doe m first G i { h with seat := some (s.agrC i l.snd b).1 } (s.agrC i l.snd b).2 := by
  unfold Seat.agrC
  cases ho : s.off with
  | none => exact doe_none g p hs
  | some o =>
    dsimp only
    split
    · exact doe_none g p hs
    · rename_i hc
      obtain ⟨hb, hnew⟩ := not_or.mp hc
      have hb : o.bal = b := Decidable.byContradiction hb
      subst hb
      obtain ⟨q1, q2, q3⟩ := p.here hs
      have sp := (p.seat s hs).1
      have op := sp.off o ho
      have ok := hk o ho
      obtain ⟨r0, hr0⟩ := sp.mem
      have ag1 : ∀ j ∈ o.ags ++ [l.snd], ∃ v, G.V s.num j o.bal v := fun x hx => by
        rcases List.mem_append.mp hx with hx | hx
        · exact op.ag x hx
        · rw [List.mem_singleton.mp hx]; exact hl
      have sit : ∀ (G' : PG) (L : PG.Le i G G'), (∀ n j b v, G'.V n j b v → G.V n j b v) → (∀ n j b r a, G'.Pm n j b r a → G.Pm n j b r a) → (∀ n b v, G'.Pr n b v → G.Pr n b v) → HP G' i { h with seat := some { s with off := some { o with ags := o.ags ++ [l.snd] } } } := fun G' L e1 e2 e3 => by
        refine p.sit L hs rfl ⟨⟨r0, L.cfg _ _ hr0⟩, sp.me, fun nw e => ⟨NP.up L (sp.news nw e).1, (sp.news nw e).2⟩, sp.none, fun a e => ⟨L.V _ _ _ _ (sp.agr a e).1, (sp.agr a e).2⟩, fun o' e => ?_, sp.bal⟩ (fun b v w => q1 b v (e1 _ _ _ _ w)) (fun n b v _ w => e1 _ _ _ _ w) (fun b r a w => q2 b r a (e2 _ _ _ _ _ w)) (fun n b r a _ w => e2 _ _ _ _ _ w) (fun k v w => ?_) (fun n k v _ w => e3 _ _ _ w)
        · cases e
          exact OP.up L ⟨op.b2, op.b1, op.pm, op.fw, op.fv, ag1⟩
        · obtain ⟨o', z1, z2⟩ := q3 _ _ (e3 _ _ _ w)
          rw [ho] at z1
          cases z1
          exact ⟨_, rfl, z2⟩
      split
      · rename_i hen
        have hen : (o.ags ++ [l.snd]).length = enoughN s.mem.length := hen
        have vf : ∀ j v, G.V s.num j o.bal v → o.fwd = some v := fun j v w => by
          have w2 := (g.v1 _ _ _ _ w).1
          have e : o.bal = (o.bal.1, (i : Int)) := Prod.ext rfl op.b2
          rw [e] at w2
          obtain ⟨o', z1, z2⟩ := q3 _ _ w2
          rw [ho] at z1
          cases z1
          rcases z2 with ⟨_, z2⟩ | z2
          · exact z2
          · omega
        obtain ⟨v, hv⟩ := hl
        have hfw := vf _ _ hv
        have nd1 : (o.ags ++ [l.snd]).Nodup := by
          refine List.nodup_append.mpr ⟨ok.ak, List.nodup_cons.mpr ⟨List.not_mem_nil, List.Pairwise.nil⟩, fun x hx y hy e => ?_⟩
          rw [List.mem_singleton.mp hy] at e
          exact hnew (e ▸ hx)
        have vs : ∀ j ∈ o.ags ++ [l.snd], j ∈ s.mem ∧ G.V s.num j o.bal v := fun j hj => by
          obtain ⟨v', w⟩ := ag1 j hj
          have e := vf _ _ w
          rw [hfw] at e
          cases e
          obtain ⟨M, w1, w2⟩ := (g.v1 _ _ _ _ w).2
          rw [hr0] at w1
          cases w1
          exact ⟨w2, w⟩
        have dn : DecG G s.num v := ⟨o.bal, o.ags ++ [l.snd], _, hr0, hen, nd1, vs⟩
        have vok := (ok.fwd v hfw).1
        have n0 := (g.ok _ _ hr0).1
        have hfd : o.fwd.getD ([], []) = v := by rw [hfw]; rfl
        show Doe m first G i _ (mail i _ (bothOf s.mem (o.fwd.getD ([], [])).1) (.enter ⟨s.num + 1, (o.fwd.getD ([], [])).1, (o.fwd.getD ([], [])).2, sortA (o.ags ++ [l.snd])⟩))
        rw [hfd]
        have np : ∀ G' : PG, PG.Le i G G' → G'.cfg (s.num + 1) = some v → NP G' ⟨s.num + 1, v.1, v.2, sortA (o.ags ++ [l.snd])⟩ := fun G' L hc => by
          refine ⟨by show 1 ≤ s.num + 1; omega, hc, (s.mem, r0), o.bal, ?_, ?_, ?_, fun w hw => ?_⟩
          · show G'.cfg (s.num + 1 - 1) = _
            rw [show s.num + 1 - 1 = s.num by omega]
            exact L.cfg _ _ hr0
          · show (sortA (o.ags ++ [l.snd])).length = _
            rw [(sortA_perm _).length_eq]
            exact hen
          · have h1 := sortA_sorted (o.ags ++ [l.snd])
            have h2 := (sortA_perm (o.ags ++ [l.snd])).nodup_iff.mpr nd1
            exact h1.imp₂ (fun a b x y => by omega) h2
          · have hw2 := (sortA_perm _).mem_iff.mp hw
            show _ ∧ G'.V (s.num + 1 - 1) w o.bal v
            rw [show s.num + 1 - 1 = s.num by omega]
            exact ⟨(vs w hw2).1, L.V _ _ _ _ (vs w hw2).2⟩
        cases hc : G.cfg (s.num + 1) with
        | some v2 =>
          have e := g.dec _ _ hc (by omega)
          rw [show s.num + 1 - 1 = s.num by omega] at e
          have e2 := dec_uniq g dn e
          subst e2
          refine ⟨G, PG.Le.refl _ _, g, sit G (PG.Le.refl _ _) (fun _ _ _ _ h => h) (fun _ _ _ _ _ h => h) (fun _ _ _ h => h), fun y hy => ?_, fun _ _ _ _ w => .inl w⟩
          unfold LP
          rw [(mail_told hy).1]
          exact np G (PG.Le.refl _ _) hc
        | none =>
          let G' : PG := { G with cfg := fun n => if n = s.num + 1 then some v else G.cfg n }
          have cm : ∀ n v', G.cfg n = some v' → G'.cfg n = some v' := fun n v' w => by
            show (if n = s.num + 1 then some v else G.cfg n) = _
            rw [if_neg (fun z => by rw [z, hc] at w; cases w)]
            exact w
          have L : PG.Le i G G' := ⟨cm, fun _ _ _ _ h => h, fun _ _ _ _ _ h => h, fun _ _ _ h => h, fun _ _ _ _ _ h => h, fun _ _ _ _ _ _ h => h, fun _ _ _ _ _ h => h⟩
          have up : ∀ n v, DecG G n v → DecG G' n v := fun n v ⟨b, W, M, w1, w2⟩ => ⟨b, W, M, cm _ _ w1, w2⟩
          refine ⟨G', L, ⟨fun n v' w => ?_, cm _ _ g.c0, fun n v' w h0 => ?_, fun n j b v w => ⟨(g.v1 _ _ _ _ w).1, (g.v1 _ _ _ _ w).2.elim fun M q => ⟨M, cm _ _ q.1, q.2⟩⟩, fun n j b r a w => (g.p0 _ _ _ _ _ w).elim fun M q => ⟨M, cm _ _ q.1, q.2⟩, g.p1, g.p2, g.p3, g.uniq, fun n b v w => ?_⟩, sit G' L (fun _ _ _ _ h => h) (fun _ _ _ _ _ h => h) (fun _ _ _ h => h), fun y hy => ?_, fun _ _ _ _ w => .inl w⟩
          · have w' : (if n = s.num + 1 then some v else G.cfg n) = some v' := w
            split at w'
            · rename_i e
              cases w'
              exact ⟨by omega, vok.ne, vok.rg, vok.up⟩
            · exact g.ok _ _ w'
          · have w' : (if n = s.num + 1 then some v else G.cfg n) = some v' := w
            split at w'
            · rename_i e
              cases w'
              rw [e, show s.num + 1 - 1 = s.num by omega]
              exact up _ _ dn
            · exact up _ _ (g.dec _ _ w' h0)
          · obtain ⟨w1, w2, M, w3, ps, w4⟩ := g.safe _ _ _ w
            exact ⟨w1, w2, M, cm _ _ w3, ps, w4⟩
          · unfold LP
            rw [(mail_told hy).1]
            exact np G' L (by show (if s.num + 1 = s.num + 1 then some v else _) = _; rw [if_pos rfl])
      · exact ⟨G, PG.Le.refl _ _, g, sit G (PG.Le.refl _ _) (fun _ _ _ _ h => h) (fun _ _ _ _ _ h => h) (fun _ _ _ h => h), (fun _ h => nomatch h), fun _ _ _ _ w => .inl w⟩
end

end
end Fo
namespace Fo
open PySem PySem.Spec PyProof.Rows L2
section
variable {P : Program} {w : World} {K : PySem.W.Frag} {mg : Str → Option Value} {base : Heap}
theorem HP.enter {G : PG} {i : Nat} {h : Hnd} {nw : News} (g : ∀ n v, G.cfg n = some v → 0 ≤ n) (p : HP G i h) (hn : NP G nw) : HP G i (h.enterC i nw) := by
  obtain ⟨n0, nc, M, b, nM, nl, nr, nv⟩ := hn
  have join : ∀ h : Hnd, h.seat = none → HP G i h → (∀ n b v, G.V n i b v → Left h n) → HP G i (h.join i nw) := fun h hs p _ => by
    unfold Hnd.join
    split
    · rename_i q
      refine ⟨fun s e => ?_, fun e he => ?_, p.rise, fun n b v w => ?_, fun n b r a w => ?_, fun n k v w => ?_⟩
      · cases e
        exact ⟨⟨⟨nw.row, nc⟩, q.1, fun nw' e => by cases e; exact ⟨⟨n0, nc, M, b, nM, nl, nr, nv⟩, rfl, rfl⟩, fun e => (nomatch e), fun a e => (nomatch e), fun o e => (nomatch e), bl_irr⟩, rfl⟩
      · obtain ⟨h1, h2, h3, h4, M', h5, h6⟩ := p.past e he
        refine ⟨h1, h2, by show e.1 ≤ nw.num; omega, fun s e' => ?_, M', h5, fun z => ?_⟩
        · cases e'
          show e.1 < nw.num
          omega
        · rcases h6 z with w | ⟨t, w1, _⟩
          · exact .inl w
          · rw [hs] at w1; cases w1
      · rcases p.v n b v w with w | ⟨t, w1, _⟩
        · exact .inl w
        · rw [hs] at w1; cases w1
      · rcases p.pm n b r a w with w | ⟨t, w1, _⟩
        · exact .inl w
        · rw [hs] at w1; cases w1
      · rcases p.pr n k v w with w | ⟨t, o, w1, _⟩
        · exact .inl w
        · rw [hs] at w1; cases w1
    · exact p
  unfold Hnd.enterC
  cases hs : h.seat with
  | none =>
    refine join h hs p fun n b v w => ?_
    rcases p.v n b v w with w | ⟨t, w1, _⟩
    · exact w
    · rw [hs] at w1; cases w1
  | some s =>
    show HP G i (if s.num ≠ nw.num - 1 then h else _)
    split
    · exact p
    · rename_i hq
      have hq : s.num = nw.num - 1 := Decidable.byContradiction hq
      obtain ⟨sp, hi⟩ := p.seat s hs
      obtain ⟨r0, hr0⟩ := sp.mem
      have hM : M = (s.mem, r0) := by
        rw [← hq, hr0] at nM
        exact (Option.some.inj nM).symm
      have lf : ∀ n, Left h n → Left { h with past := h.past ++ [(s.num, s.mem, nw.row)], seat := none } n := fun n ⟨e, he, hn⟩ => ⟨e, List.mem_append_left _ he, hn⟩
      have lh : Left { h with past := h.past ++ [(s.num, s.mem, nw.row)], seat := none } s.num := ⟨_, List.mem_append_right _ List.mem_cons_self, rfl⟩
      have rise2 : (h.past ++ [(s.num, s.mem, nw.row)]).Pairwise fun a b => a.1 < b.1 := List.pairwise_append.mpr ⟨p.rise, List.pairwise_singleton _ _, fun a ha b hb => by
        rw [List.mem_singleton.mp hb]
        exact (p.past a ha).2.2.2.1 s hs⟩
      have pv : ∀ n b v, G.V n i b v → Left { h with past := h.past ++ [(s.num, s.mem, nw.row)], seat := none } n := fun n b v w => by
        rcases p.v n b v w with w | ⟨t, w1, w2, _⟩
        · exact lf _ w
        · rw [hs] at w1; cases w1; rw [← w2]; exact lh
      have ppm : ∀ n b r a, G.Pm n i b r a → Left { h with past := h.past ++ [(s.num, s.mem, nw.row)], seat := none } n := fun n b r a w => by
        rcases p.pm n b r a w with w | ⟨t, w1, w2, _⟩
        · exact lf _ w
        · rw [hs] at w1; cases w1; rw [← w2]; exact lh
      have ppr : ∀ n k v, G.Pr n (k, (i : Int)) v → Left { h with past := h.past ++ [(s.num, s.mem, nw.row)], seat := none } n := fun n k v w => by
        rcases p.pr n k v w with w | ⟨t, o, w1, w2, _⟩
        · exact lf _ w
        · rw [hs] at w1; cases w1; rw [← w2]; exact lh
      have old : ∀ e ∈ h.past, (∃ r, G.cfg e.1 = some (e.2.1, r)) ∧ (i : Int) ∈ e.2.1 ∧ e.1 < s.num ∧ ∃ M, G.cfg (e.1 + 1) = some (M, e.2.2) ∧ ((i : Int) ∈ M → Left { h with past := h.past ++ [(s.num, s.mem, nw.row)], seat := none } (e.1 + 1)) := fun e he => by
        obtain ⟨h1, h2, h3, h4, M', h5, h6⟩ := p.past e he
        refine ⟨h1, h2, h4 s hs, M', h5, fun z => ?_⟩
        rcases h6 z with w | ⟨t, w1, w2⟩
        · exact lf _ w
        · rw [hs] at w1; cases w1; rw [← w2]; exact lh
      have hnx : G.cfg (s.num + 1) = some (nw.mem, nw.row) := by rw [hq, show nw.num - 1 + 1 = nw.num by omega]; exact nc
      unfold Hnd.join
      split
      · rename_i q
        refine ⟨fun t e => ?_, fun e he => ?_, rise2, fun n b v w => .inl (pv n b v w), fun n b r a w => .inl (ppm n b r a w), fun n k v w => .inl (ppr n k v w)⟩
        · cases e
          exact ⟨⟨⟨nw.row, nc⟩, q.1, fun nw' e => by cases e; exact ⟨⟨n0, nc, M, b, nM, nl, nr, nv⟩, rfl, rfl⟩, fun e => (nomatch e), fun a e => (nomatch e), fun o e => (nomatch e), bl_irr⟩, rfl⟩
        · rcases List.mem_append.mp he with he | he
          · obtain ⟨h1, h2, h3, M', h5, h6⟩ := old e he
            exact ⟨h1, h2, by show e.1 ≤ nw.num; omega, fun t e' => by cases e'; show e.1 < nw.num; omega, M', h5, fun z => .inl (h6 z)⟩
          · rw [List.mem_singleton.mp he]
            exact ⟨⟨r0, hr0⟩, sp.me, by show s.num ≤ nw.num; omega, fun t e' => by cases e'; show s.num < nw.num; omega, nw.mem, hnx, fun _ => .inr ⟨_, rfl, by show nw.num = s.num + 1; omega⟩⟩
      · rename_i q
        have q' : (i : Int) ∉ nw.mem := fun z => q ⟨z, by show h.high < nw.num; omega⟩
        refine ⟨fun t e => (nomatch e), fun e he => ?_, rise2, fun n b v w => .inl (pv n b v w), fun n b r a w => .inl (ppm n b r a w), fun n k v w => .inl (ppr n k v w)⟩
        rcases List.mem_append.mp he with he | he
        · obtain ⟨h1, h2, h3, M', h5, h6⟩ := old e he
          exact ⟨h1, h2, by show e.1 ≤ h.high; omega, fun t e' => (nomatch e'), M', h5, fun z => .inl (h6 z)⟩
        · rw [List.mem_singleton.mp he]
          exact ⟨⟨r0, hr0⟩, sp.me, by show s.num ≤ h.high; omega, fun t e' => (nomatch e'), nw.mem, hnx, fun z => absurd z q'⟩
theorem doe_over {m : Nat} {first : List Int} {G : PG} {i : Nat} {h : Hnd} {X : Prm} {B : Nat} {c : Int} (g : GOk m first G) (p : HP G i h) (r : HandOk X m B c i h) {l : Ltr} (hl : LP G l) : Doe m first G i (h.over i l).1 (h.over i l).2 := by
  unfold Hnd.over
  split
  · exact ⟨G, PG.Le.refl _ _, g, p, (fun _ h => nomatch h), fun _ _ _ _ w => .inl w⟩
  · have main : (∀ s, h.seat = some s → s.num = l.num → Doe m first G i { h with seat := some (s.read i l).1 } (s.read i l).2) → Doe m first G i (match h.seat with | none => (h, ([] : List Ltr)) | some s => if s.num = l.num then (({ h with seat := some (s.read i l).1 } : Hnd), (s.read i l).2) else (h, [])).1 (match h.seat with | none => (h, ([] : List Ltr)) | some s => if s.num = l.num then (({ h with seat := some (s.read i l).1 } : Hnd), (s.read i l).2) else (h, [])).2 := fun k => by
      cases hs : h.seat with
      | none => exact ⟨G, PG.Le.refl _ _, g, p, (fun _ h => nomatch h), fun _ _ _ _ w => .inl w⟩
      | some s =>
        dsimp only
        split
        · rename_i e
          exact k s hs e
        · exact ⟨G, PG.Le.refl _ _, g, p, (fun _ h => nomatch h), fun _ _ _ _ w => .inl w⟩
    unfold LP at hl
    cases ht : l.told with
    | enter n =>
      rw [ht] at hl
      exact ⟨G, PG.Le.refl _ _, g, p.enter (fun n v w => (g.ok n v w).1) hl, (fun _ h => nomatch h), fun _ _ _ _ w => .inl w⟩
    | wish x => exact main fun s hs _ => doe_row g p hs (.inl ⟨x, ht⟩)
    | hold x pl => exact main fun s hs _ => doe_row g p hs (.inr (.inl ⟨x, pl, ht⟩))
    | have_ n => exact main fun s hs _ => doe_row g p hs (.inr (.inr (.inl ⟨n, ht⟩)))
    | take n => exact main fun s hs _ => doe_row g p hs (.inr (.inr (.inr (.inl ⟨n, ht⟩))))
    | prepare b =>
      refine main fun s hs _ => ?_
      unfold Seat.read
      rw [ht]
      exact doe_prep g p hs
    | promise b row a =>
      refine main fun s hs e => ?_
      rw [ht] at hl
      unfold Seat.read
      rw [ht]
      exact doe_prom g p hs (by rw [e]; exact hl) fun o ho => ((r.seat s hs).1.off o ho).1.pk
    | accept a =>
      refine main fun s hs e => ?_
      rw [ht] at hl
      unfold Seat.read
      rw [ht]
      exact doe_acc g p hs (by rw [e]; exact hl)
    | agree b =>
      refine main fun s hs e => ?_
      rw [ht] at hl
      unfold Seat.read
      rw [ht]
      exact doe_agr g p hs (by rw [e]; exact hl) fun o ho => ((r.seat s hs).1.off o ho).1
structure PInv (m : Nat) (first : List Int) (G : PG) (f : Flk) : Prop where
  g : GOk m first G
  hands : ∀ i, i < m → HP G i (f.hand i)
  post : ∀ l ∈ f.post, LP G l
/-- what is known grows -/
structure PG.Leq (G G' : PG) : Prop where
  cfg : ∀ n v, G.cfg n = some v → G'.cfg n = some v
theorem PG.Leq.refl (G : PG) : PG.Leq G G := ⟨fun _ _ h => h⟩
theorem PG.Leq.trans {G G1 G2 : PG} (a : PG.Leq G G1) (b : PG.Leq G1 G2) : PG.Leq G G2 := ⟨fun _ _ h => b.cfg _ _ (a.cfg _ _ h)⟩
theorem come_hand8 {f : Flk} {p : Nat} {l : Ltr} (hp : f.post[p]? = some l) (hi : l.to < f.hands.length) (j : Nat) : (f.come p).hand j = if j = l.to then ((f.hand l.to).over l.to l).1 else f.hand j := by
  have hc : f.come p = ⟨f.hands.set l.to ((f.hand l.to).over l.to l).1, f.post.eraseIdx p ++ ((f.hand l.to).over l.to l).2⟩ := by
    unfold Flk.come
    rw [hp]
  rw [hc, hand_set hi]
theorem PInv.come {m B : Nat} {first : List Int} {G : PG} {X : Prm} {c : Int} {f : Flk} (PI : PInv m first G f) (F : FInv X m B c f) {p : Nat} {l : Ltr} (hp : f.post[p]? = some l) : ∃ G', PG.Leq G G' ∧ PInv m first G' (f.come p) := by
  have hm := List.mem_of_getElem? hp
  have hto := (F.post l hm).1.to
  obtain ⟨G', L, g, h1, h2, _⟩ := doe_over PI.g (PI.hands _ hto) (F.hands _ hto) (PI.post l hm)
  refine ⟨G', ⟨L.cfg⟩, g, fun j hj => ?_, fun y hy => ?_⟩
  · rw [come_hand8 hp (by rw [F.len]; exact hto)]
    split
    · rename_i e
      rw [e]
      exact h1
    · rename_i e
      exact HP.other L (PI.hands j hj) (fun z => e (by omega))
  · have hc : (f.come p).post = f.post.eraseIdx p ++ ((f.hand l.to).over l.to l).2 := by
      unfold Flk.come
      rw [hp]
    rw [hc] at hy
    rcases List.mem_append.mp hy with hy | hy
    · exact LP.up L (PI.post y (List.mem_of_mem_eraseIdx hy))
    · exact h2 y hy
/-- a deed of a hand: nothing but its offer, letters of no weight -/
theorem PInv.deed {m : Nat} {first : List Int} {G : PG} {f : Flk} (PI : PInv m first G f) (hl : f.hands.length = m) {i : Nat} (hi : i < m) {h : Hnd} (hp : HP G i h) {out : List Ltr} (ho : ∀ y ∈ out, LP G y) {ls : List Ltr} (hls : ∀ y ∈ ls, y ∈ f.post ∨ y ∈ out) : PInv m first G ⟨f.hands.set i h, ls⟩ := by
  refine ⟨PI.g, fun j hj => ?_, fun y hy => ?_⟩
  · rw [hand_set (by omega)]
    split
    · rename_i e
      rw [e]
      exact hp
    · exact PI.hands j hj
  · rcases hls y hy with w | w
    · exact PI.post y w
    · exact ho y w
theorem HP.but {G : PG} {i : Int} {h h' : Hnd} (p : HP G i h) (e1 : h'.seat = h.seat) (e2 : h'.past = h.past) (e3 : h'.high = h.high) : HP G i h' := by
  have lf : ∀ n, Left h n ↔ Left h' n := fun n => by unfold Left; rw [e2]
  refine ⟨by rw [e1, e3]; exact p.seat, fun e he => ?_, by rw [e2]; exact p.rise, fun n b v w => ?_, fun n b r a w => ?_, fun n k v w => ?_⟩
  · rw [e2] at he
    rw [e1, e3]
    obtain ⟨h1, h2, h3, h4, M', h5, h6⟩ := p.past e he
    exact ⟨h1, h2, h3, h4, M', h5, fun z => (h6 z).imp (lf _).mp fun w => w⟩
  · rw [e1]; exact (p.v n b v w).imp (lf _).mp fun w => w
  · rw [e1]; exact (p.pm n b r a w).imp (lf _).mp fun w => w
  · rw [e1]; exact (p.pr n k v w).imp (lf _).mp fun w => w
section
variable {m : Nat} {first : List Int} {G : PG} {f : Flk} (PI : PInv m first G f) (hl : f.hands.length = m)
include PI hl
theorem PInv.fall {i : Nat} (hi : i < m) : PInv m first G (f.setHand i (f.hand i).down) :=
  PI.deed hl hi (h := (f.hand i).down) (out := []) ((PI.hands i hi).but rfl rfl rfl) (fun _ h => nomatch h) fun y hy => .inl hy
theorem PInv.say {x : V} {p : Nat × Seat} {word : Str} (h : f.acts x = .ok p) : PInv m first G (f.deed p.1 ((f.hand p.1).say p.1 p.2 word)) := by
  obtain ⟨_, hi, _, _⟩ := acts_ok h
  have hi : p.1 < m := by omega
  exact PI.deed hl hi (h := ((f.hand p.1).say p.1 p.2 word).1) (out := ((f.hand p.1).say p.1 p.2 word).2) ((PI.hands p.1 hi).but rfl rfl rfl) (fun y hy => lp_plain (.inl ⟨_, congrArg Ltr.told (List.mem_singleton.mp hy)⟩)) fun y hy => List.mem_append.mp hy
theorem PInv.press {x : V} {p : Nat × Seat} (h : f.acts x = .ok p) : PInv m first G (f.deed p.1 (f.hand p.1, p.2.press p.1)) := by
  obtain ⟨_, hi, _, _⟩ := acts_ok h
  have hi : p.1 < m := by omega
  refine PI.deed hl hi (out := p.2.press p.1) (PI.hands p.1 hi) (fun y hy => ?_) fun y hy => List.mem_append.mp hy
  rcases List.mem_append.mp (show y ∈ pressGo p.1 p.2 0 p.2.row ++ mail p.1 p.2 (p.2.others p.1) (.take p.2.took) from hy) with w | w
  · obtain ⟨z, hz, mm, hmm, q, q1, q2, rfl⟩ := press_mem w
    exact lp_plain (.inr (.inl ⟨_, _, rfl⟩))
  · exact lp_plain (.inr (.inr (.inr (.inl ⟨_, (mail_told w).1⟩))))
theorem PInv.propose {x : V} {p : Nat × Seat} {ms : List Int} (h : f.acts x = .ok p) : PInv m first G (f.deed p.1 ({ f.hand p.1 with seat := some (p.2.propose p.1 ms).1 }, (p.2.propose p.1 ms).2)) := by
  obtain ⟨_, hi, _, hs⟩ := acts_ok h
  have hi : p.1 < m := by omega
  have hp := PI.hands p.1 hi
  obtain ⟨sp, _⟩ := hp.seat _ hs
  obtain ⟨q1, q2, q3⟩ := hp.here hs
  obtain ⟨last, hlast⟩ : ∃ last : Int, last = (match p.2.off with | some o => max p.2.bal.1 o.bal.1 | none => p.2.bal.1) := ⟨_, rfl⟩
  have hpr : p.2.propose p.1 ms = ({ p.2 with off := some ⟨(last + 1, (p.1 : Int)), ms, [], none, []⟩ }, mail p.1 p.2 p.2.mem (.prepare (last + 1, (p.1 : Int)))) := by
    rw [hlast]
    rfl
  have hb0 : 0 ≤ p.2.bal.1 := by
    have := sp.bal
    unfold bl noBal at this
    dsimp only at this
    omega
  rw [hpr]
  refine PI.deed hl hi (h := { f.hand p.1 with seat := some { p.2 with off := some ⟨(last + 1, (p.1 : Int)), ms, [], none, []⟩ } }) (out := mail p.1 p.2 p.2.mem (.prepare (last + 1, (p.1 : Int)))) (hp.sit (PG.Le.refl _ _) hs rfl ⟨sp.mem, sp.me, sp.news, sp.none, sp.agr, fun o e => ?_, sp.bal⟩ q1 (fun _ _ _ _ h => h) q2 (fun _ _ _ _ _ h => h) (fun k v w => ?_) (fun _ _ _ _ h => h)) (fun y hy => lp_plain (.inr (.inr (.inr (.inr ⟨_, (mail_told hy).1⟩))))) fun y hy => List.mem_append.mp hy
  · cases e
    refine ⟨rfl, ?_, (fun _ h => nomatch h), ⟨fun _ => by show 0 < _; unfold enoughN; omega, fun _ => rfl⟩, (fun v e => (nomatch e)), (fun _ h => nomatch h)⟩
    show 1 ≤ last + 1
    cases ho : p.2.off with
    | none => rw [ho] at hlast; have : last = p.2.bal.1 := hlast; omega
    | some o => rw [ho] at hlast; have : last = max p.2.bal.1 o.bal.1 := hlast; omega
  · refine ⟨_, rfl, .inr ?_⟩
    obtain ⟨o, ho, q⟩ := q3 k v w
    rw [ho] at hlast
    have : last = max p.2.bal.1 o.bal.1 := hlast
    show k < last + 1
    rcases q with ⟨q, _⟩ | q
    · have := congrArg Prod.fst q
      have : o.bal.1 = k := this
      omega
    · omega
theorem PInv.show {x : V} {p : Nat × Seat} {o : Nat} {n : News} (h : f.acts x = .ok p) (hn : p.2.news = some n) : PInv m first G ⟨f.hands, f.post ++ [⟨p.1, o, p.2.num, .enter n⟩]⟩ := by
  obtain ⟨_, hi, _, hs⟩ := acts_ok h
  have hi : p.1 < m := by omega
  refine ⟨PI.g, PI.hands, fun y hy => ?_⟩
  rcases List.mem_append.mp hy with hy | hy
  · exact PI.post y hy
  · rw [List.mem_singleton.mp hy]
    exact (((PI.hands p.1 hi).seat _ hs).1.news n hn).1
omit hl in
theorem PInv.lose (p : Nat) : PInv m first G (f.lose p) := ⟨PI.g, PI.hands, fun y hy => PI.post y (List.mem_of_mem_eraseIdx hy)⟩
omit hl in
theorem PInv.double (p : Nat) : PInv m first G (f.double p) := by
  unfold Flk.double
  cases hp : f.post[p]? with
  | none => exact PI
  | some l =>
    refine ⟨PI.g, PI.hands, fun y hy => ?_⟩
    rcases List.mem_append.mp hy with hy | hy
    · exact PI.post y hy
    · rw [List.mem_singleton.mp hy]
      exact PI.post l (List.mem_of_getElem? hp)
end
def G0 (first : List Int) : PG := ⟨fun n => if n = 0 then some (first, []) else none, fun _ _ _ _ => False, fun _ _ _ _ _ => False, fun _ _ _ => False⟩
theorem PInv.new {m : Nat} {ms : List Int} (ne : ms ≠ []) (rg : ∀ x ∈ ms, 0 ≤ x ∧ x < (m : Int)) (up : ms.Pairwise (· < ·)) : PInv m ms (G0 ms) (Flk.new m ms) := by
  have c0 : ∀ n v, (G0 ms).cfg n = some v → n = 0 ∧ v = (ms, []) := fun n v w => by
    have w' : (if n = 0 then some (ms, []) else none) = some v := w
    split at w'
    · rename_i e
      cases w'
      exact ⟨e, rfl⟩
    · cases w'
  refine ⟨⟨fun n v w => ?_, rfl, fun n v w h0 => ?_, fun _ _ _ _ h => h.elim, fun _ _ _ _ _ h => h.elim, fun _ _ _ _ _ _ _ h => h.elim, fun _ _ _ _ _ h => h.elim, fun _ _ _ _ _ h => h.elim, fun _ _ _ _ h => h.elim, fun _ _ _ h => h.elim⟩, fun i hi => ?_, fun _ h => nomatch h⟩
  · obtain ⟨rfl, rfl⟩ := c0 n v w
    exact ⟨Int.le_refl _, ne, rg, up⟩
  · obtain ⟨rfl, rfl⟩ := c0 n v w
    omega
  · have e : (Flk.new m ms).hand i = if (i : Int) ∈ ms then seatedH ms else Hnd.new := by
      show ((seated m ms ms).getD i Hnd.new) = _
      rw [List.getD_eq_getElem?_getD, seated_get ms ms hi]
      rfl
    rw [e]
    split
    · rename_i hm
      refine ⟨fun s e => ?_, fun _ h => (nomatch h), List.Pairwise.nil, fun _ _ _ h => h.elim, fun _ _ _ _ h => h.elim, fun _ _ _ h => h.elim⟩
      have e' : some (Seat.fresh 0 ms none) = some s := e
      cases e'
      exact ⟨⟨⟨[], rfl⟩, hm, fun _ e => (nomatch e), fun _ => rfl, fun _ e => (nomatch e), fun _ e => (nomatch e), bl_irr⟩, rfl⟩
    · exact ⟨fun s e => (nomatch (show (none : Option Seat) = some s from e)), fun _ h => (nomatch h), List.Pairwise.nil, fun _ _ _ h => h.elim, fun _ _ _ _ h => h.elim, fun _ _ _ h => h.elim⟩

end
end Fo
namespace Fo
open PySem PySem.Spec PyProof.Rows L2
section
variable {P : Program} {w : World} {K : PySem.W.Frag} {mg : Str → Option Value} {base : Heap}
/-! ### the rows of one list: beginnings of its first hand's row -/
structure QG where
  R : Int → List Msg
  Rw : Int → Int → Nat
  S : Nat → List (Int × Str)
def SaidIn (q : QG) (n : Int) (x : Msg) : Prop := mOk x ∧ ∃ i k : Nat, x.hand = i ∧ x.cnt = k ∧ (q.S i)[k]? = some (n, x.word)
def Sup (G : PG) (q : QG) (n : Int) (t : Nat) : Prop := ∃ (W : List Int) (M : Val), G.cfg n = some M ∧ W.Nodup ∧ W.length = enoughN M.1.length ∧ ∀ w ∈ W, w ∈ M.1 ∧ t ≤ q.Rw n w
def Beg (R r : List Msg) : Prop := r = R.take r.length
theorem longV_le : ∀ (rs : List (List Msg)) (b : List Msg), (longV b rs = b ∨ longV b rs ∈ rs) ∧ b.length ≤ (longV b rs).length ∧ ∀ r ∈ rs, r.length ≤ (longV b rs).length
  | [], b => ⟨.inl rfl, Nat.le_refl _, fun _ h => nomatch h⟩
  | r :: rs, b => by
    unfold longV
    split
    · rename_i h
      obtain ⟨h1, h2, h3⟩ := longV_le rs r
      refine ⟨?_, by omega, fun x hx => ?_⟩
      · rcases h1 with e | e
        · exact .inr (by rw [e]; exact List.mem_cons_self)
        · exact .inr (List.mem_cons_of_mem _ e)
      · rcases List.mem_cons.mp hx with rfl | hx
        · exact h2
        · exact h3 x hx
    · rename_i h
      obtain ⟨h1, h2, h3⟩ := longV_le rs b
      refine ⟨h1.imp (fun z => z) fun z => List.mem_cons_of_mem _ z, h2, fun x hx => ?_⟩
      rcases List.mem_cons.mp hx with rfl | hx
      · omega
      · exact h3 x hx
theorem pr_sup {m : Nat} {first : List Int} {G : PG} {q : QG} (g : GOk m first G) (pm : ∀ n j b r a, G.Pm n j b r a → r.length = q.Rw n j ∧ Beg (q.R n) r) (n : Int) : ∀ (k : Nat × Nat) (b : Bal), (b.1.toNat, b.2.toNat) = k → ∀ v, G.Pr n b v → Beg (q.R n) v.2 ∧ ∀ t, Sup G q n t → t ≤ v.2.length := by
  intro k
  refine WellFounded.induction (C := fun k => ∀ b : Bal, (b.1.toNat, b.2.toNat) = k → ∀ v, G.Pr n b v → Beg (q.R n) v.2 ∧ ∀ t, Sup G q n t → t ≤ v.2.length) (Prod.lex Nat.lt_wfRel Nat.lt_wfRel).wf k fun k ih => ?_
  intro b hb v hv
  obtain ⟨b1, b2, M, hM, ps, pl, pnd, pp, best⟩ := g.safe _ _ _ hv
  cases hbest : bestA none ps with
  | some x =>
    rw [hbest] at best
    obtain ⟨q1, _⟩ := bestA_le ps none hbest
    rcases q1 with q1 | ⟨p, hp, hpx⟩
    · cases q1
    · have hp2 := pp p hp
      rw [hpx] at hp2
      obtain ⟨w1, w2⟩ := g.p2 _ _ _ _ _ hp2
      have w3 := (g.v1 _ _ _ _ w1).1
      obtain ⟨x1, x2, _⟩ := g.safe _ _ _ w3
      have hlex : Prod.Lex Nat.lt Nat.lt (x.bal.1.toNat, x.bal.2.toNat) k := by
        rw [← hb]
        rcases w2 with w2 | ⟨w2, w4⟩
        · exact Prod.Lex.left _ _ (show x.bal.1.toNat < b.1.toNat by omega)
        · rw [w2]
          exact Prod.Lex.right _ (show x.bal.2.toNat < b.2.toNat by omega)
      rw [show v = (x.mem, x.row) from best]
      exact ih _ hlex x.bal rfl _ w3
  | none =>
    rw [hbest] at best
    have best : v.2 = longV [] (ps.map fun p => p.2.1) := best
    obtain ⟨l1, _, l3⟩ := longV_le (ps.map fun p => p.2.1) []
    rw [← best] at l1 l3
    refine ⟨?_, fun t ⟨W, M', hM', wnd, wl, hW⟩ => ?_⟩
    · rcases l1 with e | e
      · rw [e]; rfl
      · obtain ⟨p, hp, he⟩ := List.mem_map.mp e
        rw [← he]
        exact (pm _ _ _ _ _ (pp p hp)).2
    · rw [hM] at hM'
      cases hM'
      obtain ⟨j, j1, j2⟩ := meet wnd pnd (fun w hw => (hW w hw).1) (fun x hx => by
        obtain ⟨p, hp, rfl⟩ := List.mem_map.mp hx
        obtain ⟨M2, h1, h2⟩ := g.p0 _ _ _ _ _ (pp p hp)
        rw [hM] at h1
        cases h1
        exact h2) wl (by rw [List.length_map]; exact pl)
      obtain ⟨p, hp, rfl⟩ := List.mem_map.mp j2
      have h1 := (pm _ _ _ _ _ (pp p hp)).1
      have h2 := (hW _ j1).2
      have h3 := l3 p.2.1 (List.mem_map.mpr ⟨p, hp, rfl⟩)
      omega

end
end Fo
namespace Fo
open PySem PySem.Spec PyProof.Rows L2
section
variable {P : Program} {w : World} {K : PySem.W.Frag} {mg : Str → Option Value} {base : Heap}
/-! ### a list in which nothing is offered -/
/-- a seat of a quiet list: R what the first hand put, T what it took -/
structure QS (ms : List Int) (R : List Msg) (T : Nat) (s : Seat) : Prop where
  num : s.num = 0
  mem : s.mem = ms
  bal : s.bal = noBal
  off : s.off = none
  row : s.row = R.take s.row.length
  took : s.took ≤ s.row.length
  top : s.took ≤ T
  hk : s.hold.map (·.1) = ms
def rowN (h : Hnd) : Nat := match h.seat with
  | none => 0
  | some s => s.row.length
/-- a letter of a quiet list -/
def QL (ms : List Int) (ld : Nat) (R : List Msg) (T : Nat) (f : Flk) (l : Ltr) : Prop := l.num = 0 ∧ (l.to : Int) ∈ ms ∧ l.snd ∈ ms ∧ match l.told with
  | .wish _ => l.to = ld
  | .hold x pl => l.snd = ld ∧ l.to ≠ ld ∧ R[pl]? = some x
  | .have_ n => l.to = ld ∧ l.snd ≠ ld ∧ n ≤ rowN (f.hand l.snd.toNat)
  | .take n => l.snd = ld ∧ l.to ≠ ld ∧ n ≤ T
  | _ => False
structure Quiet (m : Nat) (ms : List Int) (ld : Nat) (R : List Msg) (T : Nat) (f : Flk) : Prop where
  len : f.hands.length = m
  rg : ∀ x ∈ ms, 0 ≤ x ∧ x < (m : Int)
  nd : ms.Nodup
  lead : ms.head? = some (ld : Int)
  seat : ∀ i, i < m → (i : Int) ∈ ms → ∃ s, (f.hand i).seat = some s ∧ QS ms R T s
  none : ∀ i, i < m → (i : Int) ∉ ms → (f.hand i).seat = none
  first : ∃ s, (f.hand ld).seat = some s ∧ s.row = R ∧ s.took = T ∧ (∀ j : Nat, (j : Int) ∈ ms → getA (j : Int) 0 s.hold ≤ rowN (f.hand j)) ∧ s.most ≤ T
  rnd : R.Nodup
  post : ∀ l ∈ f.post, QL ms ld R T f l
theorem Quiet.ldm {m : Nat} {ms : List Int} {ld : Nat} {R : List Msg} {T : Nat} {f : Flk} (q : Quiet m ms ld R T f) : (ld : Int) ∈ ms ∧ ld < m := by
  have h1 := List.mem_of_mem_head? (show (ld : Int) ∈ ms.head? from q.lead)
  have := q.rg _ h1
  exact ⟨h1, by omega⟩
/-- a row, as far as it has come -/
theorem take_ext {R R' : List Msg} {n : Nat} (h : n ≤ R.length) : (R ++ R').take n = R.take n := by
  rw [List.take_append_of_le_length h]
theorem QS.grow {ms : List Int} {R R' : List Msg} {T T' : Nat} {s : Seat} (q : QS ms R T s) (e : T ≤ T') : QS ms (R ++ R') T' s := by
  refine ⟨q.num, q.mem, q.bal, q.off, ?_, q.took, Nat.le_trans q.top e, q.hk⟩
  have h1 : s.row.length ≤ R.length := by
    have := congrArg List.length q.row
    rw [List.length_take] at this
    omega
  rw [take_ext h1]
  exact q.row
theorem QL.grow {ms : List Int} {ld : Nat} {R R' : List Msg} {T T' : Nat} {f f' : Flk} {l : Ltr} (q : QL ms ld R T f l) (e : T ≤ T') (hr : ∀ i, rowN (f.hand i) ≤ rowN (f'.hand i)) : QL ms ld (R ++ R') T' f' l := by
  obtain ⟨h1, h2, h3, h4⟩ := q
  refine ⟨h1, h2, h3, ?_⟩
  cases ht : l.told with
  | wish x => rw [ht] at h4; exact h4
  | hold x pl =>
    rw [ht] at h4
    obtain ⟨a, b, c⟩ := h4
    refine ⟨a, b, ?_⟩
    rw [List.getElem?_append_left (List.getElem?_eq_some_iff.mp c).1]
    exact c
  | have_ n => rw [ht] at h4; exact ⟨h4.1, h4.2.1, Nat.le_trans h4.2.2 (hr _)⟩
  | take n => rw [ht] at h4; exact ⟨h4.1, h4.2.1, Nat.le_trans h4.2.2 e⟩
  | _ => rw [ht] at h4; exact h4.elim
theorem QS.le {ms : List Int} {R : List Msg} {T : Nat} {s : Seat} (q : QS ms R T s) : s.row.length ≤ R.length := by
  have := congrArg List.length q.row
  rw [List.length_take] at this
  omega
theorem QS.still {ms : List Int} {R : List Msg} {T : Nat} {s : Seat} (q : QS ms R T s) : s.still = false := by
  unfold Seat.still
  rw [q.bal]
  decide
/-! what is noted of a hand -/
theorem getA_put {α : Type} {k j : Int} {v d : α} {l : List (Int × α)} (hm : k ∈ l.map (·.1)) : getA j d (putA k v l) = if j = k then v else getA j d l := by
  have h1 : (l.any fun p => decide (p.1 = k)) = true := by
    obtain ⟨p, hp, e⟩ := List.mem_map.mp hm
    exact List.any_eq_true.mpr ⟨p, hp, decide_eq_true e⟩
  unfold putA getA
  rw [if_pos h1]
  clear h1
  induction l with
  | nil => cases hm
  | cons x r ih =>
    rw [List.map_cons, List.find?_cons, List.find?_cons]
    by_cases e : x.1 = k
    · rw [if_pos e]
      by_cases ej : j = k
      · rw [decide_eq_true (show x.1 = j by rw [e, ej]), if_pos ej]
        rfl
      · rw [decide_eq_false (show ¬ x.1 = j from fun z => ej (z.symm.trans e)), if_neg ej]
        dsimp only
        by_cases hr : k ∈ r.map (·.1)
        · have := ih hr
          rw [if_neg ej] at this
          exact this
        · have : (r.map fun p => if p.1 = k then (p.1, v) else p) = r := by
            have h2 : ∀ p ∈ r, (if p.1 = k then (p.1, v) else p) = p := fun p hp => if_neg fun z => hr (List.mem_map.mpr ⟨p, hp, z⟩)
            exact (List.map_congr_left h2).trans (List.map_id r)
          rw [this]
    · rw [if_neg e]
      by_cases ej : x.1 = j
      · have : j ≠ k := fun z => e (ej.trans z)
        rw [decide_eq_true ej, if_neg this]
      · rw [decide_eq_false ej]
        dsimp only
        refine ih ?_
        rcases List.mem_cons.mp hm with w | w
        · exact absurd w.symm e
        · exact w
theorem getD_le {b : Nat} : ∀ (l : List Nat) (k : Nat), (∀ x ∈ l, x ≤ b) → l.getD k 0 ≤ b
  | [], _, _ => by rw [List.getD_nil]; exact Nat.zero_le _
  | x :: r, 0, h => h x List.mem_cons_self
  | x :: r, k + 1, h => by
    rw [List.getD_cons_succ]
    exact getD_le r k fun y hy => h y (List.mem_cons_of_mem _ hy)
theorem most_le {s : Seat} {b : Nat} (h : ∀ p ∈ s.hold, p.2 ≤ b) : s.most ≤ b := by
  unfold Seat.most
  refine getD_le _ _ fun x hx => ?_
  obtain ⟨p, hp, e⟩ := List.mem_map.mp ((sortD_perm _).mem_iff.mp hx)
  exact e ▸ h p hp
theorem getA_mem {k : Int} {v : Nat} : ∀ {l : List (Int × Nat)}, (l.map (·.1)).Nodup → (k, v) ∈ l → getA k 0 l = v
  | [], _, h => nomatch h
  | x :: r, nd, h => by
    have h1 := List.nodup_cons.mp nd
    unfold getA
    rw [List.find?_cons]
    rcases List.mem_cons.mp h with e | w
    · rw [← e, decide_eq_true (rfl : k = k)]
      rfl
    · have ne : ¬ x.1 = k := fun z => h1.1 (List.mem_map.mpr ⟨_, w, z.symm⟩)
      rw [decide_eq_false ne]
      exact getA_mem h1.2 w
/-- what the first hand does when it looks what enough hold -/
theorem tweh_eq (s : Seat) (i : Nat) : s.tweh i = ({ s.note i s.row.length with took := max s.took (s.note i s.row.length).most }, if (s.note i s.row.length).most > s.took then mail i s (s.others i) (.take (s.note i s.row.length).most) else []) := by
  show (if (s.note i s.row.length).most > s.took then (({ s.note i s.row.length with took := (s.note i s.row.length).most } : Seat), mail i s (s.others i) (.take (s.note i s.row.length).most)) else (s.note i s.row.length, [])) = _
  split
  · rename_i h
    rw [Nat.max_eq_right (Nat.le_of_lt h)]
  · rename_i h
    rw [Nat.max_eq_left (Nat.le_of_not_lt h)]
    rfl
/-- the hands, one of them changed -/
theorem rowN_set {f : Flk} {i j : Nat} {h : Hnd} {ls : List Ltr} (hi : i < f.hands.length) (hr : rowN (f.hand i) ≤ rowN h) : rowN (f.hand j) ≤ rowN ((⟨f.hands.set i h, ls⟩ : Flk).hand j) := by
  rw [hand_set hi]
  split
  · rename_i e
    rw [e]
    exact hr
  · exact Nat.le_refl _
/-- another seat at hand i, letters gone and come -/
theorem Quiet.put {m : Nat} {ms : List Int} {ld : Nat} {R R' : List Msg} {T T' : Nat} {f : Flk} (q : Quiet m ms ld R T f) {i : Nat} (hi : i < m) (him : (i : Int) ∈ ms) {h : Hnd} {s : Seat} (hs : h.seat = some s) (qs : QS ms (R ++ R') T' s) (e : T ≤ T') (hr : rowN (f.hand i) ≤ s.row.length) (nd : (R ++ R').Nodup)
    (fst : if i = ld then s.row = R ++ R' ∧ s.took = T' ∧ (∀ j : Nat, (j : Int) ∈ ms → getA (j : Int) 0 s.hold ≤ if j = i then s.row.length else rowN (f.hand j)) ∧ s.most ≤ T' else R' = [] ∧ T' = T) {old out : List Ltr} (ho : ∀ x ∈ old, x ∈ f.post) (hx : ∀ x ∈ out, QL ms ld (R ++ R') T' ⟨f.hands.set i h, old ++ out⟩ x) :
    Quiet m ms ld (R ++ R') T' ⟨f.hands.set i h, old ++ out⟩ := by
  have hl := q.len
  have hlt : i < f.hands.length := by omega
  have hrh : rowN h = s.row.length := by unfold rowN; rw [hs]
  have mono : ∀ j, rowN (f.hand j) ≤ rowN ((⟨f.hands.set i h, old ++ out⟩ : Flk).hand j) := fun j => rowN_set hlt (by rw [hrh]; exact hr)
  refine ⟨by rw [List.length_set]; exact hl, q.rg, q.nd, q.lead, fun j hj hjm => ?_, fun j hj hjm => ?_, ?_, nd, fun l hm => ?_⟩
  · rw [hand_set hlt]
    split
    · exact ⟨s, hs, qs⟩
    · obtain ⟨s2, h2, q2⟩ := q.seat j hj hjm
      exact ⟨s2, h2, q2.grow e⟩
  · rw [hand_set hlt, if_neg (fun z => hjm (by rw [z]; exact him))]
    exact q.none j hj hjm
  · by_cases w : i = ld
    · rw [if_pos w] at fst
      obtain ⟨f1, f2, f3, f4⟩ := fst
      refine ⟨s, by rw [hand_set hlt, if_pos w.symm]; exact hs, f1, f2, fun j hj => ?_, f4⟩
      have := f3 j hj
      rw [hand_set hlt]
      by_cases e : j = i
      · rw [if_pos e] at this ⊢
        rw [hrh]
        exact this
      · rw [if_neg e] at this ⊢
        exact this
    · rw [if_neg w] at fst
      obtain ⟨f1, f2⟩ := fst
      obtain ⟨s2, g1, g2, g3, g4, g5⟩ := q.first
      refine ⟨s2, by rw [hand_set hlt, if_neg (fun z => w z.symm)]; exact g1, by rw [f1, List.append_nil]; exact g2, by rw [f2]; exact g3, fun j hj => Nat.le_trans (g4 j hj) (mono j), by rw [f2]; exact g5⟩
  · rcases List.mem_append.mp hm with w | w
    · exact (q.post l (ho l w)).grow e mono
    · exact hx l w

end
end Fo
namespace Fo
open PySem PySem.Spec PyProof.Rows L2
section
variable {P : Program} {w : World} {K : PySem.W.Frag} {mg : Str → Option Value} {base : Heap}
theorem hold_vals {s : Seat} {ms : List Int} {b : Nat} (hk : s.hold.map (·.1) = ms) (nd : ms.Nodup) (rg : ∀ x ∈ ms, 0 ≤ x) (h : ∀ j : Nat, (j : Int) ∈ ms → getA (j : Int) 0 s.hold ≤ b) : ∀ p ∈ s.hold, p.2 ≤ b := fun p hp => by
  have hm : p.1 ∈ ms := by rw [← hk]; exact List.mem_map.mpr ⟨p, hp, rfl⟩
  have h0 := rg _ hm
  have := h p.1.toNat (by rw [show ((p.1.toNat : Nat) : Int) = p.1 by omega]; exact hm)
  rw [show ((p.1.toNat : Nat) : Int) = p.1 by omega, getA_mem (by rw [hk]; exact nd) hp] at this
  exact this
theorem rowN_le {m : Nat} {ms : List Int} {ld : Nat} {R : List Msg} {T : Nat} {f : Flk} (q : Quiet m ms ld R T f) {j : Nat} (hj : (j : Int) ∈ ms) : rowN (f.hand j) ≤ R.length := by
  have h0 := q.rg _ hj
  obtain ⟨s, hs, qs⟩ := q.seat j (by omega) hj
  unfold rowN
  rw [hs]
  exact qs.le
theorem Quiet.sub {m : Nat} {ms : List Int} {ld : Nat} {R : List Msg} {T : Nat} {f : Flk} (q : Quiet m ms ld R T f) {ls : List Ltr} (h : ∀ x ∈ ls, x ∈ f.post) : Quiet m ms ld R T ⟨f.hands, ls⟩ :=
  ⟨q.len, q.rg, q.nd, q.lead, q.seat, q.none, q.first, q.rnd, fun l hl => q.post l (h l hl)⟩
/-! what the letters under way will make of a hand that stands, one behind the other -/
def tookN (h : Hnd) : Nat := match h.seat with
  | none => 0
  | some s => s.took
def simS (j : Nat) (st : Nat × Nat) (l : Ltr) : Nat × Nat := if l.to = j then (match l.told with
  | .hold _ pl => (if pl = st.1 then st.1 + 1 else st.1, st.2)
  | .take n => (st.1, max st.2 (min n st.1))
  | _ => st) else st
def sim (j : Nat) (st : Nat × Nat) (ls : List Ltr) : Nat × Nat := ls.foldl (simS j) st
theorem sim_app (j : Nat) (st : Nat × Nat) (a b : List Ltr) : sim j st (a ++ b) = sim j (sim j st a) b := List.foldl_append
theorem sim_ne {j : Nat} : ∀ {ls : List Ltr} {st : Nat × Nat}, (∀ x ∈ ls, x.to ≠ j) → sim j st ls = st
  | [], _, _ => rfl
  | x :: r, st, h => by
    show sim j (simS j st x) r = st
    have : simS j st x = st := if_neg (h x List.mem_cons_self)
    rw [this]
    exact sim_ne fun y hy => h y (List.mem_cons_of_mem _ hy)
theorem sim_mail {i j : Nat} {s : Seat} {t : Told} : ∀ {hs : List Int} {st : Nat × Nat}, hs.Nodup → (∀ x ∈ hs, 0 ≤ x) → (j : Int) ∈ hs → sim j st (mail i s hs t) = simS j st ⟨i, j, s.num, t⟩
  | [], _, _, _, h => nomatch h
  | x :: r, st, nd, h0, h => by
    have h1 := List.nodup_cons.mp nd
    show sim j (simS j st ⟨i, x.toNat, s.num, t⟩) (mail i s r t) = _
    by_cases e : x = (j : Int)
    · subst e
      rw [Int.toNat_natCast]
      refine sim_ne fun y hy => ?_
      obtain ⟨z, hz, rfl⟩ := mail_mem hy
      intro w
      have w' : z.toNat = j := w
      have := h0 z (List.mem_cons_of_mem _ hz)
      exact h1.1 ((show z = (j : Int) by omega) ▸ hz)
    · have h2 := h0 x List.mem_cons_self
      rw [show simS j st ⟨i, x.toNat, s.num, t⟩ = st from if_neg (by show ¬ x.toNat = j; omega)]
      rcases List.mem_cons.mp h with w | w
      · exact absurd w.symm e
      · exact sim_mail h1.2 (fun y hy => h0 y (List.mem_cons_of_mem _ hy)) w
/-- what came of a letter that came: the letters out, the others' hands -/
def ComeD (ms : List Int) (ld : Nat) (R R' : List Msg) (T T' : Nat) (f f' : Flk) (l : Ltr) (old : List Ltr) : Prop := ∃ out, f'.post = old ++ out ∧ (∀ j : Nat, (j : Int) ∈ ms → j ≠ ld → sim j (R.length, T) out = ((R ++ R').length, T')) ∧
  ∀ j : Nat, (j : Int) ∈ ms → j ≠ ld → (f.hand j).up = true → (rowN (f'.hand j), tookN (f'.hand j)) = simS j (rowN (f.hand j), tookN (f.hand j)) l
/-- the first hand's row is R, it notes and looks: b what it knew of each hand -/
theorem lead_look {m : Nat} {ms : List Int} {ld : Nat} {R R' : List Msg} {T : Nat} {f : Flk} (q : Quiet m ms ld R T f) {s : Seat} (hs : (f.hand ld).seat = some s) (s1 : Seat) (e1 : s1.num = 0) (e2 : s1.mem = ms) (e3 : s1.bal = noBal) (e4 : s1.off = none) (er : s1.row = R ++ R') (et : s1.took = T) (ek : s1.hold.map (·.1) = ms)
    (eh : ∀ j : Nat, (j : Int) ∈ ms → j ≠ ld → getA (j : Int) 0 s1.hold ≤ rowN (f.hand j)) (hT : T ≤ (R ++ R').length) (nd : (R ++ R').Nodup) {old out1 : List Ltr} (ho : ∀ x ∈ old, x ∈ f.post) {h : Hnd}
    (hx : ∀ x ∈ out1, QL ms ld (R ++ R') T ⟨f.hands, old⟩ x) (hh : h.seat = some (s1.tweh ld).1) :
    ∃ T', T ≤ T' ∧ Quiet m ms ld (R ++ R') T' ⟨f.hands.set ld h, old ++ (out1 ++ (s1.tweh ld).2)⟩ ∧ ∀ j : Nat, (j : Int) ∈ ms → j ≠ ld → sim j ((R ++ R').length, T) (s1.tweh ld).2 = ((R ++ R').length, T') := by
  obtain ⟨hlm, hli⟩ := q.ldm
  have hkn : (putA (ld : Int) s1.row.length s1.hold).map (·.1) = ms := by rw [putA_keys (by rw [ek]; exact hlm), ek]
  have rg0 : ∀ x ∈ ms, 0 ≤ x := fun x hx => (q.rg x hx).1
  have gb : ∀ j : Nat, (j : Int) ∈ ms → getA (j : Int) 0 (putA (ld : Int) s1.row.length s1.hold) ≤ if j = ld then s1.row.length else rowN (f.hand j) := fun j hj => by
    rw [getA_put (by rw [ek]; exact hlm)]
    by_cases e : j = ld
    · rw [if_pos (by rw [e]), if_pos e]
      exact Nat.le_refl _
    · rw [if_neg (by omega), if_neg e]
      exact eh j hj e
  have hmost : (s1.note ld s1.row.length).most ≤ (R ++ R').length := by
    refine most_le (hold_vals (s := s1.note ld s1.row.length) hkn q.nd rg0 fun j hj => Nat.le_trans (gb j hj) ?_)
    split
    · rw [er]
      exact Nat.le_refl _
    · have := rowN_le q hj
      rw [List.length_append]
      omega
  obtain ⟨v, hv⟩ : ∃ v, v = (s1.note ld s1.row.length).most := ⟨_, rfl⟩
  rw [tweh_eq] at hh ⊢
  rw [← hv] at hh hmost ⊢
  have rs : rowN (f.hand ld) ≤ s1.row.length := by
    unfold rowN
    rw [hs, er]
    obtain ⟨s0, g1, g2, _⟩ := q.first
    rw [hs] at g1
    cases g1
    show s.row.length ≤ _
    rw [g2, List.length_append]
    omega
  refine ⟨max T v, Nat.le_max_left _ _, ?_, fun j hj hjl => ?_⟩
  rotate_left
  · rw [et]
    split
    · rename_i hv2
      rw [sim_mail ((e2 ▸ q.nd).filter _) (fun x hx => rg0 x (e2 ▸ others_mem hx)) (List.mem_filter.mpr ⟨e2 ▸ hj, decide_eq_true (by omega)⟩)]
      show (if j = j then ((R ++ R').length, max T (min v (R ++ R').length)) else _) = _
      rw [if_pos rfl, Nat.min_eq_left hmost]
    · rename_i hv2
      rw [Nat.max_eq_left (Nat.le_of_not_lt hv2)]
      rfl
  refine q.put hli hlm hh ⟨e1, e2, e3, e4, ?_, ?_, ?_, hkn⟩ (Nat.le_max_left _ _) rs nd ?_ ho (fun x hm => ?_)
  · show s1.row = (R ++ R').take s1.row.length
    rw [er, List.take_length]
  · show max s1.took v ≤ s1.row.length
    rw [et, er]
    exact Nat.max_le.mpr ⟨hT, hmost⟩
  · show max s1.took v ≤ max T v
    rw [et]
    exact Nat.le_refl _
  · rw [if_pos rfl]
    exact ⟨er, by show max s1.took v = _; rw [et], gb, by show (s1.note ld s1.row.length).most ≤ _; rw [← hv]; exact Nat.le_max_right _ _⟩
  · rcases List.mem_append.mp hm with w | w
    · have := (hx x w).grow (R' := []) (T' := max T v) (f' := ⟨f.hands.set ld h, old ++ (out1 ++ if v > s1.took then mail ld s1 (s1.others ld) (.take v) else [])⟩) (Nat.le_max_left _ _) (fun j => rowN_set (f := f) (by rw [q.len]; exact hli) (Nat.le_trans rs (Nat.le_of_eq (by unfold rowN; rw [hh]; rfl))))
      rw [List.append_nil] at this
      exact this
    · split at w
      · obtain ⟨y, hy, rfl⟩ := mail_mem w
        have hy1 : y ∈ ms := by rw [← e2]; exact others_mem hy
        have hy0 := rg0 y hy1
        have hyn : y ≠ (ld : Int) := of_decide_eq_true (List.mem_filter.mp hy).2
        refine ⟨e1, by show ((y.toNat : Nat) : Int) ∈ ms; rw [show ((y.toNat : Nat) : Int) = y by omega]; exact hy1, hlm, rfl, by show y.toNat ≠ ld; omega, Nat.le_max_right _ _⟩
      · cases w
theorem nodup_snoc {R : List Msg} {x : Msg} (h : R.Nodup) (n : x ∉ R) : (R ++ [x]).Nodup := List.nodup_append.mpr ⟨h, List.pairwise_singleton _ _, fun y hy z hz e => n (by rw [List.mem_singleton.mp hz] at e; rw [← e]; exact hy)⟩
/-- a letter of a quiet list comes -/
theorem quiet_come {m : Nat} {ms : List Int} {ld : Nat} {R : List Msg} {T : Nat} {f : Flk} {p : Nat} {l : Ltr} (q : Quiet m ms ld R T f) (hp : f.post[p]? = some l) :
    ∃ R' T', T ≤ T' ∧ Quiet m ms ld (R ++ R') T' (f.come p) ∧ (R' = [] ∨ ∃ x, R' = [x] ∧ l.told = .wish x) ∧ ComeD ms ld R R' T T' f (f.come p) l (f.post.eraseIdx p) := by
  have hc : f.come p = ⟨f.hands.set l.to ((f.hand l.to).over l.to l).1, f.post.eraseIdx p ++ ((f.hand l.to).over l.to l).2⟩ := by
    unfold Flk.come
    rw [hp]
  obtain ⟨z1, z2, z3, z4⟩ := q.post l (List.mem_of_getElem? hp)
  have hr := q.rg _ z2
  have hi : l.to < m := by omega
  obtain ⟨s, hs, qs⟩ := q.seat _ hi z2
  have old : ∀ x ∈ f.post.eraseIdx p, x ∈ f.post := fun x hx => List.mem_of_mem_eraseIdx hx
  have hoth : ∀ (h : Hnd) (ls : List Ltr) (j : Nat), j ≠ l.to → (rowN ((⟨f.hands.set l.to h, ls⟩ : Flk).hand j), tookN ((⟨f.hands.set l.to h, ls⟩ : Flk).hand j)) = simS j (rowN (f.hand j), tookN (f.hand j)) l := fun h ls j hj => by
    rw [hand_set (by rw [q.len]; exact hi), if_neg hj]
    exact (if_neg (fun z => hj z.symm)).symm
  have same : (f.hand l.to).over l.to l = (f.hand l.to, []) → (l.to ≠ ld → (f.hand l.to).up = true → simS l.to (rowN (f.hand l.to), tookN (f.hand l.to)) l = (rowN (f.hand l.to), tookN (f.hand l.to))) → ∃ R' T', T ≤ T' ∧ Quiet m ms ld (R ++ R') T' (f.come p) ∧ (R' = [] ∨ ∃ x, R' = [x] ∧ l.told = .wish x) ∧ ComeD ms ld R R' T T' f (f.come p) l (f.post.eraseIdx p) := fun e e' => by
    refine ⟨[], T, Nat.le_refl _, ?_, .inl rfl, ?_⟩
    · rw [hc, e, List.append_nil, set_same (by rw [q.len]; exact hi), List.append_nil]
      exact q.sub old
    · rw [hc, e]
      refine ⟨[], rfl, fun j _ _ => by rw [List.append_nil]; rfl, fun j hj hjl hu => ?_⟩
      by_cases w : j = l.to
      · subst w
        rw [hand_set (by rw [q.len]; exact hi), if_pos rfl]
        exact (e' hjl hu).symm
      · exact hoth _ _ j w
  cases hup : (f.hand l.to).up with
  | false =>
    refine same ?_ (fun _ z => by rw [hup] at z; cases z)
    unfold Hnd.over
    rw [if_pos hup]
  | true =>
    have hov : ∀ r, s.read l.to l = r → (∀ n, l.told ≠ .enter n) → (f.hand l.to).over l.to l = ({ f.hand l.to with seat := some r.1 }, r.2) := fun r hr ne => by
      unfold Hnd.over
      rw [if_neg (by rw [hup]; decide), hs]
      have : s.num = l.num := by rw [qs.num, z1]
      cases ht : l.told with
      | enter n => exact absurd ht (ne n)
      | _ => dsimp only; rw [if_pos this, hr]
    have hrn : rowN (f.hand l.to) = s.row.length := by unfold rowN; rw [hs]
    obtain ⟨s0, g1, g2, g3, g4, g5⟩ := q.first
    obtain ⟨t, ht⟩ : ∃ t, l.told = t := ⟨_, rfl⟩
    cases t with
    | wish x =>
      rw [ht] at z4
      have hld : l.to = ld := z4
      rw [hld] at hs hov hc same
      rw [hs] at g1
      cases g1
      have hread : s.read ld l = s.wish ld x := by unfold Seat.read; rw [ht]
      by_cases hx : x ∈ s.row
      · have hw : s.wish ld x = (s, []) := by unfold Seat.wish; rw [if_pos (.inr hx)]
        refine same ?_ (fun z => absurd rfl z)
        rw [hov _ hread (fun n => by rw [ht]; exact fun z => nomatch z), hw]
        show (({ f.hand ld with seat := some s } : Hnd), ([] : List Ltr)) = _
        rw [← hs]
      · have hw : s.wish ld x = ((({ s with row := s.row ++ [x] } : Seat).tweh ld).1, mail ld s (s.others ld) (.hold x s.row.length) ++ (({ s with row := s.row ++ [x] } : Seat).tweh ld).2) := by
          unfold Seat.wish
          rw [if_neg (by rw [qs.still]; simp [hx])]
        obtain ⟨T', e1, e2, e3⟩ := lead_look q (R' := [x]) hs { s with row := s.row ++ [x] } qs.num qs.mem qs.bal qs.off (by rw [g2]) g3 qs.hk (fun j hj _ => g4 j hj) (by have := qs.took; rw [g3, g2] at this; rw [List.length_append]; omega) (nodup_snoc q.rnd (g2 ▸ hx)) old
          (out1 := mail ld s (s.others ld) (.hold x s.row.length)) (fun y hy => by
            obtain ⟨w, hw, rfl⟩ := mail_mem hy
            have hw1 : w ∈ ms := by rw [← qs.mem]; exact others_mem hw
            have hw0 := (q.rg w hw1).1
            have hwn : w ≠ (ld : Int) := of_decide_eq_true (List.mem_filter.mp hw).2
            refine ⟨qs.num, by show ((w.toNat : Nat) : Int) ∈ ms; rw [show ((w.toNat : Nat) : Int) = w by omega]; exact hw1, q.ldm.1, rfl, by show w.toNat ≠ ld; omega, ?_⟩
            show (R ++ [x])[s.row.length]? = some x
            rw [g2, List.getElem?_append_right (Nat.le_refl _), Nat.sub_self]
            rfl) (h := { f.hand ld with seat := some (({ s with row := s.row ++ [x] } : Seat).tweh ld).1 }) rfl
        rw [hld] at hoth
        refine ⟨[x], T', e1, ?_, .inr ⟨x, rfl, ht⟩, ?_⟩
        · rw [hc, hov _ hread (fun n => by rw [ht]; exact fun z => nomatch z), hw]
          exact e2
        · rw [hc, hov _ hread (fun n => by rw [ht]; exact fun z => nomatch z), hw]
          refine ⟨_, rfl, fun j hj hjl => ?_, fun j hj hjl _ => hoth _ _ j hjl⟩
          rw [sim_app, sim_mail ((qs.mem ▸ q.nd).filter _) (fun y hy => (q.rg y (qs.mem ▸ others_mem hy)).1) (List.mem_filter.mpr ⟨qs.mem ▸ hj, decide_eq_true (by omega)⟩)]
          rw [show simS j (R.length, T) ⟨ld, j, s.num, .hold x s.row.length⟩ = ((R ++ [x]).length, T) by
            unfold simS
            rw [if_pos rfl]
            show (if s.row.length = R.length then R.length + 1 else R.length, T) = _
            rw [if_pos (by rw [g2]), List.length_append]
            rfl]
          exact e3 j hj hjl
    | hold x pl =>
      rw [ht] at z4
      obtain ⟨y1, y2, y3⟩ := z4
      have hread : s.read l.to l = s.holdC l.to l.snd x pl := by unfold Seat.read; rw [ht]
      by_cases hc2 : s.row.length < pl
      · have hw : s.holdC l.to l.snd x pl = (s, []) := by unfold Seat.holdC; rw [if_pos (.inr hc2)]
        refine same ?_ (fun _ _ => by
          unfold simS
          rw [if_pos rfl, ht]
          show (if pl = rowN (f.hand l.to) then _ else _, _) = _
          rw [if_neg (by rw [hrn]; omega)])
        rw [hov _ hread (fun n => by rw [ht]; exact fun z => nomatch z), hw]
        show (({ f.hand l.to with seat := some s } : Hnd), ([] : List Ltr)) = _
        rw [← hs]
      · obtain ⟨s1, hs1⟩ : ∃ s1, s1 = (if pl = s.row.length then { s with row := s.row ++ [x] } else s) := ⟨_, rfl⟩
        have hw : s.holdC l.to l.snd x pl = (s1, [⟨l.to, l.snd.toNat, s.num, .have_ s1.row.length⟩]) := by
          unfold Seat.holdC
          rw [if_neg (by rw [qs.still]; simp; omega), hs1]
        have q1 : QS ms R T s1 ∧ s.row.length ≤ s1.row.length := by
          rw [hs1]
          split
          · rename_i e
            refine ⟨⟨qs.num, qs.mem, qs.bal, qs.off, ?_, ?_, qs.top, qs.hk⟩, ?_⟩
            · show s.row ++ [x] = R.take (s.row ++ [x]).length
              rw [List.length_append]
              show s.row ++ [x] = R.take (s.row.length + 1)
              rw [take_succ_of (e ▸ y3), ← qs.row]
            · show s.took ≤ (s.row ++ [x]).length
              rw [List.length_append]
              have := qs.took
              omega
            · show s.row.length ≤ (s.row ++ [x]).length
              rw [List.length_append]
              omega
          · exact ⟨qs, Nat.le_refl _⟩
        have q1' : QS ms (R ++ []) T s1 := by rw [List.append_nil]; exact q1.1
        refine ⟨[], T, Nat.le_refl _, ?_, .inl rfl, ?_⟩
        rotate_left
        · rw [hc, hov _ hread (fun n => by rw [ht]; exact fun z => nomatch z), hw]
          refine ⟨_, rfl, fun j hj hjl => ?_, fun j hj hjl hu => ?_⟩
          · rw [List.append_nil]
            refine sim_ne fun y hy => ?_
            rw [List.mem_singleton.mp hy]
            show l.snd.toNat ≠ j
            rw [y1]
            omega
          · by_cases w : j = l.to
            · subst w
              rw [hand_set (by rw [q.len]; exact hi), if_pos rfl]
              unfold simS
              rw [if_pos rfl, ht]
              show (s1.row.length, s1.took) = (if pl = rowN (f.hand l.to) then rowN (f.hand l.to) + 1 else rowN (f.hand l.to), tookN (f.hand l.to))
              have htk : tookN (f.hand l.to) = s.took := by unfold tookN; rw [hs]
              rw [hrn, htk, hs1]
              split
              · show ((s.row ++ [x]).length, s.took) = _
                rw [List.length_append]
                rfl
              · rfl
            · exact hoth _ _ j w
        rw [hc, hov _ hread (fun n => by rw [ht]; exact fun z => nomatch z), hw]
        refine q.put hi z2 rfl q1' (Nat.le_refl _) (by rw [hrn]; exact q1.2) (by rw [List.append_nil]; exact q.rnd) (by rw [if_neg y2]; exact ⟨rfl, rfl⟩) old (fun w hw => ?_)
        rw [List.mem_singleton.mp hw]
        refine ⟨qs.num, by show ((l.snd.toNat : Nat) : Int) ∈ ms; rw [y1]; exact q.ldm.1, z2, by show l.snd.toNat = ld; rw [y1]; omega, by show (l.to : Int) ≠ ld; omega, ?_⟩
        show s1.row.length ≤ rowN (Flk.hand _ ((l.to : Int)).toNat)
        rw [Int.toNat_natCast, hand_set (by rw [q.len]; exact hi), if_pos rfl]
        exact Nat.le_refl _
    | have_ n =>
      rw [ht] at z4
      obtain ⟨y1, y2, y3⟩ := z4
      rw [y1] at hs hov hc
      rw [hs] at g1
      cases g1
      have hread : s.read ld l = s.haveC ld l.snd n := by unfold Seat.read; rw [ht]
      have h0 := q.rg _ z3
      have hks : l.snd ∈ s.hold.map (·.1) := by rw [qs.hk]; exact z3
      obtain ⟨T', e1, e2, e3⟩ := lead_look q (R' := []) hs (s.note l.snd (max (getA l.snd 0 s.hold) n)) qs.num qs.mem qs.bal qs.off (by rw [List.append_nil]; exact g2) g3 (by show (putA l.snd _ s.hold).map (·.1) = ms; rw [putA_keys hks, qs.hk])
        (fun j hj hjl => by
          show getA (j : Int) 0 (putA l.snd (max (getA l.snd 0 s.hold) n) s.hold) ≤ _
          rw [getA_put hks]
          split
          · rename_i e
            have ej : l.snd.toNat = j := by omega
            rw [ej] at y3
            have := g4 j hj
            rw [← e]
            exact Nat.max_le.mpr ⟨this, y3⟩
          · exact g4 j hj) (by have := qs.took; rw [g3, g2] at this; rw [List.append_nil]; exact this) (by rw [List.append_nil]; exact q.rnd) old (out1 := []) (fun y hy => nomatch hy) (h := { f.hand ld with seat := some ((s.note l.snd (max (getA l.snd 0 s.hold) n)).tweh ld).1 }) rfl
      rw [y1] at hoth
      refine ⟨[], T', e1, ?_, .inl rfl, ?_⟩
      · rw [hc, hov _ hread (fun n => by rw [ht]; exact fun z => nomatch z)]
        exact e2
      · rw [hc, hov _ hread (fun n => by rw [ht]; exact fun z => nomatch z)]
        refine ⟨_, rfl, fun j hj hjl => ?_, fun j hj hjl _ => hoth _ _ j hjl⟩
        have := e3 j hj hjl
        rw [List.append_nil] at this ⊢
        exact this
    | take n =>
      rw [ht] at z4
      obtain ⟨y1, y2, y3⟩ := z4
      have hread : s.read l.to l = (s.takeC n, []) := by unfold Seat.read; rw [ht]
      refine ⟨[], T, Nat.le_refl _, ?_, .inl rfl, ?_⟩
      rotate_left
      · rw [hc, hov _ hread (fun n => by rw [ht]; exact fun z => nomatch z)]
        refine ⟨[], rfl, fun j _ _ => by rw [List.append_nil]; rfl, fun j hj hjl hu => ?_⟩
        by_cases w : j = l.to
        · subst w
          rw [hand_set (by rw [q.len]; exact hi), if_pos rfl]
          unfold simS
          rw [if_pos rfl, ht]
          show (s.row.length, max s.took (min n s.row.length)) = (rowN (f.hand l.to), max (tookN (f.hand l.to)) (min n (rowN (f.hand l.to))))
          have htk : tookN (f.hand l.to) = s.took := by unfold tookN; rw [hs]
          rw [hrn, htk]
        · exact hoth _ _ j w
      rw [hc, hov _ hread (fun n => by rw [ht]; exact fun z => nomatch z)]
      refine q.put hi z2 rfl (s := s.takeC n) ⟨qs.num, qs.mem, qs.bal, qs.off, by rw [List.append_nil]; exact qs.row, ?_, ?_, qs.hk⟩ (Nat.le_refl _) (by rw [hrn]; exact Nat.le_refl _) (by rw [List.append_nil]; exact q.rnd) (by rw [if_neg y2]; exact ⟨rfl, rfl⟩) old (fun w hw => nomatch hw)
      · show max s.took (min n s.row.length) ≤ s.row.length
        exact Nat.max_le.mpr ⟨qs.took, Nat.min_le_right _ _⟩
      · show max s.took (min n s.row.length) ≤ T
        exact Nat.max_le.mpr ⟨qs.top, Nat.le_trans (Nat.min_le_left _ _) y3⟩
    | prepare b => rw [ht] at z4; exact z4.elim
    | promise a b c => rw [ht] at z4; exact z4.elim
    | accept b => rw [ht] at z4; exact z4.elim
    | agree b => rw [ht] at z4; exact z4.elim
    | enter b => rw [ht] at z4; exact z4.elim

end
end Fo
namespace Fo
open PySem PySem.Spec PyProof.Rows L2
section
variable {P : Program} {w : World} {K : PySem.W.Frag} {mg : Str → Option Value} {base : Heap}
theorem over_up {h : Hnd} {i : Nat} {l : Ltr} : (h.over i l).1.up = h.up := by
  unfold Hnd.over
  split
  · rfl
  · have main : (match h.seat with | none => (h, ([] : List Ltr)) | some s => if s.num = l.num then (({ h with seat := some (s.read i l).1 } : Hnd), (s.read i l).2) else (h, [])).1.up = h.up := by
      cases h.seat with
      | none => rfl
      | some s =>
        dsimp only
        split <;> rfl
    cases l.told with
    | enter n =>
      show (h.enterC i n).up = h.up
      unfold Hnd.enterC
      cases h.seat with
      | none =>
        show (h.join i n).up = h.up
        unfold Hnd.join
        split <;> rfl
      | some s =>
        dsimp only
        split
        · rfl
        · unfold Hnd.join
          split <;> rfl
    | _ => exact main
theorem come_up {f : Flk} {p j : Nat} : ((f.come p).hand j).up = (f.hand j).up := by
  unfold Flk.come
  cases hp : f.post[p]? with
  | none => rfl
  | some l =>
    by_cases hi : l.to < f.hands.length
    · show ((⟨f.hands.set l.to ((f.hand l.to).over l.to l).1, _⟩ : Flk).hand j).up = _
      rw [hand_set hi]
      split
      · rename_i e
        rw [over_up, e]
      · rfl
    · show ((f.hands.set l.to ((f.hand l.to).over l.to l).1).getD j Hnd.new).up = (f.hands.getD j Hnd.new).up
      rw [List.set_eq_of_length_le (by omega)]
/-- what stands will have all that the first hand put, and took, when the letters came in their order -/
def Fifo (ms : List Int) (ld : Nat) (R : List Msg) (T : Nat) (f : Flk) : Prop := ∀ j : Nat, (j : Int) ∈ ms → j ≠ ld → (f.hand j).up = true → sim j (rowN (f.hand j), tookN (f.hand j)) f.post = (R.length, T)
theorem fifo_come {ms : List Int} {ld : Nat} {R R' : List Msg} {T T' : Nat} {f : Flk} {l : Ltr} (F : Fifo ms ld R T f) (hp : f.post[0]? = some l) (d : ComeD ms ld R R' T T' f (f.come 0) l (f.post.eraseIdx 0)) : Fifo ms ld (R ++ R') T' (f.come 0) := fun j hj hjl hu => by
  rw [come_up] at hu
  obtain ⟨out, e1, e2, e3⟩ := d
  have h1 := F j hj hjl hu
  have hpo : f.post = l :: f.post.eraseIdx 0 := by
    cases hq : f.post with
    | nil => rw [hq] at hp; cases hp
    | cons x r =>
      rw [hq] at hp
      cases hp
      rfl
  rw [hpo] at h1
  have h2 : sim j (simS j (rowN (f.hand j), tookN (f.hand j)) l) (f.post.eraseIdx 0) = (R.length, T) := h1
  rw [e1, e3 j hj hjl hu, sim_app, h2]
  exact e2 j hj hjl
/-- all letters come -/
theorem quiet_calm {m : Nat} {ms : List Int} {ld : Nat} : ∀ (n : Nat) (f : Flk) (R : List Msg) (T : Nat), Quiet m ms ld R T f → f.runs n → ∃ R' T', T ≤ T' ∧ Quiet m ms ld (R ++ R') T' (f.cames n) ∧ (∀ j, ((f.cames n).hand j).up = (f.hand j).up) ∧ (Fifo ms ld R T f → Fifo ms ld (R ++ R') T' (f.cames n))
  | 0, f, R, T, q, _ => ⟨[], T, Nat.le_refl _, by rw [List.append_nil]; exact q, fun _ => rfl, fun F => by rw [List.append_nil]; exact F⟩
  | n + 1, f, R, T, q, ⟨h1, _, h3⟩ => by
    cases hp : f.post with
    | nil => exact absurd hp h1
    | cons l r =>
      have hp0 : f.post[0]? = some l := by rw [hp]; rfl
      obtain ⟨R1, T1, a1, a2, _, a4⟩ := quiet_come q hp0
      obtain ⟨R2, T2, b1, b2, b3, b4⟩ := quiet_calm n (f.come 0) (R ++ R1) T1 a2 h3
      rw [List.append_assoc] at b2
      refine ⟨R1 ++ R2, T2, Nat.le_trans a1 b1, b2, fun j => (b3 j).trans come_up, fun F => ?_⟩
      have := b4 (fifo_come F hp0 a4)
      rw [List.append_assoc] at this
      exact this
/-- the same seats, other letters -/
theorem Quiet.seats {m : Nat} {ms : List Int} {ld : Nat} {R : List Msg} {T : Nat} {f f' : Flk} (q : Quiet m ms ld R T f) (hl : f'.hands.length = f.hands.length) (hs : ∀ j, (f'.hand j).seat = (f.hand j).seat) (hp : ∀ l ∈ f'.post, l ∈ f.post ∨ QL ms ld R T f' l) : Quiet m ms ld R T f' := by
  have hr : ∀ j, rowN (f'.hand j) = rowN (f.hand j) := fun j => by unfold rowN; rw [hs]
  refine ⟨hl.trans q.len, q.rg, q.nd, q.lead, fun i hi him => by rw [hs]; exact q.seat i hi him, fun i hi him => by rw [hs]; exact q.none i hi him, ?_, q.rnd, fun l hm => ?_⟩
  · obtain ⟨s, g1, g2, g3, g4, g5⟩ := q.first
    exact ⟨s, by rw [hs]; exact g1, g2, g3, fun j hj => by rw [hr]; exact g4 j hj, g5⟩
  · rcases hp l hm with w | w
    · have := (q.post l w).grow (R' := []) (f' := f') (Nat.le_refl T) (fun j => Nat.le_of_eq (hr j).symm)
      rw [List.append_nil] at this
      exact this
    · exact w
theorem deed_seat {f : Flk} {i j : Nat} {h : Hnd} {ls : List Ltr} (hi : i < f.hands.length) (e : h.seat = (f.hand i).seat) : ((⟨f.hands.set i h, ls⟩ : Flk).hand j).seat = (f.hand j).seat := by
  rw [hand_set hi]
  split
  · rename_i w
    rw [e, w]
  · rfl
theorem quiet_say {m : Nat} {ms : List Int} {ld : Nat} {R : List Msg} {T : Nat} {f : Flk} (q : Quiet m ms ld R T f) {x : V} {p : Nat × Seat} {word : Str} (h : f.acts x = .ok p) :
    Quiet m ms ld R T (f.deed p.1 ((f.hand p.1).say p.1 p.2 word)) ∧ (f.deed p.1 ((f.hand p.1).say p.1 p.2 word)).post = f.post ++ [⟨p.1, ld, 0, .wish ⟨p.1, (f.hand p.1).said, word⟩⟩] := by
  obtain ⟨_, hi, hup, hs⟩ := acts_ok h
  have hi2 : p.1 < m := by rw [← q.len]; exact hi
  have him : (p.1 : Int) ∈ ms := Decidable.byContradiction fun z => by
    have := q.none _ hi2 z
    rw [hs] at this
    cases this
  obtain ⟨s, hs2, qs⟩ := q.seat _ hi2 him
  rw [hs] at hs2
  cases hs2
  have hl : p.2.lead = (ld : Int) := by
    unfold Seat.lead
    rw [qs.mem, List.headD_eq_head?_getD, q.lead]
    rfl
  have e : (f.deed p.1 ((f.hand p.1).say p.1 p.2 word)).post = f.post ++ [⟨p.1, ld, 0, .wish ⟨p.1, (f.hand p.1).said, word⟩⟩] := by
    show f.post ++ [(⟨p.1, p.2.lead.toNat, p.2.num, .wish ⟨p.1, (f.hand p.1).said, word⟩⟩ : Ltr)] = _
    rw [hl, Int.toNat_natCast, qs.num]
  refine ⟨q.seats (by show (f.hands.set _ _).length = _; rw [List.length_set]) (fun j => deed_seat hi rfl) (fun l hm => ?_), e⟩
  rw [e] at hm
  rcases List.mem_append.mp hm with w | w
  · exact .inl w
  · rw [List.mem_singleton.mp w]
    exact .inr ⟨rfl, q.ldm.1, him, rfl⟩
theorem quiet_fall {m : Nat} {ms : List Int} {ld : Nat} {R : List Msg} {T : Nat} {f : Flk} (q : Quiet m ms ld R T f) {i : Nat} (hi : i < m) : Quiet m ms ld R T (f.setHand i (f.hand i).down) :=
  q.seats (by show (f.hands.set _ _).length = _; rw [List.length_set]) (fun j => deed_seat (by rw [q.len]; exact hi) rfl) (fun l hm => .inl hm)
theorem quiet_lose {m : Nat} {ms : List Int} {ld : Nat} {R : List Msg} {T : Nat} {f : Flk} (q : Quiet m ms ld R T f) (p : Nat) : Quiet m ms ld R T (f.lose p) := q.sub fun x hx => List.mem_of_mem_eraseIdx hx
theorem quiet_double {m : Nat} {ms : List Int} {ld : Nat} {R : List Msg} {T : Nat} {f : Flk} (q : Quiet m ms ld R T f) (p : Nat) : Quiet m ms ld R T (f.double p) := by
  unfold Flk.double
  cases hp : f.post[p]? with
  | none => exact q
  | some l =>
    refine q.sub (ls := f.post ++ [l]) fun x hx => ?_
    rcases List.mem_append.mp hx with w | w
    · exact w
    · rw [List.mem_singleton.mp w]
      exact List.mem_of_getElem? hp
theorem quiet_new {m : Nat} {ms : List Int} {ld : Nat} (rg : ∀ x ∈ ms, 0 ≤ x ∧ x < (m : Int)) (nd : ms.Nodup) (hl : ms.head? = some (ld : Int)) : Quiet m ms ld [] 0 (Flk.new m ms) ∧ Fifo ms ld [] 0 (Flk.new m ms) := by
  have hh : ∀ i, i < m → (Flk.new m ms).hand i = if (i : Int) ∈ ms then seatedH ms else Hnd.new := fun i hi => by
    show ((seated m ms ms).getD i Hnd.new) = _
    rw [List.getD_eq_getElem?_getD, seated_get ms ms hi]
    rfl
  have hk : (ms.map fun h => ((h, 0) : Int × Nat)).map (·.1) = ms := by
    rw [List.map_map]
    exact (List.map_congr_left fun _ _ => rfl).trans (List.map_id ms)
  have hld : (ld : Int) ∈ ms := List.mem_of_mem_head? (show (ld : Int) ∈ ms.head? from hl)
  have hldm : ld < m := by have := rg _ hld; omega
  have hz : ∀ p ∈ (ms.map fun h => ((h, 0) : Int × Nat)), p.2 ≤ 0 := fun p hp => by
    obtain ⟨y, _, rfl⟩ := List.mem_map.mp hp
    exact Nat.le_refl _
  refine ⟨⟨seated_len m ms ms, rg, nd, hl, fun i hi him => ?_, fun i hi him => ?_, ?_, List.Pairwise.nil, fun l hm => (nomatch hm)⟩, fun j hj _ _ => ?_⟩
  · rw [hh i hi, if_pos him]
    exact ⟨_, rfl, rfl, rfl, rfl, rfl, rfl, Nat.le_refl _, Nat.le_refl _, hk⟩
  · rw [hh i hi, if_neg him]
    rfl
  · rw [hh ld hldm, if_pos hld]
    refine ⟨_, rfl, rfl, rfl, fun j hj => ?_, most_le hz⟩
    have hj2 := rg _ hj
    rw [hh j (by omega), if_pos hj]
    show getA (j : Int) 0 (ms.map fun h => ((h, 0) : Int × Nat)) ≤ 0
    rw [getA_mem (v := 0) (by rw [hk]; exact nd) (List.mem_map.mpr ⟨_, hj, rfl⟩)]
    exact Nat.le_refl _
  · have hj2 := rg _ hj
    rw [hh j (by omega), if_pos hj]
    rfl
/-- the first hand presses -/
theorem sim_le {ms : List Int} {ld j : Nat} {R : List Msg} {T : Nat} {f : Flk} : ∀ {ls : List Ltr} {st : Nat × Nat}, (∀ l ∈ ls, QL ms ld R T f l) → st.1 ≤ R.length → st.2 ≤ T → (sim j st ls).1 ≤ R.length ∧ (sim j st ls).2 ≤ T
  | [], _, _, h1, h2 => ⟨h1, h2⟩
  | x :: r, st, h, h1, h2 => by
    have hx := h x List.mem_cons_self
    refine sim_le (ls := r) (st := simS j st x) (fun y hy => h y (List.mem_cons_of_mem _ hy)) ?_ ?_
    · unfold simS
      split
      · obtain ⟨_, _, _, z⟩ := hx
        cases ht : x.told with
        | hold y pl =>
          rw [ht] at z
          have := (List.getElem?_eq_some_iff.mp z.2.2).1
          show (if pl = st.1 then st.1 + 1 else st.1) ≤ _
          split <;> omega
        | _ => exact h1
      · exact h1
    · unfold simS
      split
      · obtain ⟨_, _, _, z⟩ := hx
        cases ht : x.told with
        | take n =>
          rw [ht] at z
          show max st.2 (min n st.1) ≤ T
          exact Nat.max_le.mpr ⟨h2, Nat.le_trans (Nat.min_le_left _ _) z.2.2⟩
        | _ => exact h2
      · exact h2
theorem sim_press {i j : Nat} {s : Seat} (nd : s.mem.Nodup) (rg : ∀ x ∈ s.mem, 0 ≤ x) (hj : (j : Int) ∈ s.mem) (hji : j ≠ i) : ∀ (xs : List Msg) (p : Nat) (st : Nat × Nat), p ≤ st.1 → st.1 ≤ p + xs.length → sim j st (pressGo i s p xs) = (p + xs.length, st.2)
  | [], p, st, h1, h2 => by
    have h3 : st.1 ≤ p := h2
    show st = (p + 0, st.2)
    rw [Nat.add_zero, Nat.le_antisymm h1 h3]
  | x :: xs, p, st, h1, h2 => by
    have h3 : st.1 ≤ p + (xs.length + 1) := h2
    show sim j st (mail i s (s.others i) (.hold x p) ++ pressGo i s (p + 1) xs) = (p + (xs.length + 1), st.2)
    rw [sim_app, sim_mail (hs := s.others i) (nd.filter _) (fun y hy => rg y (others_mem hy)) (List.mem_filter.mpr ⟨hj, decide_eq_true (by omega)⟩)]
    rw [show simS j st ⟨i, j, s.num, .hold x p⟩ = (if p = st.1 then st.1 + 1 else st.1, st.2) from if_pos rfl]
    rw [sim_press nd rg hj hji xs (p + 1) _ (by show p + 1 ≤ (if p = st.1 then st.1 + 1 else st.1); split <;> omega) (by show (if p = st.1 then st.1 + 1 else st.1) ≤ _; split <;> omega)]
    show (p + 1 + xs.length, st.2) = _
    rw [show p + 1 + xs.length = p + (xs.length + 1) by omega]
theorem press_at {i : Nat} {s : Seat} : ∀ {xs : List Msg} {p : Nat} {l : Ltr}, l ∈ pressGo i s p xs → ∃ k, k < xs.length ∧ ∃ y ∈ s.others i, ∃ x, xs[k]? = some x ∧ l = ⟨i, y.toNat, s.num, .hold x (p + k)⟩
  | [], _, _, h => nomatch h
  | m :: r, p, l, h => by
    rcases List.mem_append.mp (show l ∈ mail i s (s.others i) (.hold m p) ++ pressGo i s (p + 1) r from h) with w | w
    · obtain ⟨y, hy, e⟩ := mail_mem w
      exact ⟨0, Nat.succ_pos _, y, hy, m, rfl, e⟩
    · obtain ⟨k, hk, y, hy, x, hx, e⟩ := press_at w
      exact ⟨k + 1, Nat.succ_lt_succ hk, y, hy, x, by simpa using hx, by rw [e, show p + 1 + k = p + (k + 1) by omega]⟩
theorem quiet_press {m : Nat} {ms : List Int} {ld : Nat} {R : List Msg} {T : Nat} {f : Flk} (q : Quiet m ms ld R T f) {s : Seat} (hs : (f.hand ld).seat = some s) : Quiet m ms ld R T (f.deed ld (f.hand ld, s.press ld)) ∧ Fifo ms ld R T (f.deed ld (f.hand ld, s.press ld)) := by
  obtain ⟨hlm, hli⟩ := q.ldm
  obtain ⟨s0, hs0, qs⟩ := q.seat _ hli hlm
  rw [hs] at hs0
  cases hs0
  obtain ⟨s0, g1, g2, g3, _, _⟩ := q.first
  rw [hs] at g1
  cases g1
  have hlt : ld < f.hands.length := by rw [q.len]; exact hli
  have hd : f.deed ld (f.hand ld, s.press ld) = ⟨f.hands, f.post ++ s.press ld⟩ := by
    show (⟨f.hands.set ld (f.hand ld), _⟩ : Flk) = _
    rw [set_same hlt]
  rw [hd]
  have hoth : ∀ y ∈ s.others ld, y ∈ ms ∧ 0 ≤ y ∧ y ≠ (ld : Int) := fun y hy => by
    have h1 : y ∈ ms := by rw [← qs.mem]; exact others_mem hy
    exact ⟨h1, (q.rg y h1).1, of_decide_eq_true (List.mem_filter.mp hy).2⟩
  refine ⟨q.seats rfl (fun _ => rfl) (fun l hm => ?_), fun j hj hjl hu => ?_⟩
  · rcases List.mem_append.mp hm with w | w
    · exact .inl w
    · refine .inr ?_
      rcases List.mem_append.mp (show l ∈ pressGo ld s 0 s.row ++ mail ld s (s.others ld) (.take s.took) from w) with w | w
      · obtain ⟨k, hk, hkr⟩ : ∃ k, k < s.row.length ∧ ∃ y ∈ s.others ld, ∃ x, s.row[k]? = some x ∧ l = ⟨ld, y.toNat, s.num, .hold x (0 + k)⟩ := press_at w
        obtain ⟨y, hy, x, hx, rfl⟩ := hkr
        obtain ⟨h1, h2, h3⟩ := hoth y hy
        exact ⟨qs.num, by show ((y.toNat : Nat) : Int) ∈ ms; rw [show ((y.toNat : Nat) : Int) = y by omega]; exact h1, hlm, rfl, by show y.toNat ≠ ld; omega, by show R[0 + k]? = some x; rw [Nat.zero_add, ← g2]; exact hx⟩
      · obtain ⟨y, hy, rfl⟩ := mail_mem w
        obtain ⟨h1, h2, h3⟩ := hoth y hy
        exact ⟨qs.num, by show ((y.toNat : Nat) : Int) ∈ ms; rw [show ((y.toNat : Nat) : Int) = y by omega]; exact h1, hlm, rfl, by show y.toNat ≠ ld; omega, by rw [g3]; exact Nat.le_refl _⟩
  · have hj2 := q.rg _ hj
    obtain ⟨sj, hsj, qj⟩ := q.seat j (by omega) hj
    have hle := sim_le (j := j) (ls := f.post) (st := (rowN (f.hand j), tookN (f.hand j))) q.post (rowN_le q hj) (by unfold tookN; rw [hsj]; exact qj.top)
    show sim j (rowN (f.hand j), tookN (f.hand j)) (f.post ++ (pressGo ld s 0 s.row ++ mail ld s (s.others ld) (.take s.took))) = _
    have ndm : s.mem.Nodup := by rw [qs.mem]; exact q.nd
    have rgm : ∀ x ∈ s.mem, 0 ≤ x := fun x hx => (q.rg x (by rw [← qs.mem]; exact hx)).1
    rw [sim_app, sim_app, sim_press ndm rgm (by rw [qs.mem]; exact hj) hjl s.row 0 _ (Nat.zero_le _) (by rw [Nat.zero_add, g2]; exact hle.1),
      sim_mail (hs := s.others ld) (ndm.filter _) (fun y hy => rgm y (others_mem hy)) (List.mem_filter.mpr ⟨by rw [qs.mem]; exact hj, decide_eq_true (by omega)⟩)]
    show (if j = j then (0 + s.row.length, max _ (min s.took (0 + s.row.length))) else _) = _
    rw [if_pos rfl, Nat.zero_add, Nat.min_eq_left qs.took, g2, g3, Nat.max_eq_right hle.2]

end
end Fo
namespace Fo
open PySem PySem.Spec PyProof.Rows L2
section
variable {P : Program} {w : World} {K : PySem.W.Frag} {mg : Str → Option Value} {base : Heap}
/-! ### k07's state -/
theorem read_took {s : Seat} {i : Nat} {l : Ltr} : s.took ≤ (s.read i l).1.took := by
  have tw : ∀ s : Seat, s.took ≤ (s.tweh i).1.took := fun s => by rw [tweh_eq]; exact Nat.le_max_left _ _
  unfold Seat.read
  cases l.told with
  | wish x =>
    show s.took ≤ (s.wish i x).1.took
    unfold Seat.wish
    split
    · exact Nat.le_refl _
    · exact tw { s with row := s.row ++ [x] }
  | hold x pl =>
    show s.took ≤ (s.holdC i l.snd x pl).1.took
    unfold Seat.holdC
    split
    · exact Nat.le_refl _
    · dsimp only
      split <;> exact Nat.le_refl _
  | have_ n => exact tw (s.note l.snd (max (getA l.snd 0 s.hold) n))
  | take n => exact Nat.le_max_left _ _
  | prepare b =>
    show s.took ≤ (s.prepC i l.snd b).1.took
    unfold Seat.prepC
    split <;> exact Nat.le_refl _
  | promise b row a =>
    show s.took ≤ (s.promC i l.snd b row a).1.took
    unfold Seat.promC
    cases s.off with
    | none => exact Nat.le_refl _
    | some o =>
      dsimp only
      split
      · exact Nat.le_refl _
      · split <;> exact Nat.le_refl _
  | accept a =>
    show s.took ≤ (s.accC i l.snd a).1.took
    unfold Seat.accC
    split <;> exact Nat.le_refl _
  | agree b =>
    show s.took ≤ (s.agrC i l.snd b).1.took
    unfold Seat.agrC
    cases s.off with
    | none => exact Nat.le_refl _
    | some o =>
      dsimp only
      split
      · exact Nat.le_refl _
      · split <;> exact Nat.le_refl _
  | enter n => exact Nat.le_refl _
theorem over_took {h : Hnd} {i : Nat} {l : Ltr} (ne : ∀ n, l.told ≠ .enter n) : tookN h ≤ tookN (h.over i l).1 := by
  unfold Hnd.over
  split
  · exact Nat.le_refl _
  · have main : tookN h ≤ tookN (match h.seat with | none => (h, ([] : List Ltr)) | some s => if s.num = l.num then (({ h with seat := some (s.read i l).1 } : Hnd), (s.read i l).2) else (h, [])).1 := by
      cases hs : h.seat with
      | none => exact Nat.le_refl _
      | some s =>
        dsimp only
        split
        · unfold tookN
          rw [hs]
          exact read_took
        · exact Nat.le_refl _
    cases ht : l.told with
    | enter n => exact absurd ht (ne n)
    | _ => exact main
theorem over_said {h : Hnd} {i : Nat} {l : Ltr} : (h.over i l).1.said = h.said := by
  unfold Hnd.over
  split
  · rfl
  · have main : (match h.seat with | none => (h, ([] : List Ltr)) | some s => if s.num = l.num then (({ h with seat := some (s.read i l).1 } : Hnd), (s.read i l).2) else (h, [])).1.said = h.said := by
      cases h.seat with
      | none => rfl
      | some s =>
        dsimp only
        split <;> rfl
    cases l.told with
    | enter n =>
      show (h.enterC i n).said = h.said
      unfold Hnd.enterC
      cases h.seat with
      | none =>
        show (h.join i n).said = h.said
        unfold Hnd.join
        split <;> rfl
      | some s =>
        dsimp only
        split
        · rfl
        · unfold Hnd.join
          split <;> rfl
    | _ => exact main
theorem come_hand {f : Flk} {p : Nat} {l : Ltr} (hp : f.post[p]? = some l) (hi : l.to < f.hands.length) (j : Nat) : (f.come p).hand j = if j = l.to then ((f.hand l.to).over l.to l).1 else f.hand j := by
  have hc : f.come p = ⟨f.hands.set l.to ((f.hand l.to).over l.to l).1, f.post.eraseIdx p ++ ((f.hand l.to).over l.to l).2⟩ := by
    unfold Flk.come
    rw [hp]
  rw [hc, hand_set hi]
/-- what was said: the k-th word of hand i -/
def X7 (ms : List Int) (S : Nat → List Str) : Prm := ⟨fun x => x = ms, fun x => ∃ i k : Nat, x.hand = i ∧ (i : Int) ∈ ms ∧ x.cnt = k ∧ (S i)[k]? = some x.word ∧ mOk x, fun _ ⟨_, _, _, _, _, _, h⟩ => h⟩
/-- more is known -/
structure PLe (X Y : Prm) : Prop where
  y : ∀ ms, X.Y ms → Y.Y ms
  z : ∀ x, X.Z x → Y.Z x
section
variable {X Y : Prm} {m B : Nat} {c : Int} (e : PLe X Y)
include e
theorem MemOk.upX {ms : List Int} (h : MemOk X m ms) : MemOk Y m ms := ⟨e.y _ h.y, h.ne, h.rg, h.up⟩
theorem RowOk.upX {r : List Msg} (h : RowOk X B r) : RowOk Y B r := ⟨h.len, fun x hx => e.z x (h.z x hx)⟩
theorem AgrOk.upX {a : Agr} (h : AgrOk X m B a) : AgrOk Y m B a := ⟨MemOk.upX e h.mem, RowOk.upX e h.row⟩
theorem NewsOk.upX {n : News} (h : NewsOk X m B c n) : NewsOk Y m B c n := ⟨MemOk.upX e h.mem, RowOk.upX e h.row, h.num⟩
theorem OffOk.upX {o : Off} (h : OffOk X m B o) : OffOk Y m B o := ⟨MemOk.upX e h.mem, fun p hp => ⟨RowOk.upX e (h.prow p hp).1, fun a ha => AgrOk.upX e ((h.prow p hp).2 a ha)⟩, h.pk, h.pr, fun f hf => ⟨MemOk.upX e (h.fwd f hf).1, RowOk.upX e (h.fwd f hf).2⟩, h.ak, h.ar⟩
theorem SeatOk.upX {i : Nat} {s : Seat} (h : SeatOk X m B c i s) : SeatOk Y m B c i s := ⟨MemOk.upX e h.mem, h.me, RowOk.upX e h.row, h.hk, fun n hn => NewsOk.upX e (h.news n hn), fun a ha => AgrOk.upX e (h.agr a ha), fun o ho => ⟨OffOk.upX e (h.off o ho).1, (h.off o ho).2⟩⟩
theorem HandOk.upX {i : Nat} {h : Hnd} (r : HandOk X m B c i h) : HandOk Y m B c i h := ⟨r.high, r.past, fun s hs => ⟨SeatOk.upX e (r.seat s hs).1, (r.seat s hs).2⟩⟩
theorem LetOk.upX {l : Ltr} (h : LetOk X m B c l) : LetOk Y m B c l := by
  refine ⟨h.to, h.s0, h.s1, ?_⟩
  have w := h.told
  cases ht : l.told with
  | wish x => rw [ht] at w; exact e.z _ w
  | hold x pl => rw [ht] at w; exact ⟨e.z _ w.1, w.2⟩
  | promise b row a => rw [ht] at w; exact ⟨RowOk.upX e w.1, fun x hx => AgrOk.upX e (w.2 x hx)⟩
  | accept a => rw [ht] at w; exact AgrOk.upX e w
  | enter n => rw [ht] at w; exact NewsOk.upX e w
  | _ => trivial
theorem FInv.upX {f : Flk} (F : FInv X m B c f) : FInv Y m B c f := ⟨F.len, fun i hi => HandOk.upX e (F.hands i hi), fun l hl => ⟨LetOk.upX e (F.post l hl).1, (F.post l hl).2⟩⟩
end
structure St7 (m : Nat) (ms : List Int) (ld n : Nat) (S : Nat → List Str) (R : List Msg) (T : Nat) (f : Flk) : Prop where
  m9 : m ≤ 9
  q : Quiet m ms ld R T f
  inv : ∃ B, FInv (X7 ms S) m B 0 f ∧ B + wcnt f.post ≤ n
  ws : wsum f.post ≤ 5200 * n
  said : ∀ i, i < m → (f.hand i).said = (S i).length
theorem quiet_ne {m : Nat} {ms : List Int} {ld : Nat} {R : List Msg} {T : Nat} {f : Flk} (q : Quiet m ms ld R T f) {l : Ltr} (hl : l ∈ f.post) : ∀ n, l.told ≠ .enter n := fun n e => by
  obtain ⟨_, _, _, z⟩ := q.post l hl
  rw [e] at z
  exact z
theorem St7.come {m : Nat} {ms : List Int} {ld n : Nat} {S : Nat → List Str} {R : List Msg} {T : Nat} {f : Flk} (s : St7 m ms ld n S R T f) {p : Nat} {l : Ltr} (hp : f.post[p]? = some l) : ∃ R' T', T ≤ T' ∧ St7 m ms ld n S (R ++ R') T' (f.come p) ∧ (∀ j, tookN (f.hand j) ≤ tookN ((f.come p).hand j)) ∧ (p = 0 → Fifo ms ld R T f → Fifo ms ld (R ++ R') T' (f.come p)) := by
  obtain ⟨B, F, hB⟩ := s.inv
  obtain ⟨F1, w1, w2⟩ := come_inv s.m9 F hp
  obtain ⟨R', T', a1, a2, _, a4⟩ := quiet_come s.q hp
  have hlm := List.mem_of_getElem? hp
  have hi : l.to < f.hands.length := by rw [F.len]; exact (F.post l hlm).1.to
  refine ⟨R', T', a1, ⟨s.m9, a2, ⟨_, F1, by omega⟩, by have := s.ws; omega, fun i him => ?_⟩, fun j => ?_, fun e F0 => ?_⟩
  · rw [come_hand hp hi]
    split
    · rename_i e
      rw [over_said, ← e]
      exact s.said i him
    · exact s.said i him
  · rw [come_hand hp hi]
    split
    · rename_i e
      rw [e]
      exact over_took (quiet_ne s.q hlm)
    · exact Nat.le_refl _
  · subst e
    exact fifo_come F0 hp a4
theorem St7.calm {m : Nat} {ms : List Int} {ld : Nat} {S : Nat → List Str} : ∀ (k n : Nat) (R : List Msg) (T : Nat) (f : Flk), St7 m ms ld n S R T f → f.runs k → ∃ R' T', T ≤ T' ∧ St7 m ms ld n S (R ++ R') T' (f.cames k) ∧ (∀ j, tookN (f.hand j) ≤ tookN ((f.cames k).hand j)) ∧ (∀ j, ((f.cames k).hand j).up = (f.hand j).up) ∧ (Fifo ms ld R T f → Fifo ms ld (R ++ R') T' (f.cames k))
  | 0, n, R, T, f, s, _ => ⟨[], T, Nat.le_refl _, by rw [List.append_nil]; exact s, fun _ => Nat.le_refl _, fun _ => rfl, fun F => by rw [List.append_nil]; exact F⟩
  | k + 1, n, R, T, f, s, ⟨h1, _, h3⟩ => by
    cases hp : f.post with
    | nil => exact absurd hp h1
    | cons l r =>
      have hp0 : f.post[0]? = some l := by rw [hp]; rfl
      obtain ⟨R1, T1, a1, a2, a3, a4⟩ := s.come hp0
      obtain ⟨R2, T2, b1, b2, b3, b4, b5⟩ := St7.calm k n (R ++ R1) T1 (f.come 0) a2 h3
      rw [List.append_assoc] at b2
      refine ⟨R1 ++ R2, T2, Nat.le_trans a1 b1, b2, fun j => Nat.le_trans (a3 j) (b3 j), fun j => (b4 j).trans come_up, fun F => ?_⟩
      have := b5 (a4 rfl F)
      rw [List.append_assoc] at this
      exact this
theorem St7.runs {m : Nat} {ms : List Int} {ld n : Nat} {S : Nat → List Str} {R : List Msg} {T : Nat} {f : Flk} (s : St7 m ms ld n S R T f) (hn : n ≤ 100) : ∃ k, f.runs k ∧ (f.cames k).post = [] := by
  obtain ⟨B, F, hB⟩ := s.inv
  have hw := s.ws
  obtain ⟨k, h1, h2, _⟩ := runs_of s.m9 (by omega) (wsum f.post) B f (Nat.le_refl _) F (by omega) (by omega)
  exact ⟨k, h1, h2⟩

end
end Fo
namespace Fo
open PySem PySem.Spec PyProof.Rows L2
section
variable {P : Program} {w : World} {K : PySem.W.Frag} {mg : Str → Option Value} {base : Heap}
theorem St7.le {m : Nat} {ms : List Int} {ld n n' : Nat} {S : Nat → List Str} {R : List Msg} {T : Nat} {f : Flk} (s : St7 m ms ld n S R T f) (h : n ≤ n') : St7 m ms ld n' S R T f := by
  obtain ⟨B, F, hB⟩ := s.inv
  exact ⟨s.m9, s.q, ⟨B, F, by omega⟩, Nat.le_trans s.ws (Nat.mul_le_mul_left _ h), s.said⟩
/-- one more word of hand i -/
def sayS (S : Nat → List Str) (i : Nat) (word : Str) : Nat → List Str := fun j => if j = i then S i ++ [word] else S j
theorem St7.say {m : Nat} {ms : List Int} {ld n : Nat} {S : Nat → List Str} {R : List Msg} {T : Nat} {f : Flk} (s : St7 m ms ld n S R T f) {x : V} {p : Nat × Seat} {word : Str} (h : f.acts x = .ok p) (ok : PyData.strOk word = true) :
    St7 m ms ld (n + 1) (sayS S p.1 word) R T (f.deed p.1 ((f.hand p.1).say p.1 p.2 word)) ∧ (∀ j, ((f.deed p.1 ((f.hand p.1).say p.1 p.2 word)).hand j).seat = (f.hand j).seat ∧ ((f.deed p.1 ((f.hand p.1).say p.1 p.2 word)).hand j).up = (f.hand j).up) := by
  obtain ⟨B, F, hB⟩ := s.inv
  obtain ⟨_, hi, hup, hs⟩ := acts_ok h
  have hi2 : p.1 < m := by rw [← F.len]; exact hi
  have him : (p.1 : Int) ∈ ms := Decidable.byContradiction fun z => by
    have := s.q.none _ hi2 z
    rw [hs] at this
    cases this
  have le : PLe (X7 ms S) (X7 ms (sayS S p.1 word)) := ⟨fun _ h => h, fun y ⟨i, k, e1, e2, e3, e4, e5⟩ => ⟨i, k, e1, e2, e3, by
    unfold sayS
    split
    · rename_i w
      rw [w] at e4
      rw [List.getElem?_append_left (List.getElem?_eq_some_iff.mp e4).1]
      exact e4
    · exact e4, e5⟩⟩
  have hz : (X7 ms (sayS S p.1 word)).Z ⟨p.1, (f.hand p.1).said, word⟩ := ⟨p.1, (f.hand p.1).said, rfl, him, rfl, by
    unfold sayS
    rw [if_pos rfl, s.said _ hi2, List.getElem?_append_right (Nat.le_refl _), Nat.sub_self]
    rfl, ok⟩
  obtain ⟨F1, w1, w2⟩ := say_inv (FInv.upX le F) h hz
  have hst : ∀ j, ((f.deed p.1 ((f.hand p.1).say p.1 p.2 word)).hand j).seat = (f.hand j).seat ∧ ((f.deed p.1 ((f.hand p.1).say p.1 p.2 word)).hand j).up = (f.hand j).up := fun j => by
    constructor
    · exact deed_seat hi rfl
    · show ((⟨f.hands.set p.1 _, _⟩ : Flk).hand j).up = _
      rw [hand_set hi]
      split
      · rename_i e
        rw [e]
        rfl
      · rfl
  refine ⟨⟨s.m9, (quiet_say s.q h).1, ⟨B, F1, by omega⟩, by have := s.ws; omega, fun j hj => ?_⟩, hst⟩
  show ((⟨f.hands.set p.1 _, _⟩ : Flk).hand j).said = _
  rw [hand_set hi]
  unfold sayS
  split
  · show (f.hand p.1).said + 1 = (S p.1 ++ [word]).length
    rw [List.length_append, s.said _ hi2]
    rfl
  · exact s.said j hj
theorem St7.press {m : Nat} {ms : List Int} {ld n : Nat} {S : Nat → List Str} {R : List Msg} {T : Nat} {f : Flk} (s : St7 m ms ld n S R T f) (hn : n ≤ 63) {x : V} {q : Seat} (h : f.acts x = .ok (ld, q)) : St7 m ms ld (n + 1) S R T (f.deed ld (f.hand ld, q.press ld)) ∧ Fifo ms ld R T (f.deed ld (f.hand ld, q.press ld)) ∧ (f.deed ld (f.hand ld, q.press ld)).hands = f.hands := by
  obtain ⟨B, F, hB⟩ := s.inv
  obtain ⟨_, hi, hup, hs⟩ := acts_ok h
  obtain ⟨F1, w1, w2⟩ := press_inv s.m9 F h
  obtain ⟨a1, a2⟩ := quiet_press s.q hs
  refine ⟨⟨s.m9, a1, ⟨B, F1, ?_⟩, ?_, fun j hj => ?_⟩, a2, set_same hi⟩
  · have : wcnt (f.deed ld (f.hand ld, q.press ld)).post = wcnt f.post := w2
    omega
  · have h1 : wsum (f.deed ld (f.hand ld, q.press ld)).post ≤ wsum f.post + B * 80 + 8 := w1
    have h2 := s.ws
    omega
  · show ((⟨f.hands.set ld (f.hand ld), _⟩ : Flk).hand j).said = _
    rw [set_same hi]
    exact s.said j hj
theorem St7.fall {m : Nat} {ms : List Int} {ld n : Nat} {S : Nat → List Str} {R : List Msg} {T : Nat} {f : Flk} (s : St7 m ms ld n S R T f) {i : Nat} (hi : i < m) : St7 m ms ld n S R T (f.setHand i (f.hand i).down) ∧ ∀ j, ((f.setHand i (f.hand i).down).hand j).seat = (f.hand j).seat := by
  obtain ⟨B, F, hB⟩ := s.inv
  have hl : i < f.hands.length := by rw [F.len]; exact hi
  refine ⟨⟨s.m9, quiet_fall s.q hi, ⟨B, fall_inv F hi, hB⟩, s.ws, fun j hj => ?_⟩, fun j => deed_seat hl rfl⟩
  show ((⟨f.hands.set i _, _⟩ : Flk).hand j).said = _
  rw [hand_set hl]
  split
  · rename_i e
    rw [e]
    exact s.said i hi
  · exact s.said j hj
theorem St7.lose {m : Nat} {ms : List Int} {ld n : Nat} {S : Nat → List Str} {R : List Msg} {T : Nat} {f : Flk} (s : St7 m ms ld n S R T f) {p : Nat} (hp : p < f.post.length) : St7 m ms ld n S R T (f.lose p) := by
  obtain ⟨B, F, hB⟩ := s.inv
  obtain ⟨F1, w1, w2⟩ := lose_inv F (List.getElem?_eq_getElem hp)
  exact ⟨s.m9, quiet_lose s.q p, ⟨B, F1, by omega⟩, by have := s.ws; omega, s.said⟩
theorem St7.double {m : Nat} {ms : List Int} {ld n : Nat} {S : Nat → List Str} {R : List Msg} {T : Nat} {f : Flk} (s : St7 m ms ld n S R T f) {p : Nat} (hp : p < f.post.length) : St7 m ms ld (n + 1) S R T (f.double p) ∧ (f.double p).hands = f.hands := by
  obtain ⟨B, F, hB⟩ := s.inv
  obtain ⟨F1, w1, w2⟩ := double_inv F (List.getElem?_eq_getElem hp)
  have hh : (f.double p).hands = f.hands := by
    unfold Flk.double
    rw [List.getElem?_eq_getElem hp]
  refine ⟨⟨s.m9, quiet_double s.q p, ⟨B, F1, by omega⟩, by have := s.ws; omega, fun i hi => ?_⟩, hh⟩
  show ((f.double p).hands.getD i Hnd.new).said = _
  rw [hh]
  exact s.said i hi
theorem St7.new {m : Nat} {ms : List Int} {ld : Nat} (hm : m ≤ 9) (rg : ∀ x ∈ ms, 0 ≤ x ∧ x < (m : Int)) (up : ms.Pairwise (· < ·)) (hl : ms.head? = some (ld : Int)) : St7 m ms ld 0 (fun _ => []) [] 0 (Flk.new m ms) ∧ Fifo ms ld [] 0 (Flk.new m ms) := by
  obtain ⟨a1, a2⟩ := quiet_new rg (up.imp fun h => by omega) hl
  have hne : ms ≠ [] := fun e => by rw [e] at hl; cases hl
  refine ⟨⟨hm, a1, ⟨0, new_inv ⟨rfl, hne, rg, up⟩, Nat.le_refl _⟩, Nat.zero_le _, fun i hi => ?_⟩, a2⟩
  have e : (Flk.new m ms).hand i = if (i : Int) ∈ ms then seatedH ms else Hnd.new := by
    show ((seated m ms ms).getD i Hnd.new) = _
    rw [List.getD_eq_getElem?_getD, seated_get ms ms hi]
    rfl
  rw [e]
  split <;> rfl
/-- at the end each that stands took what the first took -/
theorem St7.done {m : Nat} {ms : List Int} {ld n : Nat} {S : Nat → List Str} {R : List Msg} {T : Nat} {f : Flk} (s : St7 m ms ld n S R T f) (F : Fifo ms ld R T f) (hp : f.post = []) {j : Nat} (hj : (j : Int) ∈ ms) (hu : (f.hand j).up = true) : ∃ t, (f.hand j).seat = some t ∧ t.row.take t.took = R.take T := by
  have hj2 := s.q.rg _ hj
  obtain ⟨t, ht, qt⟩ := s.q.seat j (by omega) hj
  refine ⟨t, ht, ?_⟩
  by_cases e : j = ld
  · subst e
    obtain ⟨t0, g1, g2, g3, _⟩ := s.q.first
    rw [ht] at g1
    cases g1
    rw [g2, g3]
  · have h1 := F j hj e hu
    rw [hp] at h1
    have h2 : rowN (f.hand j) = R.length ∧ tookN (f.hand j) = T := ⟨congrArg Prod.fst h1, congrArg Prod.snd h1⟩
    unfold rowN tookN at h2
    rw [ht] at h2
    have h3 : t.row.length = R.length := h2.1
    have h4 : t.took = T := h2.2
    rw [qt.row, h3, List.take_length, h4]
/-- what a hand took is a beginning of what the first hand put -/
theorem St7.took {m : Nat} {ms : List Int} {ld n : Nat} {S : Nat → List Str} {R : List Msg} {T : Nat} {f : Flk} (s : St7 m ms ld n S R T f) {j : Nat} (hj : (j : Int) ∈ ms) : ∃ t, (f.hand j).seat = some t ∧ t.row.take t.took = R.take (tookN (f.hand j)) ∧ tookN (f.hand j) ≤ R.length ∧ t.num = 0 ∧ t.mem = ms ∧ t.still = false := by
  have hj2 := s.q.rg _ hj
  obtain ⟨t, ht, qt⟩ := s.q.seat j (by omega) hj
  have h1 : tookN (f.hand j) = t.took := by unfold tookN; rw [ht]
  refine ⟨t, ht, ?_, by rw [h1]; exact Nat.le_trans qt.took qt.le, qt.num, qt.mem, qt.still⟩
  rw [h1, qt.row, List.take_take, Nat.min_eq_left qt.took]

end
end Fo
namespace Fo
open PySem PySem.Spec PyProof.Rows L2
section
variable {P : Program} {w : World} {K : PySem.W.Frag} {mg : Str → Option Value} {base : Heap}
/-! ### k03: all letters in their order, none lost, none twice -/
def wishOf (l : Ltr) : Option Msg := match l.told with
  | .wish x => some x
  | _ => none
def wishes (ls : List Ltr) : List Msg := ls.filterMap wishOf
theorem wishes_app (a b : List Ltr) : wishes (a ++ b) = wishes a ++ wishes b := List.filterMap_append
theorem wishes_nil {ls : List Ltr} (h : ∀ l ∈ ls, wishOf l = none) : wishes ls = [] := List.filterMap_eq_nil_iff.mpr h
theorem wishes_mail {i : Nat} {s : Seat} {t : Told} (h : ∀ x, t ≠ .wish x) (hs : List Int) : wishes (mail i s hs t) = [] := wishes_nil fun l hl => by
  obtain ⟨x, _, rfl⟩ := mail_mem hl
  unfold wishOf
  dsimp only
  cases t with
  | wish x => exact absurd rfl (h x)
  | _ => rfl
/-! of sorted lists, how many are so great -/
theorem falling_get {l : List Nat} (hs : l.Pairwise (· ≥ ·)) {i j : Nat} (hj : j < l.length) (hij : i ≤ j) : l[j] ≤ l[i]'(by omega) := by
  by_cases e : i = j
  · subst e
    exact Nat.le_refl _
  · exact List.pairwise_iff_getElem.mp hs i j (by omega) hj (by omega)
theorem falling_many {l : List Nat} (hs : l.Pairwise (· ≥ ·)) {k b : Nat} (hk : k < l.length) (h : b ≤ l.getD k 0) : k + 1 ≤ l.countP fun x => decide (b ≤ x) := by
  have h1 : (l.take (k + 1)).countP (fun x => decide (b ≤ x)) = (l.take (k + 1)).length := by
    rw [List.countP_eq_length]
    intro x hx
    obtain ⟨i, hi⟩ := List.getElem?_of_mem hx
    rw [List.getElem?_take] at hi
    split at hi
    · rename_i hik
      obtain ⟨h2, h3⟩ := List.getElem?_eq_some_iff.mp hi
      have h4 := falling_get hs hk (show i ≤ k by omega)
      rw [List.getD_eq_getElem?_getD, List.getElem?_eq_getElem hk] at h
      have h5 : b ≤ l[k] := h
      exact decide_eq_true (by omega)
    · cases hi
  have h2 := (List.take_sublist (k + 1) l).countP_le (p := fun x => decide (b ≤ x))
  rw [h1, List.length_take] at h2
  omega
theorem falling_ge {l : List Nat} (hs : l.Pairwise (· ≥ ·)) {k b : Nat} (hk : k < l.length) (h : k + 1 ≤ l.countP fun x => decide (b ≤ x)) : b ≤ l.getD k 0 := by
  refine Nat.le_of_not_lt fun hlt => ?_
  rw [List.getD_eq_getElem?_getD, List.getElem?_eq_getElem hk] at hlt
  have h5 : l[k] < b := hlt
  have h0 : (l.drop k).countP (fun x => decide (b ≤ x)) = 0 := by
    rw [List.countP_eq_zero]
    intro x hx
    obtain ⟨i, hi⟩ := List.getElem?_of_mem hx
    rw [List.getElem?_drop] at hi
    obtain ⟨h2, h3⟩ := List.getElem?_eq_some_iff.mp hi
    have h4 := falling_get hs h2 (show k ≤ k + i by omega)
    simp
    omega
  have h1 : l.countP (fun x => decide (b ≤ x)) = (l.take k).countP (fun x => decide (b ≤ x)) + (l.drop k).countP (fun x => decide (b ≤ x)) := by
    rw [← List.countP_append, List.take_append_drop]
  have h2 := List.countP_le_length (p := fun x => decide (b ≤ x)) (l := l.take k)
  rw [List.length_take] at h2
  omega
theorem hold_count {s : Seat} {ms : List Int} (hk : s.hold.map (·.1) = ms) (nd : ms.Nodup) (b : Nat) : (s.hold.map (·.2)).countP (fun x => decide (b ≤ x)) = ms.countP fun j => decide (b ≤ getA j 0 s.hold) := by
  rw [← hk, List.countP_map, List.countP_map]
  refine List.countP_congr fun p hp => ?_
  show decide (b ≤ p.2) = true ↔ decide (b ≤ getA p.1 0 s.hold) = true
  rw [getA_mem (by rw [hk]; exact nd) (show (p.1, p.2) ∈ s.hold from hp)]
theorem most_many {s : Seat} {ms : List Int} (hm : s.mem = ms) (hk : s.hold.map (·.1) = ms) (nd : ms.Nodup) (hne : 0 < ms.length) {b : Nat} (h : b ≤ s.most) (hb : 0 < b) : enoughN ms.length ≤ ms.countP fun j => decide (b ≤ getA j 0 s.hold) := by
  have hl : (sortD (s.hold.map (·.2))).length = ms.length := by rw [(sortD_perm _).length_eq, List.length_map, ← hk, List.length_map]
  have := falling_many (sortD_sorted (s.hold.map (·.2))) (k := enoughN s.mem.length - 1) (b := b) (by rw [hl, hm]; unfold enoughN; omega) h
  rw [(sortD_perm _).countP_eq, hold_count hk nd b, hm] at this
  unfold enoughN at this ⊢
  omega
theorem most_ge {s : Seat} {ms : List Int} (hm : s.mem = ms) (hk : s.hold.map (·.1) = ms) (nd : ms.Nodup) (hne : 0 < ms.length) {b : Nat} (h : enoughN ms.length ≤ ms.countP fun j => decide (b ≤ getA j 0 s.hold)) : b ≤ s.most := by
  have hl : (sortD (s.hold.map (·.2))).length = ms.length := by rw [(sortD_perm _).length_eq, List.length_map, ← hk, List.length_map]
  refine falling_ge (sortD_sorted (s.hold.map (·.2))) (k := enoughN s.mem.length - 1) (by rw [hl, hm]; unfold enoughN; omega) ?_
  rw [(sortD_perm _).countP_eq, hold_count hk nd b, hm]
  unfold enoughN at h ⊢
  omega
/-- what keeps where letters come in their order -/
structure Q3 (ms : List Int) (ld : Nat) (U : List Int) (due R : List Msg) (T : Nat) (f : Flk) : Prop where
  up : ∀ j : Nat, (j : Int) ∈ ms → ((f.hand j).up = true ↔ (j : Int) ∈ U)
  fifo : Fifo ms ld R T f
  hav : ∀ l ∈ f.post, ∀ n, l.told = .have_ n → l.snd ∈ U
  hld : ∀ s, (f.hand ld).seat = some s → getA (ld : Int) 0 s.hold = R.length
  hno : ∀ s, (f.hand ld).seat = some s → ∀ j : Nat, (j : Int) ∈ ms → j ≠ ld → (j : Int) ∉ U → getA (j : Int) 0 s.hold = 0
  hup : (ld : Int) ∈ U → ∀ s, (f.hand ld).seat = some s → ∀ j : Nat, (j : Int) ∈ ms → j ≠ ld → (j : Int) ∈ U → getA (j : Int) 0 s.hold = rowN (f.hand j) ∨ ∃ l ∈ f.post, l.snd = (j : Int) ∧ l.told = .have_ (rowN (f.hand j))
  due : (ld : Int) ∈ U → R ++ wishes f.post = due
  no : (ld : Int) ∉ U → R = [] ∧ T = 0
  t0 : T = 0 ∨ enoughN ms.length ≤ ms.countP fun j => decide (j ∈ U)
theorem post_cons {f : Flk} {l : Ltr} (hp : f.post[0]? = some l) : f.post = l :: f.post.eraseIdx 0 := by
  cases hq : f.post with
  | nil => rw [hq] at hp; cases hp
  | cons x r =>
    rw [hq] at hp
    cases hp
    rfl
/-- the first hand looked -/
theorem q3_look {m : Nat} {ms : List Int} {ld : Nat} {U : List Int} {due R R2 : List Msg} {T T2 : Nat} {f f2 : Flk} (q : Quiet m ms ld R T f) (Q : Q3 ms ld U due R T f) (hU : (ld : Int) ∈ U) {s s1 : Seat} (hs : (f.hand ld).seat = some s) (hs2 : (f2.hand ld).seat = some (s1.tweh ld).1) (q2 : Quiet m ms ld R2 T2 f2) (em : s1.mem = ms) (ek : s1.hold.map (·.1) = ms) (et : s1.took = T)
    (hup : ∀ j : Nat, (f2.hand j).up = (f.hand j).up) (hoth : ∀ j : Nat, j ≠ ld → f2.hand j = f.hand j) (F : Fifo ms ld R2 T2 f2) (hav : ∀ l ∈ f2.post, ∀ n, l.told = .have_ n → l ∈ f.post)
    (hno : ∀ j : Nat, (j : Int) ∈ ms → j ≠ ld → (j : Int) ∉ U → getA (j : Int) 0 s1.hold = 0)
    (hyes : ∀ j : Nat, (j : Int) ∈ ms → j ≠ ld → (j : Int) ∈ U → getA (j : Int) 0 s1.hold = rowN (f.hand j) ∨ ∃ l ∈ f2.post, l.snd = (j : Int) ∧ l.told = .have_ (rowN (f.hand j)))
    (hd : R2 ++ wishes f2.post = due) : Q3 ms ld U due R2 T2 f2 := by
  obtain ⟨hlm, hli⟩ := q.ldm
  have hkl : (ld : Int) ∈ s1.hold.map (·.1) := by rw [ek]; exact hlm
  have hh : ∀ j : Int, getA j 0 (s1.tweh ld).1.hold = if j = (ld : Int) then s1.row.length else getA j 0 s1.hold := fun j => by
    rw [tweh_eq]
    exact getA_put hkl
  obtain ⟨s0, g1, g2, g3, _⟩ := q2.first
  rw [hs2] at g1
  cases g1
  have er : s1.row = R2 := by rw [← g2, tweh_eq]; rfl
  have et2 : T2 = max T (s1.note ld s1.row.length).most := by rw [← g3, tweh_eq, ← et]
  refine ⟨fun j hj => by rw [hup]; exact Q.up j hj, F, fun l hl n hn => Q.hav l (hav l hl n hn) n hn, fun s' h' => ?_, fun s' h' j hj hjl hjU => ?_, fun _ s' h' j hj hjl hjU => ?_, fun _ => hd, fun z => absurd hU z, ?_⟩
  · rw [hs2] at h'
    cases h'
    rw [hh, if_pos rfl, er]
  · rw [hs2] at h'
    cases h'
    rw [hh, if_neg (by omega)]
    exact hno j hj hjl hjU
  · rw [hs2] at h'
    cases h'
    rw [hh, if_neg (by omega), hoth j hjl]
    exact hyes j hj hjl hjU
  · by_cases e : T2 = T
    · rw [e]; exact Q.t0
    · refine .inr ?_
      have h1 : T < (s1.note ld s1.row.length).most := by omega
      have hkn : (s1.note ld s1.row.length).hold.map (·.1) = ms := by
        show (putA (ld : Int) s1.row.length s1.hold).map (·.1) = ms
        rw [putA_keys hkl, ek]
      have h2 := most_many (s := s1.note ld s1.row.length) (ms := ms) em hkn q.nd (List.length_pos_of_mem hlm) (b := 1) (by omega) (by omega)
      refine Nat.le_trans h2 (List.countP_mono_left fun j hj hp => ?_)
      have hp2 := of_decide_eq_true hp
      refine decide_eq_true (Decidable.byContradiction fun hjU => ?_)
      have hj0 := q.rg j hj
      have hjn : ((j.toNat : Nat) : Int) = j := by omega
      have hjl : j ≠ (ld : Int) := fun z => hjU (z ▸ hU)
      have h3 : getA j 0 (s1.note ld s1.row.length).hold = getA j 0 s1.hold := (getA_put hkl).trans (if_neg hjl)
      have h4 := hno j.toNat (by rw [hjn]; exact hj) (by omega) (by rw [hjn]; exact hjU)
      rw [hjn] at h4
      rw [h3, h4] at hp2
      omega
theorem q3_come {m : Nat} {ms : List Int} {ld : Nat} {U : List Int} {due R R' : List Msg} {T T' : Nat} {f : Flk} {l : Ltr} (q : Quiet m ms ld R T f) (Q : Q3 ms ld U due R T f) (nd : due.Nodup) (hp : f.post[0]? = some l) (q' : Quiet m ms ld (R ++ R') T' (f.come 0)) (cd : ComeD ms ld R R' T T' f (f.come 0) l (f.post.eraseIdx 0)) : Q3 ms ld U due (R ++ R') T' (f.come 0) := by
  have hpo := post_cons hp
  have hlm := List.mem_of_getElem? hp
  obtain ⟨z1, z2, z3, z4⟩ := q.post l hlm
  have hr := q.rg _ z2
  have hi : l.to < f.hands.length := by rw [q.len]; omega
  obtain ⟨s, hs, qs⟩ := q.seat l.to (by omega) z2
  have hh := fun j => come_hand hp hi j
  have hup : ∀ j : Nat, ((f.come 0).hand j).up = (f.hand j).up := fun j => come_up
  have hpost : (f.come 0).post = f.post.eraseIdx 0 ++ ((f.hand l.to).over l.to l).2 := by
    unfold Flk.come
    rw [hp]
  have F := fifo_come Q.fifo hp cd
  obtain ⟨s0, g1, g2, g3, g4, g5⟩ := q.first
  obtain ⟨s0', g1', g2', g3', _⟩ := q'.first
  have er : ∀ l' ∈ f.post.eraseIdx 0, l' ∈ f.post := fun l' h => List.mem_of_mem_eraseIdx h
  -- the first hand is as it was
  have keepL : ((f.come 0).hand ld).seat = (f.hand ld).seat → R ++ R' = R ∧ T' = T := fun e => by
    rw [e, g1] at g1'
    cases g1'
    exact ⟨by rw [← g2', g2], by rw [← g3', g3]⟩
  have hov : ∀ r, s.read l.to l = r → (∀ n, l.told ≠ .enter n) → (f.hand l.to).up = true → (f.hand l.to).over l.to l = ({ f.hand l.to with seat := some r.1 }, r.2) := fun r hr ne hu => by
    unfold Hnd.over
    rw [if_neg (by rw [hu]; decide), hs]
    have : s.num = l.num := by rw [qs.num, z1]
    cases ht : l.told with
    | enter n => exact absurd ht (ne n)
    | _ => dsimp only; rw [if_pos this, hr]
  by_cases hld : l.to = ld
  · -- to the first hand
    cases hu : (f.hand l.to).up with
    | false =>
      have ho : (f.hand l.to).over l.to l = (f.hand l.to, []) := by unfold Hnd.over; rw [if_pos hu]
      have hsame : ∀ j, (f.come 0).hand j = f.hand j := fun j => by
        rw [hh, ho]
        split
        · rename_i e
          rw [e]
        · rfl
      obtain ⟨e1, e2⟩ := keepL (by rw [hsame])
      rw [e1, e2]
      rw [e1, e2] at F
      have hnU : (ld : Int) ∉ U := fun z => by
        have := (Q.up ld (hld ▸ z2)).mpr z
        rw [← hld, hu] at this
        cases this
      refine ⟨fun j hj => by rw [hup]; exact Q.up j hj, F, fun l' hl' n hn => Q.hav l' ?_ n hn, fun s' h' => Q.hld s' (by rw [← hsame]; exact h'), fun s' h' => Q.hno s' (by rw [← hsame]; exact h'), fun z => absurd z hnU, fun z => absurd z hnU, Q.no, Q.t0⟩
      rw [hpost, ho, List.append_nil] at hl'
      exact er l' hl'
    | true =>
      have hU : (ld : Int) ∈ U := (Q.up ld (hld ▸ z2)).mp (hld ▸ hu)
      rw [hld] at hs hov hh hu hpost
      rw [hs] at g1
      cases g1
      have hw := Q.due hU
      obtain ⟨t, ht⟩ : ∃ t, l.told = t := ⟨_, rfl⟩
      have hoth : ∀ j : Nat, j ≠ ld → (f.come 0).hand j = f.hand j := fun j hj => by rw [hh, if_neg hj]
      cases t with
      | wish x =>
        have hw2 : wishes f.post = x :: wishes (f.post.eraseIdx 0) := by
          rw [hpo]
          show (l :: f.post.eraseIdx 0).filterMap wishOf = _
          rw [List.filterMap_cons_some (b := x) (by unfold wishOf; rw [ht])]
          rfl
        rw [hw2] at hw
        have hx : x ∉ s.row := by
          rw [g2]
          intro hx
          rw [← hw] at nd
          exact (List.nodup_append.mp nd).2.2 x hx x List.mem_cons_self rfl
        have hread : s.read ld l = s.wish ld x := by unfold Seat.read; rw [ht]
        have hwi : s.wish ld x = ((({ s with row := s.row ++ [x] } : Seat).tweh ld).1, mail ld s (s.others ld) (.hold x s.row.length) ++ (({ s with row := s.row ++ [x] } : Seat).tweh ld).2) := by
          unfold Seat.wish
          rw [if_neg (by rw [qs.still]; simp [hx])]
        have ho := hov _ hread (fun n => by rw [ht]; exact fun z => nomatch z) hu
        rw [hwi] at ho
        have hs2 : ((f.come 0).hand ld).seat = some ((({ s with row := s.row ++ [x] } : Seat).tweh ld).1) := by rw [hh, if_pos rfl, ho]
        have hrow : R ++ R' = R ++ [x] := by
          rw [hs2] at g1'
          cases g1'
          rw [← g2', tweh_eq]
          show s.row ++ [x] = _
          rw [g2]
        have hout : wishes (f.come 0).post = wishes (f.post.eraseIdx 0) := by
          rw [hpost, ho, wishes_app]
          dsimp only
          rw [wishes_app, wishes_mail (by intro x z; cases z), tweh_eq]
          dsimp only
          split
          · rw [wishes_mail (by intro x z; cases z)]; simp
          · show _ ++ ([] ++ wishes []) = _
            simp [wishes]
        refine q3_look q Q hU hs hs2 q' qs.mem qs.hk g3 hup hoth F (fun l' hl' n hn => ?_) (fun j hj hjl hjU => Q.hno s hs j hj hjl hjU) (fun j hj hjl hjU => ?_) (by rw [hout, hrow, List.append_assoc]; exact hw)
        · rw [hpost, ho] at hl'
          rcases List.mem_append.mp hl' with h | h
          · exact er l' h
          · exfalso
            rcases List.mem_append.mp h with h | h
            · obtain ⟨y, _, rfl⟩ := mail_mem h
              cases hn
            · rw [tweh_eq] at h
              dsimp only at h
              split at h
              · obtain ⟨y, _, rfl⟩ := mail_mem h
                cases hn
              · cases h
        · rcases Q.hup hU s hs j hj hjl hjU with h | ⟨l', h1, h2, h3⟩
          · exact .inl h
          · refine .inr ⟨l', ?_, h2, h3⟩
            rw [hpo] at h1
            rcases List.mem_cons.mp h1 with h1 | h1
            · rw [h1, ht] at h3
              cases h3
            · rw [hpost]
              exact List.mem_append_left _ h1
      | have_ n =>
        rw [ht] at z4
        obtain ⟨y1, y2, y3⟩ := z4
        have hread : s.read ld l = s.haveC ld l.snd n := by unfold Seat.read; rw [ht]
        have ho := hov _ hread (fun n => by rw [ht]; exact fun z => nomatch z) hu
        have hks : l.snd ∈ s.hold.map (·.1) := by rw [qs.hk]; exact z3
        have hs2 : ((f.come 0).hand ld).seat = some (((s.note l.snd (max (getA l.snd 0 s.hold) n)).tweh ld).1) := by
          rw [hh, if_pos rfl, ho]
          rfl
        have hrow : R ++ R' = R := by
          rw [hs2] at g1'
          cases g1'
          rw [← g2', tweh_eq]
          exact g2
        have hw2 : wishes f.post = wishes (f.post.eraseIdx 0) := by
          rw [hpo]
          show (l :: f.post.eraseIdx 0).filterMap wishOf = _
          rw [List.filterMap_cons_none (by unfold wishOf; rw [ht])]
          rfl
        have hout : wishes (f.come 0).post = wishes (f.post.eraseIdx 0) := by
          rw [hpost, ho, wishes_app]
          show _ ++ wishes ((s.note l.snd (max (getA l.snd 0 s.hold) n)).tweh ld).2 = _
          rw [tweh_eq]
          dsimp only
          split
          · rw [wishes_mail (by intro x z; cases z)]; simp
          · simp [wishes]
        refine q3_look q Q hU hs hs2 q' qs.mem (by show (putA l.snd _ s.hold).map (·.1) = ms; rw [putA_keys hks, qs.hk]) g3 hup hoth F (fun l' hl' n' hn => ?_) (fun j hj hjl hjU => ?_) (fun j hj hjl hjU => ?_) (by rw [hout, hrow, ← hw2]; exact hw)
        · rw [hpost, ho] at hl'
          rcases List.mem_append.mp hl' with h | h
          · exact er l' h
          · exfalso
            have h' : l' ∈ ((s.note l.snd (max (getA l.snd 0 s.hold) n)).tweh ld).2 := h
            rw [tweh_eq] at h'
            dsimp only at h'
            split at h'
            · obtain ⟨y, _, rfl⟩ := mail_mem h'
              cases hn
            · cases h'
        · show getA (j : Int) 0 (putA l.snd _ s.hold) = 0
          have hsU := Q.hav l hlm n ht
          rw [getA_put hks, if_neg (fun z => hjU (by rw [z]; exact hsU))]
          exact Q.hno s hs j hj hjl hjU
        · have hgp : getA (j : Int) 0 (s.note l.snd (max (getA l.snd 0 s.hold) n)).hold = if (j : Int) = l.snd then max (getA l.snd 0 s.hold) n else getA (j : Int) 0 s.hold := getA_put hks
          rw [hgp]
          have hle := g4 j hj
          rcases Q.hup hU s hs j hj hjl hjU with h | ⟨l', h1, h2, h3⟩
          · refine .inl ?_
            split
            · rename_i e
              have e2 : l.snd.toNat = j := by omega
              rw [e2] at y3
              rw [← e, h]
              omega
            · exact h
          · rw [hpo] at h1
            rcases List.mem_cons.mp h1 with h1 | h1
            · rw [h1] at h2 h3
              rw [ht] at h3
              have e3 : n = rowN (f.hand j) := by injection h3
              refine .inl ?_
              rw [if_pos h2.symm, h2]
              omega
            · exact .inr ⟨l', by rw [hpost]; exact List.mem_append_left _ h1, h2, h3⟩
      | hold x pl => rw [ht] at z4; exact absurd hld z4.2.1
      | take n => rw [ht] at z4; exact absurd hld z4.2.1
      | prepare b => rw [ht] at z4; exact z4.elim
      | promise a b c => rw [ht] at z4; exact z4.elim
      | accept b => rw [ht] at z4; exact z4.elim
      | agree b => rw [ht] at z4; exact z4.elim
      | enter b => rw [ht] at z4; exact z4.elim
  · -- to another
    have hlead : (f.come 0).hand ld = f.hand ld := by rw [hh, if_neg (fun z => hld z.symm)]
    obtain ⟨e1, e2⟩ := keepL (by rw [hlead])
    rw [e1, e2]
    rw [e1, e2] at F
    have hnw : wishOf l = none := by
      unfold wishOf
      cases ht : l.told with
      | wish x => rw [ht] at z4; exact absurd z4 hld
      | _ => rfl
    have hnh : ∀ n, l.told ≠ .have_ n := fun n ht => by rw [ht] at z4; exact hld z4.1
    have hw2 : wishes f.post = wishes (f.post.eraseIdx 0) := by
      rw [hpo]
      show (l :: f.post.eraseIdx 0).filterMap wishOf = _
      rw [List.filterMap_cons_none hnw]
      rfl
    -- what came out of it
    have hout : ((f.hand l.to).over l.to l).2 = [] ∧ rowN ((f.hand l.to).over l.to l).1 = rowN (f.hand l.to) ∨ (f.hand l.to).up = true ∧ ∃ n, n = rowN ((f.hand l.to).over l.to l).1 ∧ ((f.hand l.to).over l.to l).2 = [⟨l.to, ld, 0, .have_ n⟩] := by
      cases hu : (f.hand l.to).up with
      | false => exact .inl (by unfold Hnd.over; rw [if_pos hu]; exact ⟨rfl, rfl⟩)
      | true =>
        have hrn : rowN (f.hand l.to) = s.row.length := by unfold rowN; rw [hs]
        obtain ⟨t, ht⟩ : ∃ t, l.told = t := ⟨_, rfl⟩
        cases t with
        | hold x pl =>
          have ho := hov _ rfl (fun n => by rw [ht]; exact fun z => nomatch z) hu
          have hread : s.read l.to l = s.holdC l.to l.snd x pl := by unfold Seat.read; rw [ht]
          rw [hread] at ho
          rw [ht] at z4
          rw [ho, hrn]
          unfold Seat.holdC
          split
          · exact .inl ⟨rfl, rfl⟩
          · refine .inr ⟨rfl, _, rfl, ?_⟩
            show [(⟨l.to, l.snd.toNat, s.num, _⟩ : Ltr)] = _
            rw [qs.num, show l.snd.toNat = ld by rw [z4.1]; exact Int.toNat_natCast ld]
            rfl
        | take n =>
          have ho := hov _ rfl (fun n => by rw [ht]; exact fun z => nomatch z) hu
          have hread : s.read l.to l = (s.takeC n, []) := by unfold Seat.read; rw [ht]
          rw [hread] at ho
          rw [ho, hrn]
          exact .inl ⟨rfl, rfl⟩
        | wish x => rw [ht] at z4; exact absurd z4 hld
        | have_ n => exact absurd ht (hnh n)
        | prepare b => rw [ht] at z4; exact z4.elim
        | promise a b c => rw [ht] at z4; exact z4.elim
        | accept b => rw [ht] at z4; exact z4.elim
        | agree b => rw [ht] at z4; exact z4.elim
        | enter b => rw [ht] at z4; exact z4.elim
    refine ⟨fun j hj => by rw [hup]; exact Q.up j hj, F, fun l' hl' n hn => ?_, fun s' h' => Q.hld s' (by rw [← hlead]; exact h'), fun s' h' => Q.hno s' (by rw [← hlead]; exact h'), fun hU s' h' j hj hjl hjU => ?_, fun hU => ?_, Q.no, Q.t0⟩
    · rw [hpost] at hl'
      rcases List.mem_append.mp hl' with h | h
      · exact Q.hav l' (er l' h) n hn
      · rcases hout with ⟨h1, _⟩ | ⟨h0, n2, _, h1⟩
        · rw [h1] at h; cases h
        · rw [h1] at h
          rw [List.mem_singleton.mp h]
          exact (Q.up l.to z2).mp h0
    · by_cases e : j = l.to
      · subst e
        rw [hh, if_pos rfl]
        rcases hout with ⟨h1, h2⟩ | ⟨h0, n2, hn2, h1⟩
        · rw [h2]
          rcases Q.hup hU s' (by rw [← hlead]; exact h') _ hj hjl hjU with h | ⟨l', h3, h4, h5⟩
          · exact .inl h
          · refine .inr ⟨l', ?_, h4, h5⟩
            rw [hpo] at h3
            rcases List.mem_cons.mp h3 with h3 | h3
            · rw [h3] at h5
              exact absurd h5 (hnh _)
            · rw [hpost]
              exact List.mem_append_left _ h3
        · refine .inr ⟨_, by rw [hpost, h1]; exact List.mem_append_right _ List.mem_cons_self, rfl, ?_⟩
          rw [← hn2]
      · rw [hh, if_neg e]
        rcases Q.hup hU s' (by rw [← hlead]; exact h') _ hj hjl hjU with h | ⟨l', h3, h4, h5⟩
        · exact .inl h
        · refine .inr ⟨l', ?_, h4, h5⟩
          rw [hpo] at h3
          rcases List.mem_cons.mp h3 with h3 | h3
          · rw [h3] at h5
            exact absurd h5 (hnh _)
          · rw [hpost]
            exact List.mem_append_left _ h3
    · rw [hpost, wishes_app, ← hw2]
      have : wishes ((f.hand l.to).over l.to l).2 = [] := by
        rcases hout with ⟨h1, _⟩ | ⟨_, n2, _, h1⟩
        · rw [h1]; rfl
        · rw [h1]; rfl
      rw [this, List.append_nil]
      exact Q.due hU

end
end Fo
namespace Fo
open PySem PySem.Spec PyProof.Rows L2
section
variable {P : Program} {w : World} {K : PySem.W.Frag} {mg : Str → Option Value} {base : Heap}
structure SQ (G : PG) (q : QG) (i : Int) (s : Seat) : Prop where
  row : Beg (q.R s.num) s.row
  rw : q.Rw s.num i = s.row.length
  lead : s.lead = i → s.row = q.R s.num
  took : s.took ≤ s.row.length ∧ (s.took = 0 ∨ Sup G q s.num s.took)
  hold : ∀ p ∈ s.hold, p.2 ≤ q.Rw s.num p.1
structure HQ (G : PG) (q : QG) (i : Int) (h : Hnd) : Prop where
  seat : ∀ s, h.seat = some s → SQ G q i s
  rw : ∀ n, q.Rw n i = 0 ∨ Left h n ∨ ∃ s, h.seat = some s ∧ s.num = n
  ld : ∀ n M, G.cfg n = some M → M.1.headD 0 = i → q.R n = [] ∨ Left h n ∨ ∃ s, h.seat = some s ∧ s.num = n
  pm : ∀ n b r a, G.Pm n i b r a → r.length = q.Rw n i ∧ Beg (q.R n) r
def LQ (G : PG) (q : QG) (l : Ltr) : Prop := match l.told with
  | .wish x => SaidIn q l.num x ∧ ∃ M, G.cfg l.num = some M ∧ M.1.headD 0 = (l.to : Int)
  | .hold x pl => (q.R l.num)[pl]? = some x ∧ ∃ M, G.cfg l.num = some M ∧ M.1.headD 0 = l.snd
  | .have_ c => c ≤ q.Rw l.num l.snd ∧ ∃ M, G.cfg l.num = some M ∧ M.1.headD 0 = (l.to : Int)
  | .take t => Sup G q l.num t
  | _ => True
structure RQ (G : PG) (q : QG) : Prop where
  nd : ∀ n, (q.R n).Nodup
  said : ∀ n, ∀ x ∈ q.R n, SaidIn q n x
  none : ∀ n, G.cfg n = none → q.R n = []
  le : ∀ n j, q.Rw n j ≤ (q.R n).length
structure QLe (G : PG) (i : Int) (q q' : QG) : Prop where
  R : ∀ n, Beg (q'.R n) (q.R n)
  Rw : ∀ n j, q.Rw n j ≤ q'.Rw n j
  Rw' : ∀ n j, j ≠ i → q'.Rw n j = q.Rw n j
  R' : ∀ n, (∀ M, G.cfg n = some M → M.1.headD 0 ≠ i) → q'.R n = q.R n
  S : q'.S = q.S
theorem QLe.refl (G : PG) (i : Int) (q : QG) : QLe G i q q := ⟨fun n => (List.take_length).symm, fun _ _ => Nat.le_refl _, fun _ _ _ => rfl, fun _ _ => rfl, rfl⟩
theorem Beg.refl (R : List Msg) : Beg R R := List.take_length.symm
theorem Beg.le {R r : List Msg} (h : Beg R r) : r.length ≤ R.length := by
  have := congrArg List.length h
  rw [List.length_take] at this
  omega
theorem Beg.trans {R R' r : List Msg} (h : Beg R r) (k : Beg R' R) : Beg R' r := by
  have h1 := h.le
  unfold Beg at *
  rw [k, List.take_take, Nat.min_eq_left h1] at h
  exact h
theorem Beg.get {R r : List Msg} (h : Beg R r) {i : Nat} (hi : i < r.length) : R[i]? = r[i]? := by
  have : r[i]? = (R.take r.length)[i]? := by rw [← h]
  rw [this, List.getElem?_take, if_pos hi]
theorem Beg.snoc {R r : List Msg} (h : Beg R r) {x : Msg} (hx : R[r.length]? = some x) : Beg R (r ++ [x]) := by
  unfold Beg
  rw [List.length_append]
  show r ++ [x] = R.take (r.length + 1)
  rw [take_succ_of hx, ← h]
section
variable {G : PG} {i : Int} {q q' : QG} (L : QLe G i q q')
include L
theorem Sup.up {n : Int} {t : Nat} (h : Sup G q n t) : Sup G q' n t := by
  obtain ⟨W, M, h1, h2, h3, h4⟩ := h
  exact ⟨W, M, h1, h2, h3, fun w hw => ⟨(h4 w hw).1, Nat.le_trans (h4 w hw).2 (L.Rw _ _)⟩⟩
theorem SaidIn.up {n : Int} {x : Msg} (h : SaidIn q n x) : SaidIn q' n x := by
  unfold SaidIn at *
  rw [L.S]
  exact h
theorem LQ.up {l : Ltr} (h : LQ G q l) : LQ G q' l := by
  unfold LQ at *
  cases ht : l.told with
  | wish x => rw [ht] at h; exact ⟨SaidIn.up L h.1, h.2⟩
  | hold x pl =>
    rw [ht] at h
    have h1 := (List.getElem?_eq_some_iff.mp h.1).1
    exact ⟨((L.R _).get h1).trans h.1, h.2⟩
  | have_ c => rw [ht] at h; exact ⟨Nat.le_trans h.1 (L.Rw _ _), h.2⟩
  | take t => rw [ht] at h; exact Sup.up L h
  | _ => trivial
theorem HQ.other {j : Int} {h : Hnd} (p : HQ G q j h) (hp : HP G j h) (ne : j ≠ i) : HQ G q' j h := by
  refine ⟨fun s hs => ?_, fun n => by rw [L.Rw' n j ne]; exact p.rw n, fun n M hM hd => ?_, fun n b r a w => ?_⟩
  · have sq := p.seat s hs
    obtain ⟨r0, hr0⟩ := (hp.seat s hs).1.mem
    refine ⟨sq.row.trans (L.R _), by rw [L.Rw' _ _ ne]; exact sq.rw, fun z => ?_, ⟨sq.took.1, sq.took.2.imp (fun z => z) fun z => Sup.up L z⟩, fun x hx => Nat.le_trans (sq.hold x hx) (L.Rw _ _)⟩
    rw [L.R' s.num fun M hM => by
      rw [hr0] at hM
      cases hM
      have z' : s.mem.headD 0 = j := z
      show s.mem.headD 0 ≠ i
      rw [z']
      exact ne]
    exact sq.lead z
  · rw [L.R' n fun M' hM' => by
      rw [hM] at hM'
      cases hM'
      rw [hd]
      exact ne]
    exact p.ld n M hM hd
  · obtain ⟨h1, h2⟩ := p.pm n b r a w
    exact ⟨by rw [L.Rw' n j ne]; exact h1, h2.trans (L.R n)⟩
end

end
end Fo
namespace Fo
open PySem PySem.Spec PyProof.Rows L2
section
variable {P : Program} {w : World} {K : PySem.W.Frag} {mg : Str → Option Value} {base : Heap}
theorem HQ.sit {G : PG} {q q' : QG} {i : Int} {h : Hnd} {s s' : Seat} (p : HQ G q i h) (hs : h.seat = some s) (hn : s'.num = s.num) (sq : SQ G q' i s') (hR : ∀ n, n ≠ s.num → q'.R n = q.R n) (hRw : ∀ n, n ≠ s.num → q'.Rw n i = q.Rw n i)
    (hp : ∀ b r a, G.Pm s.num i b r a → r.length = q'.Rw s.num i ∧ Beg (q'.R s.num) r) : HQ G q' i { h with seat := some s' } := by
  have mv : ∀ n, n ≠ s.num → (Left h n ∨ ∃ t, h.seat = some t ∧ t.num = n) → Left { h with seat := some s' } n := fun n e w => by
    rcases w with w | ⟨t, w1, w2⟩
    · exact w
    · rw [hs] at w1
      cases w1
      exact absurd w2.symm e
  refine ⟨fun t e => by cases e; exact sq, fun n => ?_, fun n M hM hd => ?_, fun n b r a w => ?_⟩
  · by_cases e : n = s.num
    · exact .inr (.inr ⟨s', rfl, hn.trans e.symm⟩)
    · rw [hRw n e]
      rcases p.rw n with w | w
      · exact .inl w
      · exact .inr (.inl (mv n e w))
  · by_cases e : n = s.num
    · exact .inr (.inr ⟨s', rfl, hn.trans e.symm⟩)
    · rw [hR n e]
      rcases p.ld n M hM hd with w | w
      · exact .inl w
      · exact .inr (.inl (mv n e w))
  · by_cases e : n = s.num
    · subst e
      exact hp b r a w
    · rw [hR n e, hRw n e]
      exact p.pm n b r a w
/-- what the first hand sees that enough hold, enough hold -/
theorem sup_most {G : PG} {q : QG} {s : Seat} {r0 : List Msg} (hM : G.cfg s.num = some (s.mem, r0)) (hk : s.hold.map (·.1) = s.mem) (nd : s.mem.Nodup) (ne : s.mem ≠ []) (hold : ∀ p ∈ s.hold, p.2 ≤ q.Rw s.num p.1) (h0 : 0 < s.most) : Sup G q s.num s.most := by
  have h := most_many rfl hk nd (List.length_pos_iff.mpr ne) (Nat.le_refl s.most) h0
  rw [List.countP_eq_length_filter] at h
  refine ⟨(s.mem.filter fun j => decide (s.most ≤ getA j 0 s.hold)).take (enoughN s.mem.length), _, hM, (nd.filter _).sublist (List.take_sublist _ _), by rw [List.length_take]; exact Nat.min_eq_left h, fun w hw => ?_⟩
  have hw2 := List.mem_filter.mp (List.mem_of_mem_take hw)
  refine ⟨hw2.1, Nat.le_trans (of_decide_eq_true hw2.2) ?_⟩
  obtain ⟨p, hp, rfl⟩ := List.mem_map.mp (show w ∈ s.hold.map (·.1) by rw [hk]; exact hw2.1)
  rw [getA_mem (by rw [hk]; exact nd) (show (p.1, p.2) ∈ s.hold from hp)]
  exact hold p hp
theorem putA_mem {α : Type} {k : Int} {v : α} {l : List (Int × α)} {p : Int × α} (h : p ∈ putA k v l) : p = (k, v) ∨ p ∈ l := by
  unfold putA at h
  split at h
  · obtain ⟨y, hy, e⟩ := List.mem_map.mp h
    split at e
    · rename_i hk
      exact .inl (by rw [← e, hk])
    · exact .inr (e ▸ hy)
  · rcases List.mem_append.mp h with h | h
    · exact .inr h
    · exact .inl (List.mem_singleton.mp h)
/-- the first hand looks what enough hold -/
theorem SQ.tweh {G : PG} {q : QG} {i : Nat} {s : Seat} {r0 : List Msg} (rq : RQ G q) (sq : SQ G q i s) (hM : G.cfg s.num = some (s.mem, r0)) (hk : s.hold.map (·.1) = s.mem) (nd : s.mem.Nodup) (me : (i : Int) ∈ s.mem) (hl : s.lead = (i : Int)) : SQ G q i (s.tweh i).1 ∧ ∀ y ∈ (s.tweh i).2, LQ G q y := by
  have hold2 : ∀ p ∈ (s.note i s.row.length).hold, p.2 ≤ q.Rw s.num p.1 := fun p hp => by
    rcases putA_mem hp with e | e
    · rw [e]
      exact Nat.le_of_eq sq.rw.symm
    · exact sq.hold p e
  have hrow := sq.lead hl
  have hmost : (s.note i s.row.length).most ≤ s.row.length := most_le fun p hp => by
    have h1 := hold2 p hp
    have h2 := rq.le s.num p.1
    rw [← hrow] at h2
    omega
  have hk2 : (s.note i s.row.length).hold.map (·.1) = s.mem := by
    show (putA (i : Int) s.row.length s.hold).map (·.1) = s.mem
    rw [putA_keys (by rw [hk]; exact me)]
    exact hk
  have sup : 0 < (s.note i s.row.length).most → Sup G q s.num (s.note i s.row.length).most := fun h => sup_most (s := s.note i s.row.length) hM hk2 nd (List.ne_nil_of_mem me) hold2 h
  rw [tweh_eq]
  refine ⟨⟨sq.row, sq.rw, sq.lead, ⟨Nat.max_le.mpr ⟨sq.took.1, hmost⟩, ?_⟩, hold2⟩, fun y hy => ?_⟩
  · show max s.took (s.note i s.row.length).most = 0 ∨ Sup G q s.num (max s.took (s.note i s.row.length).most)
    by_cases e : (s.note i s.row.length).most > s.took
    · rw [Nat.max_eq_right (Nat.le_of_lt e)]
      exact .inr (sup (by omega))
    · rw [Nat.max_eq_left (Nat.le_of_not_lt e)]
      exact sq.took.2
  · dsimp only at hy
    split at hy
    · rename_i e
      obtain ⟨t1, t2, _⟩ := mail_told hy
      unfold LQ
      rw [t1, t2]
      exact sup (by omega)
    · cases hy

end
end Fo
namespace Fo
open PySem PySem.Spec PyProof.Rows L2
section
variable {P : Program} {w : World} {K : PySem.W.Frag} {mg : Str → Option Value} {base : Heap}
theorem getA_le {k : Int} {f : Int → Nat} : ∀ {l : List (Int × Nat)}, (∀ p ∈ l, p.2 ≤ f p.1) → getA k 0 l ≤ f k
  | [], _ => Nat.zero_le _
  | x :: r, h => by
    unfold getA
    rw [List.find?_cons]
    by_cases e : x.1 = k
    · rw [decide_eq_true e]
      show x.2 ≤ f k
      rw [← e]
      exact h x List.mem_cons_self
    · rw [decide_eq_false e]
      exact getA_le fun p hp => h p (List.mem_cons_of_mem _ hp)
theorem Sup.le {G : PG} {q : QG} {n : Int} {t u : Nat} (h : Sup G q n t) (e : u ≤ t) : Sup G q n u := by
  obtain ⟨W, M, h1, h2, h3, h4⟩ := h
  exact ⟨W, M, h1, h2, h3, fun w hw => ⟨(h4 w hw).1, Nat.le_trans e (h4 w hw).2⟩⟩
def Dor (G : PG) (q : QG) (i : Int) (h' : Hnd) (out : List Ltr) : Prop := ∃ q', QLe G i q q' ∧ RQ G q' ∧ HQ G q' i h' ∧ ∀ y ∈ out, LQ G q' y
section
variable {m : Nat} {first : List Int} {G : PG} {q : QG} {i : Nat} {h : Hnd} {s : Seat} {X : Prm} {B : Nat} {c : Int} (g : GOk m first G) (rq : RQ G q) (p : HP G i h) (pq : HQ G q i h) (a : SeatOk X m B c i s) (hs : h.seat = some s)
include g rq p pq a hs
omit g p a in
theorem dor_same {s' : Seat} {out : List Ltr} (hn : s'.num = s.num) (sq : SQ G q i s') (ho : ∀ y ∈ out, LQ G q y) : Dor G q i { h with seat := some s' } out :=
  ⟨q, QLe.refl G i q, rq, pq.sit hs hn sq (fun _ _ => rfl) (fun _ _ => rfl) fun b r a w => pq.pm _ b r a w, ho⟩
omit pq a rq in
theorem no_pm (hst : s.still ≠ true) : ∀ b r x, ¬ G.Pm s.num i b r x := fun b r x w => by
  have h1 := (p.here hs).2.1 b r x w
  have h2 := g.p3 _ _ _ _ _ w
  apply hst
  unfold Seat.still
  refine decide_eq_true fun z => ?_
  rw [z] at h1
  exact h1 h2
theorem dor_wish {x : Msg} (hx : SaidIn q s.num x) (hl : ∃ M, G.cfg s.num = some M ∧ M.1.headD 0 = (i : Int)) : Dor G q i { h with seat := some (s.wish i x).1 } (s.wish i x).2 := by
  have sq := pq.seat s hs
  obtain ⟨r0, hr0⟩ := (p.seat s hs).1.mem
  have hld : s.lead = (i : Int) := by
    obtain ⟨M, h1, h2⟩ := hl
    rw [hr0] at h1
    cases h1
    exact h2
  unfold Seat.wish
  split
  · exact dor_same rq pq hs rfl sq fun _ h => nomatch h
  · rename_i hc
    obtain ⟨hst, hxr⟩ := not_or.mp hc
    have hrow := sq.lead hld
    obtain ⟨q', hq'⟩ : ∃ q' : QG, q' = { q with R := fun n => if n = s.num then s.row ++ [x] else q.R n, Rw := fun n j => if n = s.num ∧ j = (i : Int) then s.row.length + 1 else q.Rw n j } := ⟨_, rfl⟩
    have R1 : q'.R s.num = s.row ++ [x] := by rw [hq']; exact if_pos rfl
    have R2 : ∀ n, n ≠ s.num → q'.R n = q.R n := fun n e => by rw [hq']; exact if_neg e
    have W1 : q'.Rw s.num i = s.row.length + 1 := by rw [hq']; exact if_pos ⟨rfl, rfl⟩
    have W2 : ∀ n j, ¬ (n = s.num ∧ j = (i : Int)) → q'.Rw n j = q.Rw n j := fun n j e => by rw [hq']; exact if_neg e
    have S1 : q'.S = q.S := by rw [hq']
    clear hq'
    have L : QLe G i q q' := by
      refine ⟨fun n => ?_, fun n j => ?_, fun n j e => W2 n j fun z => e z.2, fun n e => R2 n fun z => ?_, S1⟩
      · by_cases e : n = s.num
        · subst e
          rw [R1, ← hrow]
          exact (List.take_left' rfl).symm
        · rw [R2 n e]
          exact Beg.refl _
      · by_cases e : n = s.num ∧ j = (i : Int)
        · rw [e.1, e.2, W1, sq.rw]
          omega
        · rw [W2 n j e]
          exact Nat.le_refl _
      · subst z
        exact e _ hr0 hld
    have rq' : RQ G q' := by
      refine ⟨fun n => ?_, fun n y hy => ?_, fun n e => ?_, fun n j => ?_⟩
      · by_cases e : n = s.num
        · subst e
          rw [R1]
          refine List.nodup_append.mpr ⟨by rw [hrow]; exact rq.nd _, List.nodup_cons.mpr ⟨List.not_mem_nil, List.Pairwise.nil⟩, fun y hy z hz e => ?_⟩
          rw [List.mem_singleton.mp hz] at e
          exact hxr (e ▸ hy)
        · rw [R2 n e]
          exact rq.nd n
      · refine SaidIn.up L ?_
        by_cases e : n = s.num
        · subst e
          rw [R1] at hy
          rcases List.mem_append.mp hy with w | w
          · rw [hrow] at w
            exact rq.said _ y w
          · rw [List.mem_singleton.mp w]
            exact hx
        · rw [R2 n e] at hy
          exact rq.said n y hy
      · rw [R2 n fun z => by rw [z, hr0] at e; cases e]
        exact rq.none n e
      · by_cases e : n = s.num
        · subst e
          rw [R1, List.length_append]
          by_cases e2 : j = (i : Int)
          · rw [e2, W1]
            exact Nat.le_refl _
          · rw [W2 _ j fun z => e2 z.2]
            have := rq.le s.num j
            rw [← hrow] at this
            exact Nat.le_succ_of_le this
        · rw [R2 n e, W2 n j fun z => e z.1]
          exact rq.le n j
    have sq1 : SQ G q' i { s with row := s.row ++ [x] } := by
      refine ⟨?_, ?_, fun _ => R1.symm, ⟨?_, sq.took.2.imp (fun z => z) fun z => Sup.up L z⟩, fun y hy => Nat.le_trans (sq.hold y hy) (L.Rw _ _)⟩
      · show Beg (q'.R s.num) (s.row ++ [x])
        rw [R1]
        exact Beg.refl _
      · show q'.Rw s.num i = (s.row ++ [x]).length
        rw [W1, List.length_append]
        rfl
      · show s.took ≤ (s.row ++ [x]).length
        rw [List.length_append]
        have := sq.took.1
        omega
    obtain ⟨t1, t2⟩ := SQ.tweh (s := { s with row := s.row ++ [x] }) rq' sq1 hr0 a.hk a.mem.nd a.me hld
    refine ⟨q', L, rq', pq.sit hs (by rw [tweh_eq]; rfl) t1 R2 (fun n e => W2 n _ fun z => e z.1) fun b r y w => absurd w (no_pm g p hs hst b r y), fun y hy => ?_⟩
    rcases List.mem_append.mp hy with w | w
    · obtain ⟨k1, k2, k3⟩ := mail_told w
      unfold LQ
      rw [k1, k2, k3]
      refine ⟨?_, _, hr0, hld⟩
      rw [R1, List.getElem?_append_right (Nat.le_refl _), Nat.sub_self]
      rfl
    · exact t2 y w
theorem dor_hold {l : Ltr} {x : Msg} {pl : Nat} (h0 : 0 ≤ l.snd) (hx : (q.R s.num)[pl]? = some x) (hl : ∃ M, G.cfg s.num = some M ∧ M.1.headD 0 = l.snd) : Dor G q i { h with seat := some (s.holdC i l.snd x pl).1 } (s.holdC i l.snd x pl).2 := by
  have sq := pq.seat s hs
  obtain ⟨r0, hr0⟩ := (p.seat s hs).1.mem
  have hl2 : ∃ M, G.cfg s.num = some M ∧ M.1.headD 0 = ((l.snd.toNat : Nat) : Int) := by
    obtain ⟨M, h1, h2⟩ := hl
    exact ⟨M, h1, by omega⟩
  unfold Seat.holdC
  split
  · exact dor_same rq pq hs rfl sq fun _ h => nomatch h
  · rename_i hc
    obtain ⟨hst, hpl⟩ := not_or.mp hc
    dsimp only
    split
    · rename_i e
      subst e
      obtain ⟨q', hq'⟩ : ∃ q' : QG, q' = { q with Rw := fun n j => if n = s.num ∧ j = (i : Int) then s.row.length + 1 else q.Rw n j } := ⟨_, rfl⟩
      have R1 : q'.R = q.R := by rw [hq']
      have W1 : q'.Rw s.num i = s.row.length + 1 := by rw [hq']; exact if_pos ⟨rfl, rfl⟩
      have W2 : ∀ n j, ¬ (n = s.num ∧ j = (i : Int)) → q'.Rw n j = q.Rw n j := fun n j e => by rw [hq']; exact if_neg e
      have S1 : q'.S = q.S := by rw [hq']
      clear hq'
      have hlt := (List.getElem?_eq_some_iff.mp hx).1
      have L : QLe G i q q' := by
        refine ⟨fun n => by rw [R1]; exact Beg.refl _, fun n j => ?_, fun n j e => W2 n j fun z => e z.2, fun n _ => by rw [R1], S1⟩
        by_cases e : n = s.num ∧ j = (i : Int)
        · rw [e.1, e.2, W1, sq.rw]
          omega
        · rw [W2 n j e]
          exact Nat.le_refl _
      have rq' : RQ G q' := by
        refine ⟨fun n => by rw [R1]; exact rq.nd n, fun n y hy => by rw [R1] at hy; exact SaidIn.up L (rq.said n y hy), fun n e => by rw [R1]; exact rq.none n e, fun n j => ?_⟩
        rw [R1]
        by_cases e : n = s.num ∧ j = (i : Int)
        · rw [e.1, e.2, W1]
          exact hlt
        · rw [W2 n j e]
          exact rq.le n j
      refine ⟨q', L, rq', pq.sit hs rfl ⟨?_, ?_, fun z => ?_, ⟨?_, sq.took.2.imp (fun z => z) fun z => Sup.up L z⟩, fun y hy => Nat.le_trans (sq.hold y hy) (L.Rw _ _)⟩ (fun n _ => by rw [R1]) (fun n e => W2 n _ fun z => e z.1) fun b r y w => absurd w (no_pm g p hs hst b r y), fun y hy => ?_⟩
      · show Beg (q'.R s.num) (s.row ++ [x])
        rw [R1]
        exact sq.row.snoc hx
      · show q'.Rw s.num i = (s.row ++ [x]).length
        rw [W1, List.length_append]
        rfl
      · have := sq.lead z
        rw [← this] at hlt
        exact absurd hlt (Nat.lt_irrefl _)
      · show s.took ≤ (s.row ++ [x]).length
        rw [List.length_append]
        have := sq.took.1
        omega
      · rw [List.mem_singleton.mp hy]
        refine ⟨?_, hl2⟩
        show (s.row ++ [x]).length ≤ q'.Rw s.num i
        rw [W1, List.length_append]
        exact Nat.le_refl _
    · refine dor_same rq pq hs rfl sq fun y hy => ?_
      rw [List.mem_singleton.mp hy]
      exact ⟨Nat.le_of_eq sq.rw.symm, hl2⟩
omit g in
theorem dor_have {l : Ltr} {n : Nat} (hn : n ≤ q.Rw s.num l.snd) (hl : ∃ M, G.cfg s.num = some M ∧ M.1.headD 0 = (i : Int)) (hm : l.snd ∈ s.mem) : Dor G q i { h with seat := some (s.haveC i l.snd n).1 } (s.haveC i l.snd n).2 := by
  have sq := pq.seat s hs
  obtain ⟨r0, hr0⟩ := (p.seat s hs).1.mem
  have hld : s.lead = (i : Int) := by
    obtain ⟨M, h1, h2⟩ := hl
    rw [hr0] at h1
    cases h1
    exact h2
  have sq1 : SQ G q i (s.note l.snd (max (getA l.snd 0 s.hold) n)) := by
    refine ⟨sq.row, sq.rw, sq.lead, sq.took, fun y hy => ?_⟩
    rcases putA_mem hy with e | e
    · rw [e]
      exact Nat.max_le.mpr ⟨getA_le (f := fun k => q.Rw s.num k) sq.hold, hn⟩
    · exact sq.hold y e
  obtain ⟨t1, t2⟩ := SQ.tweh (s := s.note l.snd (max (getA l.snd 0 s.hold) n)) rq sq1 hr0 (by show (putA l.snd _ s.hold).map (·.1) = s.mem; rw [putA_keys (by rw [a.hk]; exact hm)]; exact a.hk) a.mem.nd a.me hld
  exact dor_same rq pq hs (by unfold Seat.haveC; rw [tweh_eq]; rfl) t1 t2
omit g p a in
theorem dor_take {n : Nat} (hn : Sup G q s.num n) : Dor G q i { h with seat := some (s.takeC n) } [] := by
  have sq := pq.seat s hs
  refine dor_same rq pq hs rfl ⟨sq.row, sq.rw, sq.lead, ⟨Nat.max_le.mpr ⟨sq.took.1, Nat.min_le_right _ _⟩, ?_⟩, sq.hold⟩ fun _ h => nomatch h
  show max s.took (min n s.row.length) = 0 ∨ Sup G q s.num (max s.took (min n s.row.length))
  by_cases e : s.took < min n s.row.length
  · rw [Nat.max_eq_right (Nat.le_of_lt e)]
    exact .inr (hn.le (Nat.min_le_left _ _))
  · rw [Nat.max_eq_left (Nat.le_of_not_lt e)]
    exact sq.took.2
end

end
end Fo
namespace Fo
open PySem PySem.Spec PyProof.Rows L2
section
variable {P : Program} {w : World} {K : PySem.W.Frag} {mg : Str → Option Value} {base : Heap}
theorem Sup.grow {G G' : PG} {q : QG} {i n : Int} {t : Nat} (L : PG.Le i G G') (h : Sup G q n t) : Sup G' q n t := by
  obtain ⟨W, M, h1, h2⟩ := h
  exact ⟨W, M, L.cfg _ _ h1, h2⟩
theorem LQ.grow {G G' : PG} {q : QG} {i : Int} {l : Ltr} (L : PG.Le i G G') (h : LQ G q l) : LQ G' q l := by
  unfold LQ at *
  cases ht : l.told with
  | wish x => rw [ht] at h; exact ⟨h.1, h.2.elim fun M w => ⟨M, L.cfg _ _ w.1, w.2⟩⟩
  | hold x pl => rw [ht] at h; exact ⟨h.1, h.2.elim fun M w => ⟨M, L.cfg _ _ w.1, w.2⟩⟩
  | have_ c => rw [ht] at h; exact ⟨h.1, h.2.elim fun M w => ⟨M, L.cfg _ _ w.1, w.2⟩⟩
  | take t => rw [ht] at h; exact Sup.grow L h
  | _ => trivial
theorem RQ.grow {G G' : PG} {q : QG} {i : Int} (L : PG.Le i G G') (h : RQ G q) : RQ G' q := ⟨h.nd, h.said, fun n e => h.none n (by
  cases hz : G.cfg n with
  | none => rfl
  | some v => rw [L.cfg _ _ hz] at e; cases e), h.le⟩
theorem SQ.grow {G G' : PG} {q : QG} {i j : Int} {s : Seat} (L : PG.Le i G G') (h : SQ G q j s) : SQ G' q j s := ⟨h.row, h.rw, h.lead, ⟨h.took.1, h.took.2.imp (fun z => z) fun z => Sup.grow L z⟩, h.hold⟩
/-- more is known; the hand's row, what it took, what it holds stay -/
theorem HQ.grow {G G' : PG} {q : QG} {i j : Int} {h h' : Hnd} (L : PG.Le i G G') (rq : RQ G q) (p : HQ G q j h) (hpast : h'.past = h.past) (hseat : ∀ s', h'.seat = some s' → ∃ s, h.seat = some s ∧ s'.num = s.num ∧ s'.mem = s.mem ∧ s'.row = s.row ∧ s'.took = s.took ∧ s'.hold = s.hold) (hback : ∀ s, h.seat = some s → ∃ s', h'.seat = some s' ∧ s'.num = s.num)
    (hpm : ∀ n b r a, G'.Pm n j b r a → G.Pm n j b r a ∨ ∃ s', h'.seat = some s' ∧ n = s'.num ∧ r = s'.row) : HQ G' q j h' := by
  have mv : ∀ n, (Left h n ∨ ∃ t, h.seat = some t ∧ t.num = n) → Left h' n ∨ ∃ t, h'.seat = some t ∧ t.num = n := fun n w => by
    rcases w with ⟨e, he, hn⟩ | ⟨t, w1, w2⟩
    · exact .inl ⟨e, by rw [hpast]; exact he, hn⟩
    · obtain ⟨s', k1, k2⟩ := hback t w1
      exact .inr ⟨s', k1, k2.trans w2⟩
  have sq : ∀ s', h'.seat = some s' → SQ G' q j s' := fun s' hs' => by
    obtain ⟨s, hs, e1, e2, e3, e4, e5⟩ := hseat s' hs'
    have k := (p.seat s hs).grow L
    refine ⟨by rw [e1, e3]; exact k.row, by rw [e1, e3]; exact k.rw, fun z => ?_, by rw [e1, e3, e4]; exact k.took, by rw [e1, e5]; exact k.hold⟩
    rw [e1, e3]
    refine k.lead ?_
    unfold Seat.lead at z ⊢
    rw [← e2]
    exact z
  refine ⟨sq, fun n => (p.rw n).imp (fun z => z) (mv n), fun n M hM hd => ?_, fun n b r a w => ?_⟩
  · cases hz : G.cfg n with
    | none => exact .inl (rq.none n hz)
    | some v =>
      have := L.cfg _ _ hz
      rw [hM] at this
      cases this
      exact (p.ld n M hz hd).imp (fun z => z) (mv n)
  · rcases hpm n b r a w with w | ⟨s', hs', rfl, rfl⟩
    · exact p.pm n b r a w
    · have k := sq s' hs'
      exact ⟨k.rw.symm, k.row⟩
theorem HQ.enter {G : PG} {q : QG} {i : Nat} {h : Hnd} {nw : News} (p : HP G i h) (pq : HQ G q i h) (hn : NP G nw) : HQ G q i (h.enterC i nw) := by
  have join : ∀ h : Hnd, h.seat = none → HP G i h → HQ G q i h → HQ G q i (h.join i nw) := fun h hs p pq => by
    unfold Hnd.join
    split
    · rename_i e
      have no : ¬ (Left h nw.num ∨ ∃ s, h.seat = some s ∧ s.num = nw.num) := fun z => by
        rcases z with ⟨x, hx, hxn⟩ | ⟨s, hs', _⟩
        · have := (p.past x hx).2.2.1
          have := e.2
          omega
        · rw [hs] at hs'; cases hs'
      have mv : ∀ n, (Left h n ∨ ∃ t, h.seat = some t ∧ t.num = n) → Left { h with seat := some (Seat.fresh nw.num nw.mem (some nw)), high := nw.num } n := fun n w => by
        rcases w with w | ⟨t, w1, _⟩
        · exact w
        · rw [hs] at w1; cases w1
      refine ⟨fun s e' => ?_, fun n => (pq.rw n).imp (fun z => z) fun z => .inl (mv n z), fun n M hM hd => (pq.ld n M hM hd).imp (fun z => z) fun z => .inl (mv n z), pq.pm⟩
      cases e'
      refine ⟨rfl, ?_, fun z => ?_, ⟨Nat.zero_le _, .inl rfl⟩, fun x hx => ?_⟩
      · rcases pq.rw nw.num with z | z
        · exact z
        · exact absurd z no
      · rcases pq.ld nw.num _ hn.2.1 z with w | w
        · exact w.symm
        · exact absurd w no
      · obtain ⟨y, _, rfl⟩ := List.mem_map.mp (show x ∈ nw.mem.map fun h => (h, 0) from hx)
        exact Nat.zero_le _
    · exact pq
  unfold Hnd.enterC
  cases hs : h.seat with
  | none => exact join h hs p pq
  | some s =>
    show HQ G q i (if s.num ≠ nw.num - 1 then h else _)
    split
    · exact pq
    · rename_i hq
      have hq : s.num = nw.num - 1 := Decidable.byContradiction hq
      have mv : ∀ n, (Left h n ∨ ∃ t, h.seat = some t ∧ t.num = n) → Left { h with past := h.past ++ [(s.num, s.mem, nw.row)], seat := none } n := fun n w => by
        rcases w with ⟨e, he, hn⟩ | ⟨t, w1, w2⟩
        · exact ⟨e, List.mem_append_left _ he, hn⟩
        · rw [hs] at w1
          cases w1
          exact ⟨_, List.mem_append_right _ List.mem_cons_self, w2⟩
      have pq2 : HQ G q i { h with past := h.past ++ [(s.num, s.mem, nw.row)], seat := none } := ⟨fun t e => (nomatch e), fun n => (pq.rw n).imp (fun z => z) fun z => .inl (mv n z), fun n M hM hd => (pq.ld n M hM hd).imp (fun z => z) fun z => .inl (mv n z), pq.pm⟩
      have hi := (p.seat s hs).2
      have hpast := fun e he => (p.past e he).2.2.1
      unfold Hnd.join
      split
      · rename_i e
        have e2 : h.high < nw.num := e.2
        have no : ¬ (Left h nw.num ∨ ∃ s, h.seat = some s ∧ s.num = nw.num) := fun z => by
          rcases z with ⟨x, hx, hxn⟩ | ⟨t, ht, htn⟩
          · have := hpast x hx
            omega
          · rw [hs] at ht; cases ht; omega
        refine ⟨fun t e' => ?_, fun n => (pq.rw n).imp (fun z => z) fun z => .inl (mv n z), fun n M hM hd => (pq.ld n M hM hd).imp (fun z => z) fun z => .inl (mv n z), pq.pm⟩
        cases e'
        refine ⟨rfl, ?_, fun z => ?_, ⟨Nat.zero_le _, .inl rfl⟩, fun x hx => ?_⟩
        · rcases pq.rw nw.num with z | z
          · exact z
          · exact absurd z no
        · rcases pq.ld nw.num _ hn.2.1 z with w | w
          · exact w.symm
          · exact absurd w no
        · obtain ⟨y, _, rfl⟩ := List.mem_map.mp (show x ∈ nw.mem.map fun h => (h, 0) from hx)
          exact Nat.zero_le _
      · exact pq2

end
end Fo
namespace Fo
open PySem PySem.Spec PyProof.Rows L2
section
variable {P : Program} {w : World} {K : PySem.W.Frag} {mg : Str → Option Value} {base : Heap}
def same9 (s s' : Seat) : Prop := s'.num = s.num ∧ s'.mem = s.mem ∧ s'.row = s.row ∧ s'.took = s.took ∧ s'.hold = s.hold
theorem lq_plain {G : PG} {q : QG} {y : Ltr} (h : (∃ b r a, y.told = .promise b r a) ∨ (∃ a, y.told = .accept a) ∨ (∃ b, y.told = .agree b) ∨ (∃ n, y.told = .enter n) ∨ ∃ b, y.told = .prepare b) : LQ G q y := by
  unfold LQ
  rcases h with ⟨_, _, _, e⟩ | ⟨_, e⟩ | ⟨_, e⟩ | ⟨_, e⟩ | ⟨_, e⟩ <;> rw [e] <;> trivial
theorem read_off {s : Seat} {i : Nat} {l : Ltr} (hl : (∃ b, l.told = .prepare b) ∨ (∃ b r a, l.told = .promise b r a) ∨ (∃ a, l.told = .accept a) ∨ ∃ b, l.told = .agree b) : same9 s (s.read i l).1 ∧ ∀ (G : PG) (q : QG), ∀ y ∈ (s.read i l).2, LQ G q y := by
  unfold Seat.read
  rcases hl with ⟨b, ht⟩ | ⟨b, r, a, ht⟩ | ⟨a, ht⟩ | ⟨b, ht⟩
  · rw [ht]
    dsimp only
    unfold Seat.prepC
    split
    · exact ⟨⟨rfl, rfl, rfl, rfl, rfl⟩, fun G q y hy => lq_plain (.inl ⟨_, _, _, congrArg Ltr.told (List.mem_singleton.mp hy)⟩)⟩
    · exact ⟨⟨rfl, rfl, rfl, rfl, rfl⟩, fun G q y hy => nomatch hy⟩
  · rw [ht]
    dsimp only
    unfold Seat.promC
    cases s.off with
    | none => exact ⟨⟨rfl, rfl, rfl, rfl, rfl⟩, fun G q y hy => nomatch hy⟩
    | some o =>
      dsimp only
      split
      · exact ⟨⟨rfl, rfl, rfl, rfl, rfl⟩, fun G q y hy => nomatch hy⟩
      · split
        · exact ⟨⟨rfl, rfl, rfl, rfl, rfl⟩, fun G q y hy => lq_plain (.inr (.inl ⟨_, (mail_told hy).1⟩))⟩
        · exact ⟨⟨rfl, rfl, rfl, rfl, rfl⟩, fun G q y hy => nomatch hy⟩
  · rw [ht]
    dsimp only
    unfold Seat.accC
    split
    · exact ⟨⟨rfl, rfl, rfl, rfl, rfl⟩, fun G q y hy => nomatch hy⟩
    · exact ⟨⟨rfl, rfl, rfl, rfl, rfl⟩, fun G q y hy => lq_plain (.inr (.inr (.inl ⟨_, congrArg Ltr.told (List.mem_singleton.mp hy)⟩)))⟩
  · rw [ht]
    dsimp only
    unfold Seat.agrC
    cases s.off with
    | none => exact ⟨⟨rfl, rfl, rfl, rfl, rfl⟩, fun G q y hy => nomatch hy⟩
    | some o =>
      dsimp only
      split
      · exact ⟨⟨rfl, rfl, rfl, rfl, rfl⟩, fun G q y hy => nomatch hy⟩
      · split
        · exact ⟨⟨rfl, rfl, rfl, rfl, rfl⟩, fun G q y hy => lq_plain (.inr (.inr (.inr (.inl ⟨_, (mail_told hy).1⟩))))⟩
        · exact ⟨⟨rfl, rfl, rfl, rfl, rfl⟩, fun G q y hy => nomatch hy⟩
/-- a letter of rows changes nothing else -/
theorem read_row {G : PG} {i : Nat} {h : Hnd} {s : Seat} {l : Ltr} (p : HP G i h) (hs : h.seat = some s) (hl : (∃ x, l.told = .wish x) ∨ (∃ x p, l.told = .hold x p) ∨ (∃ n, l.told = .have_ n) ∨ ∃ n, l.told = .take n) : HP G i { h with seat := some (s.read i l).1 } ∧ ∀ y ∈ (s.read i l).2, LP G y := by
  have tw : ∀ (s1 : Seat) (out : List Ltr), s1.num = s.num → s1.mem = s.mem → s1.news = s.news → s1.bal = s.bal → s1.agr = s.agr → s1.off = s.off → (∀ y ∈ out, LP G y) → HP G i { h with seat := some (s1.tweh i).1 } ∧ ∀ y ∈ out ++ (s1.tweh i).2, LP G y := fun s1 out e1 e2 e3 e4 e5 e6 ho => by
    rw [tweh_eq]
    refine ⟨p.same hs e1 e2 e3 e4 e5 e6, fun y hy => ?_⟩
    rcases List.mem_append.mp hy with hy | hy
    · exact ho y hy
    · dsimp only at hy
      split at hy
      · exact lp_plain (.inr (.inr (.inr (.inl ⟨_, (mail_told hy).1⟩))))
      · cases hy
  unfold Seat.read
  rcases hl with ⟨x, ht⟩ | ⟨x, pl, ht⟩ | ⟨n, ht⟩ | ⟨n, ht⟩
  · rw [ht]
    dsimp only
    unfold Seat.wish
    split
    · exact ⟨p.same hs rfl rfl rfl rfl rfl rfl, fun _ h => nomatch h⟩
    · exact tw { s with row := s.row ++ [x] } _ rfl rfl rfl rfl rfl rfl fun y hy => lp_plain (.inr (.inl ⟨_, _, (mail_told hy).1⟩))
  · rw [ht]
    dsimp only
    unfold Seat.holdC
    split
    · exact ⟨p.same hs rfl rfl rfl rfl rfl rfl, fun _ h => nomatch h⟩
    · dsimp only
      split
      · exact ⟨p.same hs rfl rfl rfl rfl rfl rfl, fun y hy => lp_plain (.inr (.inr (.inl ⟨_, congrArg Ltr.told (List.mem_singleton.mp hy)⟩)))⟩
      · exact ⟨p.same hs rfl rfl rfl rfl rfl rfl, fun y hy => lp_plain (.inr (.inr (.inl ⟨_, congrArg Ltr.told (List.mem_singleton.mp hy)⟩)))⟩
  · rw [ht]
    exact tw (s.note l.snd (max (getA l.snd 0 s.hold) n)) [] rfl rfl rfl rfl rfl rfl fun _ h => nomatch h
  · rw [ht]
    exact ⟨p.same hs rfl rfl rfl rfl rfl rfl, fun _ h => nomatch h⟩
structure Over9 (m : Nat) (first : List Int) (G : PG) (q : QG) (i : Int) (h' : Hnd) (out : List Ltr) (G' : PG) (q' : QG) : Prop where
  L : PG.Le i G G'
  Q : QLe G i q q'
  g : GOk m first G'
  rq : RQ G' q'
  p : HP G' i h'
  pq : HQ G' q' i h'
  out : ∀ y ∈ out, LP G' y ∧ LQ G' q' y
theorem over9 {m : Nat} {first : List Int} {G : PG} {q : QG} {i : Nat} {h : Hnd} {X : Prm} {B : Nat} {c : Int} (g : GOk m first G) (rq : RQ G q) (p : HP G i h) (pq : HQ G q i h) (r : HandOk X m B c i h) {l : Ltr} (hl : LP G l) (hq : LQ G q l) (hto : l.to = i) (h0 : 0 ≤ l.snd) (hc : ∀ s, h.seat = some s → s.num = l.num → toC l s) : ∃ G' q', Over9 m first G q i (h.over i l).1 (h.over i l).2 G' q' := by
  have triv : ∃ G' q', Over9 m first G q i h [] G' q' := ⟨G, q, PG.Le.refl _ _, QLe.refl _ _ _, g, rq, p, pq, fun _ h => nomatch h⟩
  unfold Hnd.over
  split
  · exact triv
  · have main : (∀ s, h.seat = some s → s.num = l.num → ∃ G' q', Over9 m first G q i { h with seat := some (s.read i l).1 } (s.read i l).2 G' q') → ∃ G' q', Over9 m first G q i (match h.seat with | none => (h, ([] : List Ltr)) | some s => if s.num = l.num then (({ h with seat := some (s.read i l).1 } : Hnd), (s.read i l).2) else (h, [])).1 (match h.seat with | none => (h, ([] : List Ltr)) | some s => if s.num = l.num then (({ h with seat := some (s.read i l).1 } : Hnd), (s.read i l).2) else (h, [])).2 G' q' := fun k => by
      cases hs : h.seat with
      | none => exact triv
      | some s =>
        dsimp only
        split
        · rename_i e
          exact k s hs e
        · exact triv
    have row : ∀ s, h.seat = some s → ((∃ x, l.told = .wish x) ∨ (∃ x p, l.told = .hold x p) ∨ (∃ n, l.told = .have_ n) ∨ ∃ n, l.told = .take n) → Dor G q i { h with seat := some (s.read i l).1 } (s.read i l).2 → ∃ G' q', Over9 m first G q i { h with seat := some (s.read i l).1 } (s.read i l).2 G' q' := fun s hs k ⟨q', d1, d2, d3, d4⟩ => by
      obtain ⟨w1, w2⟩ := read_row p hs k
      exact ⟨G, q', PG.Le.refl _ _, d1, g, d2, w1, d3, fun y hy => ⟨w2 y hy, d4 y hy⟩⟩
    have off : ∀ s, h.seat = some s → ((∃ b, l.told = .prepare b) ∨ (∃ b r a, l.told = .promise b r a) ∨ (∃ a, l.told = .accept a) ∨ ∃ b, l.told = .agree b) → Doe m first G i { h with seat := some (s.read i l).1 } (s.read i l).2 → ∃ G' q', Over9 m first G q i { h with seat := some (s.read i l).1 } (s.read i l).2 G' q' := fun s hs k ⟨G', d1, d2, d3, d4, d5⟩ => by
      obtain ⟨⟨e1, e2, e3, e4, e5⟩, w2⟩ := read_off (s := s) (i := i) k
      refine ⟨G', q, d1, QLe.refl _ _ _, d2, rq.grow d1, d3, HQ.grow d1 rq pq rfl (fun s' hs' => ?_) (fun t ht => ?_) d5, fun y hy => ⟨d4 y hy, w2 G' q y hy⟩⟩
      · cases hs'
        exact ⟨s, hs, e1, e2, e3, e4, e5⟩
      · rw [hs] at ht
        cases ht
        exact ⟨_, rfl, e1⟩
    unfold LP at hl
    unfold LQ at hq
    cases ht : l.told with
    | enter n =>
      rw [ht] at hl
      exact ⟨G, q, PG.Le.refl _ _, QLe.refl _ _ _, g, rq, p.enter (fun n v w => (g.ok n v w).1) hl, HQ.enter p pq hl, fun _ h => nomatch h⟩
    | wish x =>
      rw [ht] at hq
      refine main fun s hs e => row s hs (.inl ⟨x, ht⟩) ?_
      rw [← e, hto] at hq
      unfold Seat.read
      rw [ht]
      exact dor_wish g rq p pq (r.seat s hs).1 hs hq.1 hq.2
    | hold x pl =>
      rw [ht] at hq
      refine main fun s hs e => row s hs (.inr (.inl ⟨x, pl, ht⟩)) ?_
      rw [← e] at hq
      unfold Seat.read
      rw [ht]
      exact dor_hold g rq p pq (r.seat s hs).1 hs h0 hq.1 hq.2
    | have_ n =>
      rw [ht] at hq
      refine main fun s hs e => row s hs (.inr (.inr (.inl ⟨n, ht⟩))) ?_
      rw [← e, hto] at hq
      have hm : l.snd ∈ s.mem := by
        have := hc s hs e
        unfold toC at this
        rw [ht] at this
        exact this
      unfold Seat.read
      rw [ht]
      exact dor_have rq p pq (r.seat s hs).1 hs hq.1 hq.2 hm
    | take n =>
      rw [ht] at hq
      refine main fun s hs e => row s hs (.inr (.inr (.inr ⟨n, ht⟩))) ?_
      rw [← e] at hq
      unfold Seat.read
      rw [ht]
      exact dor_take rq pq hs hq
    | prepare b =>
      refine main fun s hs _ => off s hs (.inl ⟨b, ht⟩) ?_
      unfold Seat.read
      rw [ht]
      exact doe_prep g p hs
    | promise b row a =>
      rw [ht] at hl
      refine main fun s hs e => off s hs (.inr (.inl ⟨b, row, a, ht⟩)) ?_
      unfold Seat.read
      rw [ht]
      exact doe_prom g p hs (by rw [e]; exact hl) fun o ho => ((r.seat s hs).1.off o ho).1.pk
    | accept a =>
      rw [ht] at hl
      refine main fun s hs e => off s hs (.inr (.inr (.inl ⟨a, ht⟩))) ?_
      unfold Seat.read
      rw [ht]
      exact doe_acc g p hs (by rw [e]; exact hl)
    | agree b =>
      rw [ht] at hl
      refine main fun s hs e => off s hs (.inr (.inr (.inr ⟨b, ht⟩))) ?_
      unfold Seat.read
      rw [ht]
      exact doe_agr g p hs (by rw [e]; exact hl) fun o ho => ((r.seat s hs).1.off o ho).1

end
end Fo
namespace Fo
open PySem PySem.Spec PyProof.Rows L2
section
variable {P : Program} {w : World} {K : PySem.W.Frag} {mg : Str → Option Value} {base : Heap}
structure QInv (m : Nat) (G : PG) (q : QG) (f : Flk) : Prop where
  rq : RQ G q
  hands : ∀ i, i < m → HQ G q i (f.hand i)
  post : ∀ l ∈ f.post, LQ G q l
  said : ∀ i, i < m → (f.hand i).said = (q.S i).length
theorem QInv.come {m B : Nat} {first : List Int} {G : PG} {q : QG} {X : Prm} {c : Int} {f : Flk} (PI : PInv m first G f) (QI : QInv m G q f) (F : FInv X m B c f) {p : Nat} {l : Ltr} (hp : f.post[p]? = some l) : ∃ G' q', PG.Leq G G' ∧ q'.S = q.S ∧ PInv m first G' (f.come p) ∧ QInv m G' q' (f.come p) := by
  have hm := List.mem_of_getElem? hp
  have hto := (F.post l hm).1.to
  obtain ⟨G', q', o⟩ := over9 PI.g QI.rq (PI.hands _ hto) (QI.hands _ hto) (F.hands _ hto) (PI.post l hm) (QI.post l hm) rfl (F.post l hm).1.s0 (((F.post l hm).2 l.to hto).c2 rfl)
  have hh := come_hand8 hp (by rw [F.len]; exact hto)
  have hc : (f.come p).post = f.post.eraseIdx p ++ ((f.hand l.to).over l.to l).2 := by
    unfold Flk.come
    rw [hp]
  have hpo : ∀ y ∈ (f.come p).post, LP G' y ∧ LQ G' q' y := fun y hy => by
    rw [hc] at hy
    rcases List.mem_append.mp hy with hy | hy
    · have h1 := List.mem_of_mem_eraseIdx hy
      exact ⟨LP.up o.L (PI.post y h1), LQ.grow o.L (LQ.up o.Q (QI.post y h1))⟩
    · exact o.out y hy
  refine ⟨G', q', ⟨o.L.cfg⟩, o.Q.S, ⟨o.g, fun j hj => ?_, fun y hy => (hpo y hy).1⟩, ⟨o.rq, fun j hj => ?_, fun y hy => (hpo y hy).2, fun j hj => ?_⟩⟩
  · rw [hh]
    split
    · rename_i e
      rw [e]
      exact o.p
    · rename_i e
      exact HP.other o.L (PI.hands j hj) (fun z => e (by omega))
  · rw [hh]
    split
    · rename_i e
      rw [e]
      exact o.pq
    · rename_i e
      have ne : (j : Int) ≠ (l.to : Int) := fun z => e (by omega)
      have k := HQ.other o.Q (QI.hands j hj) (PI.hands j hj) ne
      refine HQ.grow o.L ⟨fun n => ?_, fun n x hx => ?_, fun n e => ?_, fun n j => ?_⟩ k rfl (fun s hs => ⟨s, hs, rfl, rfl, rfl, rfl, rfl⟩) (fun s hs => ⟨s, hs, rfl⟩) (fun n b r a w => .inl (o.L.Pm' _ _ _ _ _ ne w))
      · exact o.rq.nd n
      · exact o.rq.said n x hx
      · rw [o.Q.R' n fun M hM => by rw [e] at hM; cases hM]
        exact QI.rq.none n e
      · exact o.rq.le n j
  · rw [o.Q.S, hh]
    split
    · rename_i e
      rw [over_said, ← e]
      exact QI.said j hj
    · exact QI.said j hj
section
variable {m : Nat} {first : List Int} {G : PG} {q : QG} {f : Flk} (PI : PInv m first G f) (QI : QInv m G q f)
include PI QI
theorem QInv.pm : ∀ n j b r a, G.Pm n j b r a → r.length = q.Rw n j ∧ Beg (q.R n) r := fun n j b r a w => by
  obtain ⟨M, h1, h2⟩ := PI.g.p0 _ _ _ _ _ w
  have h3 := (PI.g.ok _ _ h1).2.2.1 j h2
  obtain ⟨i, rfl⟩ : ∃ i : Nat, j = i := ⟨j.toNat, by omega⟩
  exact (QI.hands i (by omega)).pm n b r a w
/-- what was decided of a list's row: a beginning of it, all that was taken in it -/
theorem QInv.dec {n : Int} {v : Val} (h : G.cfg (n + 1) = some v) (h0 : 0 ≤ n) : Beg (q.R n) v.2 ∧ ∀ t, Sup G q n t → t ≤ v.2.length := by
  obtain ⟨b, W, M, hM, wl, wnd, hW⟩ := PI.g.dec _ _ h (by omega)
  rw [show n + 1 - 1 = n by omega] at hM hW
  obtain ⟨w, hw⟩ := List.exists_mem_of_ne_nil W fun z => by rw [z] at wl; unfold enoughN at wl; simp at wl
  exact pr_sup PI.g (QI.pm PI) n _ b rfl v (PI.g.v1 _ _ _ _ (hW w hw).2).1
/-- what a row of list n holds -/
def RowIn (q : QG) (n : Int) (r : List Msg) : Prop := r.Nodup ∧ ∀ x ∈ r, SaidIn q n x
omit PI in
theorem QInv.beg {n : Int} {r : List Msg} (h : Beg (q.R n) r) : RowIn q n r := by
  have hs : r.Sublist (q.R n) := by rw [h]; exact List.take_sublist _ _
  exact ⟨(QI.rq.nd n).sublist hs, fun x hx => QI.rq.said n x (hs.subset hx)⟩
theorem QInv.past {i : Nat} (hi : i < m) {e : Int × List Int × List Msg} (he : e ∈ (f.hand i).past) : RowIn q e.1 e.2.2 ∧ ∃ M, G.cfg (e.1 + 1) = some (M, e.2.2) := by
  obtain ⟨⟨r, h1⟩, _, _, _, M, h5, _⟩ := (PI.hands i hi).past e he
  exact ⟨QI.beg (QI.dec PI h5 (PI.g.ok _ _ h1).1).1, M, h5⟩
/-- what a hand took -/
theorem QInv.took {i : Nat} (hi : i < m) {s : Seat} (hs : (f.hand i).seat = some s) : Beg (q.R s.num) (s.row.take s.took) ∧ RowIn q s.num (s.row.take s.took) ∧ ∀ v, G.cfg (s.num + 1) = some v → s.row.take s.took = v.2.take s.took := by
  have sq := (QI.hands i hi).seat s hs
  obtain ⟨r0, hr0⟩ := ((PI.hands i hi).seat s hs).1.mem
  have hb : Beg (q.R s.num) (s.row.take s.took) := by
    have h1 := sq.row
    unfold Beg at *
    rw [List.length_take, Nat.min_eq_left sq.took.1]
    have h2 : s.row.take s.took = ((q.R s.num).take s.row.length).take s.took := by rw [← h1]
    rw [h2, List.take_take, Nat.min_eq_left sq.took.1]
  refine ⟨hb, QI.beg hb, fun v hv => ?_⟩
  obtain ⟨d1, d2⟩ := QI.dec PI hv (PI.g.ok _ _ hr0).1
  have hle : s.took ≤ v.2.length := by
    rcases sq.took.2 with z | z
    · rw [z]; exact Nat.zero_le _
    · exact d2 _ z
  unfold Beg at hb d1
  rw [List.length_take, Nat.min_eq_left sq.took.1] at hb
  rw [hb, d1, List.take_take, Nat.min_eq_left hle]
end

end
end Fo
namespace Fo
open PySem PySem.Spec PyProof.Rows L2
section
variable {P : Program} {w : World} {K : PySem.W.Frag} {mg : Str → Option Value} {base : Heap}
def QG.say (q : QG) (i : Nat) (x : Int × Str) : QG := { q with S := fun j => if j = i then q.S j ++ [x] else q.S j }
theorem SaidIn.say {q : QG} {i : Nat} {x : Int × Str} {n : Int} {y : Msg} (h : SaidIn q n y) : SaidIn (q.say i x) n y := by
  obtain ⟨h1, j, k, h2, h3, h4⟩ := h
  refine ⟨h1, j, k, h2, h3, ?_⟩
  show (if j = i then q.S j ++ [x] else q.S j)[k]? = _
  split
  · rw [List.getElem?_append_left (List.getElem?_eq_some_iff.mp h4).1]
    exact h4
  · exact h4
theorem SQ.say {G : PG} {q : QG} {i : Nat} {x : Int × Str} {j : Int} {s : Seat} (h : SQ G q j s) : SQ G (q.say i x) j s := ⟨h.row, h.rw, h.lead, h.took, h.hold⟩
theorem HQ.say {G : PG} {q : QG} {i : Nat} {x : Int × Str} {j : Int} {h : Hnd} (p : HQ G q j h) : HQ G (q.say i x) j h := ⟨fun s hs => (p.seat s hs).say, p.rw, p.ld, p.pm⟩
theorem RQ.say {G : PG} {q : QG} {i : Nat} {x : Int × Str} (h : RQ G q) : RQ G (q.say i x) := ⟨h.nd, fun n y hy => (h.said n y hy).say, h.none, h.le⟩
theorem LQ.say {G : PG} {q : QG} {i : Nat} {x : Int × Str} {l : Ltr} (h : LQ G q l) : LQ G (q.say i x) l := by
  unfold LQ at *
  cases ht : l.told with
  | wish y => rw [ht] at h; exact ⟨h.1.say, h.2⟩
  | hold y pl => rw [ht] at h; exact h
  | have_ c => rw [ht] at h; exact h
  | take t => rw [ht] at h; exact h
  | _ => trivial
theorem HQ.but {G : PG} {q : QG} {i : Int} {h h' : Hnd} (p : HQ G q i h) (e1 : h'.seat = h.seat) (e2 : h'.past = h.past) : HQ G q i h' := by
  have lf : ∀ n, Left h n ↔ Left h' n := fun n => by unfold Left; rw [e2]
  refine ⟨by rw [e1]; exact p.seat, fun n => ?_, fun n M hM hd => ?_, p.pm⟩
  · rw [e1]; exact (p.rw n).imp (fun z => z) fun z => z.imp (lf n).mp fun w => w
  · rw [e1]; exact (p.ld n M hM hd).imp (fun z => z) fun z => z.imp (lf n).mp fun w => w
theorem pressGo_at {i : Nat} {s : Seat} {y : Ltr} : ∀ (ms : List Msg) (p : Nat), y ∈ pressGo i s p ms → ∃ (z : Int) (k : Nat) (x : Msg), ms[k]? = some x ∧ y = ⟨i, z.toNat, s.num, .hold x (p + k)⟩
  | [], _, h => nomatch h
  | x :: r, p, h => by
    rcases List.mem_append.mp (show y ∈ mail i s (s.others i) (.hold x p) ++ pressGo i s (p + 1) r from h) with w | w
    · obtain ⟨z, _, rfl⟩ := mail_mem w
      exact ⟨z, 0, x, rfl, rfl⟩
    · obtain ⟨z, k, x', h1, rfl⟩ := pressGo_at r (p + 1) w
      refine ⟨z, k + 1, x', h1, ?_⟩
      rw [show p + 1 + k = p + (k + 1) by omega]
section
variable {m : Nat} {first : List Int} {G : PG} {q : QG} {f : Flk} (PI : PInv m first G f) (QI : QInv m G q f) (hl : f.hands.length = m)
include QI hl
/-- a deed of hand i -/
theorem QInv.deed {q' : QG} {i : Nat} (hi : i < m) {h : Hnd} {ls out : List Ltr} (hR : RQ G q') (hh : ∀ j h', HQ G q j h' → HQ G q' j h') (hq : HQ G q' i h) (hL : ∀ y, LQ G q y → LQ G q' y) (ho : ∀ y ∈ out, LQ G q' y) (hls : ∀ y ∈ ls, y ∈ f.post ∨ y ∈ out) (hs : h.said = (q'.S i).length) (hs2 : ∀ j, j ≠ i → q'.S j = q.S j) : QInv m G q' ⟨f.hands.set i h, ls⟩ := by
  refine ⟨hR, fun j hj => ?_, fun y hy => (hls y hy).elim (fun w => hL y (QI.post y w)) (ho y), fun j hj => ?_⟩
  · rw [hand_set (by omega)]
    split
    · rename_i e
      rw [e]
      exact hq
    · exact hh j _ (QI.hands j hj)
  · rw [hand_set (by omega)]
    split
    · rename_i e
      rw [e]
      exact hs
    · rename_i e
      rw [hs2 j e]
      exact QI.said j hj
theorem QInv.fall {i : Nat} (hi : i < m) : QInv m G q (f.setHand i (f.hand i).down) :=
  QI.deed hl hi (h := (f.hand i).down) (out := []) QI.rq (fun _ _ h => h) ((QI.hands i hi).but rfl rfl) (fun _ h => h) (fun _ h => nomatch h) (fun y hy => .inl hy) (QI.said i hi) fun _ _ => rfl
include PI in
theorem QInv.say {x : V} {p : Nat × Seat} {word : Str} (h : f.acts x = .ok p) (ok : PyData.strOk word = true) : QInv m G (q.say p.1 (p.2.num, word)) (f.deed p.1 ((f.hand p.1).say p.1 p.2 word)) := by
  obtain ⟨_, hi, _, hs⟩ := acts_ok h
  have hi : p.1 < m := by omega
  obtain ⟨sp, _⟩ := (PI.hands p.1 hi).seat _ hs
  obtain ⟨r0, hr0⟩ := sp.mem
  have hsd := QI.said p.1 hi
  have S1 : (q.say p.1 (p.2.num, word)).S p.1 = q.S p.1 ++ [(p.2.num, word)] := if_pos rfl
  refine QI.deed hl hi (h := ((f.hand p.1).say p.1 p.2 word).1) (out := ((f.hand p.1).say p.1 p.2 word).2) QI.rq.say (fun _ _ h => h.say) (HQ.but (h' := ((f.hand p.1).say p.1 p.2 word).1) (QI.hands p.1 hi) rfl rfl).say (fun _ h => h.say) (fun y hy => ?_) (fun y hy => List.mem_append.mp hy) ?_ fun j e => if_neg e
  · rw [List.mem_singleton.mp hy]
    refine ⟨⟨ok, p.1, (f.hand p.1).said, rfl, rfl, ?_⟩, _, hr0, ?_⟩
    · rw [S1, hsd, List.getElem?_append_right (Nat.le_refl _), Nat.sub_self]
      rfl
    · have h1 := (PI.g.ok _ _ hr0).2.2.1
      have h2 : 0 ≤ p.2.lead := by
        unfold Seat.lead
        cases hz : p.2.mem with
        | nil => exact Int.le_refl _
        | cons y r => exact (h1 y (by show y ∈ p.2.mem; rw [hz]; exact List.mem_cons_self)).1
      show p.2.lead = ((p.2.lead.toNat : Nat) : Int)
      omega
  · rw [S1, List.length_append, ← hsd]
    rfl
include PI in
theorem QInv.press {x : V} {p : Nat × Seat} (h : f.acts x = .ok p) (hld : p.2.lead = (p.1 : Int)) : QInv m G q (f.deed p.1 (f.hand p.1, p.2.press p.1)) := by
  obtain ⟨_, hi, _, hs⟩ := acts_ok h
  have hi : p.1 < m := by omega
  obtain ⟨sp, _⟩ := (PI.hands p.1 hi).seat _ hs
  obtain ⟨r0, hr0⟩ := sp.mem
  have sq := (QI.hands p.1 hi).seat _ hs
  have ok := PI.g.ok _ _ hr0
  refine QI.deed hl hi (h := f.hand p.1) (out := p.2.press p.1) QI.rq (fun _ _ h => h) (QI.hands p.1 hi) (fun _ h => h) (fun y hy => ?_) (fun y hy => List.mem_append.mp hy) (QI.said p.1 hi) fun _ _ => rfl
  rcases List.mem_append.mp (show y ∈ pressGo p.1 p.2 0 p.2.row ++ mail p.1 p.2 (p.2.others p.1) (.take p.2.took) from hy) with w | w
  · obtain ⟨z, k, x', h1, rfl⟩ := pressGo_at _ _ w
    refine ⟨?_, _, hr0, hld⟩
    show (q.R p.2.num)[0 + k]? = some x'
    rw [Nat.zero_add, sq.row.get (List.getElem?_eq_some_iff.mp h1).1]
    exact h1
  · obtain ⟨t1, t2, _⟩ := mail_told w
    unfold LQ
    rw [t1, t2]
    rcases sq.took.2 with z | z
    · rw [z]
      refine ⟨p.2.mem.take (enoughN p.2.mem.length), _, hr0, ((ok.2.2.2.imp fun h => by omega : p.2.mem.Nodup)).sublist (List.take_sublist _ _), ?_, fun w hw => ⟨List.mem_of_mem_take hw, Nat.zero_le _⟩⟩
      rw [List.length_take]
      have : 0 < p.2.mem.length := List.length_pos_iff.mpr ok.2.1
      unfold enoughN
      show min (p.2.mem.length / 2 + 1) p.2.mem.length = p.2.mem.length / 2 + 1
      omega
    · exact z
theorem QInv.propose {x : V} {p : Nat × Seat} {ms : List Int} (h : f.acts x = .ok p) : QInv m G q (f.deed p.1 ({ f.hand p.1 with seat := some (p.2.propose p.1 ms).1 }, (p.2.propose p.1 ms).2)) := by
  obtain ⟨_, hi, _, hs⟩ := acts_ok h
  have hi : p.1 < m := by omega
  have pq := QI.hands p.1 hi
  have sq := pq.seat _ hs
  refine QI.deed hl hi (h := { f.hand p.1 with seat := some (p.2.propose p.1 ms).1 }) (out := (p.2.propose p.1 ms).2) QI.rq (fun _ _ h => h) (pq.sit hs rfl ⟨sq.row, sq.rw, sq.lead, sq.took, sq.hold⟩ (fun _ _ => rfl) (fun _ _ => rfl) fun b r a w => pq.pm _ b r a w) (fun _ h => h) (fun y hy => ?_) (fun y hy => List.mem_append.mp hy) (QI.said p.1 hi) fun _ _ => rfl
  have hy' : y ∈ mail p.1 p.2 p.2.mem (.prepare ((match p.2.off with | some o => max p.2.bal.1 o.bal.1 | none => p.2.bal.1) + 1, (p.1 : Int))) := hy
  exact lq_plain (.inr (.inr (.inr (.inr ⟨_, (mail_told hy').1⟩))))
omit hl in
theorem QInv.show {p : Nat × Seat} {o : Nat} {n : News} : QInv m G q ⟨f.hands, f.post ++ [⟨p.1, o, p.2.num, .enter n⟩]⟩ :=
  ⟨QI.rq, QI.hands, fun y hy => (List.mem_append.mp hy).elim (QI.post y) fun w => by rw [List.mem_singleton.mp w]; exact lq_plain (.inr (.inr (.inr (.inl ⟨_, rfl⟩)))), QI.said⟩
omit hl in
theorem QInv.lose (p : Nat) : QInv m G q (f.lose p) := ⟨QI.rq, QI.hands, fun y hy => QI.post y (List.mem_of_mem_eraseIdx hy), QI.said⟩
omit hl in
theorem QInv.double (p : Nat) : QInv m G q (f.double p) := by
  unfold Flk.double
  cases hp : f.post[p]? with
  | none => exact QI
  | some l => exact ⟨QI.rq, QI.hands, fun y hy => (List.mem_append.mp hy).elim (QI.post y) fun w => by rw [List.mem_singleton.mp w]; exact QI.post l (List.mem_of_getElem? hp), QI.said⟩
end
def Q0 : QG := ⟨fun _ => [], fun _ _ => 0, fun _ => []⟩
theorem QInv.new {m : Nat} {ms : List Int} : QInv m (G0 ms) Q0 (Flk.new m ms) := by
  refine ⟨⟨fun _ => List.Pairwise.nil, fun _ _ h => (nomatch h), fun _ _ => rfl, fun _ _ => Nat.zero_le _⟩, fun i hi => ?_, (fun _ h => nomatch h), fun i hi => ?_⟩
  all_goals
    have e : (Flk.new m ms).hand i = if (i : Int) ∈ ms then seatedH ms else Hnd.new := by
      show ((seated m ms ms).getD i Hnd.new) = _
      rw [List.getD_eq_getElem?_getD, seated_get ms ms hi]
      rfl
    rw [e]
  · refine ⟨fun s hs => ?_, fun _ => .inl rfl, fun _ _ _ _ => .inl rfl, fun _ _ _ _ h => h.elim⟩
    split at hs
    · have e' : some (Seat.fresh 0 ms none) = some s := hs
      cases e'
      exact ⟨rfl, rfl, fun _ => rfl, ⟨Nat.zero_le _, .inl rfl⟩, fun x hx => by
        obtain ⟨y, _, rfl⟩ := List.mem_map.mp (show x ∈ ms.map fun h => (h, 0) from hx)
        exact Nat.zero_le _⟩
    · exact nomatch (show (none : Option Seat) = some s from hs)
  · split <;> rfl

end
end Fo
namespace Fo
open PySem PySem.Spec PyProof.Rows L2
section
variable {P : Program} {w : World} {K : PySem.W.Frag} {mg : Str → Option Value} {base : Heap}
def X8 : Prm := ⟨fun _ => True, mOk, fun _ h => h⟩
/-- the whole state, behind n deeds -/
structure St8 (m : Nat) (first : List Int) (n : Nat) (G : PG) (f : Flk) : Prop where
  m9 : m ≤ 9
  inv : ∃ B, FInv X8 m B n f ∧ B + wcnt f.post ≤ n
  ws : wsum f.post ≤ 8000 * n
  pi : PInv m first G f
section
variable {m n : Nat} {first : List Int} {G : PG} {f : Flk} (st : St8 m first n G f)
include st
theorem St8.len : f.hands.length = m := by
  obtain ⟨B, F, _⟩ := st.inv
  exact F.len
theorem St8.le {n' : Nat} (h : n ≤ n') : St8 m first n' G f := by
  obtain ⟨B, F, hB⟩ := st.inv
  exact ⟨st.m9, ⟨B, F.mono (Nat.le_refl _) (by omega), by omega⟩, Nat.le_trans st.ws (Nat.mul_le_mul_left _ h), st.pi⟩
theorem St8.plen (hn : n ≤ 90) : wsum f.post ≤ 720000 ∧ f.post.length ≤ 720000 := by
  have h1 := st.ws
  have h2 := wsum_len f.post
  exact ⟨by omega, by omega⟩
theorem St8.comeOk (hn : n ≤ 90) (p : Nat) : ComeOk f p := by
  obtain ⟨B, F, hB⟩ := st.inv
  have hw := st.ws
  exact come_ok st.m9 (by omega) (by omega) (by omega) F
theorem St8.sok (hn : n ≤ 90) {x : V} {p : Nat × Seat} (h : f.acts x = .ok p) : SOk p.1 p.2 := by
  obtain ⟨B, F, hB⟩ := st.inv
  obtain ⟨_, hi, _, hs⟩ := acts_ok h
  exact sok_of st.m9 (by omega) ((F.hands p.1 (by rw [← F.len]; exact hi)).seat _ hs).1
theorem St8.come {p : Nat} {l : Ltr} (hp : f.post[p]? = some l) : ∃ G', PG.Leq G G' ∧ St8 m first n G' (f.come p) := by
  obtain ⟨B, F, hB⟩ := st.inv
  obtain ⟨F1, w1, w2⟩ := come_inv st.m9 F hp
  obtain ⟨G', L, P1⟩ := st.pi.come F hp
  exact ⟨G', L, st.m9, ⟨_, F1, by omega⟩, by have := st.ws; omega, P1⟩
theorem St8.say {x : V} {p : Nat × Seat} {word : Str} (h : f.acts x = .ok p) (ok : PyData.strOk word = true) : St8 m first (n + 1) G (f.deed p.1 ((f.hand p.1).say p.1 p.2 word)) := by
  obtain ⟨B, F, hB⟩ := st.inv
  obtain ⟨F1, w1, w2⟩ := say_inv F h (show X8.Z ⟨p.1, (f.hand p.1).said, word⟩ from ok)
  have P1 := st.pi.say F.len (word := word) h
  have := st.ws
  exact ⟨st.m9, ⟨B, F1.mono (Nat.le_refl _) (by omega), by omega⟩, by omega, P1⟩
theorem St8.press (hn : n ≤ 90) {x : V} {p : Nat × Seat} (h : f.acts x = .ok p) : St8 m first (n + 1) G (f.deed p.1 (f.hand p.1, p.2.press p.1)) := by
  obtain ⟨B, F, hB⟩ := st.inv
  obtain ⟨F1, w1, w2⟩ := press_inv st.m9 F h
  have P1 := st.pi.press F.len h
  have := st.ws
  exact ⟨st.m9, ⟨B, F1.mono (Nat.le_refl _) (by omega), by omega⟩, by omega, P1⟩
theorem St8.propose {x : V} {p : Nat × Seat} {ms : List Int} (h : f.acts x = .ok p) (ne : ms ≠ []) (rg : ∀ x ∈ ms, 0 ≤ x ∧ x < (m : Int)) (up : ms.Pairwise (· < ·)) : St8 m first (n + 1) G (f.deed p.1 ({ f.hand p.1 with seat := some (p.2.propose p.1 ms).1 }, (p.2.propose p.1 ms).2)) := by
  obtain ⟨B, F, hB⟩ := st.inv
  obtain ⟨F1, w1, w2⟩ := propose_inv F h (ms := ms) ⟨trivial, ne, rg, up⟩
  have P1 := st.pi.propose F.len (ms := ms) h
  have h9 := st.m9
  have h1 := st.ws
  generalize f.deed p.1 ({ f.hand p.1 with seat := some (p.2.propose p.1 ms).1 }, (p.2.propose p.1 ms).2) = f1 at *
  exact ⟨h9, ⟨B, F1.mono (Nat.le_refl _) (by omega), by omega⟩, by omega, P1⟩
theorem St8.show {x : V} {p : Nat × Seat} {o : Nat} {nw : News} (h : f.acts x = .ok p) (ho : o < m) (hn : p.2.news = some nw) : St8 m first (n + 1) G ⟨f.hands, f.post ++ [⟨p.1, o, p.2.num, .enter nw⟩]⟩ := by
  obtain ⟨B, F, hB⟩ := st.inv
  obtain ⟨F1, w1, w2⟩ := show_inv F h ho hn
  have P1 := st.pi.show F.len (o := o) h hn
  have h1 := st.ws
  refine ⟨st.m9, ⟨B, F1.mono (Nat.le_refl _) (by omega), ?_⟩, ?_, P1⟩
  · show B + wcnt (f.post ++ [_]) ≤ _
    omega
  · show wsum (f.post ++ [_]) ≤ _
    omega
theorem St8.fall {i : Nat} (hi : i < m) : St8 m first n G (f.setHand i (f.hand i).down) := by
  obtain ⟨B, F, hB⟩ := st.inv
  exact ⟨st.m9, ⟨B, fall_inv F hi, hB⟩, st.ws, st.pi.fall F.len hi⟩
theorem St8.lose {p : Nat} (hp : p < f.post.length) : St8 m first n G (f.lose p) := by
  obtain ⟨B, F, hB⟩ := st.inv
  obtain ⟨F1, w1, w2⟩ := lose_inv F (List.getElem?_eq_getElem hp)
  exact ⟨st.m9, ⟨B, F1, by omega⟩, by have := st.ws; omega, st.pi.lose p⟩
theorem St8.double {p : Nat} (hp : p < f.post.length) : St8 m first (n + 1) G (f.double p) := by
  obtain ⟨B, F, hB⟩ := st.inv
  obtain ⟨F1, w1, w2⟩ := double_inv F (List.getElem?_eq_getElem hp)
  exact ⟨st.m9, ⟨B, F1.mono (Nat.le_refl _) (by omega), by omega⟩, by have := st.ws; omega, st.pi.double p⟩
theorem St8.runs (hn : n ≤ 90) : ∃ k, f.runs k := by
  obtain ⟨B, F, hB⟩ := st.inv
  have hw := st.ws
  obtain ⟨k, h1, _⟩ := runs_of st.m9 (by omega) (wsum f.post) B f (Nat.le_refl _) F (by omega) (by omega)
  exact ⟨k, h1⟩
end
theorem St8.cames {m n : Nat} {first : List Int} : ∀ (k : Nat) (G : PG) (f : Flk), St8 m first n G f → f.runs k → ∃ G', PG.Leq G G' ∧ St8 m first n G' (f.cames k)
  | 0, G, f, st, _ => ⟨G, PG.Leq.refl G, st⟩
  | k + 1, G, f, st, ⟨h1, _, h3⟩ => by
    cases hp : f.post with
    | nil => exact absurd hp h1
    | cons l r =>
      have hp0 : f.post[0]? = some l := by rw [hp]; rfl
      obtain ⟨G1, L1, st1⟩ := st.come hp0
      obtain ⟨G2, L2, st2⟩ := St8.cames k G1 _ st1 h3
      exact ⟨G2, L1.trans L2, st2⟩
theorem St8.new {m : Nat} {ms : List Int} (hm : m ≤ 9) (ne : ms ≠ []) (rg : ∀ x ∈ ms, 0 ≤ x ∧ x < (m : Int)) (up : ms.Pairwise (· < ·)) : St8 m ms 0 (G0 ms) (Flk.new m ms) :=
  ⟨hm, ⟨0, new_inv ⟨trivial, ne, rg, up⟩, Nat.le_refl _⟩, Nat.zero_le _, PInv.new ne rg up⟩
theorem acts8 {f : Flk} {i : Nat} (hi : i < f.hands.length) : f.acts (.int i) = .error "Fallen" ∨ f.acts (.int i) = .error "Outside" ∨ ∃ s, f.acts (.int i) = .ok (i, s) := by
  unfold Flk.acts
  rw [who_in hi]
  dsimp only
  split
  · exact .inl rfl
  · cases (f.hand i).seat with
    | none => exact .inr (.inl rfl)
    | some s => exact .inr (.inr ⟨s, rfl⟩)
theorem place_in8 {f : Flk} {p : Nat} (hp : p < f.post.length) : f.place (.int p) = .ok p := by
  unfold Flk.place
  have e : isHandB (.int p) (f.post.length : Nat) = true := by
    show (decide ((0 : Int) ≤ p) && decide ((p : Int) < ((f.post.length : Nat) : Int))) = true
    rw [decide_eq_true (by omega), decide_eq_true (by omega)]
    rfl
  rw [if_pos e]
  rfl

end
end Fo
namespace Fo
open PySem PySem.Spec PyProof.Rows L2
section
variable {P : Program} {w : World} {K : PySem.W.Frag} {mg : Str → Option Value} {base : Heap}
def spDraw (K : PySem.W.Frag) : Sp := fun vs H Q _ => ∃ (a : Addr) (ns : List Int) (k : Nat), vs = [.ref a, .int k] ∧ SqL K H a (ns.map V.int) ∧ Q (.int (ns.getD k 0)) H
theorem sc__law_draw : FnScope ["_law_script", "_law_k"] ["_law_script", "_law_k"] (defScope s__law_draw) := ⟨rfl, rfl, rfl, by decide +kernel, rfl, by decide +kernel, by decide +kernel⟩
set_option maxRecDepth 100000 in
theorem ok__law_draw (T : Txt K mg) : OkF P w K mg base CX0 1 (He.ga K "_law_draw") ["_law_script", "_law_k"] (spDraw K) := by
  obtain ⟨fd, F⟩ := T.F__law_draw
  refine ⟨fd, F.ok sc__law_draw (fun vs H Q E h => ?_) (fun cdv A outer s H vs Q E hr h => ?_), F.bindsN fun _ _ _ _ _ _ us hl => match us, hl with | [_, _], _ => rfl, F.kp⟩
  · obtain ⟨_, _, _, rfl, _⟩ := h
    rfl
  · refine ⟨_, PSs.nox (pss_one (ps_ret (pe_ifExp (pt_cmpR op_gt (pe_callB call_len_seq (by rfl) T.b_len PySem.boot_len (pa_cons (pv 0) pa_nil)) (pv 1) (nomark _)) (pe_ix ix_list (pv 0) (pv 1) (fun _ _ => rfl)) pe_int))), ?_⟩
    obtain ⟨a, ns, k, rfl, hL, q⟩ := h
    refine ⟨_, rfl, a, _, rfl, .inl hL, _, rfl, _, _, rfl, rfl, _, rfl, ite2 (fun hc => ?_) (fun hc => ?_)⟩
    · have hk : k < ns.length := by
        have := of_decide_eq_true hc
        rw [List.length_map] at this
        omega
      have e : ns[k]? = some (ns.getD k 0) := by rw [List.getD_eq_getElem?_getD, List.getElem?_eq_getElem hk]; rfl
      exact ⟨_, rfl, _, rfl, a, _, _, _, rfl, rfl, hL, atI_nat (j := k) (by rw [List.getElem?_map, e]; rfl), q⟩
    · have hk : ns.length ≤ k := by
        by_cases h : ns.length ≤ k
        · exact h
        · exact absurd (decide_eq_true (by rw [List.length_map]; omega)) hc
      have e : ns.getD k 0 = 0 := by rw [List.getD_eq_getElem?_getD, List.getElem?_eq_none hk]; rfl
      rw [e] at q
      exact q
/-- the hands whose bit is set -/
def handsGo : Nat → Int → Int → List Int
  | 0, _, _ => []
  | n + 1, i, b => (if b % 2 = 1 then [i] else []) ++ handsGo n (i + 1) (b / 2)
def handsOf (b m : Int) : List Int := handsGo m.toNat 0 b
theorem handsGo_mem : ∀ (n : Nat) (i b : Int) {x : Int}, x ∈ handsGo n i b → i ≤ x ∧ x < i + n
  | 0, _, _, _, h => by cases h
  | n + 1, i, b, x, h => by
    unfold handsGo at h
    rcases List.mem_append.mp h with h | h
    · split at h
      · rw [List.mem_singleton] at h
        omega
      · cases h
    · have := handsGo_mem n (i + 1) (b / 2) h
      omega
theorem handsGo_sorted : ∀ (n : Nat) (i b : Int), (handsGo n i b).Pairwise (· < ·)
  | 0, _, _ => List.Pairwise.nil
  | n + 1, i, b => by
    unfold handsGo
    refine List.pairwise_append.mpr ⟨?_, handsGo_sorted n _ _, ?_⟩
    · split
      · exact List.pairwise_singleton _ _
      · exact List.Pairwise.nil
    · intro x hx y hy
      have h2 := handsGo_mem n _ _ hy
      split at hx
      · rw [List.mem_singleton] at hx
        omega
      · cases hx
theorem handsGo_len : ∀ (n : Nat) (i b : Int), (handsGo n i b).length ≤ n
  | 0, _, _ => Nat.le_refl _
  | n + 1, i, b => by
    unfold handsGo
    have := handsGo_len n (i + 1) (b / 2)
    rw [List.length_append]
    split <;> simp <;> omega
def spHands : Sp := fun vs H Q _ => ∃ (b m : Int), vs = [.int b, .int m] ∧ m ≤ 1000 ∧ 0 ≤ m ∧ ∀ p H', H p = none → Same H H' → H' p = some (.lst ((handsOf b m).map V.int)) → Q (.ref p) H'
theorem sc__law_hands : FnScope ["_law_bits", "_law_many", "_law_found", "_law_hand"] ["_law_bits", "_law_many"] (defScope s__law_hands) := ⟨rfl, rfl, rfl, by decide +kernel, rfl, by decide +kernel, by decide +kernel⟩
set_option maxRecDepth 100000 in
theorem ok__law_hands (T : Txt K mg) : OkF P w K mg base CX0 1 (He.ga K "_law_hands") ["_law_bits", "_law_many"] (spHands) := by
  obtain ⟨fd, F⟩ := T.F__law_hands
  refine ⟨fd, F.ok sc__law_hands (fun vs H Q E h => ?_) (fun cdv A outer s H vs Q E hr h => ?_), F.bindsN fun _ _ _ _ _ _ us hl => match us, hl with | [_, _], _ => rfl, F.kp⟩
  · obtain ⟨_, _, rfl, _⟩ := h
    rfl
  · refine ⟨_, PSs.nox (pss_cons (ps_set (i := 2) sc__law_hands.nd rfl (Or.inl rfl) (pe_lst pa_nil)) (pss_cons (ps_for PassesOwn.never rfl (pi_range1 rfl T.b_range (pa_cons (pv 1) pa_nil)) (pg_name (i := 3) sc__law_hands.nd rfl (Or.inl rfl)) (pss_cons (ps_if (pt_cmpR op_eq (pe_op op_mod (pv 0) pe_int) pe_int (nomark _)) (pss_one (ps_expr (pe_bm PySem.F.plainAttrs_list PySem.F.slot_list_append PySem.F.type_list_append mt_append (pv 2) (pa_cons (pv 3) pa_nil)))) pss_nil) (pss_one (ps_set (i := 0) sc__law_hands.nd rfl (Or.inl rfl) (pe_op op_fdiv (pv 0) pe_int))))) (pss_one (ps_ret (pv 2))))), ?_⟩
    obtain ⟨b, m, rfl, hm, hm0, k⟩ := h
    refine ⟨Nat.zero_le _, fun p hp => ?_⟩
    refine ⟨_, rfl, m, rfl, by omega, by omega, for_range (lo := 0) (n := m.toNat) (fun i σ H' => ∃ acc b' hv, σ = [some (.int b'), some (.int m), some (.ref p), hv] ∧ H' = upd H p (.lst (acc.map V.int)) ∧ handsOf b m = acc ++ handsGo (m.toNat - i) i b' ∧ acc.length ≤ i)
      ⟨[], b, none, rfl, rfl, rfl, Nat.le_refl _⟩ ?_ ?_⟩
    · rintro i σ H' hi ⟨acc, b', hv, rfl, rfl, e, hl⟩
      have e1 : handsGo (m.toNat - i) i b' = (if b' % 2 = 1 then [(i : Int)] else []) ++ handsGo (m.toNat - (i + 1)) ((i : Int) + 1) (b' / 2) := by
        have e2 : m.toNat - i = (m.toNat - (i + 1)) + 1 := by omega
        rw [e2]
        rfl
      rw [e1] at e
      refine ⟨_, rfl, b', 2, rfl, rfl, (by show (0 : Int) < 2; decide), rfl, _, rfl, iteI (fun hb => ?_) (fun hb => ?_)⟩
      · rw [if_pos hb] at e
        refine ⟨_, rfl, .inl ⟨rfl, _, SqL.of upd_same⟩, _, rfl, p, _, _, rfl, rfl, upd_same, by rw [List.length_map]; exact small1000 (by omega), ?_⟩
        refine ⟨_, rfl, _, _, rfl, rfl, ⟨by decide, by decide⟩, ?_⟩
        rw [upd_upd]
        have ei : (0 : Int) + (i : Int) = i := by omega
        refine ⟨acc ++ [(i : Int)], b' / 2, _, rfl, by rw [List.map_append, ei]; rfl, ?_, by rw [List.length_append]; simp; omega⟩
        rw [e, List.append_assoc]
        rfl
      · rw [if_neg hb] at e
        refine ⟨_, rfl, _, _, rfl, rfl, ⟨by decide, by decide⟩, ?_⟩
        exact ⟨acc, b' / 2, _, rfl, rfl, e, by omega⟩
    · rintro σ H' ⟨acc, b', hv, rfl, rfl, e, hl⟩
      have e1 : handsOf b m = acc := by
        rw [e, Nat.sub_self]
        exact List.append_nil _
      exact ⟨_, rfl, k p _ hp (upd_ext hp) (by rw [upd_same, e1])⟩
def spIsNumber (K : PySem.W.Frag) : Sp := fun vs H Q _ => ∃ x, vs = [x] ∧ Thg K H x ∧ Q (.bl (isInt x)) H

end
end Fo
namespace Fo
open PySem PySem.Spec PyProof.Rows L2
section
variable {P : Program} {w : World} {K : PySem.W.Frag} {mg : Str → Option Value} {base : Heap}
/-- a state that comes keep -/
structure ComeS (S : Flk → Prop) : Prop where
  come : ∀ f p l, S f → f.post[p]? = some l → S (f.come p)
  ok : ∀ f p, S f → ComeOk f p
  len : ∀ f, S f → f.post.length ≤ 800000
theorem St8.comeS {m n : Nat} {first : List Int} (G : PG) (hn : n ≤ 90) : ComeS fun f => ∃ G', PG.Leq G G' ∧ St8 m first n G' f :=
  ⟨fun f p l ⟨G1, L1, s1⟩ hp => by
    obtain ⟨G2, L2, s2⟩ := s1.come hp
    exact ⟨G2, L1.trans L2, s2⟩, fun f p ⟨G1, L1, s1⟩ => s1.comeOk hn p, fun f ⟨G1, L1, s1⟩ => by
    have := (s1.plen hn).2
    omega⟩
def spSome8 (K : PySem.W.Frag) : Sp := fun vs H Q _ => ∃ (g : Gh) (fa : Addr) (f : Flk) (L : FL) (more : Int) (S : Flk → Prop), vs = [.ref fa, .int more] ∧ FolkR K g H fa f L ∧ ComeS S ∧ S f ∧
  ∀ g' H' f' L', Go TA g H g' H' → FolkR K g' H' fa f' L' → S f' → Q .non H'
theorem sc__law_some_come : FnScope ["_law_folk", "_law_more", "_law_k", "_law_count"] ["_law_folk", "_law_more"] (defScope s__law_some_come) := ⟨rfl, rfl, rfl, by decide +kernel, rfl, by decide +kernel, by decide +kernel⟩
set_option maxRecDepth 100000 in
theorem ok__law_some_come (T : Txt K mg) : OkF P w K mg base CX0 11 (He.ga K "_law_some_come") ["_law_folk", "_law_more"] (spSome8 K) := by
  obtain ⟨fd, F⟩ := T.F__law_some_come
  obtain ⟨fd_Folk_letters, G_Folk_letters⟩ := ok_Folk_letters (P := P) (w := w) (base := base) T
  obtain ⟨fd_Folk_come, G_Folk_come⟩ := ok_Folk_come (P := P) (w := w) (base := base) T
  refine ⟨fd, F.ok sc__law_some_come (fun vs H Q E h => ?_) (fun cdv A outer s H vs Q E hr h => ?_), F.bindsN fun _ _ _ _ _ _ us hl => match us, hl with | [_, _], _ => rfl, F.kp⟩
  · obtain ⟨_, _, _, _, _, _, rfl, _⟩ := h
    rfl
  · refine ⟨_, PSs.nox (pss_one (ps_for PassesOwn.never rfl (pi_range1 rfl T.b_range (pa_cons (pe_op op_add pe_int (pe_op op_mod (pv 1) pe_int)) pa_nil)) (pg_name (i := 2) sc__law_some_come.nd rfl (Or.inl rfl)) (pss_cons (ps_set (i := 3) sc__law_some_come.nd rfl (Or.inl rfl) (pe_callB call_len_seq (by rfl) T.b_len PySem.boot_len (pa_cons (pe_meth0 (pv 0) T.cl_Folk T.me_Folk_letters G_Folk_letters.1 (hr.mono (by decide)) G_Folk_letters.2.1 .nil pass0) pa_nil))) (pss_one (ps_if (pt_cmpR op_gt (pv 3) pe_int (nomark _)) (pss_one (ps_expr (pe_meth (pv 0) T.cl_Folk T.me_Folk_come G_Folk_come.1 (hr.mono (by decide)) G_Folk_come.2.1 .nil (passX takes0 fun _ _ _ _ h => h) (pa_cons (pe_op op_mod (pe_ix ix_list (pe_lst (pa_cons pe_int (pa_cons pe_int (pa_cons (pe_op op_fdiv (pv 1) pe_int) (pa_cons (pe_op op_add (pe_op op_mul (pe_op op_fdiv (pv 1) pe_int) (pe_op op_add (pv 2) pe_int)) (pv 2)) pa_nil))))) (pe_op op_mod (pe_op op_fdiv (pv 1) pe_int) pe_int) (fun _ _ => rfl)) (pv 3)) pa_nil)))) pss_nil))))), ?_⟩
    obtain ⟨g, fa, f, L, more, S, rfl, r, cs, st, q⟩ := h
    have c0 := Int.emod_nonneg more (show (12 : Int) ≠ 0 by decide)
    have c1 := Int.emod_lt_of_pos more (show (0 : Int) < 12 by decide)
    refine ⟨_, rfl, _, _, rfl, rfl, (by show (0 : Int) < 12; decide), _, _, rfl, rfl, _, rfl, by omega, by omega, for_range (lo := 0) (n := (1 + more % 12).toNat) (fun i σ H' => ∃ g' f' L' kv cv, σ = [some (.ref fa), some (.int more), kv, cv] ∧ Go TA g H g' H' ∧ FolkR K g' H' fa f' L' ∧ S f') ⟨g, f, L, none, none, rfl, Go.refl r.ok, r, st⟩ ?_ ?_⟩
    · rintro i σ H1 hi ⟨g1, f1, L1, kv, cv, rfl, e1, r1, st1⟩
      have ro1 := r1.ok.sub _ _ r1.obj
      have hl1 := cs.len f1 st1
      refine ⟨_, rfl, _, _, _, rfl, ro1, zn (by decide +kernel), g1, fa, f1, L1, rfl, r1, by omega, fun l xs H2 hl e2 hxs px => ?_⟩
      have r2 := r1.ext e2
      have ro2 := r2.ok.sub _ _ r2.obj
      have g2 : Go TA g1 H1 g1 H2 := Go.ext r1.ok e2
      have hlx := paired_len px
      refine ⟨l, xs, rfl, .inl (SqL.of hxs), _, rfl, _, _, rfl, rfl, _, rfl, iteD (fun hc => ?_) (fun hc => ?_)⟩
      · have hpos : 0 < f1.post.length := by omega
        obtain ⟨q3, hq3, hqe⟩ : ∃ q3 : Nat, q3 < 4 ∧ more / 3 % 4 = (q3 : Nat) := by
          have a1 := Int.emod_nonneg (more / 3) (show (4 : Int) ≠ 0 by decide)
          have a2 := Int.emod_lt_of_pos (more / 3) (show (0 : Int) < 4 by decide)
          exact ⟨(more / 3 % 4).toNat, by omega, by omega⟩
        refine ⟨_, rfl, _, _, _, rfl, ro2, zn (by decide +kernel), _, rfl, _, _, rfl, rfl, ⟨by decide, by decide⟩, _, rfl, _, _, rfl, rfl, ⟨by decide, by decide⟩, _, rfl, _, _, rfl, rfl, _, _, rfl, rfl, .inr (by constructor <;> first | omega | (dsimp only; omega)), _, rfl, _, _, rfl, rfl, (by show 4 ≤ sizeLine; decide), fun li hli => ?_⟩
        obtain ⟨z, hz⟩ : ∃ z : Int, [V.int 0, V.int 0, V.int (more / 12), V.int (more / 12 * (0 + (i : Int) + 1) + (0 + (i : Int)))][q3]? = some (.int z) := by
          match q3, hq3 with
          | 0, _ => exact ⟨_, rfl⟩
          | 1, _ => exact ⟨_, rfl⟩
          | 2, _ => exact ⟨_, rfl⟩
          | 3, _ => exact ⟨_, rfl⟩
        have e3 := same_upd (o := .lst [V.int 0, V.int 0, V.int (more / 12), V.int (more / 12 * (0 + (i : Int) + 1) + (0 + (i : Int)))]) hli
        have r3 := r2.ext e3
        have g3 : Go TA g1 H2 g1 _ := Go.ext r2.ok e3
        obtain ⟨p, hp, hpe⟩ : ∃ p : Nat, p < f1.post.length ∧ z % ((xs.length : Nat) : Int) = (p : Nat) := by
          have a1 := Int.emod_nonneg z (show ((xs.length : Nat) : Int) ≠ 0 by omega)
          have a2 := Int.emod_lt_of_pos z (show (0 : Int) < ((xs.length : Nat) : Int) by omega)
          exact ⟨(z % ((xs.length : Nat) : Int)).toNat, by omega, by omega⟩
        refine ⟨_, rfl, _, _, rfl, rfl, ⟨by decide, by decide⟩, _, _, rfl, rfl, (by show (0 : Int) < 4; decide), li, _, _, .int z, rfl, rfl, SqL.of upd_same, ?_, _, rfl, _, _, rfl, rfl, (by show (0 : Int) < ((xs.length : Nat) : Int); omega), ?_⟩
        · first
          | (rw [hqe]; exact atI_nat hz)
          | (dsimp only; rw [hqe]; exact atI_nat hz)
        first
        | rw [hpe]
        | (dsimp only; rw [hpe])
        refine ⟨g1, fa, f1, L1, _, rfl, r3, thg_int, ?_⟩
        rw [place_in8 hp]
        exact ⟨cs.ok f1 p st1, fun g4 H4 L4 e4 r4 => ⟨g4, _, L4, _, _, rfl, ((e1.trans g2).trans g3).trans e4, r4, cs.come f1 p _ st1 (List.getElem?_eq_getElem hp)⟩⟩
      · exact ⟨g1, f1, L1, _, _, rfl, e1.trans g2, r2, st1⟩
    · rintro σ H1 ⟨g1, f1, L1, kv, cv, rfl, e1, r1, st1⟩
      exact q g1 H1 f1 L1 e1 r1 st1
def spAway8 (K : PySem.W.Frag) : Sp := fun vs H Q _ => ∃ (b : Int) (m : Nat), vs = [.int b, .int m] ∧ m ≤ 9 ∧ ∀ (p : Addr) (ns : List Int) (H' : Hp), H p = none → Same H H' → H' p = some (.lst (ns.map V.int)) → Q (.ref p) H'
theorem sc__law_away : FnScope ["_law_number", "_law_many"] ["_law_number", "_law_many"] (defScope s__law_away) := ⟨rfl, rfl, rfl, by decide +kernel, rfl, by decide +kernel, by decide +kernel⟩
set_option maxRecDepth 100000 in
theorem ok__law_away (T : Txt K mg) : OkF P w K mg base CX0 2 (He.ga K "_law_away") ["_law_number", "_law_many"] (spAway8 K) := by
  obtain ⟨fd, F⟩ := T.F__law_away
  obtain ⟨fd__law_hands, G__law_hands⟩ := ok__law_hands (P := P) (w := w) (base := base) T
  refine ⟨fd, F.ok sc__law_away (fun vs H Q E h => ?_) (fun cdv A outer s H vs Q E hr h => ?_), F.bindsN fun _ _ _ _ _ _ us hl => match us, hl with | [_, _], _ => rfl, F.kp⟩
  · obtain ⟨_, _, rfl, _⟩ := h
    rfl
  · refine ⟨_, PSs.nox (pss_cons (ps_if (pt_cmpR op_eq (pe_op op_mod (pv 0) pe_int) pe_int (nomark _)) (pss_one (ps_ret (pe_lst pa_nil))) pss_nil) (pss_one (ps_ret (pe_call G__law_hands.1 (hr.mono (by decide)) rfl T.g__law_hands G__law_hands.2.2 G__law_hands.2.1 .nil pass0 (pa_cons (pe_op op_fdiv (pv 0) pe_int) (pa_cons (pv 1) pa_nil)))))), ?_⟩
    obtain ⟨b, m, rfl, hm, q⟩ := h
    refine ⟨_, rfl, _, _, rfl, rfl, (by show (0 : Int) < 3; decide), rfl, _, rfl, iteI (fun _ => ?_) (fun _ => ?_)⟩
    · exact ⟨Nat.zero_le _, fun l hl => q l [] _ hl (same_upd hl) upd_same⟩
    · refine ⟨_, rfl, _, _, rfl, rfl, ⟨by decide, by decide⟩, _, rfl, _, (m : Int), rfl, by omega, by omega, fun p H' hp e h => q p _ H' hp e h⟩
def spPhase8 (K : PySem.W.Frag) : Sp := fun vs H Q _ => ∃ (g : Gh) (fa : Addr) (f : Flk) (L : FL) (kind : Str) (aw : Addr) (ns : List Int) (S : Flk → Prop), vs = [.ref fa, .str kind, .ref aw] ∧ FolkR K g H fa f L ∧ ComeS S ∧ S f ∧ Held K g H aw (ns.map V.int) ∧
  ∀ g' H' f' L', Go TA g H g' H' → FolkR K g' H' fa f' L' → S f' → Q .non H'
theorem sc__law_phase : FnScope ["_law_folk", "_law_kind", "_law_away_here", "_law_left", "_law_place", "_law_letter"] ["_law_folk", "_law_kind", "_law_away_here"] (defScope s__law_phase) := ⟨rfl, rfl, rfl, by decide +kernel, rfl, by decide +kernel, by decide +kernel⟩
set_option maxRecDepth 100000 in
theorem ok__law_phase (T : Txt K mg) : OkF P w K mg base CX0 11 (He.ga K "_law_phase") ["_law_folk", "_law_kind", "_law_away_here"] (spPhase8 K) := by
  obtain ⟨fd, F⟩ := T.F__law_phase
  obtain ⟨fd_Folk_letters, G_Folk_letters⟩ := ok_Folk_letters (P := P) (w := w) (base := base) T
  obtain ⟨fd_Folk_come, G_Folk_come⟩ := ok_Folk_come (P := P) (w := w) (base := base) T
  refine ⟨fd, F.ok sc__law_phase (fun vs H Q E h => ?_) (fun cdv A outer s H vs Q E hr h => ?_), F.bindsN fun _ _ _ _ _ _ us hl => match us, hl with | [_, _, _], _ => rfl, F.kp⟩
  · obtain ⟨_, _, _, _, _, _, _, _, rfl, _⟩ := h
    rfl
  · refine ⟨_, PSs.nox (pss_cons (ps_set (i := 3) sc__law_phase.nd rfl (Or.inl rfl) (pe_callB call_len_seq (by rfl) T.b_len PySem.boot_len (pa_cons (pe_meth0 (pv 0) T.cl_Folk T.me_Folk_letters G_Folk_letters.1 (hr.mono (by decide)) G_Folk_letters.2.1 .nil pass0) pa_nil))) (pss_cons (ps_set (i := 4) sc__law_phase.nd rfl (Or.inl rfl) pe_int) (pss_one (ps_while PassesOwn.never (pt_cmpR op_lt (pv 4) (pv 3) (nomark _)) (pss_cons (ps_set (i := 5) sc__law_phase.nd rfl (Or.inl rfl) (pe_ix ix_list (pe_meth0 (pv 0) T.cl_Folk T.me_Folk_letters G_Folk_letters.1 (hr.mono (by decide)) G_Folk_letters.2.1 .nil pass0) (pv 4) (fun _ _ => rfl))) (pss_one (ps_if (PW.pt (pw_and (pt_cmpR op_eq (pe_ix ix_tup (pv 5) pe_int (fun _ _ => rfl)) (pv 1) (nomark _)) (pw_and1 (pt_cmpR op_notIn_seq (pe_ix ix_tup (pv 5) pe_int (fun _ _ => rfl)) (pv 2) (by rfl))))) (pss_cons (ps_expr (pe_meth (pv 0) T.cl_Folk T.me_Folk_come G_Folk_come.1 (hr.mono (by decide)) G_Folk_come.2.1 .nil (passX takes0 fun _ _ _ _ h => h) (pa_cons (pv 4) pa_nil))) (pss_one (ps_set (i := 3) sc__law_phase.nd rfl (Or.inl rfl) (pe_op op_sub (pv 3) pe_int)))) (pss_one (ps_set (i := 4) sc__law_phase.nd rfl (Or.inl rfl) (pe_op op_add (pv 4) pe_int)))))))))), ?_⟩
    obtain ⟨g, fa, f, L, kind, aw, ns, S, rfl, r, cs, st, ha, q⟩ := h
    have ro := r.ok.sub _ _ r.obj
    have hl0 := cs.len f st
    refine ⟨_, rfl, _, _, _, rfl, ro, zn (by decide +kernel), g, fa, f, L, rfl, r, by omega, fun l xs H2 hl e2 hxs px => ?_⟩
    have r2 := r.ext e2
    have hlx := paired_len px
    refine ⟨l, xs, rfl, .inl (SqL.of hxs), ?_⟩
    refine while_by (fun σ H1 => ∃ g1 f1 L1 a b lv, σ = [some (.ref fa), some (.str kind), some (.ref aw), some (.int (a : Nat)), some (.int (b : Nat)), lv] ∧ Go TA g H g1 H1 ∧ FolkR K g1 H1 fa f1 L1 ∧ S f1 ∧ a ≤ f1.post.length)
      (fun σ _ => match σ with | [_, _, _, some (.int a), some (.int b), _] => a.toNat - b.toNat | _ => 0) ⟨g, f, L, xs.length, 0, none, rfl, Go.ext r.ok e2, r2, st, by omega⟩ ?_ ?_
    · rintro σ H1 ⟨g1, f1, L1, a, b, lv, rfl, e1, r1, st1, hab⟩
      have ro1 := r1.ok.sub _ _ r1.obj
      have hl1 := cs.len f1 st1
      have ha1 := ha.go e1
      refine ⟨_, rfl, _, rfl, _, _, rfl, rfl, _, rfl, iteD (fun hc => ?_) (fun hc => ?_)⟩
      · have hb : b < a := by omega
        refine ⟨_, rfl, _, _, _, rfl, ro1, zn (by decide +kernel), g1, fa, f1, L1, rfl, r1, by omega, fun l xs H2 hl e2 hxs px => ?_⟩
        have r2 := r1.ext e2
        have ro2 := r2.ok.sub _ _ r2.obj
        have g2 : Go TA g1 H1 g1 H2 := Go.ext r1.ok e2
        have ha2 := ha1.same e2
        have hlx := paired_len px
        obtain ⟨y, hy⟩ : ∃ y, f1.post[b]? = some y := ⟨_, List.getElem?_eq_getElem (by omega)⟩
        obtain ⟨v, hv⟩ : ∃ v, xs[b]? = some v := ⟨_, List.getElem?_eq_getElem (by omega)⟩
        obtain ⟨y', hy', t, rfl, _, _, ht⟩ := paired_get px hv
        have e := hy'
        rw [hy] at e
        cases e
        refine ⟨_, rfl, l, _, _, .ref t, rfl, rfl, SqL.of hxs, atI_nat hv, _, rfl, t, _, _, .str y.told.kind, rfl, rfl, .inl (.inl ht), atI_nat (j := 0) rfl, _, rfl, rfl, _, rfl, iteD (fun _ => ?_) (fun _ => iteF ?_)⟩
        · refine ⟨_, rfl, t, _, _, .int y.to, rfl, rfl, .inl (.inl ht), atI_nat (j := 2) rfl, _, rfl, aw, _, rfl, .inl ha2.sq, rfl, flat_ints ns, _, rfl, ite2 (fun _ => ?_) (fun _ => ?_)⟩
          · refine ⟨_, rfl, _, _, _, rfl, ro2, zn (by decide +kernel), _, rfl, g1, fa, f1, L1, _, rfl, r2, thg_int, ?_⟩
            rw [place_in8 (by omega)]
            refine ⟨cs.ok f1 b st1, fun g4 H4 L4 e4 r4 => ⟨_, rfl, _, _, rfl, rfl, ⟨g4, _, L4, a - 1, b, some (.ref t), ?_, (e1.trans g2).trans e4, r4, cs.come f1 b _ st1 hy, ?_⟩, ?_⟩⟩
            · rw [show ((a - 1 : Nat) : Int) = (a : Int) - 1 by omega]
              rfl
            · have hc : (f1.come b).post = f1.post.eraseIdx b ++ ((f1.hand y.to).over y.to y).2 := by
                unfold Flk.come
                rw [hy]
              rw [hc, List.length_append, List.length_eraseIdx_of_lt (by omega)]
              omega
            · show ((a : Int) - 1).toNat - (b : Int).toNat < (a : Int).toNat - (b : Int).toNat
              omega
          · refine ⟨_, rfl, _, _, rfl, rfl, ⟨g1, f1, L1, a, b + 1, _, rfl, e1.trans g2, r2, st1, hab⟩, ?_⟩
            show (a : Int).toNat - ((b : Int) + 1).toNat < (a : Int).toNat - (b : Int).toNat
            omega
        · refine ⟨_, rfl, _, _, rfl, rfl, ⟨g1, f1, L1, a, b + 1, _, rfl, e1.trans g2, r2, st1, hab⟩, ?_⟩
          show (a : Int).toNat - ((b : Int) + 1).toNat < (a : Int).toNat - (b : Int).toNat
          omega
      · exact q g1 H1 f1 L1 e1 r1 st1
    · intro σ H1 Q1 Q2 hq w
      obtain ⟨v, h1, u, h2, i, j, h3, h4, b, h5, h6⟩ := w
      exact ⟨v, h1, u, h2, i, j, h3, h4, b, h5, hq _ _ h6⟩

end
end Fo
namespace Fo
open PySem PySem.Spec PyProof.Rows L2
section
variable {P : Program} {w : World} {K : PySem.W.Frag} {mg : Str → Option Value} {base : Heap}
theorem St8.come9 {m n : Nat} {first : List Int} {G : PG} {q : QG} {f : Flk} (st : St8 m first n G f) (QI : QInv m G q f) {p : Nat} {l : Ltr} (hp : f.post[p]? = some l) : ∃ G' q', PG.Leq G G' ∧ q'.S = q.S ∧ St8 m first n G' (f.come p) ∧ QInv m G' q' (f.come p) := by
  obtain ⟨B, F, hB⟩ := st.inv
  obtain ⟨F1, w1, w2⟩ := come_inv st.m9 F hp
  obtain ⟨G', q', L, e, P1, Q1⟩ := QInv.come st.pi QI F hp
  exact ⟨G', q', L, e, ⟨st.m9, ⟨_, F1, by omega⟩, by have := st.ws; omega, P1⟩, Q1⟩
theorem St8.cames9 {m n : Nat} {first : List Int} : ∀ (k : Nat) (G : PG) (q : QG) (f : Flk), St8 m first n G f → QInv m G q f → f.runs k → ∃ G' q', PG.Leq G G' ∧ q'.S = q.S ∧ St8 m first n G' (f.cames k) ∧ QInv m G' q' (f.cames k)
  | 0, G, q, f, st, QI, _ => ⟨G, q, PG.Leq.refl G, rfl, st, QI⟩
  | k + 1, G, q, f, st, QI, ⟨h1, _, h3⟩ => by
    cases hp : f.post with
    | nil => exact absurd hp h1
    | cons l r =>
      have hp0 : f.post[0]? = some l := by rw [hp]; rfl
      obtain ⟨G1, q1, L1, e1, st1, Q1⟩ := st.come9 QI hp0
      obtain ⟨G2, q2, L2, e2, st2, Q2⟩ := St8.cames9 k G1 q1 _ st1 Q1 h3
      exact ⟨G2, q2, L1.trans L2, e2.trans e1, st2, Q2⟩
/-- the state of k09: the law's own dict holds what was said -/
def S9 (m : Nat) (first : List Int) (n : Nat) (G : PG) (S : Nat → List (Int × Str)) (f : Flk) : Prop := ∃ G' q, PG.Leq G G' ∧ q.S = S ∧ St8 m first n G' f ∧ QInv m G' q f
theorem S9.comeS {m n : Nat} {first : List Int} (G : PG) (S : Nat → List (Int × Str)) (hn : n ≤ 90) : ComeS (S9 m first n G S) :=
  ⟨fun f p l ⟨G1, q1, L1, e1, s1, Q1⟩ hp => by
    obtain ⟨G2, q2, L2, e2, s2, Q2⟩ := s1.come9 Q1 hp
    exact ⟨G2, q2, L1.trans L2, e2.trans e1, s2, Q2⟩, fun f p ⟨G1, q1, L1, e1, s1, Q1⟩ => s1.comeOk hn p, fun f ⟨G1, q1, L1, e1, s1, Q1⟩ => by
    have := (s1.plen hn).2
    omega⟩

end
end Fo
namespace Fo
open PySem PySem.Spec PyProof.Rows L2
section
variable {P : Program} {w : World} {K : PySem.W.Frag} {mg : Str → Option Value} {base : Heap}
/-- what a deed that was not refused did -/
def DidT9 (f : Flk) (hand : Nat) (way : Int) (wd : Str) (W : List Int) (o : Nat) (f' : Flk) : Prop :=
  (way = 0 ∧ ∃ s, f.acts (.int hand) = .ok (hand, s) ∧ f' = f.deed hand ((f.hand hand).say hand s wd)) ∨ (way = 1 ∧ ∃ s, f.acts (.int hand) = .ok (hand, s) ∧ s.lead = (hand : Int) ∧ f' = f.deed hand (f.hand hand, s.press hand)) ∨
  (way = 2 ∧ f' = f.setHand hand (f.hand hand).down) ∨ (way = 3 ∧ ∃ s, f.acts (.int hand) = .ok (hand, s) ∧ f' = f.deed hand ({ f.hand hand with seat := some (s.propose hand W).1 }, (s.propose hand W).2)) ∨
  (way ≠ 0 ∧ ∃ s nw, f.acts (.int hand) = .ok (hand, s) ∧ s.news = some nw ∧ f' = ⟨f.hands, f.post ++ [⟨hand, o, s.num, .enter nw⟩]⟩)
def say9 (S : Nat → List (Int × Str)) (i : Nat) (x : Int × Str) : Nat → List (Int × Str) := fun j => if j = i then S j ++ [x] else S j
theorem S9.did {m n : Nat} {first : List Int} {G : PG} {S : Nat → List (Int × Str)} {f : Flk} (st : S9 m first n G S f) (hn : n ≤ 90) {hand : Nat} (hh : hand < m) {way : Int} {wd : Str} (hw : PyData.strOk wd = true) {W : List Int} (hW : way = 3 → W ≠ [] ∧ (∀ x ∈ W, 0 ≤ x ∧ x < (m : Int)) ∧ W.Pairwise (· < ·)) {o : Nat} (ho : o < m) {f' : Flk} (d : DidT9 f hand way wd W o f') : (way ≠ 0 → S9 m first (n + 1) G S f') ∧ (way = 0 → ∃ s, (f.hand hand).seat = some s ∧ S9 m first (n + 1) G (say9 S hand (s.num, wd)) f') := by
  obtain ⟨G', q, L, e, st8, QI⟩ := st
  have hl := st8.len
  rcases d with ⟨h0, s, h, rfl⟩ | ⟨h0, s, h, hld, rfl⟩ | ⟨h0, rfl⟩ | ⟨h0, s, h, rfl⟩ | ⟨h0, s, nw, h, hn, rfl⟩
  · refine ⟨fun z => absurd h0 z, fun _ => ⟨s, (acts_ok h).2.2.2, G', q.say hand (s.num, wd), L, ?_, st8.say h hw, QInv.say st8.pi QI hl h hw⟩⟩
    rw [← e]
    rfl
  · exact ⟨fun _ => ⟨G', q, L, e, st8.press hn h, QInv.press st8.pi QI hl h hld⟩, fun z => by omega⟩
  · exact ⟨fun _ => ⟨G', q, L, e, (st8.fall hh).le (Nat.le_succ _), QI.fall hl hh⟩, fun z => by omega⟩
  · obtain ⟨a, b, c⟩ := hW h0
    exact ⟨fun _ => ⟨G', q, L, e, st8.propose h a b c, QI.propose hl h⟩, fun z => by omega⟩
  · exact ⟨fun _ => ⟨G', q, L, e, st8.show h ho hn, QInv.show (p := (hand, s)) QI⟩, fun z => absurd z h0⟩
def spTried9 (K : PySem.W.Frag) : Sp := fun vs H Q _ => ∃ (g : Gh) (fa : Addr) (f : Flk) (L : FL) (way : Int) (hand : Nat) (tv : V) (wd : Str) (W : List Int) (o : Nat), vs = [.ref fa, .int way, .int hand, tv] ∧ FolkR K g H fa f L ∧ f.hands.length ≤ 9 ∧ f.post.length ≤ 800000 ∧ hand < f.hands.length ∧ (∀ s, f.acts (.int hand) = .ok (hand, s) → SOk hand s) ∧ (way = 0 → tv = .str wd) ∧ (way = 3 → LstIs K H tv (f.hands.length : Nat) (some W)) ∧ (way ≠ 0 → way ≠ 1 → way ≠ 2 → way ≠ 3 → tv = .int o ∧ o < f.hands.length) ∧
  Q (.bl false) H ∧ ∀ g' H' f' L', Go TA g H g' H' → FolkR K g' H' fa f' L' → DidT9 f hand way wd W o f' → Q (.bl true) H'
theorem sc__law_tried : FnScope ["_law_folk", "_law_way", "_law_hand", "_law_thing"] ["_law_folk", "_law_way", "_law_hand", "_law_thing"] (defScope s__law_tried) := ⟨rfl, rfl, rfl, by decide +kernel, rfl, by decide +kernel, by decide +kernel⟩
set_option maxRecDepth 100000 in
theorem ok__law_tried (T : Txt K mg) : OkF P w K mg base CX0 8 (He.ga K "_law_tried") ["_law_folk", "_law_way", "_law_hand", "_law_thing"] (spTried9 K) := by
  obtain ⟨fd, F⟩ := T.F__law_tried
  obtain ⟨fd_Folk_say, G_Folk_say⟩ := ok_Folk_say (P := P) (w := w) (base := base) T
  obtain ⟨fd_Folk_press, G_Folk_press⟩ := ok_Folk_press (P := P) (w := w) (base := base) T
  obtain ⟨fd_Folk_fall, G_Folk_fall⟩ := ok_Folk_fall (P := P) (w := w) (base := base) T
  obtain ⟨fd_Folk_propose, G_Folk_propose⟩ := ok_Folk_propose (P := P) (w := w) (base := base) T
  obtain ⟨fd_Folk_show, G_Folk_show⟩ := ok_Folk_show (P := P) (w := w) (base := base) T
  refine ⟨fd, F.ok sc__law_tried (fun vs H Q E h => ?_) (fun cdv A outer s H vs Q E hr h => ?_), F.bindsN fun _ _ _ _ _ _ us hl => match us, hl with | [_, _, _, _], _ => rfl, F.kp⟩
  · obtain ⟨_, _, _, _, _, _, _, _, _, _, rfl, _⟩ := h
    rfl
  · refine ⟨_, PSs.nox (pss_cons (ps_try_only rfl rfl ⟨rfl, by decide, .inl T.g_FolkError⟩ takes0 (fun W pn xe tk _ => (pss_one (ps_if (pt_cmpR op_eq (pv 1) pe_int (nomark _)) (pss_one (ps_expr (pe_methE (pv 0) T.cl_Folk T.me_Folk_say G_Folk_say.1 (hr.mono (by decide)) G_Folk_say.2.1 (fun σ => passAt tk σ) (pa_cons (pv 2) (pa_cons (pv 3) pa_nil))))) (pss_one (ps_if (pt_cmpR op_eq (pv 1) pe_int (nomark _)) (pss_one (ps_expr (pe_methE (pv 0) T.cl_Folk T.me_Folk_press G_Folk_press.1 (hr.mono (by decide)) G_Folk_press.2.1 (fun σ => passAt tk σ) (pa_cons (pv 2) pa_nil)))) (pss_one (ps_if (pt_cmpR op_eq (pv 1) pe_int (nomark _)) (pss_one (ps_expr (pe_methE (pv 0) T.cl_Folk T.me_Folk_fall G_Folk_fall.1 (hr.mono (by decide)) G_Folk_fall.2.1 (fun σ => passAt tk σ) (pa_cons (pv 2) pa_nil)))) (pss_one (ps_if (pt_cmpR op_eq (pv 1) pe_int (nomark _)) (pss_one (ps_expr (pe_methE (pv 0) T.cl_Folk T.me_Folk_propose G_Folk_propose.1 (hr.mono (by decide)) G_Folk_propose.2.1 (fun σ => passAt tk σ) (pa_cons (pv 2) (pa_cons (pv 3) pa_nil))))) (pss_one (ps_expr (pe_methE (pv 0) T.cl_Folk T.me_Folk_show G_Folk_show.1 (hr.mono (by decide)) G_Folk_show.2.1 (fun σ => passAt tk σ) (pa_cons (pv 2) (pa_cons (pv 3) pa_nil)))))))))))))) (fun _ _ _ _ _ _ _ => (pss_one (ps_ret pe_bl)))) (pss_one (ps_ret pe_bl))), ?_⟩
    obtain ⟨g, fa, f, L, way, hand, tv, wd, W, o, rfl, r, h9, hpl, hlt, hso, hwd, hW, hO, q0, q1⟩ := h
    have ro := r.ok.sub _ _ r.obj
    refine ⟨_, rfl, rfl, _, rfl, iteI (fun e0 => ?_) (fun e0 => ⟨_, rfl, rfl, _, rfl, iteI (fun e1 => ?_) (fun e1 => ⟨_, rfl, rfl, _, rfl, iteI (fun e2 => ?_) (fun e2 => ⟨_, rfl, rfl, _, rfl, iteI (fun e3 => ?_) (fun e3 => ?_)⟩)⟩)⟩)⟩
    · have hwd := hwd e0
      subst hwd
      refine ⟨_, rfl, _, _, _, rfl, ro, zn (by decide +kernel), _, rfl, _, rfl, g, fa, f, L, _, wd, rfl, r, thg_int, ?_⟩
      rcases acts8 hlt with hac | hac | ⟨s, hac⟩
      · rw [hac]; exact ⟨true, T.xm_Fallen_FolkError, fun _ a ha => q0, fun z => (nomatch z)⟩
      · rw [hac]; exact ⟨true, T.xm_Outside_FolkError, fun _ a ha => q0, fun z => (nomatch z)⟩
      · rw [hac]
        exact ⟨hso s hac, by omega, fun g' H' L' e r' => q1 g' H' _ L' e r' (.inl ⟨e0, s, hac, rfl⟩)⟩
    · refine ⟨_, rfl, _, _, _, rfl, ro, zn (by decide +kernel), _, rfl, g, fa, f, L, _, rfl, r, thg_int, ?_⟩
      rcases acts8 hlt with hac | hac | ⟨s, hac⟩
      · rw [hac]; exact ⟨true, T.xm_Fallen_FolkError, fun _ a ha => q0, fun z => (nomatch z)⟩
      · rw [hac]; exact ⟨true, T.xm_Outside_FolkError, fun _ a ha => q0, fun z => (nomatch z)⟩
      · rw [hac]
        refine ⟨hso s hac, by omega, ?_⟩
        by_cases hl : s.lead ≠ (hand : Int)
        · rw [if_pos hl]; exact ⟨true, T.xm_NotFirst_FolkError, fun _ a ha => q0, fun z => (nomatch z)⟩
        · rw [if_neg hl]
          exact fun g' H' L' e r' => q1 g' H' _ L' e r' (.inr (.inl ⟨e1, s, hac, Decidable.byContradiction hl, rfl⟩))
    · refine ⟨_, rfl, _, _, _, rfl, ro, zn (by decide +kernel), _, rfl, g, fa, f, L, _, rfl, r, thg_int, ?_⟩
      rw [who_in hlt]
      cases hup : (f.hand hand).up with
      | false =>
        show Res K H _ (if (f.hand hand).up = false then .error "Fallen" else .ok ()) _
        rw [hup]
        exact ⟨true, T.xm_Fallen_FolkError, fun _ a ha => q0, fun z => (nomatch z)⟩
      | true =>
        show Res K H _ (if (f.hand hand).up = false then .error "Fallen" else .ok ()) _
        rw [hup]
        exact fun g' H' L' e r' => q1 g' H' _ L' e r' (.inr (.inr (.inl ⟨e2, rfl⟩)))
    · refine ⟨_, rfl, _, _, _, rfl, ro, zn (by decide +kernel), _, rfl, _, rfl, g, fa, f, L, _, _, some W, rfl, r, thg_int, hW e3, h9, ?_⟩
      rcases acts8 hlt with hac | hac | ⟨s, hac⟩
      · rw [hac]; exact ⟨true, T.xm_Fallen_FolkError, fun _ a ha => q0, fun z => (nomatch z)⟩
      · rw [hac]; exact ⟨true, T.xm_Outside_FolkError, fun _ a ha => q0, fun z => (nomatch z)⟩
      · rw [hac]
        exact ⟨hso s hac, by omega, fun g' H' L' e r' => q1 g' H' _ L' e r' (.inr (.inr (.inr (.inl ⟨e3, s, hac, rfl⟩))))⟩
    · obtain ⟨rfl, ho⟩ := hO e0 e1 e2 e3
      refine ⟨_, rfl, _, _, _, rfl, ro, zn (by decide +kernel), _, rfl, _, rfl, g, fa, f, L, _, _, rfl, r, thg_int, thg_int, by omega, ?_⟩
      rcases acts8 hlt with hac | hac | ⟨s, hac⟩
      · rw [hac]; exact ⟨true, T.xm_Fallen_FolkError, fun _ a ha => q0, fun z => (nomatch z)⟩
      · rw [hac]; exact ⟨true, T.xm_Outside_FolkError, fun _ a ha => q0, fun z => (nomatch z)⟩
      · rw [hac]
        dsimp only [Res]
        rw [who_in ho]
        dsimp only
        cases hn : s.news with
        | none => exact ⟨true, T.xm_NoNews_FolkError, fun _ a ha => q0, fun z => (nomatch z)⟩
        | some nw => exact fun g' H' L' e r' => q1 g' H' _ L' e r' (.inr (.inr (.inr (.inr ⟨e0, s, nw, hac, hn, rfl⟩))))

end
end Fo
namespace Fo
open PySem PySem.Spec PyProof.Rows L2
section
variable {P : Program} {w : World} {K : PySem.W.Frag} {mg : Str → Option Value} {base : Heap}
theorem seatOf_in {f : Flk} {i : Nat} {t : Seat} (hi : i < f.hands.length) (ht : (f.hand i).seat = some t) : f.seatOf (.int i) = .ok (i, t) := by
  unfold Flk.seatOf
  rw [who_in hi]
  show (match (f.hand i).seat with | none => (.error "Outside" : Except Str (Nat × Seat)) | some s => .ok (i, s)) = _
  rw [ht]
theorem seatNo4 {f : Flk} {i : Nat} (hi : i < f.hands.length) (h : (f.hand i).seat = none) : f.seatOf (.int i) = .error "Outside" := by
  unfold Flk.seatOf
  rw [who_in hi]
  dsimp only
  rw [h]
def spList4 (K : PySem.W.Frag) : Sp := fun vs H Q _ => ∃ (g : Gh) (fa : Addr) (f : Flk) (L : FL) (h : Nat), vs = [.ref fa, .int h] ∧ FolkR K g H fa f L ∧ h < f.hands.length ∧ ((f.hand h).seat = none → Q .non H) ∧ (∀ s, (f.hand h).seat = some s → ∀ t l H', Same H H' → H t = none → H l = none → H' t = some (.tup [.int s.num, .ref l]) → H' l = some (.lst (s.mem.map V.int)) → Q (.ref t) H')
theorem sc__law_list : FnScope ["_law_folk", "_law_hand"] ["_law_folk", "_law_hand"] (defScope s__law_list) := ⟨rfl, rfl, rfl, by decide +kernel, rfl, by decide +kernel, by decide +kernel⟩
set_option maxRecDepth 100000 in
theorem ok__law_list (T : Txt K mg) : OkF P w K mg base CX0 6 (He.ga K "_law_list") ["_law_folk", "_law_hand"] (spList4 K) := by
  obtain ⟨fd, F⟩ := T.F__law_list
  obtain ⟨fd_Folk_list_of, G_Folk_list_of⟩ := ok_Folk_list_of (P := P) (w := w) (base := base) T
  refine ⟨fd, F.ok sc__law_list (fun vs H Q E h => ?_) (fun cdv A outer s H vs Q E hr h => ?_), F.bindsN fun _ _ _ _ _ _ us hl => match us, hl with | [_, _], _ => rfl, F.kp⟩
  · obtain ⟨_, _, _, _, _, rfl, _⟩ := h
    rfl
  · refine ⟨_, PSs.nox (pss_one (ps_try_only rfl rfl ⟨rfl, by decide, .inl T.g_Outside⟩ takes0 (fun W pn xe tk _ => (pss_one (ps_ret (pe_methE (pv 0) T.cl_Folk T.me_Folk_list_of G_Folk_list_of.1 (hr.mono (by decide)) G_Folk_list_of.2.1 (fun σ => passAt tk σ) (pa_cons (pv 1) pa_nil))))) (fun _ _ _ _ _ _ _ => (pss_one (ps_ret pe_non))))), ?_⟩
    obtain ⟨g, fa, f, L, h, rfl, r, hh, qn, qs⟩ := h
    have ro := r.ok.sub _ _ r.obj
    refine ⟨_, rfl, _, _, _, rfl, ro, zn (by decide +kernel), _, rfl, g, fa, f, L, _, rfl, r, thg_int, ?_⟩
    cases hs : (f.hand h).seat with
    | none =>
      rw [seatNo4 hh hs]
      exact ⟨true, T.xm_Outside_Outside, fun _ a ha => qn hs, fun z => (nomatch z)⟩
    | some s =>
      rw [seatOf_in hh hs]
      intro l t hl ht nt
      exact qs s hs t l _ ((same_upd hl).trans (same_upd (by rw [upd_ne nt]; exact ht))) ht hl upd_same (by rw [upd_ne nt.symm, upd_same])
def spRound9 (K : PySem.W.Frag) : Sp := fun vs H Q _ => ∃ (g : Gh) (fa : Addr) (f : Flk) (L : FL) (more : Int) (m : Nat) (S : Flk → Prop), vs = [.ref fa, .int more, .int m] ∧ FolkR K g H fa f L ∧ 0 < m ∧ m ≤ 9 ∧ f.hands.length = m ∧ f.post.length ≤ 800000 ∧ (∀ (i : Nat) s, f.acts (.int i) = .ok (i, s) → SOk i s) ∧ ComeS S ∧ S f ∧ (∀ (i : Nat) W f', i < m → W ≠ [] → (∀ x ∈ W, 0 ≤ x ∧ x < (m : Int)) → W.Pairwise (· < ·) → DidT9 f i 3 "" W 0 f' → S f') ∧
  ∀ g' H' f' L', Go TA g H g' H' → FolkR K g' H' fa f' L' → S f' → Q .non H'
theorem sc__law_round : FnScope ["_law_folk", "_law_more", "_law_many", "_law_wish", "_law_some", "_law_kind"] ["_law_folk", "_law_more", "_law_many"] (defScope s__law_round) := ⟨rfl, rfl, rfl, by decide +kernel, rfl, by decide +kernel, by decide +kernel⟩
set_option maxRecDepth 100000 in
theorem ok__law_round (T : Txt K mg) : OkF P w K mg base CX0 12 (He.ga K "_law_round") ["_law_folk", "_law_more", "_law_many"] (spRound9 K) := by
  obtain ⟨fd, F⟩ := T.F__law_round
  obtain ⟨fd__law_hands, G__law_hands⟩ := ok__law_hands (P := P) (w := w) (base := base) T
  obtain ⟨fd__law_tried, G__law_tried⟩ := ok__law_tried (P := P) (w := w) (base := base) T
  obtain ⟨fd__law_phase, G__law_phase⟩ := ok__law_phase (P := P) (w := w) (base := base) T
  obtain ⟨fd__law_away, G__law_away⟩ := ok__law_away (P := P) (w := w) (base := base) T
  refine ⟨fd, F.ok sc__law_round (fun vs H Q E h => ?_) (fun cdv A outer s H vs Q E hr h => ?_), F.bindsN fun _ _ _ _ _ _ us hl => match us, hl with | [_, _, _], _ => rfl, F.kp⟩
  · obtain ⟨_, _, _, _, _, _, _, rfl, _⟩ := h
    rfl
  · refine ⟨_, PSs.nox (pss_cons (ps_set (i := 3) sc__law_round.nd rfl (Or.inl rfl) (pe_call G__law_hands.1 (hr.mono (by decide)) rfl T.g__law_hands G__law_hands.2.2 G__law_hands.2.1 .nil pass0 (pa_cons (pe_op op_fdiv (pv 1) (pv 2)) (pa_cons (pv 2) pa_nil)))) (C8.pss_cut (ps_expr (pe_call G__law_tried.1 (hr.mono (by decide)) rfl T.g__law_tried G__law_tried.2.2 G__law_tried.2.1 .nil pass0 (pa_cons (pv 0) (pa_cons pe_int (pa_cons (pe_op op_mod (pv 1) (pv 2)) (pa_cons (pe_ifExp (pt_cmpR (op_neD hr.u64) (pv 3) (pe_lst pa_nil) (nomark _)) (pv 3) (pe_lst (pa_cons (pe_op op_mod (pv 1) (pv 2)) pa_nil))) pa_nil)))))) (pss_cons (ps_set (i := 4) sc__law_round.nd rfl (Or.inl rfl) (pe_op op_mod (pe_op op_mul (pe_op op_add (pv 1) pe_int) pe_int) pe_int)) (pss_one (ps_for PassesOwn.never rfl (pi_list (pe_slice sl_list (pe_lst (pa_cons pe_str (pa_cons pe_str (pa_cons pe_str (pa_cons pe_str (pa_cons pe_str pa_nil)))))) po_none (po_some (pe_op op_mod (pv 4) pe_int)))) (pg_name (i := 5) sc__law_round.nd rfl (Or.inl rfl)) (pss_cons (ps_set (i := 4) sc__law_round.nd rfl (Or.inl rfl) (pe_op op_mod (pe_op op_mul (pe_op op_add (pv 4) (pv 1)) pe_int) pe_int)) (pss_one (ps_expr (pe_call G__law_phase.1 (hr.mono (by decide)) rfl T.g__law_phase G__law_phase.2.2 G__law_phase.2.1 .nil pass0 (pa_cons (pv 0) (pa_cons (pv 5) (pa_cons (pe_call G__law_away.1 (hr.mono (by decide)) rfl T.g__law_away G__law_away.2.2 G__law_away.2.1 .nil pass0 (pa_cons (pv 4) (pa_cons (pv 2) pa_nil))) pa_nil)))))))))))), ?_⟩
    obtain ⟨g, fa, f, L, more, m, S, rfl, r, hm0, hm9, hlen, hpl, hso, cs, st, hS, q⟩ := h
    have ro := r.ok.sub _ _ r.obj
    refine ⟨_, rfl, _, rfl, _, _, rfl, rfl, (by constructor <;> first | omega | (dsimp only; omega)), _, rfl, _, (m : Int), rfl, by omega, by omega, fun q1 H1 hq1 e1 hL1 => ?_⟩
    have c0 := Int.emod_nonneg more (show (m : Int) ≠ 0 by omega)
    have c1 := Int.emod_lt_of_pos more (show (0 : Int) < m by omega)
    obtain ⟨i, hi, hie⟩ : ∃ i : Nat, i < m ∧ more % (m : Int) = (i : Nat) := ⟨(more % (m : Int)).toNat, by omega, by omega⟩
    obtain ⟨W0, hW0⟩ : ∃ W0, handsOf (more / (m : Int)) (m : Int) = W0 := ⟨_, rfl⟩
    
    rw [hW0] at hL1
    have wrg : ∀ x ∈ W0, 0 ≤ x ∧ x < (m : Int) := fun x hx => by
      rw [← hW0] at hx
      have := handsGo_mem _ _ _ hx
      omega
    have wup : W0.Pairwise (· < ·) := by rw [← hW0]; exact handsGo_sorted _ _ _
    have hshl : ∀ ms : List Int, SeqAt.shaped (.list (ms.map PyData.int)) = true := fun ms => shaped_list (sdAll_ints ms)
    have r1 := r.ext e1
    have ro1 := r1.ok.sub _ _ r1.obj
    have main : ∀ (H2 : Hp) (tv : V) (W : List Int) (Qt : VK), Same H H2 → LstIs K H2 tv (f.hands.length : Nat) (some W) → W ≠ [] → (∀ x ∈ W, 0 ≤ x ∧ x < (m : Int)) → W.Pairwise (· < ·) → (∀ b g' H' f' L', Go TA g H g' H' → FolkR K g' H' fa f' L' → S f' → Qt (.bl b) H') → spTried9 K [.ref fa, .int 3, .int (more % (m : Int)), tv] H2 Qt E0 := fun H2 tv W Qt e2 hW wn wr wu k => by
      have r2 := r.ext e2
      refine ⟨g, fa, f, L, 3, i, tv, "", W, 0, by rw [hie], r2, by omega, hpl, by omega, fun s hs => hso i s hs, (fun z => by omega), fun _ => hW, fun _ _ _ z => absurd rfl z, k false g H2 f L (Go.ext r.ok e2) r2 st, fun g' H' f' L' e' r' d => k true g' H' f' L' ((Go.ext r.ok e2).trans e') r' (hS i W f' hi wn wr wu d)⟩
    refine ⟨fun σ H' => ∃ g' f' L', σ = [some (.ref fa), some (.int more), some (.int m), some (.ref q1), none, none] ∧ Go TA g H g' H' ∧ FolkR K g' H' fa f' L' ∧ S f', ?_, ?_⟩
    · refine ⟨_, rfl, _, rfl, _, rfl, _, _, rfl, rfl, (by show (0 : Int) < (m : Int); omega), _, rfl, Nat.zero_le _, fun e he => ⟨.list (W0.map PyData.int), .list [], .lst (SqL.of (same_upd he _ _ hL1)) (dpAll_ints W0), .lst (SqL.of upd_same) .nil, hshl W0, (by decide +kernel), _, rfl, ?_⟩⟩
      have e2 := same_upd (o := .lst []) he
      have hL2 := e2 _ _ hL1
      cases W0 with
      | nil =>
        rw [show (!PyData.eqv (.list (([] : List Int).map PyData.int)) (.list [])) = false by decide +kernel]
        refine iteF ⟨_, rfl, _, rfl, _, _, rfl, rfl, (by show (0 : Int) < (m : Int); omega), (by show 1 ≤ sizeLine; decide), fun l hl => ?_⟩
        have hl2 : (upd (upd H1 e (.lst [])) l (.lst [V.int (more % (m : Int))])) l = some (.lst ([(i : Int)].map V.int)) := by rw [upd_same, hie]; rfl
        dsimp only [tNil]
        refine main _ (.ref l) [(i : Int)] _ (e1.trans (e2.trans (same_upd hl))) ⟨l, rfl, hl2, by rw [hlen]; exact isListB_of (fun z => nomatch z) (fun x hx => by rw [List.mem_singleton.mp hx]; omega) (List.pairwise_singleton _ _)⟩ (fun z => nomatch z) (fun x hx => by rw [List.mem_singleton.mp hx]; omega) (List.pairwise_singleton _ _) fun b g' H' f' L' e' r' s' => ?_
        exact ⟨g', f', L', rfl, e', r', s'⟩
      | cons x xs =>
        rw [show (!PyData.eqv (.list ((x :: xs).map PyData.int)) (.list [])) = true by simp [PyData.eqv, PyData.eqvAll]]
        refine iteT ⟨_, rfl, ?_⟩
        dsimp only [tNil]
        refine main _ (.ref q1) (x :: xs) _ (e1.trans e2) ⟨q1, rfl, hL2, by rw [hlen]; exact isListB_of (fun z => nomatch z) wrg wup⟩ (fun z => nomatch z) wrg wup fun b g' H' f' L' e' r' s' => ?_
        exact ⟨g', f', L', rfl, e', r', s'⟩
    clear main hL1 r1 ro1
    rintro σ H2 ⟨g2, f2, L2', rfl, e2, r2, st2⟩
    refine ⟨_, rfl, _, _, rfl, rfl, _, _, rfl, rfl, (.inr (by constructor <;> first | omega | decide | (dsimp only; omega))), _, _, rfl, rfl, (by show (0 : Int) < 10007; decide), ?_⟩
    refine ⟨(by show 5 ≤ sizeLine; decide), fun l5 hl5 => ⟨_, rfl, _, _, rfl, rfl, (by show (0 : Int) < 6; decide), _, rfl, l5, _, rfl, SqL.of upd_same, fun sl hsl => ⟨sl, rfl, ⟨_, SqL.of upd_same⟩, ?_⟩⟩⟩
    have e3 := (same_upd (o := .lst [V.str "prepare", V.str "promise", V.str "accept", V.str "agree", V.str "enter"]) hl5).trans (same_upd (o := .lst (cutV [V.str "prepare", V.str "promise", V.str "accept", V.str "agree", V.str "enter"] none (some ((more + 5) * 48271 % 10007 % 6)))) hsl)
    obtain ⟨zs, hzs⟩ : ∃ zs, cutV [V.str "prepare", V.str "promise", V.str "accept", V.str "agree", V.str "enter"] none (some ((more + 5) * 48271 % 10007 % 6)) = zs := ⟨_, rfl⟩
    have hzst : ∀ x ∈ zs, ∃ z, x = V.str z := fun x hx => by
      rw [← hzs] at hx
      unfold cutV at hx
      have h1 := List.mem_of_mem_drop (List.mem_of_mem_take hx)
      simp only [List.mem_cons, List.not_mem_nil, or_false] at h1
      rcases h1 with h | h | h | h | h <;> exact ⟨_, h⟩
    have hsl2 := upd_same (H := upd H2 l5 (.lst [V.str "prepare", V.str "promise", V.str "accept", V.str "agree", V.str "enter"])) (a := sl) (o := .lst (cutV [V.str "prepare", V.str "promise", V.str "accept", V.str "agree", V.str "enter"] none (some ((more + 5) * 48271 % 10007 % 6))))
    have hsn := r2.ok.onone (show H2 sl = none by
      cases hz : H2 sl with
      | none => rfl
      | some o => rw [(same_upd (o := .lst [V.str "prepare", V.str "promise", V.str "accept", V.str "agree", V.str "enter"]) hl5) _ _ hz] at hsl; cases hsl)
    rw [hzs] at e3 hsl2 ⊢
    have r3 := r2.ext e3
    have g3 : Go TA g2 H2 g2 _ := Go.ext r2.ok e3
    have hh3 : Held K g2 _ sl zs := .inl ⟨SqL.of hsl2, ⟨_, hsl2⟩, hsn⟩
    refine for_list (K := K) (a := sl) (xs := zs) (fun j σ H' => ∃ g' f' L' sv kv, σ = [some (.ref fa), some (.int more), some (.int m), some (.ref q1), some (.int sv), kv] ∧ Go TA g H g' H' ∧ FolkR K g' H' fa f' L' ∧ S f' ∧ Held K g' H' sl zs) ⟨g2, f2, L2', _, none, rfl, e2.trans g3, r3, st2, hh3⟩ (fun j σ H' _ w => ?_) ?_ ?_
    · obtain ⟨_, _, _, _, _, _, _, _, _, h⟩ := w
      exact h.sq
    · rintro j x σ H4 hx ⟨g4, f4, L4, sv, kv, rfl, e4, r4, st4, hh4⟩
      obtain ⟨z, rfl⟩ := hzst x (List.mem_of_getElem? hx)
      refine ⟨_, rfl, _, rfl, _, _, rfl, rfl, _, _, rfl, rfl, (.inr (by constructor <;> first | omega | decide | (dsimp only; omega))), _, _, rfl, rfl, (by show (0 : Int) < 10009; decide), _, rfl, _, rfl, _, rfl, _, rfl, _, m, rfl, hm9, fun p ns H5 hp e5 hpl => ⟨g4, fa, f4, L4, z, p, ns, S, rfl, r4.ext e5, cs, st4, .inl ⟨SqL.of hpl, ⟨_, hpl⟩, r4.ok.onone hp⟩, fun g6 H6 f6 L6 e6 r6 st6 => ?_⟩⟩
      exact ⟨g6, f6, L6, _, _, rfl, (e4.trans (Go.ext r4.ok e5)).trans e6, r6, st6, (hh4.same e5).go e6⟩
    · rintro σ H4 ⟨g4, f4, L4, sv, kv, rfl, e4, r4, st4, hh4⟩
      exact q g4 H4 f4 L4 e4 r4 st4

end
end Fo
namespace Fo
open PySem PySem.Spec PyProof.Rows L2
section
variable {P : Program} {w : World} {K : PySem.W.Frag} {mg : Str → Option Value} {base : Heap}
def word7 : Str := "abcXYZ 09.,;:!?-+*/<>=()[]{}#&'|~_^"
def spWord (K : PySem.W.Frag) : Sp := fun vs H Q _ => ∃ (cell : Int), vs = [.int cell] ∧ ∀ w, PyData.strOk w = true → Q (.str w) H
theorem sc__law_word : FnScope ["_law_cell", "_law_some", "_law_word_here", "_law_k"] ["_law_cell"] (defScope s__law_word) := ⟨rfl, rfl, rfl, by decide +kernel, rfl, by decide +kernel, by decide +kernel⟩
set_option maxRecDepth 100000 in
theorem ok__law_word (T : Txt K mg) : OkF P w K mg base CX0 1 (He.ga K "_law_word") ["_law_cell"] (spWord K) := by
  obtain ⟨fd, F⟩ := T.F__law_word
  refine ⟨fd, F.ok sc__law_word (fun vs H Q E h => ?_) (fun cdv A outer s H vs Q E hr h => ?_), F.bindsN fun _ _ _ _ _ _ us hl => match us, hl with | [_], _ => rfl, F.kp⟩
  · obtain ⟨_, rfl, _⟩ := h
    rfl
  · refine ⟨_, PSs.nox (pss_cons (ps_set (i := 1) sc__law_word.nd rfl (Or.inl rfl) pe_str) (pss_cons (ps_set (i := 2) sc__law_word.nd rfl (Or.inl rfl) pe_str) (pss_cons (ps_for PassesOwn.never rfl (pi_range1 rfl T.b_range (pa_cons (pe_op op_mod (pv 0) pe_int) pa_nil)) (pg_name (i := 3) sc__law_word.nd rfl (Or.inl rfl)) (pss_one (ps_set (i := 2) sc__law_word.nd rfl (Or.inl rfl) (pe_op op_add_str (pv 2) (pe_ix ix_str (pv 1) (pe_op op_mod (pe_op op_add (pe_op op_fdiv (pv 0) pe_int) (pe_op op_mul (pe_op op_mul pe_int (pv 3)) (pv 3))) (pe_callB call_len_str (by rfl) T.b_len PySem.boot_len (pa_cons (pv 1) pa_nil))) (fun _ _ => rfl)))))) (pss_one (ps_ret (pv 2)))))), ?_⟩
    obtain ⟨cell, rfl, q⟩ := h
    have c0 := Int.emod_nonneg cell (show (4 : Int) ≠ 0 by decide)
    have c1 := Int.emod_lt_of_pos cell (show (0 : Int) < 4 by decide)
    have hwl : word7.length = 35 := by decide +kernel
    refine ⟨_, rfl, _, _, rfl, rfl, (by show (0 : Int) < 4; decide), _, rfl, by omega, by omega, for_range (lo := 0) (n := (cell % 4).toNat) (fun i σ H' => H' = H ∧ ∃ w kv, σ = [some (.int cell), some (.str word7), some (.str w), kv] ∧ PyData.strOk w = true ∧ w.length ≤ i) ⟨rfl, "", none, rfl, by decide +kernel, by decide +kernel⟩ ?_ ?_⟩
    · rintro i σ H' hi ⟨rfl, w, kv, rfl, h1, h2⟩
      refine ⟨_, rfl, _, rfl, _, rfl, _, _, rfl, rfl, ⟨by decide, by decide⟩, _, rfl, _, _, rfl, rfl, .inl ⟨by decide, by decide⟩, _, rfl, _, _, rfl, rfl, .inl (by constructor <;> first | omega | (dsimp only; omega)), _, _, rfl, rfl, _, rfl, word7, rfl, (by rw [hwl]; decide), _, _, rfl, rfl, (by show (0 : Int) < ((word7.length : Nat) : Int); rw [hwl]; decide), ?_⟩
      dsimp only
      obtain ⟨k, hk, hke⟩ : ∃ k : Nat, k < word7.length ∧ (cell / 4 + 31 * (0 + (i : Int)) * (0 + (i : Int))) % ((word7.length : Nat) : Int) = (k : Nat) := by
        have a1 := Int.emod_nonneg (cell / 4 + 31 * (0 + (i : Int)) * (0 + (i : Int))) (show ((word7.length : Nat) : Int) ≠ 0 by rw [hwl]; decide)
        have a2 := Int.emod_lt_of_pos (cell / 4 + 31 * (0 + (i : Int)) * (0 + (i : Int))) (show (0 : Int) < ((word7.length : Nat) : Int) by rw [hwl]; decide)
        exact ⟨((cell / 4 + 31 * (0 + (i : Int)) * (0 + (i : Int))) % ((word7.length : Nat) : Int)).toNat, by omega, by omega⟩
      rw [hke]
      have hll : word7.cps.toList.length = word7.length := by decide +kernel
      obtain ⟨c, hc⟩ : ∃ c, word7.cps.toList[k]? = some c := ⟨_, List.getElem?_eq_getElem (by omega)⟩
      refine ⟨word7, _, c, rfl, rfl, (by rw [hwl]; decide), atI_nat hc, w, ⟨#[c]⟩, rfl, rfl, ?_, rfl, w ++ ⟨#[c]⟩, _, rfl, ?_, ?_⟩
      · have : (⟨#[c]⟩ : Str).length = 1 := rfl
        rw [this]
        exact Nat.le_trans (show _ ≤ 100 by omega) (by decide)
      · have hcm : c < 0x110000 := by
          have hall : (word7.cps.toList.all fun x => decide (x < 0x110000)) = true := by decide +kernel
          exact of_decide_eq_true (List.all_eq_true.mp hall c (List.mem_of_getElem? hc))
        show ((w.cps ++ #[c]).all fun x => decide (x < 0x110000)) = true
        rw [Array.all_append]
        have : (w.cps.all fun x => decide (x < 0x110000)) = true := h1
        rw [this]
        simp [hcm]
      · show (w.cps ++ #[c]).size ≤ i + 1
        rw [Array.size_append]
        have : w.cps.size ≤ i := h2
        show w.cps.size + 1 ≤ i + 1
        omega
    · rintro σ H' ⟨rfl, w, kv, rfl, h1, _⟩
      exact ⟨_, rfl, q w h1⟩

end
end Fo
namespace Fo
open PySem PySem.Spec PyProof.Rows L2
section
variable {P : Program} {w : World} {K : PySem.W.Frag} {mg : Str → Option Value} {base : Heap}
/-! ### what the caller holds, but for things that it changes itself -/
structure Gx (X : Addr → Prop) (g : Gh) (H : Hp) (g' : Gh) (H' : Hp) : Prop where
  ok : Ok g' H'
  D : Same g.D g'.D
  keep : ∀ a o, H a = some o → g.own a = none → ¬ X a → H' a = some o ∧ g'.own a = none ∧ (g.D a = none → g'.D a = none)
  dom : ∀ a, H' a = none → H a = none
theorem Gx.refl {X : Addr → Prop} {g : Gh} {H : Hp} (k : Ok g H) : Gx X g H g H := ⟨k, Same.refl _, fun _ _ h n _ => ⟨h, n, fun z => z⟩, fun _ h => h⟩
theorem Gx.trans {X : Addr → Prop} {g g1 g2 : Gh} {H H1 H2 : Hp} (a : Gx X g H g1 H1) (b : Gx X g1 H1 g2 H2) : Gx X g H g2 H2 := ⟨b.ok, a.D.trans b.D, fun x o h n nx => by
  obtain ⟨h1, n1, d1⟩ := a.keep x o h n nx
  obtain ⟨h2, n2, d2⟩ := b.keep x o h1 n1 nx
  exact ⟨h2, n2, fun z => d2 (d1 z)⟩, fun x h => a.dom x (b.dom x h)⟩
theorem Gx.of {X : Addr → Prop} {T : Tag → Prop} {g g' : Gh} {H H' : Hp} (e : Go T g H g' H') : Gx X g H g' H' := ⟨e.ok, e.D, fun _ _ h n _ => ⟨e.keep h n, e.free h n, e.notD h⟩, fun _ h => e.dom h⟩
theorem Gx.same {X : Addr → Prop} {g : Gh} {H H' : Hp} (k : Ok g H) (e : Same H H') : Gx X g H g H' := Gx.of (Go.ext (T := TA) k e)
theorem Gx.mine {X : Addr → Prop} {g : Gh} {H : Hp} {p : Addr} {u : HO} (k : Ok g H) (hx : X p) (hD : g.D p = none) (hO : g.own p = none) : Gx X g H g (upd H p u) :=
  ⟨k.mine hD hO, Same.refl _, fun a o h n nx => ⟨by rw [upd_ne fun z => nx (by rw [z]; exact hx)]; exact h, n, fun z => z⟩, fun a h => by
    unfold upd at h
    split at h
    · cases h
    · exact h⟩
theorem Gx.mono {X Y : Addr → Prop} {g g' : Gh} {H H' : Hp} (e : Gx X g H g' H') (h : ∀ a, X a → Y a) : Gx Y g H g' H' := ⟨e.ok, e.D, fun a o w n nx => e.keep a o w n fun z => nx (h a z), e.dom⟩
/-- a list that the caller holds, and does not change -/
def HeldX (X : Addr → Prop) (K : PySem.W.Frag) (g : Gh) (H : Hp) (a : Addr) (xs : List V) : Prop := (SqL K H a xs ∧ (∃ o, H a = some o) ∧ g.own a = none ∧ ¬ X a) ∨ (∀ H', SqL K H' a xs)
theorem HeldX.sq {X : Addr → Prop} {K : PySem.W.Frag} {g : Gh} {H : Hp} {a : Addr} {xs : List V} (h : HeldX X K g H a xs) : SqL K H a xs := by
  rcases h with h | h
  · exact h.1
  · exact h H
theorem HeldX.go {X : Addr → Prop} {K : PySem.W.Frag} {g g' : Gh} {H H' : Hp} {a : Addr} {xs : List V} (h : HeldX X K g H a xs) (e : Gx X g H g' H') : HeldX X K g' H' a xs := by
  rcases h with ⟨h, ⟨o, h1⟩, h2, nx⟩ | h
  · obtain ⟨k1, k2, _⟩ := e.keep _ _ h1 h2 nx
    exact .inl ⟨sqL_at h h1 k1, ⟨o, k1⟩, k2, nx⟩
  · exact .inr h
theorem HeldX.of {X : Addr → Prop} {K : PySem.W.Frag} {g : Gh} {H : Hp} {a : Addr} {xs : List V} (h : H a = some (.lst xs)) (n : g.own a = none) (nx : ¬ X a) : HeldX X K g H a xs := .inl ⟨SqL.of h, ⟨_, h⟩, n, nx⟩
theorem Held.x {X : Addr → Prop} {K : PySem.W.Frag} {g : Gh} {H : Hp} {a : Addr} {xs : List V} (h : Held K g H a xs) (nx : ∀ o, H a = some o → ¬ X a) : HeldX X K g H a xs := by
  rcases h with ⟨h, ⟨o, h1⟩, h2⟩ | h
  · exact .inl ⟨h, ⟨o, h1⟩, h2, nx o h1⟩
  · exact .inr h
theorem HeldX.same {X : Addr → Prop} {K : PySem.W.Frag} {g : Gh} {H H' : Hp} {a : Addr} {xs : List V} (h : HeldX X K g H a xs) (e : Same H H') : HeldX X K g H' a xs := by
  rcases h with ⟨h, ⟨o, h1⟩, h2, nx⟩ | h
  · exact .inl ⟨e.seq h, ⟨o, e _ _ h1⟩, h2, nx⟩
  · exact .inr h
theorem HeldX.mono {X Y : Addr → Prop} {K : PySem.W.Frag} {g : Gh} {H : Hp} {a : Addr} {xs : List V} (h : HeldX X K g H a xs) (e : ∀ b, Y b → X b) : HeldX Y K g H a xs := by
  rcases h with ⟨h1, h2, h3, h4⟩ | h
  · exact .inl ⟨h1, h2, h3, fun z => h4 (e _ z)⟩
  · exact .inr h

end
end Fo
namespace Fo
open PySem PySem.Spec PyProof.Rows L2
section
variable {P : Program} {w : World} {K : PySem.W.Frag} {mg : Str → Option Value} {base : Heap}
/-- a text so many times -/
theorem op_mulS {X : Cx} : OpR X (binaryOp .Mult) (fun x y H Q => ∃ z n, x = .str z ∧ y = .int n ∧ MulOk z n ∧ Q (.str (Txt.mul z n)) H) := by
  intro pins s σ H x y v u Q I rx ry h
  obtain ⟨z, n, rfl, rfl, ok, q⟩ := h
  obtain ⟨t, rfl⟩ := rx
  obtain ⟨k, rfl⟩ := ry
  exact SB.mul ok fun t' k' => ⟨.str _, H, I.kept (t' := k') fun _ _ z => z, ⟨t', rfl⟩, q⟩

end
end Fo
namespace Fo
open PySem PySem.Spec PyProof.Rows L2
section
variable {P : Program} {w : World} {K : PySem.W.Frag} {mg : Str → Option Value} {base : Heap}
/-! ### what the caller of k09 holds; each outside A, what others of the caller's may change -/
theorem sub_lenM {l M : List Msg} (nd : l.Nodup) (h : ∀ x ∈ l, x ∈ M) : l.length ≤ M.length := by
  induction l generalizing M with
  | nil => exact Nat.zero_le _
  | cons a l ih =>
    have n1 := List.nodup_cons.mp nd
    have ha := h a List.mem_cons_self
    have h2 := ih n1.2 (M := M.erase a) fun x hx => (List.mem_erase_of_ne (fun (z : x = a) => n1.1 (z ▸ hx))).mpr (h x (List.mem_cons_of_mem _ hx))
    rw [List.length_erase_of_mem ha] at h2
    have := List.length_pos_of_mem ha
    rw [List.length_cons]
    omega
/-- pasts only grow -/
def PastGr (f f' : Flk) : Prop := ∀ i, ∃ Z, (f'.hand i).past = (f.hand i).past ++ Z
theorem PastGr.refl (f : Flk) : PastGr f f := fun _ => ⟨[], (List.append_nil _).symm⟩
theorem PastGr.trans {f f1 f2 : Flk} (a : PastGr f f1) (b : PastGr f1 f2) : PastGr f f2 := fun i => by
  obtain ⟨Z, h⟩ := a i
  obtain ⟨Z', h'⟩ := b i
  exact ⟨Z ++ Z', by rw [h', h, List.append_assoc]⟩
theorem PastGr.set {f : Flk} {i : Nat} {h : Hnd} {ls : List Ltr} (e : ∃ Z, h.past = (f.hand i).past ++ Z) : PastGr f ⟨f.hands.set i h, ls⟩ := fun j => by
  by_cases hi : i < f.hands.length
  · rw [hand_set hi]
    split
    · rename_i q
      rw [q]
      exact e
    · exact ⟨[], (List.append_nil _).symm⟩
  · rw [show (⟨f.hands.set i h, ls⟩ : Flk) = ⟨f.hands, ls⟩ by rw [List.set_eq_of_length_le (by omega)]]
    exact ⟨[], (List.append_nil _).symm⟩
theorem PastGr.same {f : Flk} {i : Nat} {h : Hnd} {ls : List Ltr} (e : h.past = (f.hand i).past) : PastGr f ⟨f.hands.set i h, ls⟩ := PastGr.set ⟨[], by rw [e, List.append_nil]⟩
theorem PastGr.post {f : Flk} {ls : List Ltr} : PastGr f ⟨f.hands, ls⟩ := fun _ => ⟨[], (List.append_nil _).symm⟩
theorem join_past {h : Hnd} {i : Nat} {n : News} : (h.join i n).past = h.past := by
  unfold Hnd.join
  split <;> rfl
theorem over_past {h : Hnd} {i : Nat} {l : Ltr} : ∃ Z, (h.over i l).1.past = h.past ++ Z := by
  have main : ∃ Z, (match h.seat with | none => (h, ([] : List Ltr)) | some s => if s.num = l.num then (({ h with seat := some (s.read i l).1 } : Hnd), (s.read i l).2) else (h, [])).1.past = h.past ++ Z := by
    cases h.seat with
    | none => exact ⟨[], (List.append_nil _).symm⟩
    | some s =>
      dsimp only
      split <;> exact ⟨[], (List.append_nil _).symm⟩
  unfold Hnd.over
  split
  · exact ⟨[], (List.append_nil _).symm⟩
  · cases l.told with
    | enter n =>
      show ∃ Z, (h.enterC i n).past = h.past ++ Z
      unfold Hnd.enterC
      cases h.seat with
      | none => exact ⟨[], by rw [List.append_nil]; exact join_past⟩
      | some s =>
        dsimp only
        split
        · exact ⟨[], (List.append_nil _).symm⟩
        · exact ⟨[(s.num, s.mem, n.row)], by rw [join_past]⟩
    | _ => exact main
theorem PastGr.come (f : Flk) (p : Nat) : PastGr f (f.come p) := by
  unfold Flk.come
  cases f.post[p]? with
  | none => exact PastGr.refl f
  | some l => exact PastGr.set over_past
theorem PastGr.cames : ∀ (k : Nat) (f : Flk), PastGr f (f.cames k)
  | 0, f => PastGr.refl f
  | k + 1, f => (PastGr.come f 0).trans (PastGr.cames k (f.come 0))
theorem PastGr.double (f : Flk) (p : Nat) : PastGr f (f.double p) := by
  unfold Flk.double
  cases f.post[p]? with
  | none => exact PastGr.refl f
  | some l => exact PastGr.post
theorem PastGr.did {f f' : Flk} {hand : Nat} {way : Int} {wd : Str} {W : List Int} {o : Nat} (d : DidT9 f hand way wd W o f') : PastGr f f' := by
  rcases d with ⟨_, s, _, rfl⟩ | ⟨_, s, _, _, rfl⟩ | ⟨_, rfl⟩ | ⟨_, s, _, rfl⟩ | ⟨_, s, nw, _, _, rfl⟩
  · exact PastGr.same rfl
  · exact PastGr.same rfl
  · exact PastGr.same rfl
  · exact PastGr.same rfl
  · exact PastGr.post
def P9 (m : Nat) (first : List Int) (n : Nat) (G : PG) (S : Nat → List (Int × Str)) (f0 f : Flk) : Prop := S9 m first n G S f ∧ PastGr f0 f
theorem P9.comeS {m n : Nat} {first : List Int} (G : PG) (S : Nat → List (Int × Str)) (f0 : Flk) (hn : n ≤ 90) : ComeS (P9 m first n G S f0) :=
  ⟨fun f p l h hp => ⟨(S9.comeS G S hn).come f p l h.1 hp, h.2.trans (PastGr.come f p)⟩, fun f p h => (S9.comeS G S hn).ok f p h.1, fun f h => (S9.comeS G S hn).len f h.1⟩
section
variable {m n : Nat} {first : List Int} {G : PG} {S : Nat → List (Int × Str)} {f : Flk} (st : S9 m first n G S f)
include st
theorem S9.hl : f.hands.length = m := by
  obtain ⟨G', q, L, e, st8, QI⟩ := st
  exact st8.len
theorem S9.pl (hn : n ≤ 90) : f.post.length ≤ 800000 := by
  obtain ⟨G', q, L, e, st8, QI⟩ := st
  have := (st8.plen hn).2
  omega
theorem S9.sok (hn : n ≤ 90) (i : Nat) (s : Seat) (h : f.acts (.int i) = .ok (i, s)) : SOk i s := by
  obtain ⟨G', q, L, e, st8, QI⟩ := st
  exact st8.sok hn h
theorem S9.le {n' : Nat} (h : n ≤ n') : S9 m first n' G S f := by
  obtain ⟨G', q, L, e, st8, QI⟩ := st
  exact ⟨G', q, L, e, st8.le h, QI⟩
theorem S9.lose {p : Nat} (hp : p < f.post.length) : S9 m first n G S (f.lose p) := by
  obtain ⟨G', q, L, e, st8, QI⟩ := st
  exact ⟨G', q, L, e, st8.lose hp, QI.lose p⟩
theorem S9.double {p : Nat} (hp : p < f.post.length) : S9 m first (n + 1) G S (f.double p) := by
  obtain ⟨G', q, L, e, st8, QI⟩ := st
  exact ⟨G', q, L, e, st8.double hp, QI.double p⟩
theorem S9.runs (hn : n ≤ 90) : ∃ k, f.runs k ∧ S9 m first n G S (f.cames k) := by
  obtain ⟨G', q, L, e, st8, QI⟩ := st
  obtain ⟨k, hk⟩ := st8.runs hn
  obtain ⟨G2, q2, L2, e2, st2, Q2⟩ := St8.cames9 k G' q f st8 QI hk
  exact ⟨k, hk, G2, q2, L.trans L2, e2.trans e, st2, Q2⟩
end
/-! #### what was said: a dict of lists of pairs -/
theorem valV_map9 {α : Type} {f : α → V} {k : α → Int} : ∀ {ms : List α} {x : α}, (ms.map k).Nodup → x ∈ ms → valV (ms.map fun h => ((Sum.inl (k h) : Key), f h)) (Sum.inl (k x)) = some (f x)
  | y :: r, x, nd, h => by
    unfold valV
    rw [List.map_cons, List.find?_cons]
    have nd1 := List.nodup_cons.mp nd
    by_cases e : k y = k x
    · have : y = x := by
        rcases List.mem_cons.mp h with h | h
        · exact h.symm
        · exact absurd (List.mem_map.mpr ⟨x, h, e.symm⟩) nd1.1
      subst this
      rw [decide_eq_true rfl]
      rfl
    · rw [decide_eq_false (fun z => e (Sum.inl.inj z))]
      have hx : x ∈ r := by
        rcases List.mem_cons.mp h with h | h
        · exact absurd (by rw [h]) e
        · exact h
      exact valV_map9 nd1.2 hx
def SLx (m : Nat) (la : Nat → Addr) (a : Addr) : Prop := ∃ h, h < m ∧ a = la h
def twV (A : Addr → Prop) (g : Gh) (H : Hp) (v : V) (x : Int × Str) : Prop := ∃ t, v = .ref t ∧ H t = some (.tup [.int x.1, .str x.2]) ∧ g.own t = none ∧ ¬ A t
structure Said9 (A : Addr → Prop) (g : Gh) (H : Hp) (sa : Addr) (m c : Nat) (S : Nat → List (Int × Str)) (la : Nat → Addr) : Prop where
  obj : H sa = some (.dK ((List.range m).map fun (i : Nat) => ((Sum.inl (i : Int) : Key), V.ref (la i))))
  own : g.own sa = none
  nA : ¬ A sa
  row : ∀ i, i < m → ∃ xs, H (la i) = some (.lst xs) ∧ g.own (la i) = none ∧ g.D (la i) = none ∧ ¬ A (la i) ∧ Paired (twV A g H) xs (S i)
  inj : ∀ i, i < m → ∀ j, j < m → la i = la j → i = j
  len : ∀ i, (S i).length ≤ c
  out : ∀ i, m ≤ i → S i = []
section
variable {A Y : Addr → Prop} {g g' : Gh} {H H' : Hp} {sa : Addr} {m c : Nat} {S : Nat → List (Int × Str)} {la : Nat → Addr} (r : Said9 A g H sa m c S la)
include r
theorem Said9.go (e : Gx Y g H g' H') (h : ∀ a, Y a → A a) : Said9 A g' H' sa m c S la := by
  have h1 := e.keep _ _ r.obj r.own fun z => r.nA (h _ z)
  refine ⟨h1.1, h1.2.1, r.nA, fun i hi => ?_, r.inj, r.len, r.out⟩
  obtain ⟨xs, w1, w2, w3, w4, w5⟩ := r.row i hi
  have h2 := e.keep _ _ w1 w2 fun z => w4 (h _ z)
  refine ⟨xs, h2.1, h2.2.1, h2.2.2 w3, w4, paired_imp (fun v x ⟨t, e1, e2, e3, e4⟩ => ?_) w5⟩
  have h3 := e.keep _ _ e2 e3 fun z => e4 (h _ z)
  exact ⟨t, e1, h3.1, h3.2.1, e4⟩
theorem Said9.goT {T : Tag → Prop} (e : Go T g H g' H') : Said9 A g' H' sa m c S la := r.go (Gx.of (X := fun _ => False) e) fun _ z => z.elim
theorem Said9.same (e : Same H H') : Said9 A g H' sa m c S la := by
  refine ⟨e _ _ r.obj, r.own, r.nA, fun i hi => ?_, r.inj, r.len, r.out⟩
  obtain ⟨xs, w1, w2, w3, w4, w5⟩ := r.row i hi
  exact ⟨xs, e _ _ w1, w2, w3, w4, paired_imp (fun v x ⟨t, e1, e2, e3, e4⟩ => ⟨t, e1, e _ _ e2, e3, e4⟩) w5⟩
theorem Said9.le {c' : Nat} (h : c ≤ c') : Said9 A g H sa m c' S la := ⟨r.obj, r.own, r.nA, r.row, r.inj, fun i => Nat.le_trans (r.len i) h, r.out⟩
theorem Said9.less {B : Addr → Prop} (h : ∀ a, B a → A a) : Said9 B g H sa m c S la := ⟨r.obj, r.own, fun z => r.nA (h _ z), fun i hi => by
  obtain ⟨xs, w1, w2, w3, w4, w5⟩ := r.row i hi
  exact ⟨xs, w1, w2, w3, fun z => w4 (h _ z), paired_imp (fun v x ⟨t, e1, e2, e3, e4⟩ => ⟨t, e1, e2, e3, fun z => e4 (h _ z)⟩) w5⟩, r.inj, r.len, r.out⟩
theorem Said9.get {i : Nat} (hi : i < m) : DGet H sa (.int i) (some (.ref (la i))) := by
  have h := DGet.k (k := Sum.inl (i : Int)) r.obj
  rw [valV_map9 (k := fun (j : Nat) => (j : Int)) (f := fun j => V.ref (la j)) (x := i) ?_ (List.mem_range.mpr hi)] at h
  · exact h
  · refine List.nodup_iff_pairwise_ne.mpr ?_
    rw [List.pairwise_map]
    exact List.pairwise_lt_range.imp fun h => by omega
theorem Said9.say {i : Nat} (hi : i < m) {xs : List V} (hx : H (la i) = some (.lst xs)) {t : Addr} {n : Int} {wd : Str} (ht : H t = some (.tup [.int n, .str wd])) (ho : g.own t = none) (hA : ¬ A t) : Said9 A g (upd H (la i) (.lst (xs ++ [.ref t]))) sa m (c + 1) (say9 S i (n, wd)) la := by
  have keep : ∀ b us, H b = some (.tup us) → upd H (la i) (.lst (xs ++ [.ref t])) b = some (.tup us) := fun b us hb => by
    rw [upd_ne fun z => by rw [z, hx] at hb; cases hb]
    exact hb
  refine ⟨by rw [upd_ne fun z => by have := r.obj; rw [z, hx] at this; cases this]; exact r.obj, r.own, r.nA, fun j hj => ?_, r.inj, fun j => ?_, fun j hj => ?_⟩
  · obtain ⟨ys, w1, w2, w3, w4, w5⟩ := r.row j hj
    have w5' : Paired (twV A g (upd H (la i) (.lst (xs ++ [.ref t])))) ys (S j) := paired_imp (fun v x ⟨t, e1, e2, e3, e4⟩ => ⟨t, e1, keep _ _ e2, e3, e4⟩) w5
    by_cases e : j = i
    · subst e
      rw [hx] at w1
      cases w1
      refine ⟨_, upd_same, w2, w3, w4, ?_⟩
      show Paired _ _ (if j = j then S j ++ [(n, wd)] else S j)
      rw [if_pos rfl]
      exact paired_app w5' (.cons ⟨t, rfl, keep _ _ ht, ho, hA⟩ .nil)
    · refine ⟨ys, by rw [upd_ne fun z => e (r.inj j hj i hi z)]; exact w1, w2, w3, w4, ?_⟩
      show Paired _ _ (if j = i then S j ++ [(n, wd)] else S j)
      rw [if_neg e]
      exact w5'
  · unfold say9
    have := r.len j
    split
    · rw [List.length_append]
      show _ + 1 ≤ _
      omega
    · omega
  · unfold say9
    rw [if_neg (by omega)]
    exact r.out j hj
end
/-- a row of messages of one list, as the caller keeps what was said -/
def RowS (S : Nat → List (Int × Str)) (n : Int) (r : List Msg) : Prop := r.Nodup ∧ ∀ x ∈ r, mOk x ∧ ∃ i k : Nat, x.hand = i ∧ x.cnt = k ∧ (S i)[k]? = some (n, x.word)
theorem RowIn.s {q : QG} {S : Nat → List (Int × Str)} {n : Int} {r : List Msg} (h : RowIn q n r) (e : q.S = S) : RowS S n r := ⟨h.1, fun x hx => by
  obtain ⟨w1, i, k, w2, w3, w4⟩ := h.2 x hx
  rw [e] at w4
  exact ⟨w1, i, k, w2, w3, w4⟩⟩
theorem RowS.ok {S : Nat → List (Int × Str)} {n : Int} {r : List Msg} (h : RowS S n r) : rOk r := fun x hx => (h.2 x hx).1
theorem flatM_len {α : Type} (f : Nat → List α) (c : Nat) : ∀ l : List Nat, (∀ i ∈ l, (f i).length ≤ c) → (l.flatMap f).length ≤ l.length * c
  | [], _ => Nat.zero_le _
  | x :: l, h => by
    have h1 := flatM_len f c l fun i hi => h i (List.mem_cons_of_mem _ hi)
    have h2 := h x List.mem_cons_self
    rw [List.flatMap_cons, List.length_append, List.length_cons, Nat.add_mul]
    omega
theorem RowS.len {S : Nat → List (Int × Str)} {n : Int} {r : List Msg} (h : RowS S n r) {m c : Nat} (hl : ∀ i, (S i).length ≤ c) (ho : ∀ i, m ≤ i → S i = []) : r.length ≤ m * c := by
  have h1 := sub_lenM (M := (List.range m).flatMap fun (i : Nat) => (List.range (S i).length).map fun (k : Nat) => (⟨(i : Int), (k : Int), (((S i)[k]?).map (·.2)).getD ""⟩ : Msg)) h.1 fun x hx => by
    obtain ⟨_, i, k, w2, w3, w4⟩ := h.2 x hx
    have hk := (List.getElem?_eq_some_iff.mp w4).1
    have hi : i < m := Decidable.byContradiction fun z => by
      rw [ho i (by omega)] at hk
      exact absurd hk (Nat.not_lt_zero _)
    refine List.mem_flatMap.mpr ⟨i, List.mem_range.mpr hi, List.mem_map.mpr ⟨k, List.mem_range.mpr hk, ?_⟩⟩
    rw [w4, ← w2, ← w3]
    rfl
  refine Nat.le_trans h1 (Nat.le_trans (flatM_len _ c _ fun i _ => ?_) (by rw [List.length_range]; exact Nat.le_refl _))
  rw [List.length_map, List.length_range]
  exact hl i
/-! #### ends: a dict of rows -/
structure EndD (A : Addr → Prop) (G : PG) (g : Gh) (H : Hp) (ka : Addr) : Prop where
  ex : ∃ (kvs : List (Key × V)) (ks : List Int), H ka = some (.dK kvs) ∧ kvs.map (·.1) = ks.map Sum.inl ∧ ks.Nodup ∧ (∀ k ∈ ks, 0 ≤ k ∧ k ≤ 90) ∧
    ∀ n v, valV kvs (.inl n) = some v → 0 ≤ n ∧ ∃ (la : Addr) (M : List Int) (r : List Msg) (xs : List V), v = .ref la ∧ G.cfg (n + 1) = some (M, r) ∧ H la = some (.lst xs) ∧ g.own la = none ∧ ¬ A la ∧ Paired (msgV g.D) xs r
  own : g.own ka = none
  D : g.D ka = none
  nA : ¬ A ka
section
variable {A Y : Addr → Prop} {G G' : PG} {g g' : Gh} {H H' : Hp} {ka : Addr} (h : EndD A G g H ka)
include h
theorem EndD.leq (L : PG.Leq G G') : EndD A G' g H ka := by
  obtain ⟨⟨kvs, ks, h1, h2, h3, h4, h6⟩, h7, h8, h9⟩ := h
  exact ⟨⟨kvs, ks, h1, h2, h3, h4, fun n v e => by
    obtain ⟨w0, la, M, r, xs, w1, w2, w3⟩ := h6 n v e
    exact ⟨w0, la, M, r, xs, w1, L.cfg _ _ w2, w3⟩⟩, h7, h8, h9⟩
theorem EndD.go (e : Gx Y g H g' H') (hY : ∀ a, Y a → A a) : EndD A G g' H' ka := by
  obtain ⟨⟨kvs, ks, h1, h2, h3, h4, h6⟩, h7, h8, h9⟩ := h
  have k1 := e.keep _ _ h1 h7 fun z => h9 (hY _ z)
  exact ⟨⟨kvs, ks, k1.1, h2, h3, h4, fun n v w => by
    obtain ⟨w0, la, M, r, xs, w1, w2, w3, w4, w5, w6⟩ := h6 n v w
    have k2 := e.keep _ _ w3 w4 fun z => w5 (hY _ z)
    exact ⟨w0, la, M, r, xs, w1, w2, k2.1, k2.2.1, w5, paired_imp (fun _ _ => msgV.up e.D) w6⟩⟩, k1.2.1, k1.2.2 h8, h9⟩
theorem EndD.same (e : Same H H') : EndD A G g H' ka := by
  obtain ⟨⟨kvs, ks, h1, h2, h3, h4, h6⟩, h7, h8, h9⟩ := h
  exact ⟨⟨kvs, ks, e _ _ h1, h2, h3, h4, fun n v w => by
    obtain ⟨w0, la, M, r, xs, w1, w2, w3, w4⟩ := h6 n v w
    exact ⟨w0, la, M, r, xs, w1, w2, e _ _ w3, w4⟩⟩, h7, h8, h9⟩
theorem EndD.put {la : Addr} {kvs : List (Key × V)} {n : Int} {M : List Int} {r : List Msg} {xs : List V} (hk : H ka = some (.dK kvs)) (hn : valV kvs (.inl n) = none) (n0 : 0 ≤ n ∧ n ≤ 90) (hM : G.cfg (n + 1) = some (M, r)) (hl : H la = some (.lst xs)) (ho : g.own la = none) (hA : ¬ A la) (hp : Paired (msgV g.D) xs r) : EndD A G g (upd H ka (.dK (putK kvs (.inl n) (.ref la)))) ka := by
  obtain ⟨⟨kvs', ks, h1, h2, h3, h4, h6⟩, h7, h8, h9⟩ := h
  rw [hk] at h1
  cases h1
  have keep : ∀ b us, H b = some (.lst us) → upd H ka (.dK (putK kvs (.inl n) (.ref la))) b = some (.lst us) := fun b us hb => by
    rw [upd_ne fun z => by rw [z, hk] at hb; cases hb]
    exact hb
  refine ⟨⟨_, ks ++ [n], upd_same, ?_, ?_, fun k hk' => ?_, fun k v w => ?_⟩, h7, h8, h9⟩
  · rw [putK_new (by rw [valV_any, hn]; rfl), List.map_append, List.map_append, h2]
    rfl
  · refine List.nodup_append.mpr ⟨h3, List.nodup_cons.mpr ⟨List.not_mem_nil, List.Pairwise.nil⟩, fun x hx y hy e => ?_⟩
    rw [List.mem_singleton.mp hy] at e
    subst e
    have : (Sum.inl x : Key) ∈ kvs.map (·.1) := by rw [h2]; exact List.mem_map_of_mem hx
    obtain ⟨p, hp, hpe⟩ := List.mem_map.mp this
    have ha : (kvs.any fun kv => decide (kv.1 = (Sum.inl x : Key))) = true := List.any_eq_true.mpr ⟨p, hp, decide_eq_true hpe⟩
    rw [valV_any, hn] at ha
    cases ha
  · rcases List.mem_append.mp hk' with w | w
    · exact h4 k w
    · rw [List.mem_singleton.mp w]; exact n0
  · rw [valV_put] at w
    split at w
    · rename_i e
      cases w
      cases e
      exact ⟨n0.1, la, M, r, xs, rfl, hM, keep _ _ hl, ho, hA, hp⟩
    · obtain ⟨w0, la', M', r', xs', w1, w2, w3, w4, w5, w6⟩ := h6 k v w
      exact ⟨w0, la', M', r', xs', w1, w2, keep _ _ w3, w4, w5, w6⟩
end
/-! #### before: a list of pasts -/
def bpV (A : Addr → Prop) (g : Gh) (H : Hp) (v : V) (p : Int × List Int × List Msg) : Prop := ∃ t l mm xs, v = .ref t ∧ (H t = some (.tup [.int p.1, .ref l, .ref mm]) ∧ g.own t = none ∧ ¬ A t) ∧ (H l = some (.lst (p.2.1.map V.int)) ∧ g.own l = none ∧ ¬ A l) ∧ (H mm = some (.lst xs) ∧ g.own mm = none ∧ ¬ A mm) ∧ Paired (msgV g.D) xs p.2.2
theorem bpV.go {A Y : Addr → Prop} {g g' : Gh} {H H' : Hp} {v : V} {p : Int × List Int × List Msg} (h : bpV A g H v p) (e : Gx Y g H g' H') (hY : ∀ a, Y a → A a) : bpV A g' H' v p := by
  obtain ⟨t, l, mm, xs, h0, ⟨a1, a2, a3⟩, ⟨b1, b2, b3⟩, ⟨c1, c2, c3⟩, d⟩ := h
  have k1 := e.keep _ _ a1 a2 fun z => a3 (hY _ z)
  have k2 := e.keep _ _ b1 b2 fun z => b3 (hY _ z)
  have k3 := e.keep _ _ c1 c2 fun z => c3 (hY _ z)
  exact ⟨t, l, mm, xs, h0, ⟨k1.1, k1.2.1, a3⟩, ⟨k2.1, k2.2.1, b3⟩, ⟨k3.1, k3.2.1, c3⟩, paired_imp (fun _ _ => msgV.up e.D) d⟩
def Wb (A : Addr → Prop) (ba : Addr) : Addr → Prop := fun b => A b ∨ b = ba
structure BefR (A : Addr → Prop) (g : Gh) (H : Hp) (ba : Addr) (m : Nat) (bs : List Addr) (B : Nat → List (Int × List Int × List Msg)) : Prop where
  obj : H ba = some (.lst (bs.map V.ref))
  own : g.own ba = none
  D : g.D ba = none
  nA : ¬ A ba
  len : bs.length = m
  row : ∀ i a, bs[i]? = some a → ∃ xs, H a = some (.lst xs) ∧ g.own a = none ∧ ¬ Wb A ba a ∧ Paired (bpV (Wb A ba) g H) xs (B i)
section
variable {A Y : Addr → Prop} {g g' : Gh} {H H' : Hp} {ba : Addr} {m : Nat} {bs : List Addr} {B : Nat → List (Int × List Int × List Msg)} (h : BefR A g H ba m bs B)
include h
theorem BefR.go (e : Gx Y g H g' H') (hY : ∀ a, Y a → A a) : BefR A g' H' ba m bs B := by
  have k1 := e.keep _ _ h.obj h.own fun z => h.nA (hY _ z)
  refine ⟨k1.1, k1.2.1, k1.2.2 h.D, h.nA, h.len, fun i a ha => ?_⟩
  obtain ⟨xs, w1, w2, w3, w4⟩ := h.row i a ha
  have k2 := e.keep _ _ w1 w2 fun z => w3 (.inl (hY _ z))
  exact ⟨xs, k2.1, k2.2.1, w3, paired_imp (fun _ _ q => q.go e fun b z => .inl (hY b z)) w4⟩
theorem BefR.same (k : Ok g H) (e : Same H H') : BefR A g H' ba m bs B := h.go (Gx.same (X := fun _ => False) k e) fun _ z => z.elim
theorem BefR.set {i : Nat} {a : Addr} {xs : List V} {ps : List (Int × List Int × List Msg)} (hi : i < m) (h1 : H a = some (.lst xs)) (h2 : g.own a = none) (h3 : ¬ Wb A ba a) (h4 : Paired (bpV (Wb A ba) g H) xs ps) : BefR A g (upd H ba (.lst ((bs.map V.ref).set i (.ref a)))) ba m (bs.set i a) (fun j => if j = i then ps else B j) := by
  have keep : ∀ b o, H b = some o → ¬ Wb A ba b → upd H ba (.lst ((bs.map V.ref).set i (.ref a))) b = some o := fun b o hb nb => by
    rw [upd_ne fun z => nb (.inr z)]
    exact hb
  have kp : ∀ v p, bpV (Wb A ba) g H v p → bpV (Wb A ba) g (upd H ba (.lst ((bs.map V.ref).set i (.ref a)))) v p := fun v p ⟨t, l, mm, xs, h0, ⟨a1, a2, a3⟩, ⟨b1, b2, b3⟩, ⟨c1, c2, c3⟩, d⟩ => ⟨t, l, mm, xs, h0, ⟨keep _ _ a1 a3, a2, a3⟩, ⟨keep _ _ b1 b3, b2, b3⟩, ⟨keep _ _ c1 c3, c2, c3⟩, d⟩
  refine ⟨by rw [upd_same, List.map_set], h.own, h.D, h.nA, by rw [List.length_set]; exact h.len, fun j b hb => ?_⟩
  rw [List.getElem?_set] at hb
  by_cases e : i = j
  · subst e
    rw [if_pos rfl, if_pos (by rw [h.len]; exact hi)] at hb
    cases hb
    exact ⟨xs, keep _ _ h1 h3, h2, h3, by rw [if_pos rfl]; exact paired_imp kp h4⟩
  · rw [if_neg e] at hb
    obtain ⟨ys, w1, w2, w3, w4⟩ := h.row j b hb
    exact ⟨ys, keep _ _ w1 w3, w2, w3, by rw [if_neg fun z => e z.symm]; exact paired_imp kp w4⟩
end

end
end Fo
namespace Fo
open PySem PySem.Spec PyProof.Rows L2
section
variable {P : Program} {w : World} {K : PySem.W.Frag} {mg : Str → Option Value} {base : Heap}
theorem word9_ok {k : Nat} (h : k < 4) : PyData.strOk (Txt.mul "w" (k : Nat)) = true ∧ MulOk "w" (k : Nat) := by
  have : k = 0 ∨ k = 1 ∨ k = 2 ∨ k = 3 := by omega
  rcases this with rfl | rfl | rfl | rfl <;> refine ⟨by decide +kernel, by decide +kernel, by decide +kernel, by decide +kernel⟩
theorem did_seat {f f' : Flk} {hand : Nat} {wd : Str} {W : List Int} {o : Nat} (d : DidT9 f hand 0 wd W o f') (hi : hand < f.hands.length) (j : Nat) : (f'.hand j).seat = (f.hand j).seat := by
  rcases d with ⟨_, s, _, rfl⟩ | ⟨z, _⟩ | ⟨z, _⟩ | ⟨z, _⟩ | ⟨z, _⟩
  · show ((⟨f.hands.set hand _, _⟩ : Flk).hand j).seat = _
    rw [hand_set hi]
    split
    · rename_i e
      rw [e]
      rfl
    · rfl
  · exact absurd z (by decide)
  · exact absurd z (by decide)
  · exact absurd z (by decide)
  · exact absurd rfl z
theorem hands3 {b : Int} (h0 : 1 ≤ b) (h1 : b ≤ 7) : handsOf b 3 ≠ [] := by
  have : b = 1 ∨ b = 2 ∨ b = 3 ∨ b = 4 ∨ b = 5 ∨ b = 6 ∨ b = 7 := by omega
  rcases this with rfl | rfl | rfl | rfl | rfl | rfl | rfl <;> decide
def strs9 (xs : List V) : Prop := ∀ x ∈ xs, ∃ z, x = V.str z
theorem strs9_cut {xs : List V} (h : strs9 xs) (a b : Option Int) : strs9 (cutV xs a b) := fun x hx => h x (List.mem_of_mem_drop (List.mem_of_mem_take hx))
/-- a list of the caller's that is new -/
theorem held_new {K : PySem.W.Frag} {g : Gh} {H H' : Hp} {sl : Addr} {zs : List V} (k : Ok g H) (h : H sl = none) (h' : H' sl = some (.lst zs)) : Held K g H' sl zs := .inl ⟨SqL.of h', ⟨_, h'⟩, k.onone h⟩
def spTold9 (K : PySem.W.Frag) : Sp := fun vs H Q _ => ∃ (A : Addr → Prop) (g : Gh) (fa : Addr) (f : Flk) (L : FL) (cell : Int) (sa : Addr) (first : List Int) (G : PG) (S : Nat → List (Int × Str)) (la : Nat → Addr), vs = [.ref fa, .int cell, .ref sa] ∧ FolkR K g H fa f L ∧ S9 3 first 0 G S f ∧ (∀ i s, (f.hand i).seat = some s → s.num = 0) ∧ Said9 A g H sa 3 0 S la ∧ (∀ a, A a → H a ≠ none) ∧
  ∀ g' H' f' L' S', Gx (SLx 3 la) g H g' H' → FolkR K g' H' fa f' L' → S9 3 first 4 G S' f' → PastGr f f' → Said9 A g' H' sa 3 4 S' la → Q .non H'
theorem sc__law_told_on : FnScope ["_law_folk", "_law_cell", "_law_said", "_law_late", "_law_k", "_law_hand", "_law_kind", "_law_offerer"] ["_law_folk", "_law_cell", "_law_said"] (defScope s__law_told_on) := ⟨rfl, rfl, rfl, by decide +kernel, rfl, by decide +kernel, by decide +kernel⟩
set_option maxRecDepth 100000 in
theorem ok__law_told_on (T : Txt K mg) : OkF P w K mg base CX0 13 (He.ga K "_law_told_on") ["_law_folk", "_law_cell", "_law_said"] (spTold9 K) := by
  obtain ⟨fd, F⟩ := T.F__law_told_on
  obtain ⟨fd__law_tried, G__law_tried⟩ := ok__law_tried (P := P) (w := w) (base := base) T
  obtain ⟨fd__law_phase, G__law_phase⟩ := ok__law_phase (P := P) (w := w) (base := base) T
  obtain ⟨fd__law_hands, G__law_hands⟩ := ok__law_hands (P := P) (w := w) (base := base) T
  refine ⟨fd, F.ok sc__law_told_on (fun vs H Q E h => ?_) (fun cdv A outer s H vs Q E hr h => ?_), F.bindsN fun _ _ _ _ _ _ us hl => match us, hl with | [_, _, _], _ => rfl, F.kp⟩
  · obtain ⟨_, _, _, _, _, _, _, _, _, _, _, rfl, _⟩ := h
    rfl
  · refine ⟨_, PSs.nox (pss_cons (ps_set (i := 3) sc__law_told_on.nd rfl (Or.inl rfl) (pe_op op_add pe_int (pe_op op_mod (pv 1) pe_int))) (C8.pss_cut (ps_for PassesOwn.never rfl (pi_range1 rfl T.b_range (pa_cons (pe_op op_add pe_int (pe_op op_mod (pe_op op_fdiv (pv 1) pe_int) pe_int)) pa_nil)) (pg_name (i := 4) sc__law_told_on.nd rfl (Or.inl rfl)) (pss_cons (ps_set (i := 5) sc__law_told_on.nd rfl (Or.inl rfl) (pe_op op_mod (pe_op op_fdiv (pv 1) (pe_op op_add pe_int (pv 4))) pe_int)) (pss_one (ps_if (pt_val (pe_call G__law_tried.1 (hr.mono (by decide)) rfl T.g__law_tried G__law_tried.2.2 G__law_tried.2.1 .nil pass0 (pa_cons (pv 0) (pa_cons pe_int (pa_cons (pv 5) (pa_cons (pe_op op_mulS pe_str (pv 4)) pa_nil)))))) (pss_one (ps_expr (pe_bm PySem.F.plainAttrs_list PySem.F.slot_list_append PySem.F.type_list_append mt_append (pe_dget hr.hu (pv 2) (pv 5) (fun _ _ => rfl)) (pa_cons (pe_tup (pa_cons pe_int (pa_cons (pe_op op_mulS pe_str (pv 4)) pa_nil))) pa_nil)))) pss_nil)))) (C8.pss_cut (ps_for PassesOwn.never rfl (pi_list (pe_slice sl_list (pe_lst (pa_cons pe_str (pa_cons pe_str (pa_cons pe_str (pa_cons pe_str pa_nil))))) po_none (po_some (pe_op op_add pe_int (pe_op op_mod (pe_op op_fdiv (pv 1) pe_int) pe_int))))) (pg_name (i := 6) sc__law_told_on.nd rfl (Or.inl rfl)) (pss_one (ps_expr (pe_call G__law_phase.1 (hr.mono (by decide)) rfl T.g__law_phase G__law_phase.2.2 G__law_phase.2.1 .nil pass0 (pa_cons (pv 0) (pa_cons (pv 6) (pa_cons (pe_lst (pa_cons (pv 3) pa_nil)) pa_nil))))))) (pss_cons (ps_set (i := 7) sc__law_told_on.nd rfl (Or.inl rfl) (pe_op op_add pe_int (pe_op op_mod (pe_op op_fdiv (pv 1) pe_int) pe_int))) (C8.pss_cut (ps_expr (pe_call G__law_tried.1 (hr.mono (by decide)) rfl T.g__law_tried G__law_tried.2.2 G__law_tried.2.1 .nil pass0 (pa_cons (pv 0) (pa_cons pe_int (pa_cons (pv 7) (pa_cons (pe_call G__law_hands.1 (hr.mono (by decide)) rfl T.g__law_hands G__law_hands.2.2 G__law_hands.2.1 .nil pass0 (pa_cons (pe_op op_add pe_int (pe_op op_mod (pe_op op_fdiv (pv 1) pe_int) pe_int)) (pa_cons pe_int pa_nil))) pa_nil)))))) (pss_one (ps_for PassesOwn.never rfl (pi_list (pe_slice sl_list (pe_lst (pa_cons pe_str (pa_cons pe_str (pa_cons pe_str (pa_cons pe_str (pa_cons pe_str pa_nil)))))) po_none (po_some (pe_op op_sub pe_int (pe_op op_mod (pe_op op_fdiv (pv 1) pe_int) pe_int))))) (pg_name (i := 6) sc__law_told_on.nd rfl (Or.inl rfl)) (pss_one (ps_expr (pe_call G__law_phase.1 (hr.mono (by decide)) rfl T.g__law_phase G__law_phase.2.2 G__law_phase.2.1 .nil pass0 (pa_cons (pv 0) (pa_cons (pv 6) (pa_cons (pe_lst (pa_cons pe_int pa_nil)) pa_nil))))))))))))), ?_⟩
    obtain ⟨A, g, fa, f, L, cell, sa, first, G, S, la, rfl, r, st, z0, sd, hA, q⟩ := h
    have c0 := Int.emod_nonneg (cell / 2) (show (3 : Int) ≠ 0 by decide)
    have c1 := Int.emod_lt_of_pos (cell / 2) (show (0 : Int) < 3 by decide)
    refine ⟨_, rfl, _, _, rfl, rfl, (by show (0 : Int) < 2; decide), _, _, rfl, rfl, ?_⟩
    refine ⟨fun σ H1 => ∃ g1 f1 L1 S1 kv hv, σ = [some (.ref fa), some (.int cell), some (.ref sa), some (.int (1 + cell % 2)), kv, hv, none, none] ∧ Gx (SLx 3 la) g H g1 H1 ∧ FolkR K g1 H1 fa f1 L1 ∧ S9 3 first 3 G S1 f1 ∧ PastGr f f1 ∧ Said9 A g1 H1 sa 3 3 S1 la, ?_, ?_⟩
    · refine ⟨_, rfl, _, _, rfl, rfl, ⟨by decide, by decide⟩, _, _, rfl, rfl, (by show (0 : Int) < 3; decide), _, _, rfl, rfl, _, rfl, by omega, by omega, for_range (lo := 0) (n := (1 + cell / 2 % 3).toNat) (fun i σ H1 => ∃ g1 f1 L1 S1 kv hv, σ = [some (.ref fa), some (.int cell), some (.ref sa), some (.int (1 + cell % 2)), kv, hv, none, none] ∧ Gx (SLx 3 la) g H g1 H1 ∧ FolkR K g1 H1 fa f1 L1 ∧ S9 3 first i G S1 f1 ∧ PastGr f f1 ∧ (∀ i s, (f1.hand i).seat = some s → s.num = 0) ∧ Said9 A g1 H1 sa 3 i S1 la) ⟨g, f, L, S, none, none, rfl, Gx.refl r.ok, r, st, PastGr.refl f, z0, sd⟩ ?_ ?_⟩
      · rintro i σ H1 hi ⟨g1, f1, L1, S1, kv, hv, rfl, gx1, r1, st1, pg1, z1, sd1⟩
        have hi3 : i < 3 := by omega
        rw [show (0 : Int) + (i : Nat) = (i : Nat) from Int.zero_add _]
        obtain ⟨hn, hhn, hhe⟩ : ∃ hn : Nat, hn < 3 ∧ cell / (6 + (i : Int)) % 3 = (hn : Nat) := by
          have a1 := Int.emod_nonneg (cell / (6 + (i : Int))) (show (3 : Int) ≠ 0 by decide)
          have a2 := Int.emod_lt_of_pos (cell / (6 + (i : Int))) (show (0 : Int) < 3 by decide)
          exact ⟨(cell / (6 + (i : Int)) % 3).toNat, by omega, by omega⟩
        obtain ⟨wok, mok⟩ := word9_ok (k := i) (by omega)
        have hl1 := st1.hl
        refine ⟨_, rfl, _, rfl, _, _, rfl, rfl, _, _, rfl, rfl, (by constructor <;> first | omega | (dsimp only; omega)), _, _, rfl, rfl, (by show (0 : Int) < 3; decide), ?_⟩
        try dsimp only
        rw [hhe]
        refine ⟨_, rfl, _, rfl, _, rfl, _, _, rfl, rfl, mok, ?_⟩
        refine ⟨g1, fa, f1, L1, 0, hn, _, Txt.mul "w" (i : Nat), [], 0, rfl, r1, by omega, st1.pl (by omega), by omega, fun s hs => st1.sok (by omega) hn s hs, fun _ => rfl, (fun z => absurd z (by decide)), fun z => absurd rfl z, ?_, fun g2 H2 f2 L2 e2 r2 d2 => ?_⟩
        · exact ⟨_, rfl, iteF ⟨g1, f1, L1, S1, _, _, rfl, gx1, r1, st1.le (Nat.le_succ _), pg1, z1, sd1.le (Nat.le_succ _)⟩⟩
        · obtain ⟨s, hs, st2⟩ := (st1.did (by omega) hhn wok (W := []) (fun z => absurd z (by decide)) (o := 0) (by decide) d2).2 rfl
          rw [z1 hn s hs] at st2
          have sd2 := sd1.goT e2
          have gx2 := gx1.trans (Gx.of (X := SLx 3 la) e2)
          obtain ⟨xs, w1, w2, w3, w4, w5⟩ := sd2.row hn hhn
          have hxl := paired_len w5
          have hsl := sd2.len hn
          refine ⟨_, rfl, iteT ⟨_, rfl, _, rfl, sa, _, rfl, sd2.get hhn, .inl ⟨rfl, _, SqL.of w1⟩, _, rfl, _, _, rfl, rfl, mok, (by show 2 ≤ sizeLine; decide), fun t ht => ?_⟩⟩
          have et := same_upd (o := .tup [.int 0, .str (Txt.mul "w" (i : Nat))]) ht
          have htA : ¬ A t := fun z => hA t z (gx2.dom t ht)
          have r3 := r2.ext et
          have sd3 := sd2.same et
          refine ⟨_, _, _, rfl, rfl, et _ _ w1, Nat.lt_of_le_of_lt (show xs.length ≤ 100 by omega) (by decide), ?_⟩
          refine ⟨g2, f2, _, _, _, _, rfl, (gx2.trans (Gx.same r2.ok et)).trans (Gx.mine r3.ok ⟨hn, hhn, rfl⟩ w3 w2), r3.mine w3 w2, st2, pg1.trans (PastGr.did d2), fun j s' hs' => ?_, sd3.say hhn (et _ _ w1) upd_same (r2.ok.onone ht) htA⟩
          rw [did_seat d2 (by omega) j] at hs'
          exact z1 j s' hs'
      · rintro σ H1 ⟨g1, f1, L1, S1, kv, hv, rfl, gx1, r1, st1, pg1, z1, sd1⟩
        exact ⟨g1, f1, L1, S1, kv, hv, rfl, gx1, r1, st1.le (by omega), pg1, sd1.le (by omega)⟩
    clear sd z0 st r
    rintro σ H1 ⟨g1, f1, L1, S1, kv, hv, rfl, gx1, r1, st1, pg1, sd1⟩
    refine ⟨fun σ H2 => ∃ g2 f2 L2 kd, σ = [some (.ref fa), some (.int cell), some (.ref sa), some (.int (1 + cell % 2)), kv, hv, kd, none] ∧ Gx (SLx 3 la) g H g2 H2 ∧ FolkR K g2 H2 fa f2 L2 ∧ P9 3 first 3 G S1 f f2 ∧ Said9 A g2 H2 sa 3 3 S1 la, ?_, ?_⟩
    · refine ⟨(by show 4 ≤ sizeLine; decide), fun l5 hl5 => ⟨_, rfl, _, _, rfl, rfl, ⟨by decide, by decide⟩, _, _, rfl, rfl, (by show (0 : Int) < 4; decide), _, _, rfl, rfl, _, rfl, l5, _, rfl, SqL.of upd_same, fun sl hsl => ⟨sl, rfl, ⟨_, SqL.of upd_same⟩, ?_⟩⟩⟩
      obtain ⟨zs, hzs⟩ : ∃ zs, cutV [V.str "wish", V.str "hold", V.str "have", V.str "take"] none (some (1 + cell / 6 % 4)) = zs := ⟨_, rfl⟩
      have hzst : strs9 zs := by
        rw [← hzs]
        refine strs9_cut (fun x hx => ?_) _ _
        simp only [List.mem_cons, List.not_mem_nil, or_false] at hx
        rcases hx with h | h | h | h <;> exact ⟨_, h⟩
      have e3 := (same_upd (o := .lst [V.str "wish", V.str "hold", V.str "have", V.str "take"]) hl5).trans (same_upd (o := .lst (cutV [V.str "wish", V.str "hold", V.str "have", V.str "take"] none (some (1 + cell / 6 % 4)))) hsl)
      have hsl2 := upd_same (H := upd H1 l5 (.lst [V.str "wish", V.str "hold", V.str "have", V.str "take"])) (a := sl) (o := .lst (cutV [V.str "wish", V.str "hold", V.str "have", V.str "take"] none (some (1 + cell / 6 % 4))))
      have hsn : H1 sl = none := (same_upd (o := .lst [V.str "wish", V.str "hold", V.str "have", V.str "take"]) hl5).free hsl
      rw [hzs] at e3 hsl2 ⊢
      have r3 := r1.ext e3
      refine for_list (K := K) (a := sl) (xs := zs) (fun j σ H2 => ∃ g2 f2 L2 kd, σ = [some (.ref fa), some (.int cell), some (.ref sa), some (.int (1 + cell % 2)), kv, hv, kd, none] ∧ Gx (SLx 3 la) g H g2 H2 ∧ FolkR K g2 H2 fa f2 L2 ∧ P9 3 first 3 G S1 f f2 ∧ Said9 A g2 H2 sa 3 3 S1 la ∧ Held K g2 H2 sl zs) ⟨g1, f1, L1, none, rfl, gx1.trans (Gx.same r1.ok e3), r3, ⟨st1, pg1⟩, sd1.same e3, held_new r1.ok hsn hsl2⟩ (fun j σ H2 _ w => ?_) ?_ ?_
      · obtain ⟨_, _, _, _, _, _, _, _, _, h⟩ := w
        exact h.sq
      · rintro j x σ H4 hx ⟨g4, f4, L4, kd, rfl, gx4, r4, st4, sd4, hh4⟩
        obtain ⟨z, rfl⟩ := hzst x (List.mem_of_getElem? hx)
        refine ⟨_, rfl, _, rfl, _, rfl, (by show 1 ≤ sizeLine; decide), fun p hp => ?_⟩
        have e5 := same_upd (o := .lst [V.int (1 + cell % 2)]) hp
        refine ⟨g4, fa, f4, L4, z, p, [1 + cell % 2], P9 3 first 3 G S1 f, rfl, r4.ext e5, P9.comeS G S1 f (by decide), st4, held_new r4.ok hp upd_same, fun g6 H6 f6 L6 e6 r6 st6 => ?_⟩
        exact ⟨g6, f6, L6, _, rfl, (gx4.trans (Gx.same r4.ok e5)).trans (Gx.of e6), r6, st6, (sd4.same e5).goT e6, (hh4.same e5).go e6⟩
      · rintro σ H4 ⟨g4, f4, L4, kd, rfl, gx4, r4, st4, sd4, hh4⟩
        exact ⟨g4, f4, L4, kd, rfl, gx4, r4, st4, sd4⟩
    clear gx1 r1 st1 pg1 sd1
    rintro σ H2 ⟨g2, f2, L2, kd, rfl, gx2, r2, ⟨st2, pg2⟩, sd2⟩
    have o0 := Int.emod_nonneg (cell / 24) (show (2 : Int) ≠ 0 by decide)
    have o1 := Int.emod_lt_of_pos (cell / 24) (show (0 : Int) < 2 by decide)
    obtain ⟨of, hof, hoe⟩ : ∃ of : Nat, of < 3 ∧ 1 + cell / 24 % 2 = (of : Nat) := ⟨(1 + cell / 24 % 2).toNat, by omega, by omega⟩
    refine ⟨_, rfl, _, _, rfl, rfl, ⟨by decide, by decide⟩, _, _, rfl, rfl, (by show (0 : Int) < 2; decide), _, _, rfl, rfl, ?_⟩
    try dsimp only
    rw [hoe]
    have b0 := Int.emod_nonneg (cell / 48) (show (7 : Int) ≠ 0 by decide)
    have b1 := Int.emod_lt_of_pos (cell / 48) (show (0 : Int) < 7 by decide)
    refine ⟨fun σ H3 => ∃ g3 f3 L3, σ = [some (.ref fa), some (.int cell), some (.ref sa), some (.int (1 + cell % 2)), kv, hv, kd, some (.int (of : Nat))] ∧ Gx (SLx 3 la) g H g3 H3 ∧ FolkR K g3 H3 fa f3 L3 ∧ P9 3 first 4 G S1 f f3 ∧ Said9 A g3 H3 sa 3 3 S1 la, ?_, ?_⟩
    · refine ⟨_, rfl, _, rfl, _, rfl, _, _, rfl, rfl, ⟨by decide, by decide⟩, _, _, rfl, rfl, (by show (0 : Int) < 7; decide), _, _, rfl, rfl, _, (3 : Int), rfl, by decide, by decide, fun p H3 hp e3 hp3 => ?_⟩
      have hne := hands3 (b := 1 + cell / 48 % 7) (by omega) (by omega)
      obtain ⟨W, hW⟩ : ∃ W, handsOf (1 + cell / 48 % 7) 3 = W := ⟨_, rfl⟩
      try dsimp only at hp3
      rw [hW] at hne hp3
      have wrg : ∀ x ∈ W, 0 ≤ x ∧ x < ((3 : Nat) : Int) := fun x hx => by
        rw [← hW] at hx
        have := handsGo_mem _ _ _ hx
        have h3 : ((3 : Int).toNat : Int) = 3 := by decide
        omega
      have wup : W.Pairwise (· < ·) := by rw [← hW]; exact handsGo_sorted _ _ _
      have hl2 := st2.hl
      refine ⟨g2, fa, f2, L2, 3, of, .ref p, "", W, 0, rfl, r2.ext e3, by omega, st2.pl (by omega), by omega, fun s hs => st2.sok (by omega) of s hs, (fun z => absurd z (by decide)), (fun _ => ⟨p, rfl, hp3, by rw [hl2]; exact isListB_of hne wrg wup⟩), (fun _ _ _ z => absurd rfl z), ?_, fun g4 H4 f4 L4 e4 r4 d4 => ?_⟩
      · exact ⟨g2, f2, L2, rfl, gx2.trans (Gx.same r2.ok e3), r2.ext e3, ⟨st2.le (by decide), pg2⟩, sd2.same e3⟩
      · exact ⟨g4, f4, L4, rfl, (gx2.trans (Gx.same r2.ok e3)).trans (Gx.of e4), r4, ⟨(st2.did (by decide) hof (by decide +kernel) (W := W) (fun _ => ⟨hne, wrg, wup⟩) (o := 0) (by decide) d4).1 (by decide), pg2.trans (PastGr.did d4)⟩, (sd2.same e3).goT e4⟩
    clear gx2 r2 st2 pg2 sd2
    rintro σ H3 ⟨g3, f3, L3, rfl, gx3, r3, st3, sd3⟩
    refine ⟨(by show 5 ≤ sizeLine; decide), fun l5 hl5 => ⟨_, rfl, _, _, rfl, rfl, ⟨by decide, by decide⟩, _, _, rfl, rfl, (by show (0 : Int) < 2; decide), _, _, rfl, rfl, _, rfl, l5, _, rfl, SqL.of upd_same, fun sl hsl => ⟨sl, rfl, ⟨_, SqL.of upd_same⟩, ?_⟩⟩⟩
    obtain ⟨zs, hzs⟩ : ∃ zs, cutV [V.str "prepare", V.str "promise", V.str "accept", V.str "agree", V.str "enter"] none (some (5 - cell / 336 % 2)) = zs := ⟨_, rfl⟩
    have hzst : strs9 zs := by
      rw [← hzs]
      refine strs9_cut (fun x hx => ?_) _ _
      simp only [List.mem_cons, List.not_mem_nil, or_false] at hx
      rcases hx with h | h | h | h | h <;> exact ⟨_, h⟩
    have e3 := (same_upd (o := .lst [V.str "prepare", V.str "promise", V.str "accept", V.str "agree", V.str "enter"]) hl5).trans (same_upd (o := .lst (cutV [V.str "prepare", V.str "promise", V.str "accept", V.str "agree", V.str "enter"] none (some (5 - cell / 336 % 2)))) hsl)
    have hsl2 := upd_same (H := upd H3 l5 (.lst [V.str "prepare", V.str "promise", V.str "accept", V.str "agree", V.str "enter"])) (a := sl) (o := .lst (cutV [V.str "prepare", V.str "promise", V.str "accept", V.str "agree", V.str "enter"] none (some (5 - cell / 336 % 2))))
    have hsn : H3 sl = none := (same_upd (o := .lst [V.str "prepare", V.str "promise", V.str "accept", V.str "agree", V.str "enter"]) hl5).free hsl
    rw [hzs] at e3 hsl2 ⊢
    refine for_list (K := K) (a := sl) (xs := zs) (fun j σ H2 => ∃ g2 f2 L2 kd, σ = [some (.ref fa), some (.int cell), some (.ref sa), some (.int (1 + cell % 2)), kv, hv, kd, some (.int (of : Nat))] ∧ Gx (SLx 3 la) g H g2 H2 ∧ FolkR K g2 H2 fa f2 L2 ∧ P9 3 first 4 G S1 f f2 ∧ Said9 A g2 H2 sa 3 3 S1 la ∧ Held K g2 H2 sl zs) ⟨g3, f3, L3, _, rfl, gx3.trans (Gx.same r3.ok e3), r3.ext e3, st3, sd3.same e3, held_new r3.ok hsn hsl2⟩ (fun j σ H2 _ w => ?_) ?_ ?_
    · obtain ⟨_, _, _, _, _, _, _, _, _, h⟩ := w
      exact h.sq
    · rintro j x σ H4 hx ⟨g4, f4, L4, kd', rfl, gx4, r4, st4, sd4, hh4⟩
      obtain ⟨z, rfl⟩ := hzst x (List.mem_of_getElem? hx)
      refine ⟨_, rfl, _, rfl, (by show 1 ≤ sizeLine; decide), fun p hp => ?_⟩
      have e5 := same_upd (o := .lst [V.int 0]) hp
      refine ⟨g4, fa, f4, L4, z, p, [0], P9 3 first 4 G S1 f, rfl, r4.ext e5, P9.comeS G S1 f (by decide), st4, held_new r4.ok hp upd_same, fun g6 H6 f6 L6 e6 r6 st6 => ?_⟩
      exact ⟨g6, f6, L6, _, rfl, (gx4.trans (Gx.same r4.ok e5)).trans (Gx.of e6), r6, st6, (sd4.same e5).goT e6, (hh4.same e5).go e6⟩
    · rintro σ H4 ⟨g4, f4, L4, kd', rfl, gx4, r4, ⟨st4, pg4⟩, sd4, hh4⟩
      exact q g4 H4 f4 L4 S1 gx4 r4 st4 pg4 (sd4.le (by decide))

end
end Fo
namespace Fo
open PySem PySem.Spec PyProof.Rows L2
section
variable {P : Program} {w : World} {K : PySem.W.Frag} {mg : Str → Option Value} {base : Heap}
def spDeed9 (K : PySem.W.Frag) : Sp := fun vs H Q _ => ∃ (A : Addr → Prop) (g : Gh) (fa : Addr) (f : Flk) (L : FL) (cell : Int) (sa : Addr) (m n : Nat) (first : List Int) (G : PG) (S : Nat → List (Int × Str)) (la : Nat → Addr), vs = [.ref fa, .int cell, .int m, .ref sa] ∧ FolkR K g H fa f L ∧ 0 < m ∧ m ≤ 9 ∧ n ≤ 80 ∧ S9 m first n G S f ∧ Said9 A g H sa m n S la ∧ (∀ a, A a → H a ≠ none) ∧
  ∀ g' H' f' L' S', Gx (SLx m la) g H g' H' → FolkR K g' H' fa f' L' → S9 m first (n + 1) G S' f' → PastGr f f' → Said9 A g' H' sa m (n + 1) S' la → Q .non H'
theorem sc__law_deed : FnScope ["_law_folk", "_law_cell", "_law_many", "_law_said", "_law_way", "_law_more", "_law_hand", "_law_count", "_law_word_here", "_law_place"] ["_law_folk", "_law_cell", "_law_many", "_law_said"] (defScope s__law_deed) := ⟨rfl, rfl, rfl, by decide +kernel, rfl, by decide +kernel, by decide +kernel⟩
set_option maxRecDepth 100000 in
theorem ok__law_deed (T : Txt K mg) : OkF P w K mg base CX0 13 (He.ga K "_law_deed") ["_law_folk", "_law_cell", "_law_many", "_law_said"] (spDeed9 K) := by
  obtain ⟨fd, F⟩ := T.F__law_deed
  obtain ⟨fd_Folk_letters, G_Folk_letters⟩ := ok_Folk_letters (P := P) (w := w) (base := base) T
  obtain ⟨fd__law_some_come, G__law_some_come⟩ := ok__law_some_come (P := P) (w := w) (base := base) T
  obtain ⟨fd__law_phase, G__law_phase⟩ := ok__law_phase (P := P) (w := w) (base := base) T
  obtain ⟨fd__law_away, G__law_away⟩ := ok__law_away (P := P) (w := w) (base := base) T
  obtain ⟨fd__law_word, G__law_word⟩ := ok__law_word (P := P) (w := w) (base := base) T
  obtain ⟨fd__law_list, G__law_list⟩ := ok__law_list (P := P) (w := w) (base := base) T
  obtain ⟨fd__law_tried, G__law_tried⟩ := ok__law_tried (P := P) (w := w) (base := base) T
  obtain ⟨fd__law_round, G__law_round⟩ := ok__law_round (P := P) (w := w) (base := base) T
  obtain ⟨fd_Folk_lose, G_Folk_lose⟩ := ok_Folk_lose (P := P) (w := w) (base := base) T
  obtain ⟨fd_Folk_double, G_Folk_double⟩ := ok_Folk_double (P := P) (w := w) (base := base) T
  obtain ⟨fd_Folk_calm, G_Folk_calm⟩ := ok_Folk_calm (P := P) (w := w) (base := base) T
  refine ⟨fd, F.ok sc__law_deed (fun vs H Q E h => ?_) (fun cdv A outer s H vs Q E hr h => ?_), F.bindsN fun _ _ _ _ _ _ us hl => match us, hl with | [_, _, _, _], _ => rfl, F.kp⟩
  · obtain ⟨_, _, _, _, _, _, _, _, _, _, _, _, _, rfl, _⟩ := h
    rfl
  · refine ⟨_, PSs.nox (pss_cons (ps_set (i := 4) sc__law_deed.nd rfl (Or.inl rfl) (pe_op op_mod (pv 1) pe_int)) (pss_cons (ps_set (i := 5) sc__law_deed.nd rfl (Or.inl rfl) (pe_op op_fdiv (pv 1) pe_int)) (pss_cons (ps_set (i := 6) sc__law_deed.nd rfl (Or.inl rfl) (pe_op op_mod (pv 5) (pv 2))) (pss_cons (ps_set (i := 7) sc__law_deed.nd rfl (Or.inl rfl) (pe_callB call_len_seq (by rfl) T.b_len PySem.boot_len (pa_cons (pe_meth0 (pv 0) T.cl_Folk T.me_Folk_letters G_Folk_letters.1 (hr.mono (by decide)) G_Folk_letters.2.1 .nil pass0) pa_nil))) (pss_one (ps_if (pt_cmpR op_lt (pv 4) pe_int (nomark _)) (pss_one (ps_expr (pe_call G__law_some_come.1 (hr.mono (by decide)) rfl T.g__law_some_come G__law_some_come.2.2 G__law_some_come.2.1 .nil pass0 (pa_cons (pv 0) (pa_cons (pv 5) pa_nil))))) (pss_one (ps_if (PW.pt (pw_and (pt_cmpR op_lt (pv 4) pe_int (nomark _)) (pw_and1 (pt_cmpR op_gt (pv 7) pe_int (nomark _))))) (pss_one (ps_expr (pe_call G__law_phase.1 (hr.mono (by decide)) rfl T.g__law_phase G__law_phase.2.2 G__law_phase.2.1 .nil pass0 (pa_cons (pv 0) (pa_cons (pe_ix ix_tup (pe_ix ix_list (pe_meth0 (pv 0) T.cl_Folk T.me_Folk_letters G_Folk_letters.1 (hr.mono (by decide)) G_Folk_letters.2.1 .nil pass0) (pe_op op_mod (pv 5) (pv 7)) (fun _ _ => rfl)) pe_int (fun _ _ => rfl)) (pa_cons (pe_call G__law_away.1 (hr.mono (by decide)) rfl T.g__law_away G__law_away.2.2 G__law_away.2.1 .nil pass0 (pa_cons (pe_op op_fdiv (pv 5) pe_int) (pa_cons (pv 2) pa_nil))) pa_nil)))))) (pss_one (ps_if (pt_cmpR op_lt (pv 4) pe_int (nomark _)) (pss_cons (ps_set (i := 8) sc__law_deed.nd rfl (Or.inl rfl) (pe_call G__law_word.1 (hr.mono (by decide)) rfl T.g__law_word G__law_word.2.2 G__law_word.2.1 .nil pass0 (pa_cons (pe_op op_fdiv (pv 5) (pv 2)) pa_nil))) (C8.pss_cut (ps_set (i := 9) sc__law_deed.nd rfl (Or.inl rfl) (pe_call G__law_list.1 (hr.mono (by decide)) rfl T.g__law_list G__law_list.2.2 G__law_list.2.1 .nil pass0 (pa_cons (pv 0) (pa_cons (pv 6) pa_nil)))) (pss_one (ps_if (pt_val (pe_call G__law_tried.1 (hr.mono (by decide)) rfl T.g__law_tried G__law_tried.2.2 G__law_tried.2.1 .nil pass0 (pa_cons (pv 0) (pa_cons pe_int (pa_cons (pv 6) (pa_cons (pv 8) pa_nil)))))) (pss_one (ps_expr (pe_bm PySem.F.plainAttrs_list PySem.F.slot_list_append PySem.F.type_list_append mt_append (pe_dget hr.hu (pv 3) (pv 6) (fun _ _ => rfl)) (pa_cons (pe_tup (pa_cons (pe_ix ix_tup (pv 9) pe_int (fun _ _ => rfl)) (pa_cons (pv 8) pa_nil))) pa_nil)))) pss_nil)))) (pss_one (ps_if (pt_cmpR op_lt (pv 4) pe_int (nomark _)) (pss_one (ps_expr (pe_call G__law_round.1 (hr.mono (by decide)) rfl T.g__law_round G__law_round.2.2 G__law_round.2.1 .nil pass0 (pa_cons (pv 0) (pa_cons (pv 5) (pa_cons (pv 2) pa_nil)))))) (pss_one (ps_if (pt_cmpR op_eq (pv 4) pe_int (nomark _)) (pss_one (ps_expr (pe_call G__law_tried.1 (hr.mono (by decide)) rfl T.g__law_tried G__law_tried.2.2 G__law_tried.2.1 .nil pass0 (pa_cons (pv 0) (pa_cons pe_int (pa_cons (pv 6) (pa_cons pe_str pa_nil))))))) (pss_one (ps_if (PW.pt (pw_and (pt_cmpR op_eq (pv 4) pe_int (nomark _)) (pw_and1 (pt_cmpR op_gt (pv 7) pe_int (nomark _))))) (pss_one (ps_expr (pe_meth (pv 0) T.cl_Folk T.me_Folk_lose G_Folk_lose.1 (hr.mono (by decide)) G_Folk_lose.2.1 .nil (passX takes0 fun _ _ _ _ h => h) (pa_cons (pe_op op_mod (pv 5) (pv 7)) pa_nil)))) (pss_one (ps_if (PW.pt (pw_and (pt_cmpR op_eq (pv 4) pe_int (nomark _)) (pw_and1 (pt_cmpR op_gt (pv 7) pe_int (nomark _))))) (pss_one (ps_expr (pe_meth (pv 0) T.cl_Folk T.me_Folk_double G_Folk_double.1 (hr.mono (by decide)) G_Folk_double.2.1 .nil (passX takes0 fun _ _ _ _ h => h) (pa_cons (pe_op op_mod (pv 5) (pv 7)) pa_nil)))) (pss_one (ps_if (pt_cmpR op_eq (pv 4) pe_int (nomark _)) (pss_one (ps_expr (pe_call G__law_tried.1 (hr.mono (by decide)) rfl T.g__law_tried G__law_tried.2.2 G__law_tried.2.1 .nil pass0 (pa_cons (pv 0) (pa_cons (pe_op op_sub pe_int (pe_op op_mul pe_int (pe_callTy (T := "int") call_int1 (by rfl) T.b_int (by decide +kernel) (pa_cons (pe_cmpR op_eq (pe_op op_mod (pe_op op_fdiv (pv 5) (pv 2)) pe_int) pe_int (nomark _)) pa_nil)))) (pa_cons (pv 6) (pa_cons (pe_op op_mod (pe_op op_fdiv (pe_op op_fdiv (pv 5) (pv 2)) pe_int) (pv 2)) pa_nil))))))) (pss_one (ps_if (PW.pt (pw_and (pt_cmpR op_eq (pv 4) pe_int (nomark _)) (pw_and1 (pt_cmpR op_eq (pe_op op_mod (pv 5) pe_int) pe_int (nomark _))))) (pss_one (ps_expr (pe_meth0 (pv 0) T.cl_Folk T.me_Folk_calm G_Folk_calm.1 (hr.mono (by decide)) G_Folk_calm.2.1 .nil (passX takes0 fun _ _ _ _ h => h)))) pss_nil)))))))))))))))))))))), ?_⟩
    obtain ⟨A, g, fa, f, L, cell, sa, m, n, first, G, S, la, rfl, r, hm0, hm9, hn80, st, sd, hA, q⟩ := h
    have ro := r.ok.sub _ _ r.obj
    have hln := st.pl (by omega)
    have hlen := st.hl
    refine ⟨_, rfl, _, _, rfl, rfl, (by show (0 : Int) < 16; decide), _, rfl, _, _, rfl, rfl, ⟨by decide, by decide⟩, _, rfl, _, rfl, _, _, rfl, rfl, (by show (0 : Int) < (m : Int); omega), _, rfl, _, _, _, rfl, ro, zn (by decide +kernel), g, fa, f, L, rfl, r, by omega, fun l xs H2 hl e2 hxs px => ?_⟩
    have r2 := r.ext e2
    have ro2 := r2.ok.sub _ _ r2.obj
    have g2 : Go TA g H g H2 := Go.ext r.ok e2
    have sd2 := sd.same e2
    have hlx := paired_len px
    refine ⟨l, xs, rfl, .inl (SqL.of hxs), ?_⟩
    have fin : ∀ g' H' f' L', Go TA g H2 g' H' → FolkR K g' H' fa f' L' → P9 m first (n + 1) G S f f' → Q .non H' := fun g' H' f' L' e' r' s' => q g' H' f' L' S (Gx.of (g2.trans e')) r' s'.1 s'.2 ((sd2.goT e').le (Nat.le_succ _))
    clear ro r
    have w0 := Int.emod_nonneg cell (show (16 : Int) ≠ 0 by decide)
    have w1 := Int.emod_lt_of_pos cell (show (0 : Int) < 16 by decide)
    obtain ⟨way, hway⟩ : ∃ way, cell % 16 = way := ⟨_, rfl⟩
    obtain ⟨more, hmore⟩ : ∃ more, cell / 16 = more := ⟨_, rfl⟩
    have c0 := Int.emod_nonneg more (show (m : Int) ≠ 0 by omega)
    have c1 := Int.emod_lt_of_pos more (show (0 : Int) < m by omega)
    obtain ⟨i, hi, hie⟩ : ∃ i : Nat, i < m ∧ more % (m : Int) = (i : Nat) := ⟨(more % (m : Int)).toNat, by omega, by omega⟩
    dsimp only
    rw [hway, hmore, hie]
    rw [hway] at w0 w1
    have pick : 0 < xs.length → ∃ p : Nat, p < f.post.length ∧ more % ((xs.length : Nat) : Int) = (p : Nat) := fun h => by
      have a1 := Int.emod_nonneg more (show ((xs.length : Nat) : Int) ≠ 0 by omega)
      have a2 := Int.emod_lt_of_pos more (show (0 : Int) < ((xs.length : Nat) : Int) by omega)
      exact ⟨(more % ((xs.length : Nat) : Int)).toNat, by omega, by omega⟩
    have hso : ∀ (i : Nat) s, f.acts (.int i) = .ok (i, s) → SOk i s := fun i s h => st.sok (by omega) i s h
    have s0 : P9 m first n G S f f := ⟨st, PastGr.refl f⟩
    have sw : P9 m first (n + 1) G S f f := ⟨st.le (Nat.le_succ _), PastGr.refl f⟩
    have up : ∀ f', P9 m first n G S f f' → P9 m first (n + 1) G S f f' := fun f' h => ⟨h.1.le (Nat.le_succ _), h.2⟩
    have cs := P9.comeS (m := m) (first := first) G S f (show n ≤ 90 by omega)
    have cs1 := P9.comeS (m := m) (first := first) G S f (show n + 1 ≤ 90 by omega)
    have did : ∀ {way : Int} {W : List Int} {o : Nat} {wd : Str} {f' : Flk}, way ≠ 0 → PyData.strOk wd = true → (way = 3 → W ≠ [] ∧ (∀ x ∈ W, 0 ≤ x ∧ x < (m : Int)) ∧ W.Pairwise (· < ·)) → o < m → ∀ i, i < m → DidT9 f i way wd W o f' → P9 m first (n + 1) G S f f' := fun w0 hw hW ho i hi d => ⟨(st.did (by omega) hi hw hW ho d).1 w0, PastGr.did d⟩
    refine ⟨_, rfl, _, _, rfl, rfl, _, rfl, iteD (fun _ => ?_) (fun h3 => ?_)⟩
    · exact ⟨_, rfl, _, rfl, g, fa, f, L, _, P9 m first n G S f, rfl, r2, cs, s0, fun g' H' f' L' e' r' s' => fin g' H' f' L' e' r' (up _ s')⟩
    dsimp only [tIfS]
    refine tAnd_of (c1 := decide (way < 6)) (c2 := decide ((0 : Int) < ((xs.length : Nat) : Int))) (fun Qb hq => ⟨_, rfl, _, _, rfl, rfl, _, rfl, hq⟩) (fun Qb hq => ⟨_, rfl, _, _, rfl, rfl, _, rfl, hq⟩) (ite2 (fun hc => ?_) (fun hc => ?_))
    · have hpos : 0 < xs.length := by
        have := (Bool.and_eq_true _ _).mp hc
        have := of_decide_eq_true this.2
        omega
      obtain ⟨p, hp, hpe⟩ := pick hpos
      refine ⟨_, rfl, _, rfl, _, _, _, rfl, ro2, zn (by decide +kernel), g, fa, f, L, rfl, r2, by omega, fun l2 ys H4 hl2 e4 hys py => ?_⟩
      have r4 := r2.ext e4
      have hly := paired_len py
      obtain ⟨v, hv⟩ : ∃ v, ys[p]? = some v := ⟨_, List.getElem?_eq_getElem (by omega)⟩
      obtain ⟨y', hy', ty, rfl, _, _, hty⟩ := paired_get py hv
      refine ⟨_, rfl, _, rfl, _, _, rfl, rfl, (by show (0 : Int) < ((xs.length : Nat) : Int); omega), l2, _, _, .ref ty, rfl, rfl, SqL.of hys, (by rw [hpe]; exact atI_nat hv), ty, _, _, .str y'.told.kind, rfl, rfl, .inl (.inl hty), atI_nat (j := 0) rfl, _, rfl, _, _, rfl, rfl, ⟨by decide, by decide⟩, _, rfl, _, m, rfl, hm9, fun pa ns H5 hpa e5 hpl => ⟨g, fa, f, L, _, pa, ns, P9 m first n G S f, rfl, r4.ext e5, cs, s0, .inl ⟨SqL.of hpl, ⟨_, hpl⟩, r4.ok.onone hpa⟩, fun g' H' f' L' e' r' s' => fin g' H' f' L' ((Go.ext r2.ok e4).trans ((Go.ext r4.ok e5).trans e')) r' (up _ s')⟩⟩
    refine ⟨_, rfl, _, _, rfl, rfl, _, rfl, iteD (fun _ => ?_) (fun h9 => ?_)⟩
    · refine ⟨_, rfl, _, rfl, _, _, rfl, rfl, (by constructor <;> first | omega | (dsimp only; omega)), _, rfl, fun w hw => ?_⟩
      refine ⟨fun σ H' => ∃ pv, σ = [some (.ref fa), some (.int cell), some (.int m), some (.ref sa), some (.int way), some (.int more), some (.int (i : Nat)), some (.int (xs.length : Nat)), some (.str w), some pv] ∧ Same H2 H' ∧ ((pv = .non ∧ (f.hand i).seat = none) ∨ ∃ t' l' s', pv = .ref t' ∧ (f.hand i).seat = some s' ∧ H' t' = some (.tup [.int s'.num, .ref l']) ∧ g.own t' = none), ?_, ?_⟩
      · exact ⟨_, rfl, _, rfl, g, fa, f, L, i, rfl, r2, by omega, fun hn => ⟨.non, rfl, Same.refl _, .inl ⟨rfl, hn⟩⟩, fun s' hs' t' l' H7 e7 tn _ ht' _ => ⟨.ref t', rfl, e7, .inr ⟨t', l', s', rfl, hs', ht', r2.ok.onone tn⟩⟩⟩
      rintro σ H3 ⟨pv, rfl, e3, hpv⟩
      have r3 := r2.ext e3
      have g3 : Go TA g H2 g H3 := Go.ext r2.ok e3
      refine ⟨_, rfl, _, rfl, _, rfl, g, fa, f, L, 0, i, _, w, [], 0, rfl, r3, by omega, hln, by omega, fun s hs => hso i s hs, fun _ => rfl, (fun z => absurd z (by decide)), (fun z => absurd rfl z), ⟨_, rfl, iteF (fin g H3 f L g3 r3 sw)⟩, fun g4 H4 f4 L4 e4 r4 d4 => ?_⟩
      obtain ⟨s, hs, st4⟩ := (st.did (by omega) hi hw (W := []) (fun z => absurd z (by decide)) (o := 0) (by omega) d4).2 rfl
      rcases hpv with ⟨_, hno⟩ | ⟨t', l', s', rfl, hs', ht', ho'⟩
      · rw [hs] at hno; cases hno
      rw [hs] at hs'
      cases hs'
      have sd4 := (sd2.same e3).goT e4
      have ht4 := e4.keep ht' ho'
      obtain ⟨ys, w1, w2, w3, w4, w5⟩ := sd4.row i hi
      have hyl := paired_len w5
      have hsl := sd4.len i
      refine ⟨_, rfl, iteT ⟨_, rfl, _, rfl, sa, _, rfl, sd4.get hi, .inl ⟨rfl, _, SqL.of w1⟩, _, rfl, t', _, _, .int s.num, rfl, rfl, .inl (.inl ht4), atI_nat (j := 0) rfl, _, rfl, (by show 2 ≤ sizeLine; decide), fun t ht => ?_⟩⟩
      have et := same_upd (o := .tup [.int s.num, .str w]) ht
      have gx4 := Gx.of (X := SLx m la) (g2.trans (g3.trans e4))
      have htA : ¬ A t := fun z => hA t z (gx4.dom t ht)
      have r5 := r4.ext et
      have sd5 := sd4.same et
      refine ⟨_, _, _, rfl, rfl, et _ _ w1, Nat.lt_of_le_of_lt (show ys.length ≤ 100 by omega) (by decide), ?_⟩
      exact q g4 _ f4 L4 _ ((gx4.trans (Gx.same r4.ok et)).trans (Gx.mine r5.ok ⟨i, hi, rfl⟩ w3 w2)) (r5.mine w3 w2) st4 (PastGr.did d4) (sd5.say hi (et _ _ w1) upd_same (r4.ok.onone ht) htA)
    refine ⟨_, rfl, _, _, rfl, rfl, _, rfl, iteD (fun _ => ?_) (fun h11 => ?_)⟩
    · exact ⟨_, rfl, _, rfl, _, rfl, g, fa, f, L, more, m, P9 m first (n + 1) G S f, rfl, r2, hm0, hm9, hlen, hln, hso, cs1, sw, fun i W f' hi wn wr wu d => did (by decide) (by decide +kernel) (fun _ => ⟨wn, wr, wu⟩) hm0 i hi d, fun g' H' f' L' e' r' s' => fin g' H' f' L' e' r' s'⟩
    refine ⟨_, rfl, rfl, _, rfl, iteI (fun _ => ?_) (fun h12 => ?_)⟩
    · refine ⟨_, rfl, _, rfl, ?_⟩
      exact ⟨g, fa, f, L, 1, i, _, "", [], 0, rfl, r2, by omega, hln, by omega, fun s hs => hso i s hs, (fun z => absurd z (by decide)), (fun z => absurd z (by decide)), (fun _ z => absurd rfl z), fin g H2 f L (Go.refl r2.ok) r2 sw, fun g' H' f' L' e' r' d => fin g' H' f' L' e' r' (did (by decide) (by decide +kernel) (fun z => absurd z (by decide)) hm0 i hi d)⟩
    refine tAnd_of (c1 := decide (V.int way = V.int 12)) (c2 := decide ((0 : Int) < ((xs.length : Nat) : Int))) (fun Qb hq => ⟨_, rfl, rfl, _, rfl, hq⟩) (fun Qb hq => ⟨_, rfl, _, _, rfl, rfl, _, rfl, hq⟩) (ite2 (fun hc => ?_) (fun hc => ?_))
    · have hpos : 0 < xs.length := by
        have := (Bool.and_eq_true _ _).mp hc
        have := of_decide_eq_true this.2
        omega
      obtain ⟨p, hp, hpe⟩ := pick hpos
      refine ⟨_, rfl, _, _, _, rfl, ro2, zn (by decide +kernel), _, rfl, _, rfl, _, _, rfl, rfl, (by show (0 : Int) < ((xs.length : Nat) : Int); omega), g, fa, f, L, _, rfl, r2, thg_int, by omega, ?_⟩
      have hpl' : f.place (.int (more % ((xs.length : Nat) : Int))) = .ok p := by rw [hpe]; exact place_in8 hp
      show Res K H2 _ (f.place (.int (more % ((xs.length : Nat) : Int)))) _
      rw [hpl']
      exact fun g' H' L' e' r' => fin g' H' _ L' e' r' ⟨(st.lose hp).le (Nat.le_succ _), PastGr.post⟩
    refine tAnd_of (c1 := decide (V.int way = V.int 13)) (c2 := decide ((0 : Int) < ((xs.length : Nat) : Int))) (fun Qb hq => ⟨_, rfl, rfl, _, rfl, hq⟩) (fun Qb hq => ⟨_, rfl, _, _, rfl, rfl, _, rfl, hq⟩) (ite2 (fun hc => ?_) (fun hc => ?_))
    · have hpos : 0 < xs.length := by
        have := (Bool.and_eq_true _ _).mp hc
        have := of_decide_eq_true this.2
        omega
      obtain ⟨p, hp, hpe⟩ := pick hpos
      refine ⟨_, rfl, _, _, _, rfl, ro2, zn (by decide +kernel), _, rfl, _, rfl, _, _, rfl, rfl, (by show (0 : Int) < ((xs.length : Nat) : Int); omega), g, fa, f, L, _, rfl, r2, thg_int, by omega, ?_⟩
      have hpl' : f.place (.int (more % ((xs.length : Nat) : Int))) = .ok p := by rw [hpe]; exact place_in8 hp
      show Res K H2 _ (f.place (.int (more % ((xs.length : Nat) : Int)))) _
      rw [hpl']
      exact fun g' H' L' e' r' => fin g' H' _ L' e' r' ⟨st.double hp, PastGr.double f p⟩
    refine ⟨_, rfl, rfl, _, rfl, iteI (fun _ => ?_) (fun h14 => ?_)⟩
    · have b0 := Int.emod_nonneg (more / (m : Int) / 5) (show (m : Int) ≠ 0 by omega)
      have b1 := Int.emod_lt_of_pos (more / (m : Int) / 5) (show (0 : Int) < m by omega)
      obtain ⟨o, ho, hoe⟩ : ∃ o : Nat, o < m ∧ more / (m : Int) / 5 % (m : Int) = (o : Nat) := ⟨(more / (m : Int) / 5 % (m : Int)).toNat, by omega, by omega⟩
      obtain ⟨c, hc⟩ : ∃ c, decide (V.int (more / (m : Int) % 5) = V.int 1) = c := ⟨_, rfl⟩
      have main : ∀ (wy : Int) (Qt : VK), (wy = 4 ∨ wy = 2) → (∀ b, ∀ g' H' f' L', Go TA g H2 g' H' → FolkR K g' H' fa f' L' → P9 m first (n + 1) G S f f' → Qt (.bl b) H') → spTried9 K [.ref fa, .int wy, .int i, .int o] H2 Qt E0 := fun wy Qt hwy k => ⟨g, fa, f, L, wy, i, _, "", [], o, rfl, r2, by omega, hln, by omega, fun s hs => hso i s hs, fun z => by omega, fun z => by omega, fun _ _ _ _ => ⟨rfl, by omega⟩, k false g H2 f L (Go.refl r2.ok) r2 sw, fun g' H' f' L' e' r' d => k true g' H' f' L' e' r' (did (by omega) (by decide +kernel) (fun z => by omega) ho i hi d)⟩
      refine ⟨_, rfl, _, rfl, _, rfl, _, _, rfl, rfl, (by constructor <;> first | omega | (dsimp only; omega)), _, _, rfl, rfl, (by show (0 : Int) < 5; decide), rfl, .inr ⟨_, rfl, _, _, rfl, rfl, .inl ⟨by decide, by decide⟩, _, _, rfl, rfl, _, rfl, _, rfl, _, rfl, _, _, rfl, rfl, (by constructor <;> first | omega | (dsimp only; omega)), _, _, rfl, rfl, ⟨by decide, by decide⟩, _, rfl, _, _, rfl, rfl, (by show (0 : Int) < (m : Int); omega), ?_⟩⟩
      dsimp only
      rw [hoe, hc]
      cases c
      · rw [show (4 : Int) - 2 * (if false = true then 1 else 0) = 4 from by decide]
        dsimp only [tNil]
        refine main 4 _ (.inl rfl) fun b g' H' f' L' e' r' s' => ?_
        exact fin g' H' f' L' e' r' s'
      · rw [show (4 : Int) - 2 * (if true = true then 1 else 0) = 2 from by decide]
        dsimp only [tNil]
        refine main 2 _ (.inr rfl) fun b g' H' f' L' e' r' s' => ?_
        exact fin g' H' f' L' e' r' s'
    refine tAnd_of (c1 := decide (V.int way = V.int 15)) (c2 := decide (V.int (more % 3) = V.int 0)) (fun Qb hq => ⟨_, rfl, rfl, _, rfl, hq⟩) (fun Qb hq => ⟨_, rfl, _, _, rfl, rfl, (by show (0 : Int) < 3; decide), rfl, _, rfl, hq⟩) (ite2 (fun hc => ?_) (fun hc => ?_))
    · obtain ⟨k, hk, sk⟩ := st.runs (by omega)
      exact ⟨_, rfl, _, _, _, rfl, ro2, zn (by decide +kernel), g, fa, f, L, k, rfl, r2, hk, fun g' H' L' e' r' => fin g' H' _ L' e' r' ⟨sk.le (Nat.le_succ _), PastGr.cames k f⟩⟩
    · exact fin g H2 f L (Go.refl r2.ok) r2 sw

end
end Fo
namespace Fo
open PySem PySem.Spec PyProof.Rows L2
section
variable {P : Program} {w : World} {K : PySem.W.Frag} {mg : Str → Option Value} {base : Heap}
theorem nodup_take {α : Type} {l : List α} (nd : l.Nodup) {i : Nat} {x : α} (h : l[i]? = some x) : x ∉ l.take i := fun hx => by
  obtain ⟨j, hj⟩ := List.getElem?_of_mem hx
  rw [List.getElem?_take] at hj
  split at hj
  · rename_i hji
    obtain ⟨h1, h2⟩ := List.getElem?_eq_some_iff.mp hj
    obtain ⟨h3, h4⟩ := List.getElem?_eq_some_iff.mp h
    exact List.pairwise_iff_getElem.mp nd j i h1 h3 hji (h2.trans h4.symm)
  · cases hj
theorem rOk_take9 {r : List Msg} (h : rOk r) (n : Nat) : rOk (r.take n) := fun x hx => h x (List.mem_of_mem_take hx)
theorem row_dp9 {K : PySem.W.Frag} {D H : Hp} (e : Same D H) {xs : List V} {r : List Msg} (h : Paired (msgV D) xs r) : DpAll K H xs (r.map msgD) := row_dp (paired_imp (fun _ _ => msgV.up e) h)
theorem row_sh9 {r : List Msg} (h : rOk r) : SeqAt.shaped (.list (r.map msgD)) = true := shaped_list (row_sd h)
def spRow9 (K : PySem.W.Frag) : Sp := fun vs H Q _ => ∃ (A : Addr → Prop) (g : Gh) (ra sa : Addr) (xs : List V) (r : List Msg) (n : Int) (m c : Nat) (S : Nat → List (Int × Str)) (la : Nat → Addr), vs = [.ref ra, .int n, .ref sa] ∧ Same g.D H ∧ H ra = some (.lst xs) ∧ Paired (msgV g.D) xs r ∧ RowS S n r ∧ Said9 A g H sa m c S la ∧ m ≤ 9 ∧ c ≤ 200 ∧
  ∀ H', Same H H' → Q (.bl true) H'
theorem sc__law_row_right : FnScope ["_law_row", "_law_number", "_law_said", "_law_k", "_law_message"] ["_law_row", "_law_number", "_law_said"] (defScope s__law_row_right) := ⟨rfl, rfl, rfl, by decide +kernel, rfl, by decide +kernel, by decide +kernel⟩
set_option maxRecDepth 100000 in
theorem ok__law_row_right (T : Txt K mg) : OkF P w K mg base CX0 1 (He.ga K "_law_row_right") ["_law_row", "_law_number", "_law_said"] (spRow9 K) := by
  obtain ⟨fd, F⟩ := T.F__law_row_right
  refine ⟨fd, F.ok sc__law_row_right (fun vs H Q E h => ?_) (fun cdv A outer s H vs Q E hr h => ?_), F.bindsN fun _ _ _ _ _ _ us hl => match us, hl with | [_, _, _], _ => rfl, F.kp⟩
  · obtain ⟨_, _, _, _, _, _, _, _, _, _, _, rfl, _⟩ := h
    rfl
  · refine ⟨_, PSs.nox (pss_cons (ps_if (pt_not (pt_val (pe_callB call_isi (by rfl) T.b_isinstance (by decide +kernel) (pa_cons (pv 0) (pa_cons (pe_bltn (v := .ty "list") (u := .type "list") (by rfl) T.b_list (by decide +kernel) rfl) pa_nil))))) (pss_one (ps_ret pe_bl)) pss_nil) (pss_cons (ps_for PassesOwn.never rfl (pi_range1 rfl T.b_range (pa_cons (pe_callB call_len_seq (by rfl) T.b_len PySem.boot_len (pa_cons (pv 0) pa_nil)) pa_nil)) (pg_name (i := 3) sc__law_row_right.nd rfl (Or.inl rfl)) (pss_cons (ps_set (i := 4) sc__law_row_right.nd rfl (Or.inl rfl) (pe_ix ix_list (pv 0) (pv 3) (fun _ _ => rfl))) (pss_cons (ps_if (PW.pt (pw_or (pt_not (pt_val (pe_callB call_isi (by rfl) T.b_isinstance (by decide +kernel) (pa_cons (pv 4) (pa_cons (pe_bltn (v := .ty "tuple") (u := .type "tuple") (by rfl) T.b_tuple (by decide +kernel) rfl) pa_nil))))) (pw_or (pt_cmpR op_ne (pe_callB call_len_seq (by rfl) T.b_len PySem.boot_len (pa_cons (pv 4) pa_nil)) pe_int (nomark _)) (pw_or (pt_cmpR (op_inD hr.u65) (pv 4) (pe_slice sl_list (pv 0) po_none (po_some (pv 3))) (by rfl)) (pw_or1 (pt_cmp (pc_dnotin hr.hu (pe_ix ix_tup (pv 4) pe_int (fun _ _ => rfl)) (pv 2)) rfl)))))) (pss_one (ps_ret pe_bl)) pss_nil) (pss_cons (ps_if (pt_not (pt_chain op_le op_lt pe_int (pe_ix ix_tup (pv 4) pe_int (fun _ _ => rfl)) (pe_callB call_len_seq (by rfl) T.b_len PySem.boot_len (pa_cons (pe_dget hr.hu (pv 2) (pe_ix ix_tup (pv 4) pe_int (fun _ _ => rfl)) (fun _ _ => rfl)) pa_nil)))) (pss_one (ps_ret pe_bl)) pss_nil) (pss_one (ps_if (pt_cmpR (op_neD hr.u64) (pe_ix ix_list (pe_dget hr.hu (pv 2) (pe_ix ix_tup (pv 4) pe_int (fun _ _ => rfl)) (fun _ _ => rfl)) (pe_ix ix_tup (pv 4) pe_int (fun _ _ => rfl)) (fun _ _ => rfl)) (pe_tup (pa_cons (pv 1) (pa_cons (pe_ix ix_tup (pv 4) pe_int (fun _ _ => rfl)) pa_nil))) (nomark _)) (pss_one (ps_ret pe_bl)) pss_nil)))))) (pss_one (ps_ret pe_bl)))), ?_⟩
    obtain ⟨A, g, ra, sa, xs, r, n, m, c, S, la, rfl, sub, hra, px, rs, sd, m9, c200, q⟩ := h
    have hlx := paired_len px
    have hrl : r.length ≤ 2000 := Nat.le_trans (rs.len sd.len sd.out) (Nat.le_trans (Nat.mul_le_mul m9 c200) (by decide))
    have hro := rs.ok
    refine ⟨_, rfl, _, _, _, _, true, rfl, .ty _, .base (.lst hra), kit_ty (by decide +kernel), _, rfl, iteF ⟨_, rfl, ra, xs, rfl, .inl (SqL.of hra), xs.length, rfl, by omega, by omega, for_range (lo := 0) (n := xs.length) (fun i σ H1 => ∃ kv mv, σ = [some (.ref ra), some (.int n), some (.ref sa), kv, mv] ∧ Same H H1) ⟨none, none, rfl, Same.refl _⟩ ?_ ?_⟩⟩
    · rintro i σ H1 hi ⟨kv, mv, rfl, e1⟩
      have hra1 := e1 _ _ hra
      have hbi : xs[i]? = some xs[i] := List.getElem?_eq_getElem hi
      obtain ⟨x, hx, a, hva, hax⟩ := paired_get px hbi
      rw [hva] at hbi
      obtain ⟨hok, w, k, hw, hk, hkS⟩ := rs.2 x (List.mem_of_getElem? hx)
      have dS : ∀ {H'}, Same H1 H' → Same g.D H' := fun e => (sub.trans e1).trans e
      have haH := dS (Same.refl _) _ _ hax
      have hkl := (List.getElem?_eq_some_iff.mp hkS).1
      have hwm : w < m := Decidable.byContradiction fun z => by
        rw [sd.out w (by omega)] at hkl
        exact absurd hkl (Nat.not_lt_zero _)
      have hxv : msgV g.D (.ref a) x := ⟨a, rfl, hax⟩
      rw [hw, hk] at haH
      rw [Int.zero_add]
      refine ⟨_, rfl, _, rfl, ra, _, _, .ref a, rfl, rfl, SqL.of hra1, atI_nat hbi, _, rfl, _, _, _, _, true, rfl, .ty _, .base (.tup haH), kit_ty (by decide +kernel), _, rfl, iteF ⟨_, rfl, a, _, rfl, .inr (.inl (.inl haH)), rfl, _, rfl, ?_⟩⟩
      rw [show (!decide (V.int (([V.int (w : Int), V.int (k : Int), V.str x.word].length : Nat) : Int) = V.int 3)) = false from (by show (!decide (V.int ((3 : Nat) : Int) = V.int 3)) = false; decide)]
      refine iteF ⟨_, rfl, _, rfl, _, rfl, _, rfl, ra, xs, rfl, SqL.of hra1, fun s1 hs1 => ?_⟩
      rw [show cutV xs none (some ((i : Nat) : Int)) = xs.take i from cut_to (by omega)]
      have e6 := same_upd (o := .lst (xs.take i)) hs1
      have hp1 := paired_take i px
      refine ⟨msgD x, _, (hxv.up (dS e6)).dp, .lst (SqL.of upd_same) (row_dp9 (dS e6) hp1), (msgD_sd hok).shaped, row_sh9 (rOk_take9 hro i), _, rfl, ?_⟩
      rw [row_any, decide_eq_false (nodup_take rs.1 hx)]
      have haH6 := e6 _ _ haH
      have sd6 := (sd.same e1).same e6
      generalize upd H1 s1 (.lst (xs.take i)) = H6 at *
      have e16 := e1.trans e6
      obtain ⟨ys, w1, _, _, _, w5⟩ := sd6.row w hwm
      have hlen := paired_len w5
      have hyk : ys[k]? = some ys[k] := List.getElem?_eq_getElem (by omega)
      obtain ⟨z, hz, t, hty, htt, _⟩ := paired_get w5 hyk
      rw [hkS] at hz
      cases hz
      rw [hty] at hyk
      refine iteF ⟨_, rfl, a, _, _, .int w, rfl, rfl, .inl (.inl haH6), atI_nat (j := 0) rfl, _, rfl, sa, _, rfl, sd6.get hwm, _, rfl, iteF ?_⟩
      refine ⟨_, rfl, a, _, _, .int k, rfl, rfl, .inl (.inl haH6), atI_nat (j := 1) rfl, _, _, rfl, rfl, _, rfl, ?_⟩
      rw [decide_eq_true (show (0 : Int) ≤ k by omega)]
      refine iteT ⟨_, rfl, _, rfl, a, _, _, .int w, rfl, rfl, .inl (.inl haH6), atI_nat (j := 0) rfl, sa, _, rfl, sd6.get hwm, la w, _, rfl, .inl (SqL.of w1), _, _, rfl, rfl, _, rfl, ?_⟩
      rw [decide_eq_true (show (k : Int) < ((ys.length : Nat) : Int) by omega)]
      refine iteF ⟨_, rfl, _, rfl, a, _, _, .int w, rfl, rfl, .inl (.inl haH6), atI_nat (j := 0) rfl, sa, _, rfl, sd6.get hwm, _, rfl, a, _, _, .int k, rfl, rfl, .inl (.inl haH6), atI_nat (j := 1) rfl, la w, _, _, .ref t, rfl, rfl, SqL.of w1, atI_nat hyk, _, rfl, _, rfl, a, _, _, .str x.word, rfl, rfl, .inl (.inl haH6), atI_nat (j := 2) rfl, (by show 2 ≤ sizeLine; decide), fun t2 ht2 => ?_⟩
      have e7 := same_upd (o := .tup [.int n, .str x.word]) ht2
      have hsh : SeqAt.shaped (.tuple [.int n, .str x.word]) = true := by
        have h' : PyData.strOk x.word = true := hok
        exact Sd.shaped ⟨by simp [PyData.canLay0, PyData.canLayAll0, h'], by simp [PyData.depth, PyData.depthAll]⟩
      refine ⟨.tuple [.int n, .str x.word], .tuple [.int n, .str x.word], .tup (.inl (.inl (e7 _ _ htt))) (.cons (.int n) (.cons (.str _) .nil)), .tup (.inl (.inl upd_same)) (.cons (.int n) (.cons (.str _) .nil)), hsh, hsh, _, rfl, ?_⟩
      rw [PySem.SeqAt.eqv_refl _ (SeqAt.canLay_of_shaped hsh)]
      exact iteF ⟨_, _, rfl, e16.trans e7⟩
    · rintro σ H1 ⟨kv, mv, rfl, e1⟩
      exact q _ e1

end
end Fo
namespace Fo
open PySem PySem.Spec PyProof.Rows L2
section
variable {P : Program} {w : World} {K : PySem.W.Frag} {mg : Str → Option Value} {base : Heap}
def KX9 (ka : Addr) : Addr → Prop := fun b => b = ka
theorem St8.past9 {m n : Nat} {first : List Int} {G : PG} {f : Flk} (st : St8 m first n G f) (hn : n ≤ 90) {i : Nat} (hi : i < m) : (f.hand i).high ≤ 90 ∧ (f.hand i).past.length ≤ 100 := by
  obtain ⟨B, F, _⟩ := st.inv
  have r := F.hands i hi
  have h1 := r.high
  have h2 := r.past
  exact ⟨by omega, by omega⟩
theorem ks_len {ks : List Int} (h : ks.Nodup) (k4 : ∀ k ∈ ks, 0 ≤ k ∧ k ≤ 90) : ks.length ≤ 100 := by
  have h := sub_len (l := ks) (M := (List.range 91).map fun (i : Nat) => (i : Int)) h fun x hx => by
    have := k4 x hx
    exact List.mem_map.mpr ⟨x.toNat, List.mem_range.mpr (by omega), by omega⟩
  rw [List.length_map, List.length_range] at h
  omega
theorem kvs_len {kvs : List (Key × V)} {ks : List Int} (h : kvs.map (·.1) = ks.map Sum.inl) : kvs.length = ks.length := by
  have := congrArg List.length h
  rw [List.length_map, List.length_map] at this
  exact this
def spEnded9 (K : PySem.W.Frag) : Sp := fun vs H Q _ => ∃ (A B : Addr → Prop) (g : Gh) (fa : Addr) (f : Flk) (L : FL) (ka sa : Addr) (m n c : Nat) (first : List Int) (G : PG) (q : QG) (S : Nat → List (Int × Str)) (la : Nat → Addr), vs = [.ref fa, .int m, .ref ka, .ref sa] ∧ FolkR K g H fa f L ∧ St8 m first n G f ∧ n ≤ 90 ∧ QInv m G q f ∧ q.S = S ∧ EndD A G g H ka ∧ Said9 B g H sa m c S la ∧ B ka ∧ c ≤ 200 ∧ (∀ a, A a → H a ≠ none) ∧
  ∀ H', Gx (KX9 ka) g H g H' → FolkR K g H' fa f L → EndD A G g H' ka → Q (.bl true) H'
theorem sc__law_ended : FnScope ["_law_folk", "_law_many", "_law_ends", "_law_said", "_law_hand", "_law_entry"] ["_law_folk", "_law_many", "_law_ends", "_law_said"] (defScope s__law_ended) := ⟨rfl, rfl, rfl, by decide +kernel, rfl, by decide +kernel, by decide +kernel⟩
set_option maxRecDepth 100000 in
theorem ok__law_ended (T : Txt K mg) : OkF P w K mg base CX0 8 (He.ga K "_law_ended") ["_law_folk", "_law_many", "_law_ends", "_law_said"] (spEnded9 K) := by
  obtain ⟨fd, F⟩ := T.F__law_ended
  obtain ⟨fd_Folk_past, G_Folk_past⟩ := ok_Folk_past (P := P) (w := w) (base := base) T
  obtain ⟨fd__law_row_right, G__law_row_right⟩ := ok__law_row_right (P := P) (w := w) (base := base) T
  refine ⟨fd, F.ok sc__law_ended (fun vs H Q E h => ?_) (fun cdv A outer s H vs Q E hr h => ?_), F.bindsN fun _ _ _ _ _ _ us hl => match us, hl with | [_, _, _, _], _ => rfl, F.kp⟩
  · obtain ⟨_, _, _, _, _, _, _, _, _, _, _, _, _, _, _, _, rfl, _⟩ := h
    rfl
  · refine ⟨_, PSs.nox (pss_cons (ps_for PassesOwn.never rfl (pi_range1 rfl T.b_range (pa_cons (pv 1) pa_nil)) (pg_name (i := 4) sc__law_ended.nd rfl (Or.inl rfl)) (pss_one (ps_for PassesOwn.never rfl (pi_list (pe_meth (pv 0) T.cl_Folk T.me_Folk_past G_Folk_past.1 (hr.mono (by decide)) G_Folk_past.2.1 .nil (passX takes0 fun _ _ _ _ h => h) (pa_cons (pv 4) pa_nil))) (pg_name (i := 5) sc__law_ended.nd rfl (Or.inl rfl)) (pss_cons (ps_if (pt_not (pt_val (pe_call G__law_row_right.1 (hr.mono (by decide)) rfl T.g__law_row_right G__law_row_right.2.2 G__law_row_right.2.1 .nil pass0 (pa_cons (pe_ix ix_tup (pv 5) pe_int (fun _ _ => rfl)) (pa_cons (pe_ix ix_tup (pv 5) pe_int (fun _ _ => rfl)) (pa_cons (pv 3) pa_nil)))))) (pss_one (ps_ret pe_bl)) pss_nil) (C8.pss_cut (ps_expr (pe_dsetd (pv 2) (pe_ix ix_tup (pv 5) pe_int (fun _ _ => rfl)) (pe_callTy (T := "list") call_list_of (by rfl) T.b_list (by decide +kernel) (pa_cons (pe_ix ix_tup (pv 5) pe_int (fun _ _ => rfl)) pa_nil)) ⟨by rfl, by rfl, by rfl, by rfl⟩)) (pss_one (ps_if (pt_cmpR (op_neD hr.u64) (pe_dget hr.hu (pv 2) (pe_ix ix_tup (pv 5) pe_int (fun _ _ => rfl)) (fun _ _ => rfl)) (pe_ix ix_tup (pv 5) pe_int (fun _ _ => rfl)) (nomark _)) (pss_one (ps_ret pe_bl)) pss_nil))))))) (pss_one (ps_ret pe_bl))), ?_⟩
    obtain ⟨A, B, g, fa, f, L, ka, sa, m, n, c, first, G, qg, S, la, rfl, r, st, hn, QI, hqS, ed, sd, hBk, hc, hA, q⟩ := h
    have m9 := st.m9
    have hlen := st.len
    have pi := st.pi
    have kax : ∃ kvs, H ka = some (.dK kvs) := by
      obtain ⟨⟨kvs, _, w1, _⟩, _⟩ := ed
      exact ⟨kvs, w1⟩
    refine ⟨_, rfl, (m : Int), rfl, by omega, by omega, for_range (lo := 0) (n := m) (fun i σ H' => ∃ hv ev, σ = [some (.ref fa), some (.int m), some (.ref ka), some (.ref sa), hv, ev] ∧ Gx (KX9 ka) g H g H' ∧ FolkR K g H' fa f L ∧ EndD A G g H' ka) ⟨none, none, rfl, Gx.refl r.ok, r, ed⟩ ?_ ?_⟩
    · rintro i σ H1 hi ⟨hv, ev, rfl, gx1, r1, ed1⟩
      rw [show (0 : Int) + (i : Nat) = (i : Nat) from Int.zero_add _]
      obtain ⟨p1, p2⟩ := st.past9 hn hi
      have ro1 := r1.ok.sub _ _ r1.obj
      have hp := pi.hands i hi
      refine ⟨_, rfl, _, _, _, rfl, ro1, zn (by decide +kernel), _, rfl, g, fa, f, L, _, rfl, r1, thg_int, ?_⟩
      rw [who_in (by omega)]
      refine ⟨by omega, fun l xs H2 hl e2 hxs px nxl => ?_⟩
      have hlx := paired_len px
      have r2 := r1.ext e2
      have lo := r1.ok.onone hl
      have kk : ∀ b, H1 b = none → ¬ KX9 ka b := fun b hb z => by
        obtain ⟨⟨kv, _, w1, _⟩, _⟩ := ed1
        have z' : b = ka := z
        rw [z', w1] at hb
        cases hb
      have lkeep : ∀ H', Gx (KX9 ka) g H2 g H' → H' l = some (.lst xs) := fun H' gx => (gx.keep l _ hxs lo (kk l hl)).1
      have gx02 := gx1.trans (Gx.same r1.ok e2)
      refine ⟨l, rfl, ⟨_, SqL.of hxs⟩, for_list (K := K) (a := l) (xs := xs) (fun j σ H' => ∃ ev, σ = [some (.ref fa), some (.int m), some (.ref ka), some (.ref sa), some (.int (i : Nat)), ev] ∧ Gx (KX9 ka) g H2 g H' ∧ FolkR K g H' fa f L ∧ EndD A G g H' ka)
        ⟨ev, rfl, Gx.refl r2.ok, r2, ed1.same e2⟩ (fun j σ H' _ w => ?_) ?_ ?_⟩
      · obtain ⟨_, _, gx, _⟩ := w
        exact SqL.of (lkeep H' gx)
      · rintro j x σ H3 hx ⟨ev3, rfl, gx3, r3, ed3⟩
        obtain ⟨e, he, t, le, me, ys, rfl, tn, len, men, ht1, hle1, hme1, pm⟩ := paired_get px hx
        have hem := List.mem_of_getElem? he
        obtain ⟨⟨r0, hr0⟩, hin, hehi, hes, M0, hM0, hM0'⟩ := hp.past e hem
        obtain ⟨en0, _⟩ := pi.g.ok _ _ hr0
        obtain ⟨ri, M1, hM1⟩ := QI.past pi hi hem
        have rs := ri.s hqS
        have tkeep : ∀ H', Gx (KX9 ka) g H2 g H' → H' t = some (.tup [.int e.1, .ref le, .ref me]) := fun H' gx => (gx.keep t _ ht1 (r1.ok.onone tn) (kk t tn)).1
        have mekeep : ∀ H', Gx (KX9 ka) g H2 g H' → H' me = some (.lst ys) := fun H' gx => (gx.keep me _ hme1 (r1.ok.onone men) (kk me men)).1
        have ht3 := tkeep H3 gx3
        have hme3 := mekeep H3 gx3
        have sd3 := sd.go (gx02.trans gx3) (fun a z => by rw [show a = ka from z]; exact hBk)
        refine ⟨_, rfl, t, _, _, .ref me, rfl, rfl, .inl (.inl ht3), atI_nat (j := 2) rfl, _, rfl, t, _, _, .int e.1, rfl, rfl, .inl (.inl ht3), atI_nat (j := 0) rfl, _, rfl, B, g, me, sa, ys, e.2.2, e.1, m, c, S, la, rfl, r3.ok.sub, hme3, pm, rs, sd3, m9, hc, fun H4 e4 => ⟨_, rfl, iteF ?_⟩⟩
        have r4 := r3.ext e4
        have ed4 := ed3.same e4
        have ht4 := e4 _ _ ht3
        have hme4 := e4 _ _ hme3
        have gx24 := gx3.trans (Gx.same r3.ok e4)
        refine ⟨fun σ H' => σ = [some (.ref fa), some (.int m), some (.ref ka), some (.ref sa), some (.int (i : Nat)), some (.ref t)] ∧ Gx (KX9 ka) g H2 g H' ∧ FolkR K g H' fa f L ∧ EndD A G g H' ka ∧ ∃ la xs', DGet H' ka (.int e.1) (some (.ref la)) ∧ H' la = some (.lst xs') ∧ Paired (msgV g.D) xs' e.2.2, ?_, ?_⟩
        · obtain ⟨⟨kvs, ks, k1, k2, k3, k4, k6⟩, k7, k8, k9⟩ := ed4
          have hkl := kvs_len k2
          have hks := ks_len k3 k4
          refine ⟨_, rfl, ka, rfl, .inl ⟨kvs, .inl k1⟩, _, rfl, t, _, _, .int e.1, rfl, rfl, .inl (.inl ht4), atI_nat (j := 0) rfl, _, rfl, t, _, _, .ref me, rfl, rfl, .inl (.inl ht4), atI_nat (j := 2) rfl, me, _, rfl, .inl (SqL.of hme4), fun ll hll => ⟨kvs, .inl e.1, same_upd hll _ _ k1, rfl, Nat.lt_of_le_of_lt (show kvs.length ≤ 100 by omega) (by decide), fun v hv => ?_, fun hv => ?_⟩⟩
          · have e5 := same_upd (o := .lst ys) hll
            obtain ⟨_, la', M', r', xs', rfl, w2, w3, w4, w5, w6⟩ := k6 _ v hv
            rw [hM1] at w2
            cases w2
            have k1' := e5 _ _ k1
            have dg := DGet.k (k := Sum.inl e.1) k1'
            rw [hv] at dg
            exact ⟨rfl, gx24.trans (Gx.same r4.ok e5), r4.ext e5, EndD.same ⟨⟨kvs, ks, k1, k2, k3, k4, k6⟩, k7, k8, k9⟩ e5, la', xs', dg, e5 _ _ w3, w6⟩
          · have e5 := same_upd (o := .lst ys) hll
            have r5 := r4.ext e5
            have ed5 : EndD A G g (upd H4 ll (.lst ys)) ka := EndD.same ⟨⟨kvs, ks, k1, k2, k3, k4, k6⟩, k7, k8, k9⟩ e5
            have k1' := e5 _ _ k1
            have gx25 := gx24.trans (Gx.same r4.ok e5)
            have hAl : ¬ A ll := fun z => hA ll z ((gx02.trans gx24).dom ll hll)
            have hll5 := upd_same (H := H4) (a := ll) (o := .lst ys)
            generalize upd H4 ll (.lst ys) = H5 at *
            have dg := DGet.k (k := Sum.inl e.1) (upd_same (H := H5) (a := ka) (o := .dK (putK kvs (.inl e.1) (.ref ll))))
            rw [valV_put, if_pos rfl] at dg
            refine ⟨rfl, gx25.trans (Gx.mine r5.ok rfl k8 k7), r5.mine k8 k7, ed5.put k1' hv ⟨en0, by omega⟩ hM1 hll5 (r4.ok.onone hll) hAl pm, ll, ys, dg, ?_, pm⟩
            rw [upd_ne fun z => by rw [z, k1'] at hll5; cases hll5]
            exact hll5
        rintro σ H6 ⟨rfl, gx6, r6, ed6, la', xs', dg, hla, pl⟩
        have ht6 := tkeep H6 gx6
        have hme6 := mekeep H6 gx6
        have hsh := row_sh9 rs.ok
        refine ⟨_, rfl, _, rfl, t, _, _, .int e.1, rfl, rfl, .inl (.inl ht6), atI_nat (j := 0) rfl, ka, _, rfl, dg, _, rfl, t, _, _, .ref me, rfl, rfl, .inl (.inl ht6), atI_nat (j := 2) rfl, .list (e.2.2.map msgD), .list (e.2.2.map msgD), .lst (SqL.of hla) (row_dp9 r6.ok.sub pl), .lst (SqL.of hme6) (row_dp9 r6.ok.sub pm), hsh, hsh, _, rfl, ?_⟩
        rw [PySem.SeqAt.eqv_refl _ (SeqAt.canLay_of_shaped hsh)]
        exact iteF ⟨_, rfl, gx6, r6, ed6⟩
      · rintro σ H3 ⟨ev3, rfl, gx3, r3, ed3⟩
        exact ⟨_, _, rfl, gx02.trans gx3, r3, ed3⟩
    · rintro σ H1 ⟨hv, ev, rfl, gx1, r1, ed1⟩
      exact q H1 gx1 r1 ed1

end
end Fo
namespace Fo
open PySem PySem.Spec PyProof.Rows L2
section
variable {P : Program} {w : World} {K : PySem.W.Frag} {mg : Str → Option Value} {base : Heap}
theorem cut_any {xs : List V} {p : Nat} : cutV xs none (some ((p : Nat) : Int)) = xs.take p := by
  by_cases h : p ≤ xs.length
  · exact cut_to h
  · unfold cutV
    rw [HT.sIx_none, HT.sIx_nat, List.drop_zero, Nat.sub_zero, Nat.min_eq_right (by omega), List.take_length, List.take_of_length_le (by omega)]
/-- the rows that the law saw in the lists that are open -/
structure OpenD (q : QG) (g : Gh) (H : Hp) (da : Addr) : Prop where
  ex : ∃ (kvs : List (Key × V)) (ks : List Int), H da = some (.dK kvs) ∧ kvs.map (·.1) = ks.map Sum.inl ∧ ks.Nodup ∧ (∀ k ∈ ks, 0 ≤ k ∧ k ≤ 90) ∧
    ∀ n v, valV kvs (.inl n) = some v → ∃ (la : Addr) (r : List Msg) (xs : List V), v = .ref la ∧ H la = some (.lst xs) ∧ Paired (msgV g.D) xs r ∧ Beg (q.R n) r
theorem OpenD.same {q : QG} {g : Gh} {H H' : Hp} {da : Addr} (h : OpenD q g H da) (e : Same H H') : OpenD q g H' da := by
  obtain ⟨kvs, ks, h1, h2, h3, h4, h6⟩ := h.ex
  exact ⟨kvs, ks, e _ _ h1, h2, h3, h4, fun n v w => by
    obtain ⟨la, r, xs, w1, w2, w3⟩ := h6 n v w
    exact ⟨la, r, xs, w1, e _ _ w2, w3⟩⟩
theorem OpenD.get {q : QG} {g : Gh} {H : Hp} {da l : Addr} (h : OpenD q g H da) (hl : H l = some (.lst [])) (n : Int) : ∃ o b xs r, DGet H da (.int n) o ∧ o.getD (.ref l) = V.ref b ∧ H b = some (.lst xs) ∧ Paired (msgV g.D) xs r ∧ Beg (q.R n) r := by
  obtain ⟨kvs, ks, k1, k2, k3, k4, k6⟩ := h.ex
  have hd := DGet.k (k := Sum.inl n) k1
  cases hv : valV kvs (.inl n) with
  | none =>
    rw [hv] at hd
    exact ⟨_, l, [], [], hd, rfl, hl, .nil, rfl⟩
  | some v =>
    rw [hv] at hd
    obtain ⟨la, r, xs, rfl, w2, w3, w4⟩ := k6 n v hv
    exact ⟨_, la, xs, r, hd, rfl, w2, w3, w4⟩
theorem OpenD.put {q : QG} {g : Gh} {H : Hp} {da l : Addr} (h : OpenD q g H da) {n : Int} (hn : 0 ≤ n ∧ n ≤ 90) {xs : List V} {r : List Msg} (hl : H l = some (.lst xs)) (hp : Paired (msgV g.D) xs r) (hb : Beg (q.R n) r) : ∃ kvs, H da = some (.dK kvs) ∧ kvs.length < sizeLine ∧ OpenD q g (upd H da (.dK (putK kvs (.inl n) (.ref l)))) da := by
  obtain ⟨kvs, ks, k1, k2, k3, k4, k6⟩ := h.ex
  have h1 := kvs_len k2
  have h2 := ks_len k3 k4
  refine ⟨kvs, k1, Nat.lt_of_le_of_lt (show kvs.length ≤ 100 by omega) (by decide), ?_⟩
  have keep : ∀ b us, H b = some (.lst us) → upd H da (.dK (putK kvs (.inl n) (.ref l))) b = some (.lst us) := fun b us hb => by
    rw [upd_ne fun z => by rw [z, k1] at hb; cases hb]
    exact hb
  have vals : ∀ k v, valV (putK kvs (.inl n) (.ref l)) (.inl k) = some v → ∃ (la : Addr) (r : List Msg) (xs : List V), v = .ref la ∧ upd H da (.dK (putK kvs (.inl n) (.ref l))) la = some (.lst xs) ∧ Paired (msgV g.D) xs r ∧ Beg (q.R k) r := fun k v w => by
    rw [valV_put] at w
    split at w
    · rename_i e
      cases w
      cases e
      exact ⟨l, r, xs, rfl, keep _ _ hl, hp, hb⟩
    · obtain ⟨la, r', xs', w1, w2, w3⟩ := k6 k v w
      exact ⟨la, r', xs', w1, keep _ _ w2, w3⟩
  cases hv : valV kvs (.inl n) with
  | none =>
    refine ⟨_, ks ++ [n], upd_same, ?_, ?_, fun k hk' => ?_, vals⟩
    · rw [putK_new (by rw [valV_any, hv]; rfl), List.map_append, List.map_append, k2]
      rfl
    · refine List.nodup_append.mpr ⟨k3, List.nodup_cons.mpr ⟨List.not_mem_nil, List.Pairwise.nil⟩, fun x hx y hy e => ?_⟩
      rw [List.mem_singleton.mp hy] at e
      subst e
      have : (Sum.inl x : Key) ∈ kvs.map (·.1) := by rw [k2]; exact List.mem_map_of_mem hx
      obtain ⟨p, hp, hpe⟩ := List.mem_map.mp this
      have ha : (kvs.any fun kv => decide (kv.1 = (Sum.inl x : Key))) = true := List.any_eq_true.mpr ⟨p, hp, decide_eq_true hpe⟩
      rw [valV_any, hv] at ha
      cases ha
    · rcases List.mem_append.mp hk' with w | w
      · exact k4 k w
      · rw [List.mem_singleton.mp w]; exact hn
  | some v =>
    refine ⟨_, ks, upd_same, ?_, k3, k4, vals⟩
    rw [← k2]
    unfold putK
    rw [if_pos (by rw [valV_any, hv]; rfl), List.map_map]
    refine List.map_congr_left fun p _ => ?_
    show (if p.1 = Sum.inl n then _ else p).1 = p.1
    split <;> rfl
def spOpen9 (K : PySem.W.Frag) : Sp := fun vs H Q _ => ∃ (A B : Addr → Prop) (g : Gh) (fa : Addr) (f : Flk) (L : FL) (ka sa : Addr) (m n c : Nat) (first : List Int) (G : PG) (q : QG) (S : Nat → List (Int × Str)) (la : Nat → Addr), vs = [.ref fa, .int m, .ref ka, .ref sa] ∧ FolkR K g H fa f L ∧ St8 m first n G f ∧ n ≤ 90 ∧ QInv m G q f ∧ q.S = S ∧ EndD A G g H ka ∧ Said9 B g H sa m c S la ∧ c ≤ 200 ∧
  ∀ H', Same H H' → Q (.bl true) H'
theorem sc__law_open : FnScope ["_law_folk", "_law_many", "_law_ends", "_law_said", "_law_rows", "_law_hand", "_law_now", "_law_row", "_law_best"] ["_law_folk", "_law_many", "_law_ends", "_law_said"] (defScope s__law_open) := ⟨rfl, rfl, rfl, by decide +kernel, rfl, by decide +kernel, by decide +kernel⟩
set_option maxRecDepth 100000 in
theorem ok__law_open (T : Txt K mg) : OkF P w K mg base CX0 8 (He.ga K "_law_open") ["_law_folk", "_law_many", "_law_ends", "_law_said"] (spOpen9 K) := by
  obtain ⟨fd, F⟩ := T.F__law_open
  obtain ⟨fd__law_list, G__law_list⟩ := ok__law_list (P := P) (w := w) (base := base) T
  obtain ⟨fd_Folk_taken, G_Folk_taken⟩ := ok_Folk_taken (P := P) (w := w) (base := base) T
  obtain ⟨fd__law_row_right, G__law_row_right⟩ := ok__law_row_right (P := P) (w := w) (base := base) T
  refine ⟨fd, F.ok sc__law_open (fun vs H Q E h => ?_) (fun cdv A outer s H vs Q E hr h => ?_), F.bindsN fun _ _ _ _ _ _ us hl => match us, hl with | [_, _, _, _], _ => rfl, F.kp⟩
  · obtain ⟨_, _, _, _, _, _, _, _, _, _, _, _, _, _, _, _, rfl, _⟩ := h
    rfl
  · refine ⟨_, PSs.nox (pss_cons (ps_set (i := 4) sc__law_open.nd rfl (Or.inl rfl) pe_dnewK) (pss_cons (ps_for PassesOwn.never rfl (pi_range1 rfl T.b_range (pa_cons (pv 1) pa_nil)) (pg_name (i := 5) sc__law_open.nd rfl (Or.inl rfl)) (C8.pss_cut (ps_set (i := 6) sc__law_open.nd rfl (Or.inl rfl) (pe_call G__law_list.1 (hr.mono (by decide)) rfl T.g__law_list G__law_list.2.2 G__law_list.2.1 .nil pass0 (pa_cons (pv 0) (pa_cons (pv 5) pa_nil)))) (pss_one (ps_if (pt_cmpR op_notN (pv 6) pe_non (nomark _)) (pss_cons (ps_set (i := 7) sc__law_open.nd rfl (Or.inl rfl) (pe_meth (pv 0) T.cl_Folk T.me_Folk_taken G_Folk_taken.1 (hr.mono (by decide)) G_Folk_taken.2.1 .nil (passX takes0 fun _ _ _ _ h => h) (pa_cons (pv 5) pa_nil))) (pss_cons (ps_set (i := 8) sc__law_open.nd rfl (Or.inl rfl) (pe_dget2 hr.hu (pv 2) (pe_ix ix_tup (pv 6) pe_int (fun _ _ => rfl)) (pe_dget2 hr.hu (pv 4) (pe_ix ix_tup (pv 6) pe_int (fun _ _ => rfl)) (pe_lst pa_nil) ⟨by rfl, by rfl, by rfl, by rfl⟩) ⟨by rfl, by rfl, by rfl, by rfl⟩)) (pss_cons (ps_if (pt_not (pt_val (pe_call G__law_row_right.1 (hr.mono (by decide)) rfl T.g__law_row_right G__law_row_right.2.2 G__law_row_right.2.1 .nil pass0 (pa_cons (pv 7) (pa_cons (pe_ix ix_tup (pv 6) pe_int (fun _ _ => rfl)) (pa_cons (pv 3) pa_nil)))))) (pss_one (ps_ret pe_bl)) pss_nil) (C8.pss_cut (ps_if (PW.pt (pw_and (pt_cmpR (op_neD hr.u64) (pe_slice sl_list (pv 8) po_none (po_some (pe_callB call_len_seq (by rfl) T.b_len PySem.boot_len (pa_cons (pv 7) pa_nil)))) (pv 7) (nomark _)) (pw_and1 (PW.pt (pw_or (pt_cmp (pc_din hr.hu (pe_ix ix_tup (pv 6) pe_int (fun _ _ => rfl)) (pv 2)) rfl) (pw_or1 (pt_cmpR (op_neD hr.u64) (pe_slice sl_list (pv 7) po_none (po_some (pe_callB call_len_seq (by rfl) T.b_len PySem.boot_len (pa_cons (pv 8) pa_nil)))) (pv 8) (nomark _)))))))) (pss_one (ps_ret pe_bl)) pss_nil) (pss_one (ps_if (pt_cmpR op_gt (pe_callB call_len_seq (by rfl) T.b_len PySem.boot_len (pa_cons (pv 7) pa_nil)) (pe_callB call_len_seq (by rfl) T.b_len PySem.boot_len (pa_cons (pe_dget2 hr.hu (pv 4) (pe_ix ix_tup (pv 6) pe_int (fun _ _ => rfl)) (pe_lst pa_nil) ⟨by rfl, by rfl, by rfl, by rfl⟩) pa_nil)) (nomark _)) (pss_one (ps_dput hr.hu (pv 4) (pe_ix ix_tup (pv 6) pe_int (fun _ _ => rfl)) (pv 7) rfl)) pss_nil)))))) pss_nil)))) (pss_one (ps_ret pe_bl)))), ?_⟩
    obtain ⟨A, B, g, fa, f, L, ka, sa, m, n, c, first, G, qg, S, la, rfl, r, st, hn, QI, hqS, ed, sd, hc, q⟩ := h
    have m9 := st.m9
    have hlen := st.len
    have pi := st.pi
    refine fun da hda => ?_
    have ek := same_upd (o := .dK []) hda
    refine ⟨_, rfl, (m : Int), rfl, by omega, by omega, for_range (lo := 0) (n := m) (fun i σ H' => ∃ hv nv rv bv, σ = [some (.ref fa), some (.int m), some (.ref ka), some (.ref sa), some (.ref da), hv, nv, rv, bv] ∧ Same H H' ∧ OpenD qg g H' da) ⟨none, none, none, none, rfl, ek, ⟨[], [], upd_same, rfl, List.Pairwise.nil, (fun _ h => nomatch h), fun n v h => (nomatch h)⟩⟩ ?_ ?_⟩
    · rintro i σ H1 hi ⟨hv, nv, rv, bv, rfl, e1, od1⟩
      rw [show (0 : Int) + (i : Nat) = (i : Nat) from Int.zero_add _]
      have r1 := r.ext e1
      refine ⟨fun σ H' => ∃ pv, σ = [some (.ref fa), some (.int m), some (.ref ka), some (.ref sa), some (.ref da), some (.int (i : Nat)), some pv, rv, bv] ∧ Same H1 H' ∧ ((pv = .non ∧ (f.hand i).seat = none) ∨ ∃ t' l' s', pv = .ref t' ∧ (f.hand i).seat = some s' ∧ H' t' = some (.tup [.int s'.num, .ref l'])), ?_, ?_⟩
      · exact ⟨_, rfl, _, rfl, g, fa, f, L, i, rfl, r1, by omega, fun hn => ⟨.non, rfl, Same.refl _, .inl ⟨rfl, hn⟩⟩, fun s' hs' t' l' H7 e7 _ _ ht' _ => ⟨.ref t', rfl, e7, .inr ⟨t', l', s', rfl, hs', ht'⟩⟩⟩
      rintro σ H2 ⟨pv, rfl, e2, hpv⟩
      have e02 := e1.trans e2
      have r2 := r.ext e02
      have ro2 := r2.ok.sub _ _ r2.obj
      have od2 := od1.same e2
      rcases hpv with ⟨rfl, hno⟩ | ⟨t, l', s, rfl, hs, ht2⟩
      · refine ⟨_, rfl, rfl, _, rfl, ?_⟩
        rw [show (!decide (V.non = V.non)) = false by simp]
        exact iteF ⟨_, _, _, _, rfl, e02, od2⟩
      refine ⟨_, rfl, rfl, _, rfl, ?_⟩
      rw [show (!decide (V.ref t = V.non)) = true from by rw [decide_eq_false (fun z => nomatch z)]; rfl]
      obtain ⟨hb, ri, hcf⟩ := QI.took pi hi hs
      have sq := (QI.hands i hi).seat s hs
      have hp := pi.hands i hi
      obtain ⟨sp, hsn⟩ := hp.seat s hs
      obtain ⟨r0, hr0⟩ := sp.mem
      obtain ⟨sn0, _⟩ := pi.g.ok _ _ hr0
      have rs := ri.s hqS
      have htl : (s.row.take s.took).length = s.took := by rw [List.length_take, Nat.min_eq_left sq.took.1]
      have hcf : ∀ v, G.cfg (s.num + 1) = some v → s.row.take s.took = v.2.take (s.row.take s.took).length := fun v hv => by rw [htl]; exact hcf v hv
      have s90 : s.num ≤ 90 := by
        obtain ⟨Bd, F, _⟩ := st.inv
        have h1 := (F.hands i hi).seat s hs
        have h2 := (st.past9 hn hi).1
        omega
      obtain ⟨tr, htr⟩ : ∃ tr, s.row.take s.took = tr := ⟨_, rfl⟩
      rw [htr] at hb rs hcf
      refine iteT ⟨_, rfl, _, _, _, rfl, ro2, zn (by decide +kernel), _, rfl, g, fa, f, L, _, rfl, r2, thg_int, ?_⟩
      rw [seatOf_in (by omega) hs]
      intro l xs hl px
      dsimp only at px
      rw [htr] at px
      have e3 := same_upd (o := .lst xs) hl
      have hl3 := upd_same (H := H2) (a := l) (o := .lst xs)
      have ht3 := e3 _ _ ht2
      have od3 := od2.same e3
      have e03 := e02.trans e3
      generalize upd H2 l (.lst xs) = H3 at *
      have hxl := paired_len px
      have hro := rs.ok
      have dAt : ∀ {H'}, Same H3 H' → IsD H' ka := fun e => by
        obtain ⟨⟨kvs, _, k1, _⟩, _⟩ := ed
        exact .inl ⟨kvs, .inl ((e03.trans e) _ _ k1)⟩
      have oAt : ∀ {H'}, OpenD qg g H' da → IsD H' da := fun o => by
        obtain ⟨kvs, _, k1, _⟩ := o.ex
        exact .inl ⟨kvs, .inl k1⟩
      refine ⟨_, rfl, ka, rfl, dAt (Same.refl _), _, rfl, t, _, _, .int s.num, rfl, rfl, .inl (.inl ht3), atI_nat (j := 0) rfl, _, rfl, da, rfl, oAt od3, _, rfl, t, _, _, .int s.num, rfl, rfl, .inl (.inl ht3), atI_nat (j := 0) rfl, Nat.zero_le _, fun l4 hl4 => ?_⟩
      have e4 := same_upd (o := .lst []) hl4
      have hl44 := upd_same (H := H3) (a := l4) (o := .lst [])
      have ht4 := e4 _ _ ht3
      have hl_4 := e4 _ _ hl3
      have od4 := od3.same e4
      have e04 := e03.trans e4
      have dAt4 : ∀ {H'}, Same (upd H3 l4 (.lst [])) H' → IsD H' ka := fun e => dAt (e4.trans e)
      generalize upd H3 l4 (.lst []) = H4 at *
      obtain ⟨o1, b1, bx1, br1, g1, g2, g3, g4, g5⟩ := od4.get hl44 s.num
      refine ⟨o1, g1, ?_⟩
      rw [g2]
      obtain ⟨o2, b, bxs, rb, k1, k2, k3, k4, k5⟩ : ∃ o2 b bxs rb, DGet H4 ka (.int s.num) o2 ∧ o2.getD (.ref b1) = V.ref b ∧ H4 b = some (.lst bxs) ∧ Paired (msgV g.D) bxs rb ∧ ((o2.isSome = true ∧ rOk rb ∧ rb.take tr.length = tr) ∨ (o2.isSome = false ∧ Beg (qg.R s.num) rb)) := by
        obtain ⟨⟨kvs, ks, w1, w2, w3, w4, w6⟩, _⟩ := ed.same e04
        have hd := DGet.k (k := Sum.inl s.num) w1
        cases hv : valV kvs (.inl s.num) with
        | none =>
          rw [hv] at hd
          exact ⟨_, b1, bx1, br1, hd, rfl, g3, g4, .inr ⟨rfl, g5⟩⟩
        | some v =>
          rw [hv] at hd
          obtain ⟨n0, la', M', r', xs', rfl, x2, x3, x4, x5, x6⟩ := w6 _ v hv
          refine ⟨_, la', xs', r', hd, rfl, x3, x6, .inl ⟨rfl, ?_, (hcf _ x2).symm⟩⟩
          exact fun y hy => ((QI.beg (QI.dec pi x2 n0).1).2 y hy).1
      have hbl := paired_len k4
      have hrb : rOk rb := by
        rcases k5 with k5 | k5
        · exact k5.2.1
        · exact fun y hy => ((QI.beg k5.2).2 y hy).1
      refine ⟨o2, k1, ?_⟩
      rw [k2]
      refine ⟨_, rfl, _, rfl, t, _, _, .int s.num, rfl, rfl, .inl (.inl ht4), atI_nat (j := 0) rfl, _, rfl, B, g, l, sa, xs, tr, s.num, m, c, S, la, rfl, (r.ext e04).ok.sub, hl_4, px, rs, sd.same e04, m9, hc, fun H5 e5 => ⟨_, rfl, iteF ?_⟩⟩
      have ht5 := e5 _ _ ht4
      have hl5 := e5 _ _ hl_4
      have hb5 := e5 _ _ k3
      have e05 := e04.trans e5
      have od5 := od4.same e5
      have k15 : DGet H5 ka (.int s.num) o2 := by
        obtain ⟨⟨kvs, ks, w1, _⟩, _⟩ := ed.same e04
        rcases k1 with ⟨kvs', k', y1, y2, y3⟩ | ⟨kvs', k', y0, y1, y2, _⟩
        · refine .inl ⟨kvs', k', ?_, y2, y3⟩
          rcases y1 with y1 | ⟨o, y1⟩
          · exact .inl (e5 _ _ y1)
          · rw [w1] at y1; cases y1
        · cases y2
      have sub5 : ∀ {H'}, Same H5 H' → Same g.D H' := fun e => (r.ext (e05.trans e)).ok.sub
      refine ⟨fun σ H' => σ = [some (.ref fa), some (.int m), some (.ref ka), some (.ref sa), some (.ref da), some (.int (i : Nat)), some (.ref t), some (.ref l), some (.ref b)] ∧ Same H5 H', ?_, ?_⟩
      rotate_left
      · rintro σ H6 ⟨rfl, e6⟩
        have ht6 := e6 _ _ ht5
        have hl6 := e6 _ _ hl5
        have od6 := od5.same e6
        have e06 := e05.trans e6
        have r6 := r.ext e06
        refine ⟨_, rfl, l, xs, rfl, .inl (SqL.of hl6), _, rfl, da, rfl, oAt od6, _, rfl, t, _, _, .int s.num, rfl, rfl, .inl (.inl ht6), atI_nat (j := 0) rfl, Nat.zero_le _, fun l7 hl7 => ?_⟩
        have e7 := same_upd (o := .lst []) hl7
        obtain ⟨o7, b7, y7, r7, z1, z2, z3, z4, z5⟩ := (od6.same e7).get (upd_same (a := l7)) s.num
        refine ⟨o7, z1, ?_⟩
        rw [z2]
        refine ⟨b7, y7, rfl, .inl (SqL.of z3), _, _, rfl, rfl, _, rfl, iteD (fun _ => ?_) (fun _ => ⟨_, _, _, _, rfl, e06.trans e7, od6.same e7⟩)⟩
        obtain ⟨kvs, w1, w2, w3⟩ := (od6.same e7).put (l := l) ⟨sn0, s90⟩ (e7 _ _ hl6) px hb
        exact ⟨_, rfl, _, rfl, _, rfl, t, _, _, .int s.num, rfl, rfl, .inl (.inl (e7 _ _ ht6)), atI_nat (j := 0) rfl, da, _, rfl, DPut.k (k := .inl s.num) w1 w2, _, _, _, _, rfl, same_but hda (e06.trans e7) w1 (Same.refl _), w3⟩
      refine ⟨_, rfl, _, rfl, l, xs, rfl, .inl (SqL.of hl5), _, rfl, b, bxs, rfl, SqL.of hb5, fun s1 hs1 => ?_⟩
      rw [cut_any]
      have e6 := same_upd (o := .lst (bxs.take xs.length)) hs1
      refine ⟨_, rfl, .list ((rb.take xs.length).map msgD), .list (tr.map msgD), .lst (SqL.of upd_same) (row_dp9 (sub5 e6) (paired_take _ k4)), .lst (SqL.of (e6 _ _ hl5)) (row_dp9 (sub5 e6) px), row_sh9 (rOk_take9 hrb _), row_sh9 hro, _, rfl, ?_⟩
      have hb6 := e6 _ _ hb5
      have hl6 := e6 _ _ hl5
      have ht6 := e6 _ _ ht5
      have od6 := od5.same e6
      have e06 := e05.trans e6
      have k16 : DGet (upd H5 s1 (.lst (bxs.take xs.length))) ka (.int s.num) o2 := by
        obtain ⟨⟨kvs, ks, w1, _⟩, _⟩ := ed.same e05
        rcases k15 with ⟨kvs', k', y1, y2, y3⟩ | ⟨kvs', k', y0, y1, y2, _⟩
        · refine .inl ⟨kvs', k', ?_, y2, y3⟩
          rcases y1 with y1 | ⟨o, y1⟩
          · exact .inl (e6 _ _ y1)
          · rw [w1] at y1; cases y1
        · cases y2
      have sub6 : ∀ {H'}, Same (upd H5 s1 (.lst (bxs.take xs.length))) H' → Same g.D H' := fun e => sub5 (e6.trans e)
      generalize upd H5 s1 (.lst (bxs.take xs.length)) = H6 at *
      cases hq : PyData.eqv (.list ((rb.take xs.length).map msgD)) (.list (tr.map msgD)) with
      | true => exact iteF (iteF ⟨rfl, e6⟩)
      | false =>
        have eqr : ∀ {a c : List Msg}, a = c → rOk c → PyData.eqv (.list (a.map msgD)) (.list (c.map msgD)) = true := fun h ho => by
          rw [h]
          exact PySem.SeqAt.eqv_refl _ (SeqAt.canLay_of_shaped (row_sh9 ho))
        rcases k5 with ⟨_, _, k5⟩ | ⟨k5, kb⟩
        · rw [← hxl] at k5
          rw [eqr k5 hro] at hq
          cases hq
        · have hle : rb.length < tr.length := Decidable.byContradiction fun z => by
            have h1 : rb.take xs.length = tr := by
              unfold Beg at hb kb
              rw [kb, List.take_take, Nat.min_eq_left (by omega), hxl]
              exact hb.symm
            rw [eqr h1 hro] at hq
            cases hq
          have h2 : tr.take bxs.length = rb := by
            unfold Beg at hb kb
            rw [hb, List.take_take, Nat.min_eq_left (by omega), hbl]
            exact kb.symm
          refine iteT ⟨_, rfl, t, _, _, .int s.num, rfl, rfl, .inl (.inl ht6), atI_nat (j := 0) rfl, _, rfl, ka, o2, rfl, k16, _, rfl, ?_⟩
          rw [k5]
          refine iteF ⟨_, rfl, _, rfl, b, bxs, rfl, .inl (SqL.of hb6), _, rfl, l, xs, rfl, SqL.of hl6, fun s2 hs2 => ?_⟩
          rw [cut_any]
          have e7 := same_upd (o := .lst (xs.take bxs.length)) hs2
          refine ⟨_, rfl, .list ((tr.take bxs.length).map msgD), .list (rb.map msgD), .lst (SqL.of upd_same) (row_dp9 (sub6 e7) (paired_take _ px)), .lst (SqL.of (e7 _ _ hb6)) (row_dp9 (sub6 e7) k4), row_sh9 (rOk_take9 hro _), row_sh9 hrb, _, rfl, ?_⟩
          rw [eqr h2 hrb]
          exact iteF ⟨rfl, e6.trans e7⟩
    · rintro σ H1 ⟨hv, nv, rv, bv, rfl, e1, od1⟩
      exact q H1 e1

end
end Fo
namespace Fo
open PySem PySem.Spec PyProof.Rows L2
section
variable {P : Program} {w : World} {K : PySem.W.Frag} {mg : Str → Option Value} {base : Heap}
/-! ### pasts as data -/
theorem depth_intsP : ∀ ns : List Int, PyData.depthAll (ns.map PyData.int) = 0
  | [] => by simp [PyData.depthAll]
  | n :: ns => by simp only [List.map_cons, PyData.depthAll, depth_intsP ns, PyData.depth]; rfl
theorem depth_rowP : ∀ r : List Msg, PyData.depthAll (r.map msgD) ≤ 1
  | [] => by simp [PyData.depthAll]
  | m :: r => by
    have := depth_rowP r
    simp only [List.map_cons, PyData.depthAll, msgD, PyData.depth] at this ⊢
    omega
def pastD (p : Int × List Int × List Msg) : PyData := .tuple [.int p.1, .list (p.2.1.map PyData.int), .list (p.2.2.map msgD)]
theorem pastD_sd {p : Int × List Int × List Msg} (h : rOk p.2.2) : Sd (pastD p) := by
  have h1 := (sdAll_ints p.2.1).1
  have h2 := (row_sd h).1
  refine ⟨by simp [pastD, PyData.canLay0, PyData.canLayAll0, h1, h2], ?_⟩
  have d1 := depth_intsP p.2.1
  have d2 := depth_rowP p.2.2
  simp only [pastD, PyData.depth, PyData.depthAll, d1]
  omega
theorem pasts_sd : ∀ {ps : List (Int × List Int × List Msg)}, (∀ p ∈ ps, rOk p.2.2) → SdAll (ps.map pastD)
  | [], _ => sdAll_nil
  | p :: ps, h => sdAll_cons (pastD_sd (h p List.mem_cons_self)) (pasts_sd fun x hx => h x (List.mem_cons_of_mem _ hx))
theorem past_dp {K : PySem.W.Frag} {D H H' : Hp} (e : Same D H') : ∀ {xs : List V} {ps : List (Int × List Int × List Msg)}, Paired (pastF D H H') xs ps → DpAll K H' xs (ps.map pastD)
  | _, _, .nil => .nil
  | _, _, .cons ⟨t, l, m, ys, e1, _, _, _, e5, e6, e7, e8⟩ r => .cons (by rw [e1]; exact .tup (.inl (.inl e5)) (.cons (.int _) (.cons (.lst (SqL.of e6) (dpAll_ints _)) (.cons (.lst (SqL.of e7) (row_dp (paired_imp (fun _ _ => msgV.up e) e8))) .nil)))) (past_dp e r)

end
end Fo
namespace Fo
open PySem PySem.Spec PyProof.Rows L2
section
variable {P : Program} {w : World} {K : PySem.W.Frag} {mg : Str → Option Value} {base : Heap}
def spLaw (K : PySem.W.Frag) : Sp := fun vs H Q _ => ∃ (a : Addr) (ns : List Int), vs = [.ref a] ∧ SqL K H a (ns.map V.int) ∧ ns.length ≤ 63 ∧ ∀ H', Q (.bl true) H'
theorem ixN_nat9 {n j : Nat} (hj : j < n) : ixN n (j : Int) = some j := by
  unfold ixN
  rw [if_pos (by omega), if_pos (by omega)]
  simp
theorem bp_dp {K : PySem.W.Frag} {A : Addr → Prop} {g : Gh} {H : Hp} (e : Same g.D H) : ∀ {xs : List V} {ps : List (Int × List Int × List Msg)}, Paired (bpV A g H) xs ps → DpAll K H xs (ps.map pastD)
  | _, _, .nil => .nil
  | _, _, .cons ⟨t, l, m, ys, e1, ⟨e5, _⟩, ⟨e6, _⟩, ⟨e7, _⟩, e8⟩ r => .cons (by rw [e1]; exact .tup (.inl (.inl e5)) (.cons (.int _) (.cons (.lst (SqL.of e6) (dpAll_ints _)) (.cons (.lst (SqL.of e7) (row_dp9 e e8)) .nil)))) (bp_dp e r)
def allM9 (m : Nat) : List Int := (List.range m).map fun (i : Nat) => (i : Int)
theorem rangeL9 (m : Nat) (hm : 1 ≤ m) : (allM9 m) ≠ [] ∧ (∀ x ∈ allM9 m, 0 ≤ x ∧ x < (m : Int)) ∧ (allM9 m).Pairwise (· < ·) := by
  refine ⟨fun z => ?_, fun x hx => ?_, ?_⟩
  · have := congrArg List.length z
    unfold allM9 at this
    rw [List.length_map, List.length_range] at this
    have : m = 0 := this
    omega
  · unfold allM9 at hx
    obtain ⟨i, hi, rfl⟩ := List.mem_map.mp hx
    have := List.mem_range.mp hi
    omega
  · unfold allM9
    rw [List.pairwise_map]
    exact List.pairwise_lt_range.imp fun h => by omega
theorem rgOk9 {m : Nat} (h : m ≤ 9) : RgOk 0 (m : Int) := by
  unfold RgOk
  have : m = 0 ∨ m = 1 ∨ m = 2 ∨ m = 3 ∨ m = 4 ∨ m = 5 ∨ m = 6 ∨ m = 7 ∨ m = 8 ∨ m = 9 := by omega
  rcases this with rfl | rfl | rfl | rfl | rfl | rfl | rfl | rfl | rfl | rfl <;> decide
theorem rgV9 (m : Nat) : rgV 0 (m : Int) = (allM9 m).map V.int := by
  unfold rgV allM9
  rw [List.map_map, show (((m : Nat) : Int) - 0).toNat = m by omega]
  refine List.map_congr_left fun i _ => ?_
  show V.int (0 + (i : Int)) = V.int i
  rw [Int.zero_add]
theorem rangeK_put (i : Nat) (la : Nat → Addr) (l : Addr) : putK ((List.range i).map fun (j : Nat) => ((Sum.inl (j : Int) : Key), V.ref (la j))) (Sum.inl (i : Int)) (.ref l) = (List.range (i + 1)).map fun (j : Nat) => ((Sum.inl (j : Int) : Key), V.ref (if j = i then l else la j)) := by
  rw [putK_new ?_, List.range_succ, List.map_append]
  · congr 1
    · refine List.map_congr_left fun j hj => ?_
      have := List.mem_range.mp hj
      rw [if_neg (by omega)]
    · show _ = [((Sum.inl (i : Int) : Key), V.ref (if i = i then l else la i))]
      rw [if_pos rfl]
  · refine Bool.eq_false_iff.mpr fun z => ?_
    obtain ⟨p, hp, e⟩ := List.any_eq_true.mp z
    obtain ⟨j, hj, rfl⟩ := List.mem_map.mp hp
    have := List.mem_range.mp hj
    have e' := Sum.inl.inj (of_decide_eq_true e)
    omega
theorem new_seat {m : Nat} {ms : List Int} {i : Nat} {s : Seat} (h : ((Flk.new m ms).hand i).seat = some s) : s.num = 0 := by
  by_cases hi : i < m
  · have e : (Flk.new m ms).hand i = if (i : Int) ∈ ms then seatedH ms else Hnd.new := by
      show ((seated m ms ms).getD i Hnd.new) = _
      rw [List.getD_eq_getElem?_getD, seated_get ms ms hi]
      rfl
    rw [e] at h
    split at h
    · have e' : some (Seat.fresh 0 ms none) = some s := h
      cases e'
      rfl
    · exact nomatch (show (none : Option Seat) = some s from h)
  · have e : (Flk.new m ms).hand i = Hnd.new := by
      show ((seated m ms ms).getD i Hnd.new) = _
      rw [List.getD_eq_getElem?_getD, List.getElem?_eq_none (by rw [seated_len]; omega)]
      rfl
    rw [e] at h
    exact nomatch (show (none : Option Seat) = some s from h)
/-- what the law holds behind its deeds -/
structure L9 (K : PySem.W.Frag) (m : Nat) (ms : List Int) (fa sa ba ka : Addr) (la : Nat → Addr) (n : Nat) (g : Gh) (f : Flk) (L : FL) (G : PG) (q : QG) (H : Hp) : Prop where
  r : FolkR K g H fa f L
  st : St8 m ms n G f
  qi : QInv m G q f
  ed : EndD (fun b => SLx m la b ∨ b = ba) G g H ka
  sd : Said9 (fun b => b = ka ∨ b = ba) g H sa m n q.S la
  bf : ∃ bs B, BefR (fun b => SLx m la b ∨ b = ka) g H ba m bs B ∧ ∀ i, ∃ Z, (f.hand i).past = B i ++ Z
def A49 (m : Nat) (la : Nat → Addr) (ka ba : Addr) : Addr → Prop := fun b => SLx m la b ∨ b = ka ∨ b = ba
theorem L9.alloc {K : PySem.W.Frag} {m : Nat} {ms : List Int} {fa sa ba ka : Addr} {la : Nat → Addr} {n : Nat} {g : Gh} {f : Flk} {L : FL} {G : PG} {q : QG} {H : Hp} (h : L9 K m ms fa sa ba ka la n g f L G q H) : ∀ b, A49 m la ka ba b → H b ≠ none := by
  rintro b (⟨i, hi, rfl⟩ | rfl | rfl) z
  · obtain ⟨xs, w, _⟩ := h.sd.row i hi
    rw [z] at w
    cases w
  · obtain ⟨⟨kvs, _, w, _⟩, _⟩ := h.ed
    rw [z] at w
    cases w
  · obtain ⟨bs, B, w, _⟩ := h.bf
    have := w.obj
    rw [z] at this
    cases this
theorem sc_law : FnScope ["_law_script", "_law_many", "_law_first", "_law_story", "_law_folk", "_law_said", "_law_before", "_law_hand", "_law_ends", "_law_cell", "_law_now", "_law_entry"] ["_law_script"] (defScope s_law) := ⟨rfl, rfl, rfl, by decide +kernel, rfl, by decide +kernel, by decide +kernel⟩
theorem law_final (T : Txt K mg) {fd : FuncData} (F : FnP K "law" "law" s_law (He.ga K "law") fd) : FnOk P w K mg base CX0 14 (He.ga K "law") fd ["_law_script"] (spLaw K) := by
  obtain ⟨fd__law_draw, G__law_draw⟩ := ok__law_draw (P := P) (w := w) (base := base) T
  obtain ⟨fd__law_hands, G__law_hands⟩ := ok__law_hands (P := P) (w := w) (base := base) T
  obtain ⟨fd_Folk_init, G_Folk_init⟩ := ok_Folk_init (P := P) (w := w) (base := base) T
  obtain ⟨fd__law_told_on, G__law_told_on⟩ := ok__law_told_on (P := P) (w := w) (base := base) T
  obtain ⟨fd__law_deed, G__law_deed⟩ := ok__law_deed (P := P) (w := w) (base := base) T
  obtain ⟨fd__law_open, G__law_open⟩ := ok__law_open (P := P) (w := w) (base := base) T
  obtain ⟨fd__law_ended, G__law_ended⟩ := ok__law_ended (P := P) (w := w) (base := base) T
  obtain ⟨fd_Folk_past, G_Folk_past⟩ := ok_Folk_past (P := P) (w := w) (base := base) T
  refine F.ok sc_law (fun vs H Q E h => ?_) (fun cdv A outer s H vs Q E hr h => ?_)
  · obtain ⟨_, _, rfl, _⟩ := h
    rfl
  · refine ⟨_, PSs.nox (pss_cons (ps_set (i := 1) sc_law.nd rfl (Or.inl rfl) (pe_ix ix_list (pe_lst (pa_cons pe_int (pa_cons pe_int (pa_cons pe_int (pa_cons pe_int (pa_cons pe_int (pa_cons pe_int pa_nil))))))) (pe_op op_mod (pe_call G__law_draw.1 (hr.mono (by decide)) rfl T.g__law_draw G__law_draw.2.2 G__law_draw.2.1 .nil pass0 (pa_cons (pv 0) (pa_cons pe_int pa_nil))) pe_int) (fun _ _ => rfl))) (pss_cons (ps_set (i := 2) sc_law.nd rfl (Or.inl rfl) (pe_call G__law_hands.1 (hr.mono (by decide)) rfl T.g__law_hands G__law_hands.2.2 G__law_hands.2.1 .nil pass0 (pa_cons (pe_op op_add pe_int (pe_op op_fdiv (pe_call G__law_draw.1 (hr.mono (by decide)) rfl T.g__law_draw G__law_draw.2.2 G__law_draw.2.1 .nil pass0 (pa_cons (pv 0) (pa_cons pe_int pa_nil))) pe_int)) (pa_cons (pv 1) pa_nil)))) (C8.pss_cut (ps_if (PW.pt (pw_or (pt_cmpR (op_eqD hr.u64) (pv 2) (pe_lst pa_nil) (nomark _)) (pw_or1 (pt_cmpR op_eq (pe_op op_mod (pe_call G__law_draw.1 (hr.mono (by decide)) rfl T.g__law_draw G__law_draw.2.2 G__law_draw.2.1 .nil pass0 (pa_cons (pv 0) (pa_cons pe_int pa_nil))) pe_int) pe_int (nomark _))))) (pss_one (ps_set (i := 2) sc_law.nd rfl (Or.inl rfl) (pe_listRg rfl rfl T.b_list (prg_1 rfl T.b_range (pv 1))))) pss_nil) (C8.pss_cut (ps_set (i := 3) sc_law.nd rfl (Or.inl rfl) (pe_and (pe_cmpR op_eq (pv 1) pe_int (nomark _)) (pe_one (pe_cmpR op_eq (pe_op op_mod (pe_op op_fdiv (pe_call G__law_draw.1 (hr.mono (by decide)) rfl T.g__law_draw G__law_draw.2.2 G__law_draw.2.1 .nil pass0 (pa_cons (pv 0) (pa_cons pe_int pa_nil))) pe_int) pe_int) pe_int (nomark _))))) (C8.pss_cut (ps_if (pt_val (pv 3)) (pss_one (ps_set (i := 2) sc_law.nd rfl (Or.inl rfl) (pe_lst (pa_cons pe_int (pa_cons pe_int (pa_cons pe_int pa_nil)))))) pss_nil) (pss_cons (ps_set (i := 4) sc_law.nd rfl (Or.inl rfl) (pe_make T.mk_Folk G_Folk_init.1 (hr.mono (by decide)) rfl T.g_Folk G_Folk_init.2.1 .nil (passX takes0 fun _ _ _ _ h => h) (pa_cons (pv 1) (pa_cons (pe_callTy (T := "list") call_list_of (by rfl) T.b_list (by decide +kernel) (pa_cons (pv 2) pa_nil)) pa_nil)))) (pss_cons (ps_set (i := 5) sc_law.nd rfl (Or.inl rfl) pe_dnewK) (pss_cons (ps_setLc (i := 6) (own := [("_law_hand", 7)]) (g := (gName 7)) (te := (tLst tNil)) rfl sc_law.nd rfl rfl (sw_true rfl rfl rfl (by decide +kernel)) (pi_range1 rfl T.b_range (pa_cons (pv 1) pa_nil)) (blkOk_by (own := [("_law_hand", 7)]) (N := ["_law_script", "_law_many", "_law_first", "_law_story", "_law_folk", "_law_said", "_law_before", "_law_hand", "_law_ends", "_law_cell", "_law_now", "_law_entry"]) (sc := defScope s_law) (by decide +kernel)) (fun _ _ _ _ _ => (pg_name (i := 7) sc_law.nd rfl (Or.inl rfl))) (fun _ _ _ _ _ => pts_nil) (fun _ _ _ _ _ => (pe_lst pa_nil))) (pss_cons (ps_set (i := 8) sc_law.nd rfl (Or.inl rfl) pe_dnewK) (C8.pss_cut (ps_for PassesOwn.never rfl (pi_range1 rfl T.b_range (pa_cons (pv 1) pa_nil)) (pg_name (i := 7) sc_law.nd rfl (Or.inl rfl)) (pss_one (ps_dput hr.hu (pv 5) (pv 7) (pe_lst pa_nil) rfl))) (C8.pss_cut (ps_if (pt_val (pv 3)) (pss_one (ps_expr (pe_call G__law_told_on.1 (hr.mono (by decide)) rfl T.g__law_told_on G__law_told_on.2.2 G__law_told_on.2.1 .nil pass0 (pa_cons (pv 4) (pa_cons (pe_op op_fdiv (pe_call G__law_draw.1 (hr.mono (by decide)) rfl T.g__law_draw G__law_draw.2.2 G__law_draw.2.1 .nil pass0 (pa_cons (pv 0) (pa_cons pe_int pa_nil))) pe_int) (pa_cons (pv 5) pa_nil)))))) pss_nil) (pss_cons (ps_for PassesOwn.never rfl (pi_list (pe_slice sl_list (pv 0) (po_some pe_int) (po_some pe_int))) (pg_name (i := 9) sc_law.nd rfl (Or.inl rfl)) (pss_cons (ps_expr (pe_call G__law_deed.1 (hr.mono (by decide)) rfl T.g__law_deed G__law_deed.2.2 G__law_deed.2.1 .nil pass0 (pa_cons (pv 4) (pa_cons (pv 9) (pa_cons (pv 1) (pa_cons (pv 5) pa_nil)))))) (pss_cons (ps_if (PW.pt (pw_or (pt_not (pt_val (pe_call G__law_ended.1 (hr.mono (by decide)) rfl T.g__law_ended G__law_ended.2.2 G__law_ended.2.1 .nil pass0 (pa_cons (pv 4) (pa_cons (pv 1) (pa_cons (pv 8) (pa_cons (pv 5) pa_nil))))))) (pw_or1 (pt_not (pt_val (pe_call G__law_open.1 (hr.mono (by decide)) rfl T.g__law_open G__law_open.2.2 G__law_open.2.1 .nil pass0 (pa_cons (pv 4) (pa_cons (pv 1) (pa_cons (pv 8) (pa_cons (pv 5) pa_nil)))))))))) (pss_one (ps_ret pe_bl)) pss_nil) (pss_one (ps_for PassesOwn.never rfl (pi_range1 rfl T.b_range (pa_cons (pv 1) pa_nil)) (pg_name (i := 7) sc_law.nd rfl (Or.inl rfl)) (pss_cons (ps_set (i := 10) sc_law.nd rfl (Or.inl rfl) (pe_meth (pv 4) T.cl_Folk T.me_Folk_past G_Folk_past.1 (hr.mono (by decide)) G_Folk_past.2.1 .nil (passX takes0 fun _ _ _ _ h => h) (pa_cons (pv 7) pa_nil))) (pss_cons (ps_if (pt_cmpR (op_neD hr.u64) (pe_slice sl_list (pv 10) po_none (po_some (pe_callB call_len_seq (by rfl) T.b_len PySem.boot_len (pa_cons (pe_ix ix_list (pv 6) (pv 7) (fun _ _ => rfl)) pa_nil)))) (pe_ix ix_list (pv 6) (pv 7) (fun _ _ => rfl)) (nomark _)) (pss_one (ps_ret pe_bl)) pss_nil) (pss_one (ps_asg (pe_lc (own := [("_law_entry", 11)]) (g := (gName 11)) (te := (tTup (tCons (tOp (rIxT K) (tVar 11) (tC (.int 0))) (tCons (tCB (rListOf K) (tCons (tOp (rIxT K) (tVar 11) (tC (.int 1))) tNil)) (tCons (tCB (rListOf K) (tCons (tOp (rIxT K) (tVar 11) (tC (.int 2))) tNil)) tNil))))) rfl sc_law.nd (pi_list (pv 10)) (blkOk_by (own := [("_law_entry", 11)]) (N := ["_law_script", "_law_many", "_law_first", "_law_story", "_law_folk", "_law_said", "_law_before", "_law_hand", "_law_ends", "_law_cell", "_law_now", "_law_entry"]) (sc := defScope s_law) (by decide +kernel)) (fun _ _ _ _ _ => (pg_name (i := 11) sc_law.nd rfl (Or.inl rfl))) (fun _ _ _ _ _ => pts_nil) (fun _ _ _ _ _ => (pe_tup (pa_cons (pe_ix ix_tup (pv 11) pe_int (fun _ _ => rfl)) (pa_cons (pe_callTy (T := "list") call_list_of (by rfl) T.b_list (by decide +kernel) (pa_cons (pe_ix ix_tup (pv 11) pe_int (fun _ _ => rfl)) pa_nil)) (pa_cons (pe_callTy (T := "list") call_list_of (by rfl) T.b_list (by decide +kernel) (pa_cons (pe_ix ix_tup (pv 11) pe_int (fun _ _ => rfl)) pa_nil)) pa_nil)))))) (pg_sub (pv 6) (pv 7) set_list)))))))))) (pss_one (ps_ret pe_bl)))))))))))))), ?_⟩
    obtain ⟨a, ns, rfl, hA, hns, k⟩ := h
    have d0 := Int.emod_nonneg (ns.getD 0 0) (show (6 : Int) ≠ 0 by decide)
    have d1 := Int.emod_lt_of_pos (ns.getD 0 0) (show (0 : Int) < 6 by decide)
    obtain ⟨c, hc, hce⟩ : ∃ c : Nat, c < 6 ∧ ns.getD 0 0 % 6 = (c : Nat) := ⟨(ns.getD 0 0 % 6).toNat, by omega, by omega⟩
    refine ⟨(by show 6 ≤ sizeLine; decide), fun l0 hl0 => ?_⟩
    have e0 := same_upd (o := .lst [V.int 3, .int 4, .int 5, .int 1, .int 2, .int 6]) hl0
    have hA0 := e0.seq hA
    obtain ⟨m, hm1, hm9, hme⟩ : ∃ m : Nat, 1 ≤ m ∧ m ≤ 9 ∧ [V.int 3, V.int 4, .int 5, .int 1, .int 2, .int 6][c]? = some (.int (m : Nat)) := by
      match c, hc with
      | 0, _ => exact ⟨3, by decide, by decide, rfl⟩
      | 1, _ => exact ⟨4, by decide, by decide, rfl⟩
      | 2, _ => exact ⟨5, by decide, by decide, rfl⟩
      | 3, _ => exact ⟨1, by decide, by decide, rfl⟩
      | 4, _ => exact ⟨2, by decide, by decide, rfl⟩
      | 5, _ => exact ⟨6, by decide, by decide, rfl⟩
    refine ⟨_, rfl, a, ns, 0, rfl, hA0, _, _, rfl, rfl, (by show (0 : Int) < 6; decide), l0, _, _, .int (m : Nat), rfl, rfl, SqL.of upd_same, ?_, ?_⟩
    · first
      | (rw [hce]; exact atI_nat hme)
      | (dsimp only; rw [hce]; exact atI_nat hme)
    generalize upd H l0 (.lst [V.int 3, .int 4, .int 5, .int 1, .int 2, .int 6]) = H0 at *
    refine ⟨_, rfl, a, ns, 1, rfl, hA0, _, _, rfl, rfl, ⟨by decide, by decide⟩, _, _, rfl, rfl, _, rfl, _, (m : Int), rfl, by omega, by omega, fun q1 H1 hq1 e1 hL1 => ?_⟩
    have hA1 := e1.seq hA0
    obtain ⟨hs, hhs⟩ : ∃ hs, handsOf (1 + ns.getD 1 0 / 2) (m : Int) = hs := ⟨_, rfl⟩
    rw [hhs] at hL1
    have hrg : ∀ x ∈ hs, 0 ≤ x ∧ x < (m : Int) := fun x hx => by
      rw [← hhs] at hx
      have := handsGo_mem _ _ _ hx
      omega
    have hup : hs.Pairwise (· < ·) := by rw [← hhs]; exact handsGo_sorted _ _ _
    have hshl : ∀ ms : List Int, SeqAt.shaped (.list (ms.map PyData.int)) = true := fun ms => shaped_list (sdAll_ints ms)
    refine ⟨fun σ H' => ∃ qa ms, σ = [some (.ref a), some (.int m), some (.ref qa), none, none, none, none, none, none, none, none, none] ∧ Same H1 H' ∧ H' qa = some (.lst (ms.map V.int)) ∧ ms ≠ [] ∧ (∀ x ∈ ms, 0 ≤ x ∧ x < (m : Int)) ∧ ms.Pairwise (· < ·), ?_, ?_⟩
    · obtain ⟨w1, w2, w3⟩ := rangeL9 m hm1
      refine ⟨_, rfl, Nat.zero_le _, fun e he => ⟨.list (hs.map PyData.int), .list [], .lst (SqL.of (same_upd he _ _ hL1)) (dpAll_ints hs), .lst (SqL.of upd_same) .nil, hshl hs, (by decide +kernel), _, rfl, ?_⟩⟩
      have e2 := same_upd (o := .lst []) he
      have hL2 := e2 _ _ hL1
      have hA2 := e2.seq hA1
      generalize upd H1 e (.lst []) = H2 at *
      cases hs with
      | nil =>
        rw [show PyData.eqv (.list (([] : List Int).map PyData.int)) (.list []) = true by decide +kernel]
        refine iteT (iteT ⟨_, rfl, (m : Int), rfl, rgOk9 hm9, fun q hq => ⟨q, allM9 m, rfl, e2.trans (same_upd hq), by rw [rgV9]; exact upd_same, w1, w2, w3⟩⟩)
      | cons x xs =>
        rw [show PyData.eqv (.list ((x :: xs).map PyData.int)) (.list []) = false by simp [PyData.eqv, PyData.eqvAll]]
        refine iteF ⟨_, rfl, a, ns, 1, rfl, hA2, _, _, rfl, rfl, (by show (0 : Int) < 2; decide), rfl, _, rfl, iteI (fun _ => ?_) (fun _ => ⟨q1, _, rfl, e2, hL2, (fun z => nomatch z), hrg, hup⟩)⟩
        exact ⟨_, rfl, (m : Int), rfl, rgOk9 hm9, fun q hq => ⟨q, allM9 m, rfl, e2.trans (same_upd hq), by rw [rgV9]; exact upd_same, w1, w2, w3⟩⟩
    rintro σ H2 ⟨qa, ms, rfl, e2, hqa, hne, hrg', hup'⟩
    clear hL1 hrg hup
    have hA2 := e2.seq hA1
    refine ⟨fun σ H' => ∃ c, σ = [some (.ref a), some (.int m), some (.ref qa), some (.bl c), none, none, none, none, none, none, none, none] ∧ H' = H2 ∧ (c = true → m = 3), ?_, ?_⟩
    · refine ⟨_, rfl, rfl, _, rfl, iteI (fun hm3 => ?_) (fun _ => ⟨false, rfl, rfl, fun z => nomatch z⟩)⟩
      exact ⟨_, rfl, a, ns, 0, rfl, hA2, _, _, rfl, rfl, ⟨by decide, by decide⟩, _, _, rfl, rfl, (by show (0 : Int) < 2; decide), rfl, _, rfl, rfl, fun _ => by omega⟩
    rintro σ H3 ⟨c3, rfl, rfl, hc3⟩
    refine ⟨fun σ H' => ∃ qa ms, σ = [some (.ref a), some (.int m), some (.ref qa), some (.bl c3), none, none, none, none, none, none, none, none] ∧ Same H3 H' ∧ H' qa = some (.lst (ms.map V.int)) ∧ ms ≠ [] ∧ (∀ x ∈ ms, 0 ≤ x ∧ x < (m : Int)) ∧ ms.Pairwise (· < ·), ?_, ?_⟩
    · refine ⟨_, rfl, c3, rfl, ite2 (fun hcc => ?_) (fun _ => ⟨qa, ms, rfl, Same.refl _, hqa, hne, hrg', hup'⟩)⟩
      have hm3 := hc3 hcc
      refine ⟨(by show 3 ≤ sizeLine; decide), fun l hl => ⟨l, [0, 1, 2], rfl, same_upd hl, upd_same, (fun z => nomatch z), fun x hx => ?_, by decide⟩⟩
      simp only [List.mem_cons, List.not_mem_nil, or_false] at hx
      omega
    clear hqa hne hrg' hup'
    rintro σ H4 ⟨qa, ms, rfl, e4, hqa, hne, hrg', hup'⟩
    have hA4 := e4.seq hA2
    refine ⟨_, rfl, _, rfl, qa, _, rfl, .inl (SqL.of hqa), fun lq hlq => ?_⟩
    intro fa dx hx hdx hdn
    have f3 := same_upd (o := .lst (ms.map V.int)) hlq
    have f4 : Same (upd H4 lq (.lst (ms.map V.int))) (upd (upd (upd H4 lq (.lst (ms.map V.int))) dx (.own fa)) fa (.ins (He.ga K "Folk") dx [])) := (same_upd hdx).trans (same_upd (by rw [upd_ne hdn.symm]; exact hx))
    have hl4 := f4 _ _ (upd_same (H := H4) (a := lq) (o := .lst (ms.map V.int)))
    have haf : ∀ b o, H4 b = some o → b ≠ fa := fun b o h z => by
      have := f3 _ _ h
      rw [z, hx] at this
      cases this
    refine ⟨fa, dx, _, _, some ms, rfl, upd_same, thg_int, fun m' em _ _ => ⟨lq, rfl, hl4, ?_⟩, ?_⟩
    · cases em
      exact isListB_of hne hrg' hup'
    have hmk : Flk.make (.int (m : Nat)) (some ms) = .ok (Flk.new m ms) := by
      show (if 1 ≤ ((m : Nat) : Int) ∧ ((m : Nat) : Int) ≤ 9 then firstIs ((m : Nat) : Int).toNat (some ms) else .error "BadHand") = _
      rw [if_pos (by omega), Int.toNat_natCast]
      rfl
    rw [hmk]
    intro g H5 L kp r
    have keep : ∀ b o, H4 b = some o → H5 b = some o ∧ g.own b = none := fun b o h => by
      obtain ⟨w1, w2, _⟩ := kp.old b o (haf _ _ h) (f4 _ _ (f3 _ _ h))
      exact ⟨w1, w2⟩
    have hA5 : Held K g H5 a (ns.map V.int) := by
      rcases hA4 with (h | ⟨o, h⟩) | h
      · obtain ⟨w1, w2⟩ := keep _ _ h
        exact .inl ⟨.inl (.inl w1), ⟨_, w1⟩, w2⟩
      · obtain ⟨w1, w2⟩ := keep _ _ h
        exact .inl ⟨.inl (.inr ⟨o, w1⟩), ⟨_, w1⟩, w2⟩
      · exact .inr fun _ => .inr h
    have st0 := St8.new hm9 hne hrg' hup'
    have qi0 := QInv.new (m := m) (ms := ms)
    clear hA4 hl4 keep haf hqa kp
    refine ⟨rfl, fun sa hsa => ?_⟩
    have eS := same_upd (o := .dK []) hsa
    have hsa6 := upd_same (H := H5) (a := sa) (o := .dK [])
    have sa1 := r.ok.onone hsa
    have r6 := r.ext eS
    have hA6 : HeldX (fun b => H5 b = none) K g _ a (ns.map V.int) := (hA5.x fun o h z => by rw [show H5 a = none from z] at h; cases h).same eS
    generalize upd H5 sa (.dK []) = H6 at *
    refine ⟨_, rfl, (m : Int), rfl, by omega, by omega, fun ba hba => ?_⟩
    refine lc_range (lo := 0) (n := m) (fun j H' => ∃ bs : List Addr, H' ba = some (.lst (bs.map V.ref)) ∧ bs.length = j ∧ Same H6 H' ∧ ∀ b ∈ bs, H' b = some (.lst []) ∧ H6 b = none ∧ b ≠ ba) ⟨[], upd_same, rfl, same_upd hba, fun _ h => nomatch h⟩ ?_ ?_
    · rintro j H7 hj ⟨bs, w1, w2, w3, w4⟩
      refine ⟨rfl, Nat.zero_le _, fun l hl => ?_⟩
      have lb : l ≠ ba := fun z => by rw [z, w1] at hl; cases hl
      refine ⟨_, by rw [upd_ne lb.symm]; exact w1, by rw [List.length_map, w2]; exact Nat.lt_of_le_of_lt (show j ≤ 100 by omega) (by decide), bs ++ [l], by rw [upd_same, List.map_append]; rfl, by rw [List.length_append, w2]; rfl, same_but hba (w3.trans (same_upd hl)) (by rw [upd_ne lb.symm]; exact w1) (Same.refl _), fun b hb => ?_⟩
      rcases List.mem_append.mp hb with hb | hb
      · obtain ⟨x1, x2, x3⟩ := w4 b hb
        refine ⟨?_, x2, x3⟩
        rw [upd_ne x3, upd_ne (fun z => by rw [z, hl] at x1; cases x1)]
        exact x1
      · rw [List.mem_singleton.mp hb]
        exact ⟨by rw [upd_ne lb, upd_same], w3.free hl, lb⟩
    rintro H7 ⟨bs, w1, w2, w3, w4⟩
    refine fun ka hka => ?_
    have ek := same_upd (o := .dK []) hka
    have hka6 := w3.free hka
    have hka8 := upd_same (H := H7) (a := ka) (o := .dK [])
    have hba8 := ek _ _ w1
    have nbk : ba ≠ ka := fun z => by rw [z, hka] at w1; cases w1
    have nsk : sa ≠ ka := fun z => by rw [z, hka6] at hsa6; cases hsa6
    have nsb : sa ≠ ba := fun z => by rw [z, hba] at hsa6; cases hsa6
    have hbs8 : ∀ b ∈ bs, upd H7 ka (.dK []) b = some (.lst []) ∧ H6 b = none ∧ b ≠ ba ∧ b ≠ ka ∧ b ≠ sa := fun b hb => by
      obtain ⟨x1, x2, x3⟩ := w4 b hb
      exact ⟨ek _ _ x1, x2, x3, (fun z => by rw [z, hka] at x1; cases x1), fun z => by rw [z, hsa6] at x2; cases x2⟩
    have e68 := w3.trans ek
    have hsa8 := e68 _ _ hsa6
    have r8 := r6.ext e68
    have hA8 := hA6.same e68
    generalize upd H7 ka (.dK []) = H8 at *
    clear w1 w4 ek w3
    refine ⟨fun σ H' => ∃ (hv : Option V) (la : Nat → Addr), σ = [some (.ref a), some (.int m), some (.ref qa), some (.bl c3), some (.ref fa), some (.ref sa), some (.ref ba), hv, some (.ref ka), none, none, none] ∧ FolkR K g H' fa (Flk.new m ms) L ∧ (∀ b o, H8 b = some o → b ≠ sa → H' b = some o) ∧ H' sa = some (.dK ((List.range m).map fun (j : Nat) => ((Sum.inl (j : Int) : Key), V.ref (la j)))) ∧ (∀ j, j < m → H' (la j) = some (.lst []) ∧ H8 (la j) = none) ∧ (∀ j, j < m → ∀ k, k < m → la j = la k → j = k), ?_, ?_⟩
    · refine ⟨_, rfl, (m : Int), rfl, by omega, by omega, for_range (lo := 0) (n := m) (fun i σ H' => ∃ (hv : Option V) (la : Nat → Addr), σ = [some (.ref a), some (.int m), some (.ref qa), some (.bl c3), some (.ref fa), some (.ref sa), some (.ref ba), hv, some (.ref ka), none, none, none] ∧ FolkR K g H' fa (Flk.new m ms) L ∧ (∀ b o, H8 b = some o → b ≠ sa → H' b = some o) ∧ H' sa = some (.dK ((List.range i).map fun (j : Nat) => ((Sum.inl (j : Int) : Key), V.ref (la j)))) ∧ (∀ j, j < i → H' (la j) = some (.lst []) ∧ H8 (la j) = none) ∧ (∀ j, j < i → ∀ k, k < i → la j = la k → j = k)) ⟨_, fun _ => 0, rfl, r8, fun _ _ h _ => h, hsa8, fun j h => by omega, fun j h => by omega⟩ ?_ ?_⟩
      · rintro i σ H1 hi ⟨hv, la, rfl, r1, kp1, hs1, row1, inj1⟩
        rw [show (0 : Int) + (i : Nat) = (i : Nat) from Int.zero_add _]
        refine ⟨Nat.zero_le _, fun l hl => ?_⟩
        have el := same_upd (o := .lst []) hl
        have ls : l ≠ sa := fun z => by rw [z, hs1] at hl; cases hl
        have hl8 : H8 l = none := by
          cases q8 : H8 l with
          | none => rfl
          | some o => rw [kp1 l o q8 ls] at hl; cases hl
        refine ⟨_, rfl, _, rfl, sa, _, rfl, DPut.k (k := .inl (i : Int)) (el _ _ hs1) (by rw [List.length_map, List.length_range]; exact Nat.lt_of_le_of_lt (show i ≤ 100 by omega) (by decide)), ?_⟩
        rw [rangeK_put]
        have r2 := r1.ext el
        have ne : ∀ j, j < i → la j ≠ l := fun j hj z => by
          have := (row1 j hj).1
          rw [z, hl] at this
          cases this
        have las : ∀ j, j < i → la j ≠ sa := fun j hj z => by
          have := (row1 j hj).1
          rw [z, hs1] at this
          cases this
        refine ⟨_, fun j => if j = i then l else la j, rfl, r2.mine (r.ok.dnone hsa) sa1, fun b o hb nb => ?_, upd_same, fun j hj => ?_, fun j hj k hk e => ?_⟩
        · rw [upd_ne nb]
          exact el _ _ (kp1 b o hb nb)
        · dsimp only
          by_cases e : j = i
          · rw [if_pos e, upd_ne ls, upd_same]
            exact ⟨rfl, hl8⟩
          · rw [if_neg e, upd_ne (las j (by omega))]
            exact ⟨el _ _ (row1 j (by omega)).1, (row1 j (by omega)).2⟩
        · dsimp only at e
          by_cases e1 : j = i <;> by_cases e2 : k = i
          · omega
          · rw [if_pos e1, if_neg e2] at e
            exact absurd e.symm (ne k (by omega))
          · rw [if_neg e1, if_pos e2] at e
            exact absurd e (ne j (by omega))
          · rw [if_neg e1, if_neg e2] at e
            exact inj1 j (by omega) k (by omega) e
      · rintro σ H1 ⟨hv, la, rfl, r1, kp1, hs1, row1, inj1⟩
        exact ⟨hv, la, rfl, r1, kp1, hs1, row1, inj1⟩
    rintro σ H9 ⟨hv, la, rfl, r9, kp9, hs9, row9, inj9⟩
    have hba9 := kp9 _ _ hba8 nsb.symm
    have hka9 := kp9 _ _ hka8 nsk.symm
    have l9 : L9 K m ms fa sa ba ka la 0 g (Flk.new m ms) L (G0 ms) Q0 H9 := by
      refine ⟨r9, st0, qi0, ⟨⟨[], [], hka9, rfl, List.Pairwise.nil, (fun _ h => nomatch h), fun n v h => nomatch h⟩, r6.ok.onone hka6, r6.ok.dnone hka6, ?_⟩, ⟨hs9, sa1, ?_, fun i hi => ?_, inj9, fun _ => Nat.zero_le _, fun _ _ => rfl⟩, bs, fun _ => [], ⟨hba9, r6.ok.onone hba, r6.ok.dnone hba, ?_, w2, fun i b hb => ?_⟩, fun i => ⟨_, rfl⟩⟩
      · rintro (⟨i, hi, e⟩ | e)
        · have := (row9 i hi).2
          rw [← e, hka8] at this
          cases this
        · exact nbk e.symm
      · rintro (e | e)
        · exact nsk e
        · exact nsb e
      · obtain ⟨x1, x2⟩ := row9 i hi
        refine ⟨[], x1, r8.ok.onone x2, r8.ok.dnone x2, ?_, .nil⟩
        rintro (e | e)
        · rw [e, hka8] at x2; cases x2
        · rw [e, hba8] at x2; cases x2
      · rintro (⟨i, hi, e⟩ | e)
        · have := (row9 i hi).2
          rw [← e, hba8] at this
          cases this
        · exact nbk e
      · obtain ⟨x1, x2, x3, x4, x5⟩ := hbs8 b (List.mem_of_getElem? hb)
        refine ⟨[], kp9 _ _ x1 x5, r6.ok.onone x2, ?_, .nil⟩
        rintro ((⟨i, hi, e⟩ | e) | e)
        · have := (row9 i hi).2
          rw [← e, x1] at this
          cases this
        · exact x4 e
        · exact x3 e
    have hA9 : HeldX (A49 m la ka ba) K g H9 a (ns.map V.int) := by
      rcases hA8 with ⟨h1, ⟨o, h2⟩, h3, h4⟩ | h
      · have h2' := kp9 _ _ h2 fun z => h4 (by show H5 a = none; rw [z]; exact hsa)
        refine .inl ⟨sqL_at h1 h2 h2', ⟨_, h2'⟩, h3, ?_⟩
        rintro (⟨i, hi, e⟩ | e | e)
        · exact h4 (by show H5 a = none; rw [e]; exact eS.free (e68.free (row9 i hi).2))
        · exact h4 (by show H5 a = none; rw [e]; exact eS.free hka6)
        · exact h4 (by show H5 a = none; rw [e]; exact eS.free hba)
      · exact .inr h
    have z9 : ∀ i s, ((Flk.new m ms).hand i).seat = some s → s.num = 0 := fun i s h => new_seat h
    clear hA8 hA6 hA5 eS hsa6 r6 hba hka6 hbs8 e68 hsa8 r8 kp9 hs9 row9 inj9 hba9 hka9 hba8 hka8 w2 r9 r
    generalize Flk.new m ms = f0 at *
    refine ⟨fun σ H' => ∃ (hv : Option V) (n : Nat) (g : Gh) (f : Flk) (L : FL) (G : PG) (q : QG), σ = [some (.ref a), some (.int m), some (.ref qa), some (.bl c3), some (.ref fa), some (.ref sa), some (.ref ba), hv, some (.ref ka), none, none, none] ∧ L9 K m ms fa sa ba ka la n g f L G q H' ∧ n ≤ 4 ∧ HeldX (A49 m la ka ba) K g H' a (ns.map V.int), ?_, ?_⟩
    · refine ⟨_, rfl, c3, rfl, ite2 (fun hcc => ?_) (fun _ => ⟨_, 0, g, f0, L, _, _, rfl, l9, by decide, hA9⟩)⟩
      have hm3 := hc3 hcc
      subst hm3
      refine ⟨_, rfl, _, rfl, a, ns, 1, rfl, hA9.sq, _, _, rfl, rfl, ⟨by decide, by decide⟩, _, rfl, _, g, fa, f0, L, _, sa, ms, G0 ms, Q0.S, la, rfl, l9.r, ⟨G0 ms, Q0, PG.Leq.refl _, rfl, l9.st, l9.qi⟩, z9, l9.sd, (fun b hb => l9.alloc b (.inr hb)), fun g1 H1 f1 L1 S1 gx1 r1 ⟨G1, q1, lq1, e1, st1, QI1⟩ pg1 sd1 => ?_⟩
      subst e1
      obtain ⟨bs', B, bf, hB⟩ := l9.bf
      refine ⟨_, 4, g1, f1, L1, G1, q1, rfl, ⟨r1, st1, QI1, (l9.ed.go gx1 fun _ z => .inl z).leq lq1, sd1, bs', B, bf.go gx1 fun _ z => .inl z, fun i => ?_⟩, by decide, hA9.go (gx1.mono fun _ z => .inl z)⟩
      obtain ⟨Z, h1⟩ := hB i
      obtain ⟨Z', h2⟩ := pg1 i
      exact ⟨Z ++ Z', by rw [h2, h1, List.append_assoc]⟩
    clear z9 l9 hA9
    rintro σ H7 ⟨hv7, n7, g7, f7, L7, G7, q7, rfl, l7, hn7, hA7⟩
    obtain ⟨cs, hcs, hcl⟩ : ∃ cs : List Int, cutV (ns.map V.int) (some 2) (some 62) = cs.map V.int ∧ cs.length ≤ 60 := by
      unfold cutV
      rw [show HT.sIx (ns.map V.int).length 0 (some 2) = min 2 (ns.map V.int).length from HT.sIx_nat _ _ 2, show HT.sIx (ns.map V.int).length (ns.map V.int).length (some 62) = min 62 (ns.map V.int).length from HT.sIx_nat _ _ 62, ← List.map_drop, ← List.map_take]
      exact ⟨_, rfl, by rw [List.length_take]; omega⟩
    refine ⟨_, rfl, _, rfl, _, rfl, a, _, rfl, hA7.sq, fun sp hsp => ⟨sp, rfl, ⟨_, SqL.of upd_same⟩, ?_⟩⟩
    rw [hcs]
    have eS := same_upd (o := .lst (cs.map V.int)) hsp
    have hsX : HeldX (A49 m la ka ba) K g7 (upd H7 sp (.lst (cs.map V.int))) sp (cs.map V.int) := .of upd_same (l7.r.ok.onone hsp) fun z => l7.alloc sp z hsp
    have l7' : L9 K m ms fa sa ba ka la n7 g7 f7 L7 G7 q7 (upd H7 sp (.lst (cs.map V.int))) := by
      obtain ⟨bs', B, bf, hB⟩ := l7.bf
      exact ⟨l7.r.ext eS, l7.st, l7.qi, l7.ed.same eS, l7.sd.same eS, bs', B, bf.same l7.r.ok eS, hB⟩
    generalize upd H7 sp (.lst (cs.map V.int)) = H7' at *
    refine for_list (K := K) (a := sp) (xs := cs.map V.int) (fun j σ H' => ∃ (hv cv nv ev : Option V) (g : Gh) (f : Flk) (L : FL) (G : PG) (q : QG), σ = [some (.ref a), some (.int m), some (.ref qa), some (.bl c3), some (.ref fa), some (.ref sa), some (.ref ba), hv, some (.ref ka), cv, nv, ev] ∧ L9 K m ms fa sa ba ka la (n7 + j) g f L G q H' ∧ HeldX (A49 m la ka ba) K g H' sp (cs.map V.int)) ⟨_, none, none, none, g7, f7, L7, G7, q7, rfl, l7', hsX⟩ (fun j σ H' _ w => ?_) ?_ ?_
    · obtain ⟨_, _, _, _, _, _, _, _, _, _, _, h⟩ := w
      exact h.sq
    · rintro j x σ H8 hx ⟨hv, cv, nv, ev, g8, f8, L8, G8, q8, rfl, l8, hs8⟩
      rw [List.getElem?_map] at hx
      cases hz : cs[j]? with
      | none => rw [hz] at hx; cases hx
      | some c =>
        rw [hz] at hx
        cases hx
        have hj := (List.getElem?_eq_some_iff.mp hz).1
        refine ⟨_, rfl, _, rfl, _, rfl, _, rfl, _, g8, fa, f8, L8, c, sa, m, n7 + j, ms, G8, q8.S, la, rfl, l8.r, by omega, hm9, by omega, ⟨G8, q8, PG.Leq.refl _, rfl, l8.st, l8.qi⟩, l8.sd, (fun b hb => l8.alloc b (.inr hb)), fun g9 H9 f9 L9' S9' gx9 r9 ⟨G9, q9, lq9, e9, st9, QI9⟩ pg9 sd9 => ?_⟩
        subst e9
        have ed9 := (l8.ed.go gx9 fun _ z => .inl z).leq lq9
        have hs9 := hs8.go (gx9.mono fun _ z => .inl z)
        obtain ⟨bs8, B8, bf8, hB8⟩ := l8.bf
        have bf9 := bf8.go gx9 fun _ z => .inl z
        have hB9 : ∀ i, ∃ Z, (f9.hand i).past = B8 i ++ Z := fun i => by
          obtain ⟨Z, h1⟩ := hB8 i
          obtain ⟨Z', h2⟩ := pg9 i
          exact ⟨Z ++ Z', by rw [h2, h1, List.append_assoc]⟩
        have al9 : ∀ b, A49 m la ka ba b → H9 b ≠ none := fun b hb z => l8.alloc b hb (gx9.dom b z)
        clear l8 hs8 bf8 hB8 gx9
        refine ⟨_, rfl, _, rfl, _, rfl, _, rfl, _, _, g9, fa, f9, L9', ka, sa, m, n7 + j + 1, n7 + j + 1, ms, G9, q9, q9.S, la, rfl, r9, st9, by omega, QI9, rfl, ed9, sd9, .inl rfl, by omega, (fun b hb => al9 b (hb.imp (fun z => z) .inr)), fun HA gxA rA edA => ⟨_, rfl, iteF ?_⟩⟩
        have sdA := sd9.go gxA fun _ z => .inl z
        refine ⟨_, rfl, _, rfl, _, rfl, _, rfl, _, _, g9, fa, f9, L9', ka, sa, m, n7 + j + 1, n7 + j + 1, ms, G9, q9, q9.S, la, rfl, rA, st9, by omega, QI9, rfl, edA, sdA, by omega, fun HB eB => ⟨_, rfl, iteF ?_⟩⟩
        have rB := rA.ext eB
        have edB := edA.same eB
        have sdB := sdA.same eB
        have gxB := gxA.trans (Gx.same rA.ok eB)
        have bfB := bf9.go gxB fun _ z => .inr z
        have hsB := hs9.go (gxB.mono fun _ z => .inr (.inl z))
        have alB : ∀ b, A49 m la ka ba b → HB b ≠ none := fun b hb z => al9 b hb (gxB.dom b z)
        clear edA sdA gxA rA eB ed9 sd9 r9 bf9 hs9 gxB al9
        refine ⟨_, rfl, (m : Int), rfl, by omega, by omega, for_range (lo := 0) (n := m) (fun i σ H' => ∃ (hv nv ev : Option V) (bs : List Addr) (B : Nat → List (Int × List Int × List Msg)), σ = [some (.ref a), some (.int m), some (.ref qa), some (.bl c3), some (.ref fa), some (.ref sa), some (.ref ba), hv, some (.ref ka), some (.int c), nv, ev] ∧ Gx (fun b => b = ba) g9 HB g9 H' ∧ FolkR K g9 H' fa f9 L9' ∧ BefR (fun b => SLx m la b ∨ b = ka) g9 H' ba m bs B ∧ ∀ i, ∃ Z, (f9.hand i).past = B i ++ Z) ⟨_, _, _, bs8, B8, rfl, Gx.refl rB.ok, rB, bfB, hB9⟩ ?_ ?_⟩
        · rintro i σ H1 hi ⟨hv1, nv1, ev1, bs1, B1, rfl, gx1, r1, bf1, hB1⟩
          rw [show (0 : Int) + (i : Nat) = (i : Nat) from Int.zero_add _]
          have al1 : ∀ b, A49 m la ka ba b → H1 b ≠ none := fun b hb z => alB b hb (gx1.dom b z)
          have ro1 := r1.ok.sub _ _ r1.obj
          have hlen := st9.len
          obtain ⟨p1, p2⟩ := st9.past9 (by omega) hi
          refine ⟨_, rfl, _, _, _, rfl, ro1, zn (by decide +kernel), _, rfl, g9, fa, f9, L9', _, rfl, r1, thg_int, ?_⟩
          rw [who_in (by omega)]
          refine ⟨by omega, fun l xs H2 hl e2 hxs px nxl => ?_⟩
          have hlx := paired_len px
          have r2 := r1.ext e2
          have bf2 := bf1.same r1.ok e2
          obtain ⟨Z, hZ⟩ := hB1 i
          obtain ⟨b, hb⟩ : ∃ b, bs1[i]? = some b := ⟨_, List.getElem?_eq_getElem (by rw [bf1.len]; exact hi)⟩
          obtain ⟨ys, b1, b2, b3, b4⟩ := bf2.row i b hb
          have hyl := paired_len b4
          have hro : ∀ p ∈ (f9.hand i).past, rOk p.2.2 := fun p hp => by
            have := (QI9.past st9.pi hi hp).1
            exact fun x hx => (this.2 x hx).1
          have hlook : (bs1.map V.ref)[i]? = some (.ref b) := by rw [List.getElem?_map, hb]; rfl
          refine ⟨_, rfl, _, rfl, _, rfl, ba, _, _, .ref b, rfl, rfl, SqL.of bf2.obj, atI_nat hlook, b, ys, rfl, .inl (SqL.of b1), _, rfl, l, xs, rfl, SqL.of hxs, fun s1 hs1 => ?_⟩
          rw [cut_any]
          have e3 := same_upd (o := .lst (xs.take ys.length)) hs1
          have bf3 := bf2.same r2.ok e3
          have r3 := r2.ext e3
          have tk : (f9.hand i).past.take ys.length = B1 i := by rw [hyl, hZ, List.take_left']; rfl
          have pt : Paired (pastF g9.D H1 H2) (xs.take ys.length) (B1 i) := by
            have := paired_take ys.length px
            rw [tk] at this
            exact this
          have hsh : SeqAt.shaped (.list ((B1 i).map pastD)) = true := shaped_list (pasts_sd fun p hp => hro p (by rw [hZ]; exact List.mem_append_left _ hp))
          refine ⟨_, rfl, _, rfl, ba, _, _, .ref b, rfl, rfl, SqL.of bf3.obj, atI_nat hlook, .list ((B1 i).map pastD), .list ((B1 i).map pastD), .lst (SqL.of upd_same) (past_dp r3.ok.sub (paired_imp (fun _ _ h => h.up e3) pt)), .lst (SqL.of (e3 _ _ b1)) (dpAll_same e3 (bp_dp r2.ok.sub b4)), hsh, hsh, _, rfl, ?_⟩
          rw [PySem.SeqAt.eqv_refl _ (SeqAt.canLay_of_shaped hsh)]
          have hl3 := e3 _ _ hxs
          have px3 : Paired (pastF g9.D H1 (upd H2 s1 (.lst (xs.take ys.length)))) xs (f9.hand i).past := paired_imp (fun _ _ h => h.up e3) px
          have e13 := e2.trans e3
          generalize upd H2 s1 (.lst (xs.take ys.length)) = H3 at *
          refine iteF ⟨_, rfl, l, rfl, ⟨_, SqL.of hl3⟩, fun D hD => ?_⟩
          refine lc_list (K := K) (a := l) (xs := xs) (fun j H' => ∃ acc, H' D = some (.lst acc) ∧ Same H3 H' ∧ Paired (pastA g9.D H3 D H') acc ((f9.hand i).past.take j)) ⟨[], upd_same, same_upd hD, .nil⟩ (fun j H' _ w => ?_) ?_ ?_
          · obtain ⟨_, _, e, _⟩ := w
            exact SqL.of (e _ _ hl3)
          · rintro j' x H4 hx ⟨acc, h1, e4, p4⟩
            obtain ⟨pp, hp, t0, le, me, rxs, rfl, _, _, _, ht0, hle0, hme0, hrx⟩ := paired_get px3 hx
            have f0' := e4 _ _ ht0
            have f1 := e4 _ _ hle0
            have f2 := e4 _ _ hme0
            refine ⟨rfl, _, rfl, t0, _, _, .int pp.1, rfl, rfl, .inl (.inl f0'), atI_nat (j := 0) rfl, _, rfl, t0, _, _, .ref le, rfl, rfl, .inl (.inl f0'), atI_nat (j := 1) rfl, le, _, rfl, .inl (SqL.of f1), fun l1 hl1 => ?_⟩
            have g1 := same_upd (o := .lst (pp.2.1.map V.int)) hl1
            refine ⟨_, rfl, t0, _, _, .ref me, rfl, rfl, .inl (.inl (g1 _ _ f0')), atI_nat (j := 2) rfl, me, _, rfl, .inl (SqL.of (g1 _ _ f2)), fun m1 hm1 => ⟨(by show 3 ≤ sizeLine; decide), fun t ht => ?_⟩⟩
            have g2 := g1.trans (same_upd (o := .lst rxs) hm1)
            have g3 := g2.trans (same_upd (o := .tup [.int pp.1, .ref l1, .ref m1]) ht)
            have hl1' := (same_upd (o := .lst rxs) hm1) _ _ (upd_same (H := H4) (a := l1) (o := .lst (pp.2.1.map V.int)))
            have hl1'' := (same_upd (o := .tup [.int pp.1, .ref l1, .ref m1]) ht) _ _ hl1'
            have hm1'' := (same_upd (o := .tup [.int pp.1, .ref l1, .ref m1]) ht) _ _ (upd_same (H := upd H4 l1 (.lst (pp.2.1.map V.int))) (a := m1) (o := .lst rxs))
            have ht'' := upd_same (H := upd (upd H4 l1 (.lst (pp.2.1.map V.int))) m1 (.lst rxs)) (a := t) (o := .tup [.int pp.1, .ref l1, .ref m1])
            have nD : ∀ {b : Addr}, H4 b = none → b ≠ D := fun hb z => by rw [z, h1] at hb; cases hb
            have hm4 := g1.free hm1
            have ht4 := g2.free ht
            have hlen2 : acc.length < sizeLine := by
              rw [paired_len p4, List.length_take]
              exact Nat.lt_of_le_of_lt (Nat.le_trans (Nat.min_le_right _ _) p2) (by decide)
            refine ⟨acc, g3 _ _ h1, hlen2, acc ++ [.ref t], upd_same, same_but hD (e4.trans g3) (g3 _ _ h1) (Same.refl _), ?_⟩
            rw [take_succ_of hp]
            refine paired_app (paired_imp (fun v p w => w.up fun b o nb hb => by rw [upd_ne nb]; exact g3 _ _ hb) p4) (.cons ⟨t, l1, m1, rxs, rfl, e4.free ht4, e4.free hl1, e4.free hm4, nD ht4, nD hl1, nD hm4, ?_, ?_, ?_, hrx⟩ .nil)
            · rw [upd_ne (nD ht4)]; exact ht''
            · rw [upd_ne (nD hl1)]; exact hl1''
            · rw [upd_ne (nD hm4)]; exact hm1''
          rintro H4 ⟨acc, h1, e4, p4⟩
          rw [hlx, List.take_length] at p4
          have bf4 := bf3.same r3.ok e4
          have r4 := r3.ext e4
          have gx4 := gx1.trans (Gx.same r1.ok (e13.trans e4))
          have nW : ∀ b, H3 b = none → ¬ Wb (fun b => SLx m la b ∨ b = ka) ba b := fun b hb z => al1 b (by
            rcases z with (z | z) | z
            · exact .inl z
            · exact .inr (.inl z)
            · exact .inr (.inr z)) (e13.free hb)
          have p5 : Paired (bpV (Wb (fun b => SLx m la b ∨ b = ka) ba) g9 H4) acc (f9.hand i).past := paired_imp (fun v p ⟨t, l1, m1, rxs, w1, w2, w3, w4, _, _, _, w5, w6, w7, w8⟩ => ⟨t, l1, m1, rxs, w1, ⟨w5, r3.ok.onone w2, nW _ w2⟩, ⟨w6, r3.ok.onone w3, nW _ w3⟩, ⟨w7, r3.ok.onone w4, nW _ w4⟩, w8⟩) p4
          refine ⟨_, rfl, _, rfl, ba, _, _, i, rfl, rfl, bf4.obj, ixN_nat9 (by rw [List.length_map, bf4.len]; exact hi), ?_⟩
          refine ⟨_, _, _, bs1.set i D, _, rfl, gx4.trans (Gx.mine r4.ok rfl bf4.D bf4.own), r4.mine bf4.D bf4.own, bf4.set hi h1 (r3.ok.onone hD) (nW D hD) p5, fun j' => ?_⟩
          by_cases e : j' = i
          · rw [if_pos e, e]
            exact ⟨[], (List.append_nil _).symm⟩
          · rw [if_neg e]
            exact hB1 j'
        · rintro σ H1 ⟨hv1, nv1, ev1, bs1, B1, rfl, gx1, r1, bf1, hB1⟩
          exact ⟨_, _, _, _, g9, f9, L9', G9, q9, rfl, ⟨r1, st9, QI9, edB.go gx1 fun _ z => .inr z, sdB.go gx1 fun _ z => .inr z, bs1, B1, bf1, hB1⟩, hsB.go (gx1.mono fun _ z => .inr (.inr z))⟩
    · rintro σ H8 _
      exact k _

end
end Fo
open PySem PySem.W PySem.Calls PyProof.Rows
set_option maxHeartbeats 0 in
theorem PySem.Challenge.cw_folklist_k09_whole_messages_holds : PySem.Challenge.rw_folklist_k09_whole_messages.Holds := by
  w_on; o_law
  refine HandSHeadRun.head_any (r := OpenLaw.row PySem.Challenge.rw_folklist_k09_whole_messages) (q := view (OpenLaw.row PySem.Challenge.rw_folklist_k09_whole_messages).prog [61]) (H := Fo.hk) (ob := Fo.ob) (M := 20000) (loose := Fo.names) (d := HandSHeadRun.topDef (OpenLaw.row PySem.Challenge.rw_folklist_k09_whole_messages).prog 61) (kwd := []) Fo.ob_eq
    (by kernel_rfl) (fun s => by kernel_rfl) Fo.run (by kernel_rfl) (by kernel_rfl) (by kernel_rfl) (by rfl) (by first | assumption | decide +kernel) (by decide +kernel) ⟨rfl, rfl, rfl, rfl, rfl, by decide +kernel⟩ ?hw ?hc
  case hw => w_witness2
  case hc =>
    refine L2.walk_ofE (l := PySem.Challenge.rw_folklist_k09_whole_messages) (n := 63) (k := 14) (x := "_law_script") (CX := L2.CX0) rfl (by decide) (by kernel_rfl) ⟨rfl, by decide, by decide⟩ ?F (fun _ _ _ _ z => z)
    intro w mg fa h Y G hmg0
    obtain ⟨K, KX, c⟩ := Y
    have hmg : mg ("law" : PySem.Str) = some (.ref fa) := by
      have e : (HandSHeadRun.topDef (OpenLaw.row PySem.Challenge.rw_folklist_k09_whole_messages).prog 61).name = ("law" : PySem.Str) := by kernel_rfl
      rw [← e]
      exact hmg0
    have c1 := c.t.d
    obtain ⟨fd, FD⟩ := c1.def_ 70 (d := Fo.d_law) rfl
    have e := hmg.symm.trans (He.glo_ok KX G (c1.fact 125 (f := .glo "law") rfl))
    cases e
    have T := Fo.txt_of KX G c
    have b := FD.bindsA (ps := ["_law_script"]) fun _ _ _ _ _ _ us hl => match us, hl with | [_], _ => rfl
    refine ⟨K, fd, Fo.spLaw K, KX, fun s v => b s [v] rfl, fun H a ns hl _ hS => ⟨a, ns, rfl, hS, hl, fun _ => rfl⟩, fun base _ _ => ?_⟩
    exact Fo.law_final (P := (PySem.Challenge.rw_folklist_k09_whole_messages).prog) (w := w) (base := base) T FD
