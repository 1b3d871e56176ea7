import PyProof.Rows.All
import Wide.All
import OpenK.AllK
import Wide.FinOn
import KE.KStateDown
import HandS.ForMost
import HandS.ForExc
import HandS.Defaults
import HandS.Deep
import HandS.DictComp
import HandS.SortKw
import HandS.SortInts
import HandS.TupLe
import HandS.IsInst
import HandS.More
import HandS.Sort
import HandS.Strs
import HandS.Set
import HandS.SetFor
import HandS.Style
import HandS.Flow
import HandS.Walk
import HandS.Codes
import HandS.ExcIs
import HandS.Head0
import HandS.Head1
import HandS.Head2
import HandS.HeadEnd
import HandS.HeadHook1
import HandS.HeadHook2
import HandS.HeadHook3
import HandS.HeadHook4
import HandS.Conv
import HandS.HotCalls
import PySem.Challenge.RW_folklist_k02_the_first_list
set_option Elab.async false
set_option linter.all false
set_option maxRecDepth 100000
set_option maxHeartbeats 4000000
/-! ### the text, its names -/
namespace Fo
open PySem PySem.Spec PyProof.Rows L2
def topS (i : Nat) : Stmt := PySem.Challenge.pw_folklist_k02_the_first_list.main.body.getD i (.Pass ⟨0, 0, 0, 0⟩)
abbrev s__wall : Stmt := topS 0
abbrev s_Letter_init : Stmt := inClass (topS 11) 0
abbrev s_Seat_init : Stmt := inClass (topS 14) 0
abbrev s_Seat_leader : Stmt := inClass (topS 14) 1
abbrev s_Seat_answered : Stmt := inClass (topS 14) 2
abbrev s_Hand_init : Stmt := inClass (topS 15) 0
abbrev s_Hand_sit : Stmt := inClass (topS 15) 1
abbrev s_Hand_go_on : Stmt := inClass (topS 15) 2
abbrev s_Hand_send : Stmt := inClass (topS 15) 3
abbrev s_Hand_send_each : Stmt := inClass (topS 15) 4
abbrev s_Hand_send_others : Stmt := inClass (topS 15) 5
abbrev s_is_whole : Stmt := topS 17
abbrev s_is_hand : Stmt := topS 18
abbrev s_is_list : Stmt := topS 19
abbrev s_Folk_init : Stmt := inClass (topS 22) 0
abbrev s_Folk_say : Stmt := inClass (topS 22) 1
abbrev s_Folk_press : Stmt := inClass (topS 22) 2
abbrev s_Folk_propose : Stmt := inClass (topS 22) 3
abbrev s_Folk_show : Stmt := inClass (topS 22) 4
abbrev s_Folk_fall : Stmt := inClass (topS 22) 5
abbrev s_Folk_come : Stmt := inClass (topS 22) 6
abbrev s_Folk_lose : Stmt := inClass (topS 22) 7
abbrev s_Folk_double : Stmt := inClass (topS 22) 8
abbrev s_Folk_calm : Stmt := inClass (topS 22) 9
abbrev s_Folk_letters : Stmt := inClass (topS 22) 10
abbrev s_Folk_stands : Stmt := inClass (topS 22) 11
abbrev s_Folk_list_of : Stmt := inClass (topS 22) 12
abbrev s_Folk_taken : Stmt := inClass (topS 22) 13
abbrev s_Folk_is_still : Stmt := inClass (topS 22) 14
abbrev s_Folk_witness : Stmt := inClass (topS 22) 15
abbrev s_Folk_past : Stmt := inClass (topS 22) 16
abbrev s_Folk_who : Stmt := inClass (topS 22) 17
abbrev s_Folk_who_acts : Stmt := inClass (topS 22) 18
abbrev s_Folk_seat_of : Stmt := inClass (topS 22) 19
abbrev s_Folk_check_place : Stmt := inClass (topS 22) 20
abbrev s__law_draw : Stmt := topS 24
abbrev s__law_hands : Stmt := topS 25
abbrev s__law_words : Stmt := topS 26
abbrev s__law_made : Stmt := topS 27
abbrev s__law_asked : Stmt := topS 28
abbrev s__law_right : Stmt := topS 29
abbrev s_law : Stmt := topS 30
abbrev FnP (K : PySem.W.Frag) (x q : Str) (st : Stmt) (f : Addr) (fd : FuncData) : Prop := FunD K x q (defArgs st) (defBody st) (defScope st) [] [] f fd
structure Txt (K : PySem.W.Frag) (mg : Str → Option Value) : Prop where
  g_Letter : mg "Letter" = some (.ref (He.ga K "Letter"))
  cl_Letter : Cls K (He.ga K "Letter")
  mk_Letter : Mk K (He.ga K "Letter") (He.ma K (He.ga K "Letter") "__init__")
  na_Letter_kind : NoAttr K (He.ga K "Letter") "kind"
  na_Letter_sender : NoAttr K (He.ga K "Letter") "sender"
  na_Letter_to : NoAttr K (He.ga K "Letter") "to"
  na_Letter_number : NoAttr K (He.ga K "Letter") "number"
  na_Letter_told : NoAttr K (He.ga K "Letter") "told"
  g_Seat : mg "Seat" = some (.ref (He.ga K "Seat"))
  cl_Seat : Cls K (He.ga K "Seat")
  mk_Seat : Mk K (He.ga K "Seat") (He.ma K (He.ga K "Seat") "__init__")
  na_Seat_number : NoAttr K (He.ga K "Seat") "number"
  na_Seat_members : NoAttr K (He.ga K "Seat") "members"
  na_Seat_news : NoAttr K (He.ga K "Seat") "news"
  na_Seat_row : NoAttr K (He.ga K "Seat") "row"
  na_Seat_took : NoAttr K (He.ga K "Seat") "took"
  na_Seat_holding : NoAttr K (He.ga K "Seat") "holding"
  na_Seat_ballot : NoAttr K (He.ga K "Seat") "ballot"
  na_Seat_agreed : NoAttr K (He.ga K "Seat") "agreed"
  na_Seat_offer : NoAttr K (He.ga K "Seat") "offer"
  me_Seat_leader : Meth K (He.ga K "Seat") "leader" (He.ma K (He.ga K "Seat") "leader")
  me_Seat_answered : Meth K (He.ga K "Seat") "answered" (He.ma K (He.ga K "Seat") "answered")
  g_Hand : mg "Hand" = some (.ref (He.ga K "Hand"))
  cl_Hand : Cls K (He.ga K "Hand")
  mk_Hand : Mk K (He.ga K "Hand") (He.ma K (He.ga K "Hand") "__init__")
  na_Hand_me : NoAttr K (He.ga K "Hand") "me"
  na_Hand_post : NoAttr K (He.ga K "Hand") "post"
  na_Hand_standing : NoAttr K (He.ga K "Hand") "standing"
  na_Hand_said : NoAttr K (He.ga K "Hand") "said"
  na_Hand_highest : NoAttr K (He.ga K "Hand") "highest"
  na_Hand_behind : NoAttr K (He.ga K "Hand") "behind"
  na_Hand_seat : NoAttr K (He.ga K "Hand") "seat"
  me_Hand_sit : Meth K (He.ga K "Hand") "sit" (He.ma K (He.ga K "Hand") "sit")
  me_Hand_go_on : Meth K (He.ga K "Hand") "go_on" (He.ma K (He.ga K "Hand") "go_on")
  me_Hand_send : Meth K (He.ga K "Hand") "send" (He.ma K (He.ga K "Hand") "send")
  me_Hand_send_each : Meth K (He.ga K "Hand") "send_each" (He.ma K (He.ga K "Hand") "send_each")
  me_Hand_send_others : Meth K (He.ga K "Hand") "send_others" (He.ma K (He.ga K "Hand") "send_others")
  g_Folk : mg "Folk" = some (.ref (He.ga K "Folk"))
  cl_Folk : Cls K (He.ga K "Folk")
  mk_Folk : Mk K (He.ga K "Folk") (He.ma K (He.ga K "Folk") "__init__")
  na_Folk_many : NoAttr K (He.ga K "Folk") "many"
  na_Folk__post : NoAttr K (He.ga K "Folk") "_post"
  na_Folk__hands : NoAttr K (He.ga K "Folk") "_hands"
  me_Folk_say : Meth K (He.ga K "Folk") "say" (He.ma K (He.ga K "Folk") "say")
  me_Folk_press : Meth K (He.ga K "Folk") "press" (He.ma K (He.ga K "Folk") "press")
  me_Folk_propose : Meth K (He.ga K "Folk") "propose" (He.ma K (He.ga K "Folk") "propose")
  me_Folk_show : Meth K (He.ga K "Folk") "show" (He.ma K (He.ga K "Folk") "show")
  me_Folk_fall : Meth K (He.ga K "Folk") "fall" (He.ma K (He.ga K "Folk") "fall")
  me_Folk_come : Meth K (He.ga K "Folk") "come" (He.ma K (He.ga K "Folk") "come")
  me_Folk_lose : Meth K (He.ga K "Folk") "lose" (He.ma K (He.ga K "Folk") "lose")
  me_Folk_double : Meth K (He.ga K "Folk") "double" (He.ma K (He.ga K "Folk") "double")
  me_Folk_calm : Meth K (He.ga K "Folk") "calm" (He.ma K (He.ga K "Folk") "calm")
  me_Folk_letters : Meth K (He.ga K "Folk") "letters" (He.ma K (He.ga K "Folk") "letters")
  me_Folk_stands : Meth K (He.ga K "Folk") "stands" (He.ma K (He.ga K "Folk") "stands")
  me_Folk_list_of : Meth K (He.ga K "Folk") "list_of" (He.ma K (He.ga K "Folk") "list_of")
  me_Folk_taken : Meth K (He.ga K "Folk") "taken" (He.ma K (He.ga K "Folk") "taken")
  me_Folk_is_still : Meth K (He.ga K "Folk") "is_still" (He.ma K (He.ga K "Folk") "is_still")
  me_Folk_witness : Meth K (He.ga K "Folk") "witness" (He.ma K (He.ga K "Folk") "witness")
  me_Folk_past : Meth K (He.ga K "Folk") "past" (He.ma K (He.ga K "Folk") "past")
  me_Folk_who : Meth K (He.ga K "Folk") "_who" (He.ma K (He.ga K "Folk") "_who")
  me_Folk_who_acts : Meth K (He.ga K "Folk") "_who_acts" (He.ma K (He.ga K "Folk") "_who_acts")
  me_Folk_seat_of : Meth K (He.ga K "Folk") "_seat_of" (He.ma K (He.ga K "Folk") "_seat_of")
  me_Folk_check_place : Meth K (He.ga K "Folk") "_check_place" (He.ma K (He.ga K "Folk") "_check_place")
  g_FolkError : mg "FolkError" = some (.ref (He.ga K "FolkError"))
  kp_FolkError : PySem.W.keepIn K (.ref (He.ga K "FolkError")) = true
  g_BadHand : mg "BadHand" = some (.ref (He.ga K "BadHand"))
  kp_BadHand : PySem.W.keepIn K (.ref (He.ga K "BadHand")) = true
  g_BadList : mg "BadList" = some (.ref (He.ga K "BadList"))
  kp_BadList : PySem.W.keepIn K (.ref (He.ga K "BadList")) = true
  g_NoLetter : mg "NoLetter" = some (.ref (He.ga K "NoLetter"))
  kp_NoLetter : PySem.W.keepIn K (.ref (He.ga K "NoLetter")) = true
  g_Fallen : mg "Fallen" = some (.ref (He.ga K "Fallen"))
  kp_Fallen : PySem.W.keepIn K (.ref (He.ga K "Fallen")) = true
  g_Outside : mg "Outside" = some (.ref (He.ga K "Outside"))
  kp_Outside : PySem.W.keepIn K (.ref (He.ga K "Outside")) = true
  g_NotFirst : mg "NotFirst" = some (.ref (He.ga K "NotFirst"))
  kp_NotFirst : PySem.W.keepIn K (.ref (He.ga K "NotFirst")) = true
  g_NoNews : mg "NoNews" = some (.ref (He.ga K "NoNews"))
  kp_NoNews : PySem.W.keepIn K (.ref (He.ga K "NoNews")) = true
  g__wall : mg "_wall" = some (.ref (He.ga K "_wall"))
  g_is_whole : mg "is_whole" = some (.ref (He.ga K "is_whole"))
  g_is_hand : mg "is_hand" = some (.ref (He.ga K "is_hand"))
  g_is_list : mg "is_list" = some (.ref (He.ga K "is_list"))
  g__law_draw : mg "_law_draw" = some (.ref (He.ga K "_law_draw"))
  g__law_hands : mg "_law_hands" = some (.ref (He.ga K "_law_hands"))
  g__law_words : mg "_law_words" = some (.ref (He.ga K "_law_words"))
  g__law_made : mg "_law_made" = some (.ref (He.ga K "_law_made"))
  g__law_asked : mg "_law_asked" = some (.ref (He.ga K "_law_asked"))
  g__law_right : mg "_law_right" = some (.ref (He.ga K "_law_right"))
  g_law : mg "law" = some (.ref (He.ga K "law"))
  b_isinstance : mg "isinstance" = none
  b_len : mg "len" = none
  b_int : mg "int" = none
  b_bool : mg "bool" = none
  b_list : mg "list" = none
  b_range : mg "range" = none
  b_tuple : mg "tuple" = none
  b_str : mg "str" = none
  b_ValueError : mg "ValueError" = none
  g_NO_BALLOT : mg "NO_BALLOT" = some (.ref (He.ga K "NO_BALLOT"))
  i_MOST_HANDS : ∃ t, mg "MOST_HANDS" = some (.int 9 t)
  tup_NO_BALLOT : He.tupB K "NO_BALLOT" [.int (0), .int (-1)] = true
  xi_FolkError : PySem.W.excIn K (He.ga K "FolkError") [.type "ValueError", .type "Exception", .type "BaseException", .type "object"] "ValueError.__new__" = true
  xs_FolkError : PySem.W.subIn K (.ref (He.ga K "FolkError")) (.type "BaseException") = some true
  xt_FolkError : PySem.W.typeIn K (.ref (He.ga K "FolkError")) = some (.type "type")
  xm_FolkError_FolkError : PySem.W.exmOne K (.ref (He.ga K "FolkError")) (.ref (He.ga K "FolkError")) = some true
  xm_FolkError_BadHand : PySem.W.exmOne K (.ref (He.ga K "FolkError")) (.ref (He.ga K "BadHand")) = some false
  xm_FolkError_BadList : PySem.W.exmOne K (.ref (He.ga K "FolkError")) (.ref (He.ga K "BadList")) = some false
  xm_FolkError_NoLetter : PySem.W.exmOne K (.ref (He.ga K "FolkError")) (.ref (He.ga K "NoLetter")) = some false
  xm_FolkError_Fallen : PySem.W.exmOne K (.ref (He.ga K "FolkError")) (.ref (He.ga K "Fallen")) = some false
  xm_FolkError_Outside : PySem.W.exmOne K (.ref (He.ga K "FolkError")) (.ref (He.ga K "Outside")) = some false
  xm_FolkError_NotFirst : PySem.W.exmOne K (.ref (He.ga K "FolkError")) (.ref (He.ga K "NotFirst")) = some false
  xm_FolkError_NoNews : PySem.W.exmOne K (.ref (He.ga K "FolkError")) (.ref (He.ga K "NoNews")) = some false
  xi_BadHand : PySem.W.excIn K (He.ga K "BadHand") [.type "ValueError", .type "Exception", .type "BaseException", .type "object"] "ValueError.__new__" = true
  xs_BadHand : PySem.W.subIn K (.ref (He.ga K "BadHand")) (.type "BaseException") = some true
  xt_BadHand : PySem.W.typeIn K (.ref (He.ga K "BadHand")) = some (.type "type")
  xm_BadHand_FolkError : PySem.W.exmOne K (.ref (He.ga K "BadHand")) (.ref (He.ga K "FolkError")) = some true
  xm_BadHand_BadHand : PySem.W.exmOne K (.ref (He.ga K "BadHand")) (.ref (He.ga K "BadHand")) = some true
  xm_BadHand_BadList : PySem.W.exmOne K (.ref (He.ga K "BadHand")) (.ref (He.ga K "BadList")) = some false
  xm_BadHand_NoLetter : PySem.W.exmOne K (.ref (He.ga K "BadHand")) (.ref (He.ga K "NoLetter")) = some false
  xm_BadHand_Fallen : PySem.W.exmOne K (.ref (He.ga K "BadHand")) (.ref (He.ga K "Fallen")) = some false
  xm_BadHand_Outside : PySem.W.exmOne K (.ref (He.ga K "BadHand")) (.ref (He.ga K "Outside")) = some false
  xm_BadHand_NotFirst : PySem.W.exmOne K (.ref (He.ga K "BadHand")) (.ref (He.ga K "NotFirst")) = some false
  xm_BadHand_NoNews : PySem.W.exmOne K (.ref (He.ga K "BadHand")) (.ref (He.ga K "NoNews")) = some false
  xi_BadList : PySem.W.excIn K (He.ga K "BadList") [.type "ValueError", .type "Exception", .type "BaseException", .type "object"] "ValueError.__new__" = true
  xs_BadList : PySem.W.subIn K (.ref (He.ga K "BadList")) (.type "BaseException") = some true
  xt_BadList : PySem.W.typeIn K (.ref (He.ga K "BadList")) = some (.type "type")
  xm_BadList_FolkError : PySem.W.exmOne K (.ref (He.ga K "BadList")) (.ref (He.ga K "FolkError")) = some true
  xm_BadList_BadHand : PySem.W.exmOne K (.ref (He.ga K "BadList")) (.ref (He.ga K "BadHand")) = some false
  xm_BadList_BadList : PySem.W.exmOne K (.ref (He.ga K "BadList")) (.ref (He.ga K "BadList")) = some true
  xm_BadList_NoLetter : PySem.W.exmOne K (.ref (He.ga K "BadList")) (.ref (He.ga K "NoLetter")) = some false
  xm_BadList_Fallen : PySem.W.exmOne K (.ref (He.ga K "BadList")) (.ref (He.ga K "Fallen")) = some false
  xm_BadList_Outside : PySem.W.exmOne K (.ref (He.ga K "BadList")) (.ref (He.ga K "Outside")) = some false
  xm_BadList_NotFirst : PySem.W.exmOne K (.ref (He.ga K "BadList")) (.ref (He.ga K "NotFirst")) = some false
  xm_BadList_NoNews : PySem.W.exmOne K (.ref (He.ga K "BadList")) (.ref (He.ga K "NoNews")) = some false
  xi_NoLetter : PySem.W.excIn K (He.ga K "NoLetter") [.type "ValueError", .type "Exception", .type "BaseException", .type "object"] "ValueError.__new__" = true
  xs_NoLetter : PySem.W.subIn K (.ref (He.ga K "NoLetter")) (.type "BaseException") = some true
  xt_NoLetter : PySem.W.typeIn K (.ref (He.ga K "NoLetter")) = some (.type "type")
  xm_NoLetter_FolkError : PySem.W.exmOne K (.ref (He.ga K "NoLetter")) (.ref (He.ga K "FolkError")) = some true
  xm_NoLetter_BadHand : PySem.W.exmOne K (.ref (He.ga K "NoLetter")) (.ref (He.ga K "BadHand")) = some false
  xm_NoLetter_BadList : PySem.W.exmOne K (.ref (He.ga K "NoLetter")) (.ref (He.ga K "BadList")) = some false
  xm_NoLetter_NoLetter : PySem.W.exmOne K (.ref (He.ga K "NoLetter")) (.ref (He.ga K "NoLetter")) = some true
  xm_NoLetter_Fallen : PySem.W.exmOne K (.ref (He.ga K "NoLetter")) (.ref (He.ga K "Fallen")) = some false
  xm_NoLetter_Outside : PySem.W.exmOne K (.ref (He.ga K "NoLetter")) (.ref (He.ga K "Outside")) = some false
  xm_NoLetter_NotFirst : PySem.W.exmOne K (.ref (He.ga K "NoLetter")) (.ref (He.ga K "NotFirst")) = some false
  xm_NoLetter_NoNews : PySem.W.exmOne K (.ref (He.ga K "NoLetter")) (.ref (He.ga K "NoNews")) = some false
  xi_Fallen : PySem.W.excIn K (He.ga K "Fallen") [.type "ValueError", .type "Exception", .type "BaseException", .type "object"] "ValueError.__new__" = true
  xs_Fallen : PySem.W.subIn K (.ref (He.ga K "Fallen")) (.type "BaseException") = some true
  xt_Fallen : PySem.W.typeIn K (.ref (He.ga K "Fallen")) = some (.type "type")
  xm_Fallen_FolkError : PySem.W.exmOne K (.ref (He.ga K "Fallen")) (.ref (He.ga K "FolkError")) = some true
  xm_Fallen_BadHand : PySem.W.exmOne K (.ref (He.ga K "Fallen")) (.ref (He.ga K "BadHand")) = some false
  xm_Fallen_BadList : PySem.W.exmOne K (.ref (He.ga K "Fallen")) (.ref (He.ga K "BadList")) = some false
  xm_Fallen_NoLetter : PySem.W.exmOne K (.ref (He.ga K "Fallen")) (.ref (He.ga K "NoLetter")) = some false
  xm_Fallen_Fallen : PySem.W.exmOne K (.ref (He.ga K "Fallen")) (.ref (He.ga K "Fallen")) = some true
  xm_Fallen_Outside : PySem.W.exmOne K (.ref (He.ga K "Fallen")) (.ref (He.ga K "Outside")) = some false
  xm_Fallen_NotFirst : PySem.W.exmOne K (.ref (He.ga K "Fallen")) (.ref (He.ga K "NotFirst")) = some false
  xm_Fallen_NoNews : PySem.W.exmOne K (.ref (He.ga K "Fallen")) (.ref (He.ga K "NoNews")) = some false
  xi_Outside : PySem.W.excIn K (He.ga K "Outside") [.type "ValueError", .type "Exception", .type "BaseException", .type "object"] "ValueError.__new__" = true
  xs_Outside : PySem.W.subIn K (.ref (He.ga K "Outside")) (.type "BaseException") = some true
  xt_Outside : PySem.W.typeIn K (.ref (He.ga K "Outside")) = some (.type "type")
  xm_Outside_FolkError : PySem.W.exmOne K (.ref (He.ga K "Outside")) (.ref (He.ga K "FolkError")) = some true
  xm_Outside_BadHand : PySem.W.exmOne K (.ref (He.ga K "Outside")) (.ref (He.ga K "BadHand")) = some false
  xm_Outside_BadList : PySem.W.exmOne K (.ref (He.ga K "Outside")) (.ref (He.ga K "BadList")) = some false
  xm_Outside_NoLetter : PySem.W.exmOne K (.ref (He.ga K "Outside")) (.ref (He.ga K "NoLetter")) = some false
  xm_Outside_Fallen : PySem.W.exmOne K (.ref (He.ga K "Outside")) (.ref (He.ga K "Fallen")) = some false
  xm_Outside_Outside : PySem.W.exmOne K (.ref (He.ga K "Outside")) (.ref (He.ga K "Outside")) = some true
  xm_Outside_NotFirst : PySem.W.exmOne K (.ref (He.ga K "Outside")) (.ref (He.ga K "NotFirst")) = some false
  xm_Outside_NoNews : PySem.W.exmOne K (.ref (He.ga K "Outside")) (.ref (He.ga K "NoNews")) = some false
  xi_NotFirst : PySem.W.excIn K (He.ga K "NotFirst") [.type "ValueError", .type "Exception", .type "BaseException", .type "object"] "ValueError.__new__" = true
  xs_NotFirst : PySem.W.subIn K (.ref (He.ga K "NotFirst")) (.type "BaseException") = some true
  xt_NotFirst : PySem.W.typeIn K (.ref (He.ga K "NotFirst")) = some (.type "type")
  xm_NotFirst_FolkError : PySem.W.exmOne K (.ref (He.ga K "NotFirst")) (.ref (He.ga K "FolkError")) = some true
  xm_NotFirst_BadHand : PySem.W.exmOne K (.ref (He.ga K "NotFirst")) (.ref (He.ga K "BadHand")) = some false
  xm_NotFirst_BadList : PySem.W.exmOne K (.ref (He.ga K "NotFirst")) (.ref (He.ga K "BadList")) = some false
  xm_NotFirst_NoLetter : PySem.W.exmOne K (.ref (He.ga K "NotFirst")) (.ref (He.ga K "NoLetter")) = some false
  xm_NotFirst_Fallen : PySem.W.exmOne K (.ref (He.ga K "NotFirst")) (.ref (He.ga K "Fallen")) = some false
  xm_NotFirst_Outside : PySem.W.exmOne K (.ref (He.ga K "NotFirst")) (.ref (He.ga K "Outside")) = some false
  xm_NotFirst_NotFirst : PySem.W.exmOne K (.ref (He.ga K "NotFirst")) (.ref (He.ga K "NotFirst")) = some true
  xm_NotFirst_NoNews : PySem.W.exmOne K (.ref (He.ga K "NotFirst")) (.ref (He.ga K "NoNews")) = some false
  xi_NoNews : PySem.W.excIn K (He.ga K "NoNews") [.type "ValueError", .type "Exception", .type "BaseException", .type "object"] "ValueError.__new__" = true
  xs_NoNews : PySem.W.subIn K (.ref (He.ga K "NoNews")) (.type "BaseException") = some true
  xt_NoNews : PySem.W.typeIn K (.ref (He.ga K "NoNews")) = some (.type "type")
  xm_NoNews_FolkError : PySem.W.exmOne K (.ref (He.ga K "NoNews")) (.ref (He.ga K "FolkError")) = some true
  xm_NoNews_BadHand : PySem.W.exmOne K (.ref (He.ga K "NoNews")) (.ref (He.ga K "BadHand")) = some false
  xm_NoNews_BadList : PySem.W.exmOne K (.ref (He.ga K "NoNews")) (.ref (He.ga K "BadList")) = some false
  xm_NoNews_NoLetter : PySem.W.exmOne K (.ref (He.ga K "NoNews")) (.ref (He.ga K "NoLetter")) = some false
  xm_NoNews_Fallen : PySem.W.exmOne K (.ref (He.ga K "NoNews")) (.ref (He.ga K "Fallen")) = some false
  xm_NoNews_Outside : PySem.W.exmOne K (.ref (He.ga K "NoNews")) (.ref (He.ga K "Outside")) = some false
  xm_NoNews_NotFirst : PySem.W.exmOne K (.ref (He.ga K "NoNews")) (.ref (He.ga K "NotFirst")) = some false
  xm_NoNews_NoNews : PySem.W.exmOne K (.ref (He.ga K "NoNews")) (.ref (He.ga K "NoNews")) = some true
  ec0_BadHand : PySem.W.findIn K (.ref (He.ga K "BadHand")) "__getattribute__" = some (some (.builtin "BaseException.__getattribute__"))
  ec1_BadHand : PySem.W.findIn K (.ref (He.ga K "BadHand")) "__getattr__" = some none
  ec2_BadHand : PySem.W.subIn K (.ref (He.ga K "BadHand")) (.type "BaseException") = some true
  ec3_BadHand : PySem.W.hasDictIn K (He.ga K "BadHand") = true
  ec4_BadHand : PySem.W.findIn K (.ref (He.ga K "BadHand")) "__class__" = some (some (.builtin "object.__class__"))
  ec5_BadHand : PySem.W.specialIn K (.builtin "object.__class__") "__get__" = some (some (.builtin "getset_descriptor.__get__"))
  ec6_BadHand : PySem.W.takesIn K (.builtin "object.__class__") = some true
  ec7_BadHand : PySem.W.mroIn K (He.ga K "BadHand") (.type "object") = some true
  ki_BadHand_BadHand : PySem.W.kitOne K (.ref (He.ga K "BadHand")) (.ref (He.ga K "BadHand")) = some true
  ki_BadHand_BadList : PySem.W.kitOne K (.ref (He.ga K "BadHand")) (.ref (He.ga K "BadList")) = some false
  ki_BadHand_NoLetter : PySem.W.kitOne K (.ref (He.ga K "BadHand")) (.ref (He.ga K "NoLetter")) = some false
  ki_BadHand_Fallen : PySem.W.kitOne K (.ref (He.ga K "BadHand")) (.ref (He.ga K "Fallen")) = some false
  ki_BadHand_Outside : PySem.W.kitOne K (.ref (He.ga K "BadHand")) (.ref (He.ga K "Outside")) = some false
  ki_BadHand_NotFirst : PySem.W.kitOne K (.ref (He.ga K "BadHand")) (.ref (He.ga K "NotFirst")) = some false
  ki_BadHand_NoNews : PySem.W.kitOne K (.ref (He.ga K "BadHand")) (.ref (He.ga K "NoNews")) = some false
  ki_BadHand_ValueError : PySem.W.kitOne K (.ref (He.ga K "BadHand")) (.type "ValueError") = some true
  kaB_BadHand : PySem.W.kitAny K (.ref (He.ga K "BadHand")) [.ref (He.ga K "NoLetter"), .ref (He.ga K "Fallen"), .ref (He.ga K "NotFirst"), .ref (He.ga K "NoNews")] = some false
  kaC_BadHand : PySem.W.kitAny K (.ref (He.ga K "BadHand")) [.ref (He.ga K "NoLetter")] = some false
  ec0_BadList : PySem.W.findIn K (.ref (He.ga K "BadList")) "__getattribute__" = some (some (.builtin "BaseException.__getattribute__"))
  ec1_BadList : PySem.W.findIn K (.ref (He.ga K "BadList")) "__getattr__" = some none
  ec2_BadList : PySem.W.subIn K (.ref (He.ga K "BadList")) (.type "BaseException") = some true
  ec3_BadList : PySem.W.hasDictIn K (He.ga K "BadList") = true
  ec4_BadList : PySem.W.findIn K (.ref (He.ga K "BadList")) "__class__" = some (some (.builtin "object.__class__"))
  ec5_BadList : PySem.W.specialIn K (.builtin "object.__class__") "__get__" = some (some (.builtin "getset_descriptor.__get__"))
  ec6_BadList : PySem.W.takesIn K (.builtin "object.__class__") = some true
  ec7_BadList : PySem.W.mroIn K (He.ga K "BadList") (.type "object") = some true
  ki_BadList_BadHand : PySem.W.kitOne K (.ref (He.ga K "BadList")) (.ref (He.ga K "BadHand")) = some false
  ki_BadList_BadList : PySem.W.kitOne K (.ref (He.ga K "BadList")) (.ref (He.ga K "BadList")) = some true
  ki_BadList_NoLetter : PySem.W.kitOne K (.ref (He.ga K "BadList")) (.ref (He.ga K "NoLetter")) = some false
  ki_BadList_Fallen : PySem.W.kitOne K (.ref (He.ga K "BadList")) (.ref (He.ga K "Fallen")) = some false
  ki_BadList_Outside : PySem.W.kitOne K (.ref (He.ga K "BadList")) (.ref (He.ga K "Outside")) = some false
  ki_BadList_NotFirst : PySem.W.kitOne K (.ref (He.ga K "BadList")) (.ref (He.ga K "NotFirst")) = some false
  ki_BadList_NoNews : PySem.W.kitOne K (.ref (He.ga K "BadList")) (.ref (He.ga K "NoNews")) = some false
  ki_BadList_ValueError : PySem.W.kitOne K (.ref (He.ga K "BadList")) (.type "ValueError") = some true
  kaB_BadList : PySem.W.kitAny K (.ref (He.ga K "BadList")) [.ref (He.ga K "NoLetter"), .ref (He.ga K "Fallen"), .ref (He.ga K "NotFirst"), .ref (He.ga K "NoNews")] = some false
  kaC_BadList : PySem.W.kitAny K (.ref (He.ga K "BadList")) [.ref (He.ga K "NoLetter")] = some false
  ec0_Outside : PySem.W.findIn K (.ref (He.ga K "Outside")) "__getattribute__" = some (some (.builtin "BaseException.__getattribute__"))
  ec1_Outside : PySem.W.findIn K (.ref (He.ga K "Outside")) "__getattr__" = some none
  ec2_Outside : PySem.W.subIn K (.ref (He.ga K "Outside")) (.type "BaseException") = some true
  ec3_Outside : PySem.W.hasDictIn K (He.ga K "Outside") = true
  ec4_Outside : PySem.W.findIn K (.ref (He.ga K "Outside")) "__class__" = some (some (.builtin "object.__class__"))
  ec5_Outside : PySem.W.specialIn K (.builtin "object.__class__") "__get__" = some (some (.builtin "getset_descriptor.__get__"))
  ec6_Outside : PySem.W.takesIn K (.builtin "object.__class__") = some true
  ec7_Outside : PySem.W.mroIn K (He.ga K "Outside") (.type "object") = some true
  ki_Outside_BadHand : PySem.W.kitOne K (.ref (He.ga K "Outside")) (.ref (He.ga K "BadHand")) = some false
  ki_Outside_BadList : PySem.W.kitOne K (.ref (He.ga K "Outside")) (.ref (He.ga K "BadList")) = some false
  ki_Outside_NoLetter : PySem.W.kitOne K (.ref (He.ga K "Outside")) (.ref (He.ga K "NoLetter")) = some false
  ki_Outside_Fallen : PySem.W.kitOne K (.ref (He.ga K "Outside")) (.ref (He.ga K "Fallen")) = some false
  ki_Outside_Outside : PySem.W.kitOne K (.ref (He.ga K "Outside")) (.ref (He.ga K "Outside")) = some true
  ki_Outside_NotFirst : PySem.W.kitOne K (.ref (He.ga K "Outside")) (.ref (He.ga K "NotFirst")) = some false
  ki_Outside_NoNews : PySem.W.kitOne K (.ref (He.ga K "Outside")) (.ref (He.ga K "NoNews")) = some false
  ki_Outside_ValueError : PySem.W.kitOne K (.ref (He.ga K "Outside")) (.type "ValueError") = some true
  kaB_Outside : PySem.W.kitAny K (.ref (He.ga K "Outside")) [.ref (He.ga K "NoLetter"), .ref (He.ga K "Fallen"), .ref (He.ga K "NotFirst"), .ref (He.ga K "NoNews")] = some false
  kaC_Outside : PySem.W.kitAny K (.ref (He.ga K "Outside")) [.ref (He.ga K "NoLetter")] = some false
  fk0_Folk : PySem.W.findIn K (.ref (He.ga K "Folk")) "__class__" = some (some (.builtin "object.__class__"))
  fk1_Folk : PySem.W.mroIn K (He.ga K "Folk") (.type "object") = some true
  fk2_Folk : PySem.W.kitOne K (.ref (He.ga K "Folk")) (.type "str") = some false
  F__wall : ∃ fd, FnP K "_wall" "_wall" s__wall (He.ga K "_wall") fd
  F_Letter_init : ∃ fd, FnP K "__init__" "Letter.__init__" s_Letter_init (He.ma K (He.ga K "Letter") "__init__") fd
  F_Seat_init : ∃ fd, FnP K "__init__" "Seat.__init__" s_Seat_init (He.ma K (He.ga K "Seat") "__init__") fd
  F_Seat_leader : ∃ fd, FnP K "leader" "Seat.leader" s_Seat_leader (He.ma K (He.ga K "Seat") "leader") fd
  F_Seat_answered : ∃ fd, FnP K "answered" "Seat.answered" s_Seat_answered (He.ma K (He.ga K "Seat") "answered") fd
  F_Hand_init : ∃ fd, FnP K "__init__" "Hand.__init__" s_Hand_init (He.ma K (He.ga K "Hand") "__init__") fd
  F_Hand_sit : ∃ fd, FnP K "sit" "Hand.sit" s_Hand_sit (He.ma K (He.ga K "Hand") "sit") fd
  F_Hand_go_on : ∃ fd, FnP K "go_on" "Hand.go_on" s_Hand_go_on (He.ma K (He.ga K "Hand") "go_on") fd
  F_Hand_send : ∃ fd, FnP K "send" "Hand.send" s_Hand_send (He.ma K (He.ga K "Hand") "send") fd
  F_Hand_send_each : ∃ fd, FnP K "send_each" "Hand.send_each" s_Hand_send_each (He.ma K (He.ga K "Hand") "send_each") fd
  F_Hand_send_others : ∃ fd, FnP K "send_others" "Hand.send_others" s_Hand_send_others (He.ma K (He.ga K "Hand") "send_others") fd
  F_is_whole : ∃ fd, FnP K "is_whole" "is_whole" s_is_whole (He.ga K "is_whole") fd
  F_is_hand : ∃ fd, FnP K "is_hand" "is_hand" s_is_hand (He.ga K "is_hand") fd
  F_is_list : ∃ fd, FnP K "is_list" "is_list" s_is_list (He.ga K "is_list") fd
  F_Folk_init : ∃ fd, FnP K "__init__" "Folk.__init__" s_Folk_init (He.ma K (He.ga K "Folk") "__init__") fd
  F_Folk_say : ∃ fd, FnP K "say" "Folk.say" s_Folk_say (He.ma K (He.ga K "Folk") "say") fd
  F_Folk_press : ∃ fd, FnP K "press" "Folk.press" s_Folk_press (He.ma K (He.ga K "Folk") "press") fd
  F_Folk_propose : ∃ fd, FnP K "propose" "Folk.propose" s_Folk_propose (He.ma K (He.ga K "Folk") "propose") fd
  F_Folk_show : ∃ fd, FnP K "show" "Folk.show" s_Folk_show (He.ma K (He.ga K "Folk") "show") fd
  F_Folk_fall : ∃ fd, FnP K "fall" "Folk.fall" s_Folk_fall (He.ma K (He.ga K "Folk") "fall") fd
  F_Folk_come : ∃ fd, FnP K "come" "Folk.come" s_Folk_come (He.ma K (He.ga K "Folk") "come") fd
  F_Folk_lose : ∃ fd, FnP K "lose" "Folk.lose" s_Folk_lose (He.ma K (He.ga K "Folk") "lose") fd
  F_Folk_double : ∃ fd, FnP K "double" "Folk.double" s_Folk_double (He.ma K (He.ga K "Folk") "double") fd
  F_Folk_calm : ∃ fd, FnP K "calm" "Folk.calm" s_Folk_calm (He.ma K (He.ga K "Folk") "calm") fd
  F_Folk_letters : ∃ fd, FnP K "letters" "Folk.letters" s_Folk_letters (He.ma K (He.ga K "Folk") "letters") fd
  F_Folk_stands : ∃ fd, FnP K "stands" "Folk.stands" s_Folk_stands (He.ma K (He.ga K "Folk") "stands") fd
  F_Folk_list_of : ∃ fd, FnP K "list_of" "Folk.list_of" s_Folk_list_of (He.ma K (He.ga K "Folk") "list_of") fd
  F_Folk_taken : ∃ fd, FnP K "taken" "Folk.taken" s_Folk_taken (He.ma K (He.ga K "Folk") "taken") fd
  F_Folk_is_still : ∃ fd, FnP K "is_still" "Folk.is_still" s_Folk_is_still (He.ma K (He.ga K "Folk") "is_still") fd
  F_Folk_witness : ∃ fd, FnP K "witness" "Folk.witness" s_Folk_witness (He.ma K (He.ga K "Folk") "witness") fd
  F_Folk_past : ∃ fd, FnP K "past" "Folk.past" s_Folk_past (He.ma K (He.ga K "Folk") "past") fd
  F_Folk_who : ∃ fd, FnP K "_who" "Folk._who" s_Folk_who (He.ma K (He.ga K "Folk") "_who") fd
  F_Folk_who_acts : ∃ fd, FnP K "_who_acts" "Folk._who_acts" s_Folk_who_acts (He.ma K (He.ga K "Folk") "_who_acts") fd
  F_Folk_seat_of : ∃ fd, FnP K "_seat_of" "Folk._seat_of" s_Folk_seat_of (He.ma K (He.ga K "Folk") "_seat_of") fd
  F_Folk_check_place : ∃ fd, FnP K "_check_place" "Folk._check_place" s_Folk_check_place (He.ma K (He.ga K "Folk") "_check_place") fd
  F__law_draw : ∃ fd, FnP K "_law_draw" "_law_draw" s__law_draw (He.ga K "_law_draw") fd
  F__law_hands : ∃ fd, FnP K "_law_hands" "_law_hands" s__law_hands (He.ga K "_law_hands") fd
  F__law_words : ∃ fd, FnP K "_law_words" "_law_words" s__law_words (He.ga K "_law_words") fd
  F__law_made : ∃ fd, FnP K "_law_made" "_law_made" s__law_made (He.ga K "_law_made") fd
  F__law_asked : ∃ fd, FnP K "_law_asked" "_law_asked" s__law_asked (He.ga K "_law_asked") fd
  F__law_right : ∃ fd, FnP K "_law_right" "_law_right" s__law_right (He.ga K "_law_right") fd
  F_law : ∃ fd, FnP K "law" "law" s_law (He.ga K "law") fd
end Fo
namespace Fo
open PySem PySem.Spec PyProof.Rows L2
section
variable {P : Program} {w : World} {K : PySem.W.Frag} {mg : Str → Option Value} {base : Heap}
/-! own rules over the library -/
theorem is_bool_gen {M : Model} {A : Around} {E : Value → Shared → Prop} {s : Shared} {Q : Value → Shared → Prop} {v : Value} {b : Bool} (hv : ∀ id, v ≠ .builtin id) (h : Q (.bool (v == .bool b)) s) : wpAny M A (compareOp .Is v (.bool b)) Q E s := by
  cases v <;> first | exact wpAny_pure h | exact absurd rfl (hv _)
theorem isnot_bool_gen {M : Model} {A : Around} {E : Value → Shared → Prop} {s : Shared} {Q : Value → Shared → Prop} {v : Value} {b : Bool} (hv : ∀ id, v ≠ .builtin id) (h : Q (.bool (!(v == .bool b))) s) : wpAny M A (compareOp .IsNot v (.bool b)) Q E s := by
  cases v <;> first | exact wpAny_pure h | exact absurd rfl (hv _)
theorem relv_bool {x : V} {v : Value} {b : Bool} (r : RelV x v) : (v == Value.bool b) = decide (x = V.bl b) := by
  cases x with
  | bl a =>
    cases (show v = Value.bool a from r)
    by_cases e : a = b
    · subst e
      simp
    · have h1 : (Value.bool a == Value.bool b) = false := beq_eq_false_iff_ne.mpr fun q => e (Value.bool.inj q)
      rw [h1]
      exact (decide_eq_false fun q => e (V.bl.inj q)).symm
  | non => cases (show v = Value.none from r); rfl
  | int i => obtain ⟨t, rfl⟩ := r; rfl
  | str i => obtain ⟨t, rfl⟩ := r; rfl
  | byt i => obtain ⟨t, rfl⟩ := r; rfl
  | flt i => obtain ⟨t, rfl⟩ := r; rfl
  | ref i => cases (show v = Value.ref i from r); rfl
  | ty i => cases (show v = Value.type i from r); rfl
theorem relv_nb {x : V} {v : Value} (r : RelV x v) : ∀ id, v ≠ .builtin id := by
  intro id q
  subst q
  cases x <;> first | (obtain ⟨t, e⟩ := r; cases e) | cases (show Value.builtin id = _ from r)
/-- x is True, x is False: of any x -/
theorem op_isB {X : Cx} : OpR X (compareOp .Is) (fun x y H Q => ∃ b, y = .bl b ∧ Q (.bl (decide (x = .bl b))) H) := by
  intro pins s σ H x y v u Q I rx ry h
  obtain ⟨b, rfl, q⟩ := h
  cases (show u = Value.bool b from ry)
  refine is_bool_gen (relv_nb rx) ?_
  rw [relv_bool rx]
  exact ⟨.bl _, H, I, rfl, q⟩
theorem op_isnotB {X : Cx} : OpR X (compareOp .IsNot) (fun x y H Q => ∃ b, y = .bl b ∧ Q (.bl (!decide (x = .bl b))) H) := by
  intro pins s σ H x y v u Q I rx ry h
  obtain ⟨b, rfl, q⟩ := h
  cases (show u = Value.bool b from ry)
  refine isnot_bool_gen (relv_nb rx) ?_
  rw [relv_bool rx]
  exact ⟨.bl _, H, I, rfl, q⟩
def rListOf (K : PySem.W.Frag) : List V → Hp → VK → Prop := fun xs H Q => ∃ p ys, xs = [.ref p] ∧ (SqL K H p ys ∨ SqT K H p ys) ∧ ∀ l, H l = none → Q (.ref l) (upd H l (.lst ys))
/-- a dict comprehension over a list -/
theorem dc_list {K : PySem.W.Frag} {a : Addr} {xs : List V} {g : L2.TG} {tt : TT} {tk tv : TE} {vs : List Nat} {σ : L2.St} {H1 : Hp} {D : Addr} {Qd : Hp → Prop} (Pv : Nat → Hp → Prop) (h0 : Pv 0 (upd H1 D (.dK []))) (hl : ∀ i H, i ≤ xs.length → Pv i H → SqL K H a xs)
    (hs : ∀ i x H, xs[i]? = some x → Pv i H → g x (wipe σ vs) H fun σ2 H2 => wipe σ2 vs = wipe σ vs ∧ tt σ2 H2 fun b H3 =>
      if b = true then tk σ2 H3 fun y H4 => tv σ2 H4 fun z H5 => ∃ kvs k, y = kV k ∧ H5 D = some (.dK kvs) ∧ kvs.length < sizeLine ∧ Pv (i + 1) (upd H5 D (.dK (putK kvs k z))) else Pv (i + 1) H3) (hd : ∀ H, Pv xs.length H → Qd H) :
    ∃ W : Nat → Nat → Hp → Prop, (∃ m, W 0 m (upd H1 D (.dK []))) ∧ ∀ i m H, W i m H →
      ((Itl K a).stop i H ∧ Qd H) ∨ ((Itl K a).go i H ∧ ∃ Nx : Hp → Prop, (∀ H', Nx H' → ∃ m', m' < m ∧ W (i + 1) m' H') ∧ ∀ x H', (Itl K a).yld i H x H' → g x (wipe σ vs) H' fun σ2 H2 => wipe σ2 vs = wipe σ vs ∧ tt σ2 H2 fun b H3 =>
        if b = true then tk σ2 H3 fun y H4 => tv σ2 H4 fun z H5 => ∃ kvs k, y = kV k ∧ H5 D = some (.dK kvs) ∧ kvs.length < sizeLine ∧ Nx (upd H5 D (.dK (putK kvs k z))) else Nx H3) := by
  refine ⟨fun i m H => m = xs.length - i ∧ i ≤ xs.length ∧ Pv i H, ⟨xs.length, rfl, Nat.zero_le _, h0⟩, fun i m H w => ?_⟩
  obtain ⟨rfl, hi, p⟩ := w
  have q := hl i H hi p
  rcases Nat.lt_or_ge i xs.length with hlt | hge
  · refine Or.inr ⟨⟨xs, xs[i], q, List.getElem?_eq_getElem hlt⟩, Pv (i + 1), fun H' p' => ⟨_, Nat.sub_lt_sub_left hlt (Nat.lt_succ_self i), rfl, hlt, p'⟩, fun x H' y => ?_⟩
    have e := y.1
    subst e
    exact hs i x _ (y.2 xs q) p
  · have e : i = xs.length := Nat.le_antisymm hi hge
    subst e
    exact Or.inl ⟨⟨xs, q, Nat.le_refl _⟩, hd H p⟩
theorem upd_over {H : Hp} {p q : Addr} {a b c : HO} (h : q ≠ p) : upd (upd (upd H p a) q b) p c = upd (upd H q b) p c := by
  funext x
  unfold upd
  split
  · rfl
  · rename_i hx
    split
    · rfl
    · rfl
theorem upd_comm {H : Hp} {p q : Addr} {a b : HO} (h : q ≠ p) : upd (upd H p a) q b = upd (upd H q b) p a := by
  funext x
  unfold upd
  split
  · rename_i e
    rw [if_neg (fun z => h (e ▸ z))]
  · rfl

end
end Fo
namespace Fo
open PySem PySem.Spec PyProof.Rows L2
section
variable {P : Program} {w : World} {K : PySem.W.Frag} {mg : Str → Option Value} {base : Heap}
/-- a def keeps its promise, its arguments bind -/
def OkF (P : Program) (w : World) (K : PySem.W.Frag) (mg : Str → Option Value) (base : Heap) (CX : CXT) (k : Nat) (f : Addr) (ps : List Str) (sp : Sp) : Prop :=
  ∃ fd, FnOk P w K mg base CX k f fd ps sp ∧ Binds K fd ps [] ∧ PySem.W.keepIn K (.ref f) = true
theorem _root_.L2.Room.hu {A : Around} {k : Nat} (hr : Room k A) : A.units + 1 < cLine := hu_of hr
theorem _root_.L2.Room.u64 {A : Around} {k : Nat} (hr : Room k A) : A.units + 64 < cLine := Nat.lt_of_le_of_lt (Nat.add_le_add_left (by decide : 64 ≤ 200) _) (Nat.lt_of_le_of_lt (by omega) hr.un)
theorem _root_.L2.Room.u65 {A : Around} {k : Nat} (hr : Room k A) : A.units + 65 < cLine := Nat.lt_of_le_of_lt (Nat.add_le_add_left (by decide : 65 ≤ 200) _) (Nat.lt_of_le_of_lt (by omega) hr.un)
theorem passX {X : Cx} {W : WX} {E : XK} (tk : Takes X W) (hW : ∀ cls d σ H, E cls d H → W cls d σ H) : Passes (L2.CX X.prog X.w) X E := passes_call tk hW
theorem takes0N {X : Cx} : L2N.Takes X (fun _ _ _ _ => False) := fun u s' z => by
  obtain ⟨_, _, _, _, _, _, _, _, _, _, _, _, _, _, _, _, no⟩ := z
  exact no.elim
theorem passXN {X : Cx} {W : WX} {E : XK} (tk : L2N.Takes X W) (hW : ∀ cls d σ H, E cls d H → W cls d σ H) : Passes (L2N.CX X.prog X.w) X E := L2N.passes_call tk hW
theorem iteI {a b : Int} {A B : Prop} (h1 : a = b → A) (h2 : ¬ a = b → B) : if decide (V.int a = V.int b) = true then A else B :=
  ite2 (fun h => h1 (V.int.inj (of_decide_eq_true h))) (fun h => h2 (fun q => h (decide_eq_true (by rw [q]))))
theorem iteD {p : Prop} [Decidable p] {A B : Prop} (h1 : p → A) (h2 : ¬ p → B) : if decide p = true then A else B :=
  ite2 (fun h => h1 (of_decide_eq_true h)) (fun h => h2 (fun q => h (decide_eq_true q)))
def isInt : V → Bool
  | .int _ => true
  | _ => false
/-- a thing whose type is known not to be int's kind -/
def Thg (K : PySem.W.Frag) (H : Hp) (x : V) : Prop := (∃ i, x = .int i) ∨ (∃ b, x = .bl b) ∨ (isInt x = false ∧ ∃ n, TyX K H x (.type n) ∧ kitB n "int" = some false)
theorem thg_int {K : PySem.W.Frag} {H : Hp} {i : Int} : Thg K H (.int i) := .inl ⟨i, rfl⟩
def spWhole (K : PySem.W.Frag) : Sp := fun vs H Q _ => ∃ x, vs = [x] ∧ Thg K H x ∧ Q (.bl (isInt x)) H
theorem sc_is_whole : FnScope ["thing"] ["thing"] (defScope s_is_whole) := ⟨rfl, rfl, rfl, by decide +kernel, rfl, by decide +kernel, by decide +kernel⟩
set_option maxRecDepth 100000 in
theorem ok_is_whole (T : Txt K mg) : OkF P w K mg base CX0 1 (He.ga K "is_whole") ["thing"] (spWhole K) := by
  obtain ⟨fd, F⟩ := T.F_is_whole
  refine ⟨fd, F.ok sc_is_whole (fun vs H Q E h => ?_) (fun cdv A outer s H vs Q E hr h => ?_), F.bindsN fun _ _ _ _ _ _ us hl => match us, hl with | [_], _ => rfl, F.kp⟩
  · obtain ⟨_, rfl, _⟩ := h
    rfl
  · refine ⟨_, PSs.nox (pss_one (ps_ret (pe_and (pe_callB call_isi (by rfl) T.b_isinstance (by decide +kernel) (pa_cons (pv 0) (pa_cons (pe_bltn (v := .ty "int") (u := .type "int") (by rfl) T.b_int (by decide +kernel) rfl) pa_nil))) (pe_one (pe_not (pe_callB call_isi (by rfl) T.b_isinstance (by decide +kernel) (pa_cons (pv 0) (pa_cons (pe_bltn (v := .ty "bool") (u := .type "bool") (by rfl) T.b_bool (by decide +kernel) rfl) pa_nil)))))))), ?_⟩
    obtain ⟨x, rfl, hx, k⟩ := h
    rcases hx with ⟨i, rfl⟩ | ⟨b, rfl⟩ | ⟨hn, n, ht, hk⟩
    · exact ⟨_, rfl, _, _, _, _, true, rfl, .ty _, .base (.int i), kit_ty (by decide +kernel), true, rfl, iteT ⟨_, rfl, _, _, _, _, false, rfl, .ty _, .base (.int i), kit_ty (by decide +kernel), false, rfl, k⟩⟩
    · exact ⟨_, rfl, _, _, _, _, true, rfl, .ty _, .base (.bl b), kit_ty (by decide +kernel), true, rfl, iteT ⟨_, rfl, _, _, _, _, true, rfl, .ty _, .base (.bl b), kit_ty (by decide +kernel), true, rfl, k⟩⟩
    · rw [hn] at k
      exact ⟨_, rfl, _, _, _, _, false, rfl, .ty _, ht, kit_ty hk, false, rfl, iteF k⟩
def isHandB (x : V) (m : Int) : Bool := match x with
  | .int h => decide (0 ≤ h) && decide (h < m)
  | _ => false
def spIsHand (K : PySem.W.Frag) : Sp := fun vs H Q _ => ∃ x m, vs = [x, .int m] ∧ Thg K H x ∧ Q (.bl (isHandB x m)) H
theorem sc_is_hand : FnScope ["thing", "many"] ["thing", "many"] (defScope s_is_hand) := ⟨rfl, rfl, rfl, by decide +kernel, rfl, by decide +kernel, by decide +kernel⟩
set_option maxRecDepth 100000 in
theorem ok_is_hand (T : Txt K mg) : OkF P w K mg base CX0 2 (He.ga K "is_hand") ["thing", "many"] (spIsHand K) := by
  obtain ⟨fd, F⟩ := T.F_is_hand
  obtain ⟨fd_is_whole, G_is_whole⟩ := ok_is_whole (P := P) (w := w) (base := base) T
  refine ⟨fd, F.ok sc_is_hand (fun vs H Q E h => ?_) (fun cdv A outer s H vs Q E hr h => ?_), F.bindsN fun _ _ _ _ _ _ us hl => match us, hl with | [_, _], _ => rfl, F.kp⟩
  · obtain ⟨_, _, rfl, _⟩ := h
    rfl
  · refine ⟨_, PSs.nox (pss_one (ps_ret (pe_and (pe_call G_is_whole.1 (hr.mono (by decide)) rfl T.g_is_whole G_is_whole.2.2 G_is_whole.2.1 .nil pass0 (pa_cons (pv 0) pa_nil)) (pe_and (pe_cmpR op_ge (pv 0) pe_int (nomark _)) (pe_one (pe_cmpR op_lt (pv 0) (pv 1) (nomark _))))))), ?_⟩
    obtain ⟨x, m, rfl, hx, k⟩ := h
    refine ⟨_, rfl, _, rfl, hx, ?_⟩
    cases x with
    | int h =>
      refine ⟨true, rfl, iteT ⟨_, rfl, _, _, rfl, rfl, decide (0 ≤ h), rfl, ?_⟩⟩
      by_cases h0 : 0 ≤ h
      · rw [decide_eq_true h0]
        refine iteT ⟨_, rfl, _, rfl, _, _, rfl, rfl, ?_⟩
        have e : isHandB (.int h) m = decide (h < m) := by show (decide (0 ≤ h) && decide (h < m)) = _; rw [decide_eq_true h0]; rfl
        rw [e] at k
        exact k
      · rw [decide_eq_false h0]
        have e : isHandB (.int h) m = false := by show (decide (0 ≤ h) && decide (h < m)) = _; rw [decide_eq_false h0]; rfl
        rw [e] at k
        exact iteF k
    | _ => exact ⟨false, rfl, iteF k⟩
def isListGo (m : Int) : Int → List V → Bool
  | _, [] => true
  | b, x :: r => match x with
    | .int h => if 0 ≤ h ∧ h < m ∧ b < h then isListGo m h r else false
    | _ => false
def isListB (xs : List V) (m : Int) : Bool := !xs.isEmpty && isListGo m (-1) xs
theorem take_succ_of {α : Type} {xs : List α} {i : Nat} {x : α} (h : xs[i]? = some x) : xs.take (i + 1) = xs.take i ++ [x] := by
  rw [List.take_add_one, h]
  rfl
def spIsList (K : PySem.W.Frag) : Sp := fun vs H Q _ => ∃ x m, vs = [x, .int m] ∧
  ((∃ a xs, x = .ref a ∧ H a = some (.lst xs) ∧ (∀ y ∈ xs, Thg K H y) ∧ Q (.bl (isListB xs m)) H) ∨ (∃ n, TyX K H x (.type n) ∧ kitB n "list" = some false ∧ Q (.bl false) H))
theorem drop_cons {α : Type} {xs : List α} {i : Nat} {x : α} (h : xs[i]? = some x) : xs.drop i = x :: xs.drop (i + 1) := by
  obtain ⟨hi, e⟩ := List.getElem?_eq_some_iff.mp h
  rw [List.drop_eq_getElem_cons hi, e]
theorem sc_is_list : FnScope ["thing", "many", "before", "hand"] ["thing", "many"] (defScope s_is_list) := ⟨rfl, rfl, rfl, by decide +kernel, rfl, by decide +kernel, by decide +kernel⟩
set_option maxRecDepth 100000 in
theorem ok_is_list (T : Txt K mg) : OkF P w K mg base CX0 3 (He.ga K "is_list") ["thing", "many"] (spIsList K) := by
  obtain ⟨fd, F⟩ := T.F_is_list
  obtain ⟨fd_is_whole, G_is_whole⟩ := ok_is_whole (P := P) (w := w) (base := base) T
  obtain ⟨fd_is_hand, G_is_hand⟩ := ok_is_hand (P := P) (w := w) (base := base) T
  refine ⟨fd, F.ok sc_is_list (fun vs H Q E h => ?_) (fun cdv A outer s H vs Q E hr h => ?_), F.bindsN fun _ _ _ _ _ _ us hl => match us, hl with | [_, _], _ => rfl, F.kp⟩
  · obtain ⟨_, _, rfl, _⟩ := h
    rfl
  · refine ⟨_, PSs.nox (pss_cons (ps_if (PW.pt (pw_or (pt_not (pt_val (pe_call G_is_whole.1 (hr.mono (by decide)) rfl T.g_is_whole G_is_whole.2.2 G_is_whole.2.1 .nil pass0 (pa_cons (pv 1) pa_nil)))) (pw_or (pt_not (pt_val (pe_callB call_isi (by rfl) T.b_isinstance (by decide +kernel) (pa_cons (pv 0) (pa_cons (pe_bltn (v := .ty "list") (u := .type "list") (by rfl) T.b_list (by decide +kernel) rfl) pa_nil))))) (pw_or1 (pt_cmpR op_eq (pe_callB call_len_seq (by rfl) T.b_len PySem.boot_len (pa_cons (pv 0) pa_nil)) pe_int (nomark _)))))) (pss_one (ps_ret pe_bl)) pss_nil) (pss_cons (ps_set (i := 2) sc_is_list.nd rfl (Or.inl rfl) (pe_un un_neg pe_int)) (pss_cons (ps_for PassesOwn.never rfl (pi_list (pv 0)) (pg_name (i := 3) sc_is_list.nd rfl (Or.inl rfl)) (pss_cons (ps_if (PW.pt (pw_or (pt_not (pt_val (pe_call G_is_hand.1 (hr.mono (by decide)) rfl T.g_is_hand G_is_hand.2.2 G_is_hand.2.1 .nil pass0 (pa_cons (pv 3) (pa_cons (pv 1) pa_nil))))) (pw_or1 (pt_cmpR op_le (pv 3) (pv 2) (nomark _))))) (pss_one (ps_ret pe_bl)) pss_nil) (pss_one (ps_set (i := 2) sc_is_list.nd rfl (Or.inl rfl) (pv 3))))) (pss_one (ps_ret pe_bl))))), ?_⟩
    obtain ⟨x, m, rfl, h⟩ := h
    refine ⟨_, rfl, .int m, rfl, thg_int, true, rfl, iteF ?_⟩
    rcases h with ⟨a, xs, rfl, hL, ht, k⟩ | ⟨n, ht, hn, k⟩
    · refine ⟨_, rfl, _, _, _, _, true, rfl, .ty _, .base (.lst hL), kit_ty (by decide +kernel), true, rfl, iteF ?_⟩
      refine ⟨_, rfl, _, xs, rfl, .inl (SqL.of hL), rfl, _, rfl, ?_⟩
      cases xs with
      | nil => exact iteT k
      | cons y ys =>
        have e0 : decide (V.int (((y :: ys).length : Nat) : Int) = V.int 0) = false := decide_eq_false (fun q => by
          have q1 := V.int.inj q
          simp at q1
          omega)
        rw [e0]
        refine iteF ⟨_, rfl, ⟨_, rfl, a, rfl, ⟨_, SqL.of hL⟩, for_list (xs := y :: ys) (fun i σ H' => H' = H ∧ ∃ b hv, σ = [some (.ref a), some (.int m), some (.int b), hv] ∧ isListGo m (-1) (y :: ys) = isListGo m b ((y :: ys).drop i))
          ⟨rfl, -1, none, rfl, rfl⟩ (fun i σ H' _ p => by rw [p.1]; exact SqL.of hL) ?_ ?_⟩⟩
        · rintro i z σ H' hz ⟨rfl, b, hv, rfl, e⟩
          have hzt := ht z (List.mem_of_getElem? hz)
          refine ⟨_, rfl, _, rfl, z, m, rfl, hzt, _, rfl, ?_⟩
          rw [drop_cons hz] at e
          have no : isHandB z m = false → isListGo m (-1) (y :: ys) = false := fun q => by
            rw [e]
            cases z with
            | int h =>
              have q1 : (decide (0 ≤ h) && decide (h < m)) = false := q
              show (if 0 ≤ h ∧ h < m ∧ b < h then _ else false) = false
              rw [if_neg]
              rintro ⟨q2, q3, _⟩
              rw [decide_eq_true q2, decide_eq_true q3] at q1
              cases q1
            | _ => rfl
          cases hb : isHandB z m with
          | false =>
            refine iteT (iteT ?_)
            have e1 : isListB (y :: ys) m = false := by show (true && _) = false; rw [no hb]; rfl
            rw [e1] at k
            exact k
          | true =>
            refine iteF ?_
            cases z with
            | int h =>
              have q1 : (decide (0 ≤ h) && decide (h < m)) = true := hb
              have q2 := Bool.and_eq_true_iff.mp q1
              have q3 := of_decide_eq_true q2.1
              have q4 := of_decide_eq_true q2.2
              refine ⟨_, rfl, _, rfl, _, _, rfl, rfl, _, rfl, ?_⟩
              by_cases hle : h ≤ b
              · rw [decide_eq_true hle]
                refine iteT ?_
                have e1 : isListB (y :: ys) m = false := by
                  show (true && _) = false
                  rw [e]
                  show (true && (if 0 ≤ h ∧ h < m ∧ b < h then _ else false)) = false
                  rw [if_neg (by omega)]
                  rfl
                rw [e1] at k
                exact k
              · rw [decide_eq_false hle]
                refine iteF ⟨_, rfl, rfl, h, _, rfl, ?_⟩
                rw [e]
                show (if 0 ≤ h ∧ h < m ∧ b < h then _ else false) = _
                rw [if_pos ⟨q3, q4, by omega⟩]
            | _ => cases hb
        · rintro σ H' ⟨rfl, b, hv, rfl, e⟩
          have e1 : isListB (y :: ys) m = true := by
            show (true && _) = true
            rw [e, List.drop_length]
            rfl
          rw [e1] at k
          exact k
    · refine ⟨_, rfl, _, _, _, _, false, rfl, .ty _, ht, kit_ty hn, false, rfl, iteT (iteT k)⟩
def spEnough (K : PySem.W.Frag) : Sp := fun vs H Q _ => ∃ a xs, vs = [.ref a] ∧ SqL K H a xs ∧ Q (.int ((xs.length : Int) / 2 + 1)) H
/-- the first of the longest rows -/
def longV {α : Type} : List α → List (List α) → List α
  | b, [] => b
  | b, r :: rs => longV (if r.length > b.length then r else b) rs
def spLongest (K : PySem.W.Frag) : Sp := fun vs H Q _ => ∃ (a : Addr) (rs : List Addr) (xss : List (List V)), vs = [.ref a] ∧ SqL K H a (rs.map V.ref) ∧ Paired (fun r xs => SqL K H r xs) rs xss ∧
  ∀ p H', H p = none → (∀ b o, H b = some o → H' b = some o) → H' p = some (.lst (longV [] xss)) → Q (.ref p) H'
theorem paired_get {α β : Type} {R : α → β → Prop} : ∀ {xs : List α} {ys : List β} {i : Nat} {x : α}, Paired R xs ys → xs[i]? = some x → ∃ y, ys[i]? = some y ∧ R x y
  | _, _, _, _, .nil, e => by simp at e
  | _, _, 0, _, .cons r _, e => by simp at e; subst e; exact ⟨_, rfl, r⟩
  | _, _, i + 1, x, .cons _ t, e => by
    obtain ⟨u, h1, h2⟩ := paired_get (i := i) (x := x) t (by simpa using e)
    exact ⟨u, by simpa using h1, h2⟩
theorem paired_len {α β : Type} {R : α → β → Prop} : ∀ {xs : List α} {ys : List β}, Paired R xs ys → xs.length = ys.length
  | _, _, .nil => rfl
  | _, _, .cons _ t => by simp [paired_len t]
theorem upd_ext {H : Hp} {p : Addr} {o : HO} (h : H p = none) : ∀ b u, H b = some u → upd H p o b = some u := fun b u e => by
  rw [upd_ne (ne_of_none e h)]
  exact e
theorem ext_sql {K : PySem.W.Frag} {H H' : Hp} {a : Addr} {xs : List V} (e : ∀ b o, H b = some o → H' b = some o) (h : SqL K H a xs) : SqL K H' a xs := Same.seq e h

end
end Fo
namespace Fo
open PySem PySem.Spec PyProof.Rows L2
section
variable {P : Program} {w : World} {K : PySem.W.Frag} {mg : Str → Option Value} {base : Heap}
def Sd (d : PyData) : Prop := d.canLay0 = true ∧ d.depth ≤ 8
def SdAll (ds : List PyData) : Prop := PyData.canLayAll0 ds = true ∧ PyData.depthAll ds ≤ 8
theorem shaped_of {d : PyData} (h : d.canLay0 = true) (h2 : d.depth ≤ 64) : SeqAt.shaped d = true := by
  show (d.canLay0 && decide (d.depth ≤ 64)) = true
  rw [h, decide_eq_true h2]
  rfl
theorem shaped_list {ds : List PyData} (h : SdAll ds) : SeqAt.shaped (.list ds) = true := shaped_of (by simpa [PyData.canLay0] using h.1) (by simp only [PyData.depth]; have := h.2; omega)
theorem Sd.shaped {d : PyData} (h : Sd d) : SeqAt.shaped d = true := shaped_of h.1 (by have := h.2; omega)
theorem sdAll_nil : SdAll [] := ⟨by simp [PyData.canLayAll0], by simp [PyData.depthAll]⟩
theorem sdAll_cons {d : PyData} {ds : List PyData} (h : Sd d) (hs : SdAll ds) : SdAll (d :: ds) := ⟨by simp [PyData.canLayAll0, h.1, hs.1], by simp only [PyData.depthAll]; have := h.2; have := hs.2; omega⟩
theorem sd_int (i : Int) : Sd (.int i) := ⟨by simp [PyData.canLay0], by simp [PyData.depth]⟩
theorem dpAll_ints {K : PySem.W.Frag} {H : Hp} : ∀ ns : List Int, DpAll K H (ns.map V.int) (ns.map PyData.int)
  | [] => .nil
  | n :: ns => .cons (.int n) (dpAll_ints ns)
theorem sdAll_ints : ∀ ns : List Int, SdAll (ns.map PyData.int)
  | [] => sdAll_nil
  | n :: ns => sdAll_cons (sd_int n) (sdAll_ints ns)
theorem dpAll_app {K : PySem.W.Frag} {H : Hp} : ∀ {xs ys : List V} {ds es : List PyData}, DpAll K H xs ds → DpAll K H ys es → DpAll K H (xs ++ ys) (ds ++ es)
  | _, _, _, _, .nil, h => h
  | _, _, _, _, .cons a b, h => .cons a (dpAll_app b h)
theorem sdAll_app : ∀ {ds es : List PyData}, SdAll ds → SdAll es → SdAll (ds ++ es)
  | [], _, _, h => h
  | d :: ds, es, h, h2 => by
    have h1 : Sd d := ⟨by have := h.1; simp [PyData.canLayAll0] at this; exact this.1, by have := h.2; simp only [PyData.depthAll] at this; omega⟩
    have h3 : SdAll ds := ⟨by have := h.1; simp [PyData.canLayAll0] at this; exact this.2, by have := h.2; simp only [PyData.depthAll] at this; omega⟩
    exact sdAll_cons h1 (sdAll_app h3 h2)
mutual
theorem dp_same {K : PySem.W.Frag} {H H' : Hp} (e : Same H H') : ∀ {v : V} {d : PyData}, Dp K H v d → Dp K H' v d
  | _, _, .non => .non
  | _, _, .bl b => .bl b
  | _, _, .int i => .int i
  | _, _, .str x => .str x
  | _, _, .lst h a => .lst (e.seq h) (dpAll_same e a)
  | _, _, .tup h a => .tup (by
      rcases h with (h | ⟨o, h⟩) | h
      · exact .inl (.inl (e _ _ h))
      · exact .inl (.inr ⟨o, e _ _ h⟩)
      · exact .inr h) (dpAll_same e a)
theorem dpAll_same {K : PySem.W.Frag} {H H' : Hp} (e : Same H H') : ∀ {vs : List V} {ds : List PyData}, DpAll K H vs ds → DpAll K H' vs ds
  | _, _, .nil => .nil
  | _, _, .cons a b => .cons (dp_same e a) (dpAll_same e b)
end
theorem _root_.L2.Dp.same {K : PySem.W.Frag} {H H' : Hp} {v : V} {d : PyData} (h : Dp K H v d) (e : Same H H') : Dp K H' v d := dp_same e h
theorem tyx_same {K : PySem.W.Frag} {H H' : Hp} (e : Same H H') {x : V} {t : Value} (h : TyX K H x t) : TyX K H' x t := by
  cases h with
  | base b =>
    refine .base ?_
    cases b with
    | non => exact .non
    | bl y => exact .bl y
    | int i => exact .int i
    | str y => exact .str y
    | flt y => exact .flt y
    | lst h => exact .lst (e _ _ h)
    | frz h => exact .frz (e _ _ h)
    | tup h => exact .tup (e _ _ h)
    | dK h => exact .dK (e _ _ h)
    | dT h => exact .dT (e _ _ h)
    | ins h a b c d f => exact .ins (e _ _ h) a b c d f
  | byt b => exact .byt b
  | set h => exact .set (e _ _ h)
  | kList h c => exact .kList h c
  | kTuple h c => exact .kTuple h c
  | kDict h c => exact .kDict h c
  | fTuple h => exact .fTuple (e _ _ h)
  | fDict h => exact .fDict (e _ _ h)
theorem thg_same {K : PySem.W.Frag} {H H' : Hp} (e : Same H H') {x : V} (h : Thg K H x) : Thg K H' x := by
  rcases h with h | h | ⟨h, n, t, k⟩
  · exact .inl h
  · exact .inr (.inl h)
  · refine .inr (.inr ⟨h, n, ?_, k⟩)
    exact tyx_same e t

theorem same_upd {H : Hp} {p : Addr} {o : HO} (h : H p = none) : Same H (upd H p o) := upd_ext h
theorem none_of {H H' : Hp} (e : Same H H') {p : Addr} (h : H' p = none) : H p = none := e.free h

end
end Fo
namespace Fo
open PySem PySem.Spec PyProof.Rows L2
section
variable {P : Program} {w : World} {K : PySem.W.Frag} {mg : Str → Option Value} {base : Heap}
/-! ### the program told once more, over plain data -/
structure Msg where
  hand : Int
  cnt : Int
  word : Str
deriving DecidableEq
abbrev Bal := Int × Int
structure Agr where
  bal : Bal
  mem : List Int
  row : List Msg
structure News where
  num : Int
  mem : List Int
  row : List Msg
  wit : List Int
inductive Told where
  | wish (m : Msg) | hold (m : Msg) (pl : Nat) | have_ (n : Nat) | take (n : Nat)
  | prepare (b : Bal) | promise (b : Bal) (row : List Msg) (a : Option Agr) | accept (a : Agr) | agree (b : Bal) | enter (n : News)
structure Ltr where
  snd : Int
  to : Nat
  num : Int
  told : Told
structure Off where
  bal : Bal
  mem : List Int
  proms : List (Int × List Msg × Option Agr)
  fwd : Option (List Int × List Msg)
  ags : List Int
structure Seat where
  num : Int
  mem : List Int
  news : Option News
  row : List Msg
  took : Nat
  hold : List (Int × Nat)
  bal : Bal
  agr : Option Agr
  off : Option Off
structure Hnd where
  up : Bool
  said : Nat
  high : Int
  past : List (Int × List Int × List Msg)
  seat : Option Seat
structure Flk where
  hands : List Hnd
  post : List Ltr
def Told.kind : Told → Str
  | .wish _ => "wish" | .hold _ _ => "hold" | .have_ _ => "have" | .take _ => "take" | .prepare _ => "prepare" | .promise _ _ _ => "promise" | .accept _ => "accept" | .agree _ => "agree" | .enter _ => "enter"
/-- ballots in their order -/
def Bal.lt (a b : Bal) : Bool := if a.1 = b.1 then decide (a.2 < b.2) else decide (a.1 < b.1)
def noBal : Bal := (0, -1)
def enoughN (n : Nat) : Nat := n / 2 + 1
def Seat.fresh (num : Int) (mem : List Int) (news : Option News) : Seat := ⟨num, mem, news, [], 0, mem.map fun h => (h, 0), noBal, none, none⟩
def Seat.lead (s : Seat) : Int := s.mem.headD 0
def Seat.still (s : Seat) : Bool := decide (s.bal ≠ noBal)
def Seat.others (s : Seat) (i : Nat) : List Int := s.mem.filter fun h => decide (h ≠ (i : Int))
def mail (i : Nat) (s : Seat) (hs : List Int) (t : Told) : List Ltr := hs.map fun h => ⟨i, h.toNat, s.num, t⟩
/-- the value of a key, a key set -/
def putA {α : Type} (k : Int) (v : α) (l : List (Int × α)) : List (Int × α) :=
  if (l.any fun p => decide (p.1 = k)) = true then l.map fun p => if p.1 = k then (p.1, v) else p else l ++ [(k, v)]
def getA {α : Type} (k : Int) (d : α) (l : List (Int × α)) : α := ((l.find? fun p => decide (p.1 = k)).map (·.2)).getD d
/-- insertion, falling and rising -/
def insD (x : Nat) : List Nat → List Nat
  | [] => [x]
  | y :: r => if y ≤ x then x :: y :: r else y :: insD x r
def sortD : List Nat → List Nat
  | [] => []
  | x :: r => insD x (sortD r)
def insA (x : Int) : List Int → List Int
  | [] => [x]
  | y :: r => if x ≤ y then x :: y :: r else y :: insA x r
def sortA : List Int → List Int
  | [] => []
  | x :: r => insA x (sortA r)
def Seat.note (s : Seat) (k : Int) (n : Nat) : Seat := { s with hold := putA k n s.hold }
def Seat.most (s : Seat) : Nat := (sortD (s.hold.map (·.2))).getD (enoughN s.mem.length - 1) 0
/-- the first hand takes what enough hands hold -/
def Seat.tweh (s : Seat) (i : Nat) : Seat × List Ltr :=
  let s1 := s.note i s.row.length
  if s1.most > s1.took then ({ s1 with took := s1.most }, mail i s (s.others i) (.take s1.most)) else (s1, [])
def Seat.wish (s : Seat) (i : Nat) (m : Msg) : Seat × List Ltr :=
  if s.still = true ∨ m ∈ s.row then (s, []) else
    let r := ({ s with row := s.row ++ [m] } : Seat).tweh i
    (r.1, mail i s (s.others i) (.hold m s.row.length) ++ r.2)
def Seat.holdC (s : Seat) (i : Nat) (snd : Int) (m : Msg) (pl : Nat) : Seat × List Ltr :=
  if s.still = true ∨ s.row.length < pl then (s, []) else
    let s1 := if pl = s.row.length then { s with row := s.row ++ [m] } else s
    (s1, [⟨i, snd.toNat, s.num, .have_ s1.row.length⟩])
def Seat.haveC (s : Seat) (i : Nat) (snd : Int) (n : Nat) : Seat × List Ltr := (s.note snd (max (getA snd 0 s.hold) n)).tweh i
def Seat.takeC (s : Seat) (n : Nat) : Seat := { s with took := max s.took (min n s.row.length) }
def Seat.prepC (s : Seat) (i : Nat) (snd : Int) (b : Bal) : Seat × List Ltr :=
  if Bal.lt s.bal b = true then ({ s with bal := b }, [⟨i, snd.toNat, s.num, .promise b s.row s.agr⟩]) else (s, [])
/-- what was agreed to by the greatest ballot among the promises -/
def bstep (b a : Option Agr) : Option Agr := match a, b with
  | some a, none => some a
  | some a, some b => if Bal.lt b.bal a.bal = true then some a else some b
  | none, b => b
def bestA : Option Agr → List (Int × List Msg × Option Agr) → Option Agr
  | b, [] => b
  | b, (_, _, a) :: r => bestA (bstep b a) r
def Off.forward (o : Off) : List Int × List Msg := match bestA none o.proms with
  | some a => (a.mem, a.row)
  | none => (o.mem, longV [] (o.proms.map fun p => p.2.1))
def Seat.promC (s : Seat) (i : Nat) (snd : Int) (b : Bal) (row : List Msg) (a : Option Agr) : Seat × List Ltr := match s.off with
  | none => (s, [])
  | some o => if o.bal ≠ b ∨ snd ∈ o.proms.map (·.1) then (s, []) else
    let o1 := { o with proms := o.proms ++ [(snd, row, a)] }
    if o1.proms.length = enoughN s.mem.length then ({ s with off := some { o1 with fwd := some o1.forward } }, mail i s s.mem (.accept ⟨b, o1.forward.1, o1.forward.2⟩))
    else ({ s with off := some o1 }, [])
def Seat.accC (s : Seat) (i : Nat) (snd : Int) (a : Agr) : Seat × List Ltr :=
  if Bal.lt a.bal s.bal = true then (s, []) else ({ s with bal := a.bal, agr := some a }, [⟨i, snd.toNat, s.num, .agree a.bal⟩])
/-- all hands of two lists, rising, each once -/
def bothOf (a b : List Int) : List Int := sortA (a ++ b.filter fun h => decide (h ∉ a))
def Seat.agrC (s : Seat) (i : Nat) (snd : Int) (b : Bal) : Seat × List Ltr := match s.off with
  | none => (s, [])
  | some o => if o.bal ≠ b ∨ snd ∈ o.ags then (s, []) else
    let o1 := { o with ags := o.ags ++ [snd] }
    if o1.ags.length = enoughN s.mem.length then
      let f := o1.fwd.getD ([], [])
      ({ s with off := some o1 }, mail i s (bothOf s.mem f.1) (.enter ⟨s.num + 1, f.1, f.2, sortA o1.ags⟩))
    else ({ s with off := some o1 }, [])
def Hnd.join (h : Hnd) (i : Nat) (n : News) : Hnd := if (i : Int) ∈ n.mem ∧ h.high < n.num then { h with seat := some (Seat.fresh n.num n.mem (some n)), high := n.num } else h
def Hnd.enterC (h : Hnd) (i : Nat) (n : News) : Hnd := match h.seat with
  | some s => if s.num ≠ n.num - 1 then h else ({ h with past := h.past ++ [(s.num, s.mem, n.row)], seat := none } : Hnd).join i n
  | none => h.join i n
def Seat.read (s : Seat) (i : Nat) (l : Ltr) : Seat × List Ltr := match l.told with
  | .wish m => s.wish i m
  | .hold m pl => s.holdC i l.snd m pl
  | .have_ n => s.haveC i l.snd n
  | .take n => (s.takeC n, [])
  | .prepare b => s.prepC i l.snd b
  | .promise b row a => s.promC i l.snd b row a
  | .accept a => s.accC i l.snd a
  | .agree b => s.agrC i l.snd b
  | .enter _ => (s, [])
def Hnd.over (h : Hnd) (i : Nat) (l : Ltr) : Hnd × List Ltr :=
  if h.up = false then (h, []) else match l.told with
    | .enter n => (h.enterC i n, [])
    | _ => match h.seat with
      | none => (h, [])
      | some s => if s.num = l.num then ({ h with seat := some (s.read i l).1 }, (s.read i l).2) else (h, [])
def Hnd.new : Hnd := ⟨true, 0, -1, [], none⟩
def Flk.new (many : Nat) (first : List Int) : Flk :=
  ⟨(List.range many).map fun (i : Nat) => if (i : Int) ∈ first then { Hnd.new with seat := some (Seat.fresh 0 first none), high := 0 } else Hnd.new, []⟩
def Flk.hand (f : Flk) (i : Nat) : Hnd := f.hands.getD i Hnd.new
def Flk.setHand (f : Flk) (i : Nat) (h : Hnd) : Flk := { f with hands := f.hands.set i h }
def Flk.come (f : Flk) (p : Nat) : Flk := match f.post[p]? with
  | none => f
  | some l => let r := (f.hand l.to).over l.to l
    ⟨f.hands.set l.to r.1, f.post.eraseIdx p ++ r.2⟩
def Flk.lose (f : Flk) (p : Nat) : Flk := { f with post := f.post.eraseIdx p }
def Flk.double (f : Flk) (p : Nat) : Flk := match f.post[p]? with
  | none => f
  | some l => { f with post := f.post ++ [l] }
def Flk.calm : Nat → Flk → Flk
  | 0, f => f
  | n + 1, f => if f.post = [] then f else Flk.calm n (f.come 0)
/-- deeds of a hand that may do them -/
def Hnd.say (h : Hnd) (i : Nat) (s : Seat) (word : Str) : Hnd × List Ltr := ({ h with said := h.said + 1 }, [⟨i, s.lead.toNat, s.num, .wish ⟨i, h.said, word⟩⟩])
def pressGo (i : Nat) (s : Seat) : Nat → List Msg → List Ltr
  | _, [] => []
  | p, m :: r => mail i s (s.others i) (.hold m p) ++ pressGo i s (p + 1) r
def Seat.press (s : Seat) (i : Nat) : List Ltr := pressGo i s 0 s.row ++ mail i s (s.others i) (.take s.took)
def Seat.propose (s : Seat) (i : Nat) (ms : List Int) : Seat × List Ltr :=
  let last := match s.off with | some o => max s.bal.1 o.bal.1 | none => s.bal.1
  ({ s with off := some ⟨(last + 1, i), ms, [], none, []⟩ }, mail i s s.mem (.prepare (last + 1, i)))

end
end Fo
namespace Fo
open PySem PySem.Spec PyProof.Rows L2
section
variable {P : Program} {w : World} {K : PySem.W.Frag} {mg : Str → Option Value} {base : Heap}
/-! ### ghosts: D what never changes any more, own what the folk may change -/
inductive Tag where
  | folk | post | hand (i : Nat) | past (i : Nat) | seat (i : Nat) | row (i : Nat) | hold (i : Nat) | off (i : Nat) | proms (i : Nat) | ags (i : Nat)
deriving DecidableEq
structure Gh where
  D : Hp
  own : Addr → Option Tag
structure Ok (g : Gh) (H : Hp) : Prop where
  sub : Same g.D H
  sep : ∀ a t, g.own a = some t → g.D a = none
  liv : ∀ a t, g.own a = some t → H a ≠ none
/-- from g, H to g', H': only what T names has changed, and what is new -/
structure Go (T : Tag → Prop) (g : Gh) (H : Hp) (g' : Gh) (H' : Hp) : Prop where
  ok : Ok g' H'
  D : Same g.D g'.D
  Dn : ∀ a o, g'.D a = some o → g.D a = some o ∨ H a = none
  own : ∀ a t, g.own a = some t → g'.own a = some t
  ownN : ∀ a t, g'.own a = some t → g.own a = some t ∨ (H a = none ∧ T t)
  fr : ∀ a o, H a = some o → (∀ t, g.own a = some t → ¬ T t) → H' a = some o
theorem Go.dom {T : Tag → Prop} {g g' : Gh} {H H' : Hp} (e : Go T g H g' H') {a : Addr} (h : H' a = none) : H a = none := by
  cases q : H a with
  | none => rfl
  | some o =>
    exfalso
    cases w : g.own a with
    | none =>
      have := e.fr a o q (fun t z => by rw [w] at z; cases z)
      rw [this] at h
      cases h
    | some t => exact e.ok.liv a t (e.own a t w) h
theorem Go.refl {T : Tag → Prop} {g : Gh} {H : Hp} (o : Ok g H) : Go T g H g H := ⟨o, Same.refl _, fun _ _ h => .inl h, fun _ _ h => h, fun _ _ h => .inl h, fun _ _ h _ => h⟩
theorem Go.trans {T : Tag → Prop} {g g1 g2 : Gh} {H H1 H2 : Hp} (a : Go T g H g1 H1) (b : Go T g1 H1 g2 H2) : Go T g H g2 H2 where
  ok := b.ok
  D := a.D.trans b.D
  Dn := fun x o h => by
    rcases b.Dn x o h with h | h
    · exact a.Dn x o h
    · exact .inr (a.dom h)
  own := fun x t h => b.own x t (a.own x t h)
  ownN := fun x t h => by
    rcases b.ownN x t h with h | ⟨h, k⟩
    · exact a.ownN x t h
    · exact .inr ⟨a.dom h, k⟩
  fr := fun x o h n => by
    refine b.fr x o (a.fr x o h n) fun t q => ?_
    rcases a.ownN x t q with q | ⟨q, _⟩
    · exact n t q
    · rw [q] at h
      cases h
theorem Go.mono {T T' : Tag → Prop} {g g' : Gh} {H H' : Hp} (a : Go T g H g' H') (h : ∀ t, T t → T' t) : Go T' g H g' H' :=
  ⟨a.ok, a.D, a.Dn, a.own, fun x t q => (a.ownN x t q).imp id fun ⟨u, v⟩ => ⟨u, h t v⟩, fun x o q n => a.fr x o q fun t u v => n t u (h t v)⟩
/-- a thing of the caller's stays -/
theorem Go.keep {T : Tag → Prop} {g g' : Gh} {H H' : Hp} (e : Go T g H g' H') {a : Addr} {o : HO} (h : H a = some o) (n : g.own a = none) : H' a = some o := e.fr a o h fun t q => by rw [n] at q; cases q
theorem Go.free {T : Tag → Prop} {g g' : Gh} {H H' : Hp} (e : Go T g H g' H') {a : Addr} {o : HO} (h : H a = some o) (n : g.own a = none) : g'.own a = none := by
  cases q : g'.own a with
  | none => rfl
  | some t =>
    rcases e.ownN a t q with q | ⟨q, _⟩
    · rw [n] at q; cases q
    · rw [q] at h; cases h
theorem Go.notD {T : Tag → Prop} {g g' : Gh} {H H' : Hp} (e : Go T g H g' H') {a : Addr} {o : HO} (h : H a = some o) (n : g.D a = none) : g'.D a = none := by
  cases q : g'.D a with
  | none => rfl
  | some u =>
    rcases e.Dn a u q with q | q
    · rw [n] at q; cases q
    · rw [q] at h; cases h
/-- an owned object that T does not name stays -/
theorem Go.stay {T : Tag → Prop} {g g' : Gh} {H H' : Hp} (e : Go T g H g' H') {a : Addr} {o : HO} {t : Tag} (h : H a = some o) (n : g.own a = some t) (ht : ¬ T t) : H' a = some o := e.fr a o h fun u q => by rw [n] at q; cases q; exact ht
theorem Go.dstay {T : Tag → Prop} {g g' : Gh} {H H' : Hp} (o : Ok g H) (e : Go T g H g' H') {a : Addr} {u : HO} (h : g.D a = some u) : H' a = some u := e.ok.sub a u (e.D a u h)
/-- an object of T is changed -/
theorem Go.set {T : Tag → Prop} {g : Gh} {H : Hp} {p : Addr} {t : Tag} {o : HO} (k : Ok g H) (h : g.own p = some t) (ht : T t) : Go T g H g (upd H p o) where
  ok := ⟨fun a u q => by
      rw [upd_ne (fun e => by rw [e, k.sep p t h] at q; cases q)]
      exact k.sub a u q, k.sep, fun a u q => by
      by_cases e : a = p
      · rw [e, upd_same]; exact fun z => nomatch z
      · rw [upd_ne e]; exact k.liv a u q⟩
  D := Same.refl _
  Dn := fun _ _ q => .inl q
  own := fun _ _ q => q
  ownN := fun _ _ q => .inl q
  fr := fun a u q n => by
    rw [upd_ne (fun e => n t (by rw [e]; exact h) ht)]
    exact q
/-- a new object that never changes any more -/
def Gh.addD (g : Gh) (p : Addr) (o : HO) : Gh := ⟨upd g.D p o, g.own⟩
theorem Ok.dnone {g : Gh} {H : Hp} (k : Ok g H) {p : Addr} (h : H p = none) : g.D p = none := k.sub.free h
theorem Ok.onone {g : Gh} {H : Hp} (k : Ok g H) {p : Addr} (h : H p = none) : g.own p = none := by
  cases q : g.own p with
  | none => rfl
  | some t => exact absurd h (k.liv p t q)
theorem Go.newD {T : Tag → Prop} {g : Gh} {H : Hp} {p : Addr} {o : HO} (k : Ok g H) (h : H p = none) : Go T g H (g.addD p o) (upd H p o) where
  ok := ⟨fun a u q => by
      by_cases e : a = p
      · rw [e] at q ⊢
        have q2 : upd g.D p o p = some u := q
        rw [upd_same] at q2 ⊢
        exact q2
      · have q2 : upd g.D p o a = some u := q
        rw [upd_ne e] at q2 ⊢
        exact k.sub a u q2, fun a t q => by
      have e : a ≠ p := fun e => by rw [e] at q; have q2 : g.own p = some t := q; rw [k.onone h] at q2; cases q2
      show upd g.D p o a = none
      rw [upd_ne e]
      exact k.sep a t q, fun a t q => by
      by_cases e : a = p
      · rw [e, upd_same]; exact fun z => nomatch z
      · rw [upd_ne e]; exact k.liv a t q⟩
  D := same_upd (k.dnone h)
  Dn := fun a u q => by
    by_cases e : a = p
    · exact .inr (e ▸ h)
    · have q2 : upd g.D p o a = some u := q
      rw [upd_ne e] at q2
      exact .inl q2
  own := fun _ _ q => q
  ownN := fun _ _ q => .inl q
  fr := fun a u q _ => same_upd h a u q
/-- a new object of the folk's -/
def Gh.addO (g : Gh) (p : Addr) (t : Tag) : Gh := ⟨g.D, fun a => if a = p then some t else g.own a⟩
theorem addO_same {g : Gh} {p : Addr} {t : Tag} : (g.addO p t).own p = some t := if_pos rfl
theorem addO_ne {g : Gh} {p a : Addr} {t : Tag} (h : a ≠ p) : (g.addO p t).own a = g.own a := if_neg h
theorem Go.newO {T : Tag → Prop} {g : Gh} {H : Hp} {p : Addr} {t : Tag} {o : HO} (k : Ok g H) (h : H p = none) (ht : T t) : Go T g H (g.addO p t) (upd H p o) where
  ok := ⟨fun a u q => same_upd h a u (k.sub a u q), fun a u q => by
      by_cases e : a = p
      · rw [e]; exact k.dnone h
      · rw [addO_ne e] at q
        exact k.sep a u q, fun a u q => by
      by_cases e : a = p
      · rw [e, upd_same]; exact fun z => nomatch z
      · rw [addO_ne e] at q
        rw [upd_ne e]; exact k.liv a u q⟩
  D := Same.refl _
  Dn := fun _ _ q => .inl q
  own := fun a u q => by
    rw [addO_ne (fun e => by rw [e, k.onone h] at q; cases q)]
    exact q
  ownN := fun a u q => by
    by_cases e : a = p
    · rw [e, addO_same] at q
      cases q
      exact .inr ⟨e ▸ h, ht⟩
    · rw [addO_ne e] at q
      exact .inl q
  fr := fun a u q _ => same_upd h a u q
/-- a heap that grows by the caller's own things -/
theorem Go.ext {T : Tag → Prop} {g : Gh} {H H' : Hp} (k : Ok g H) (e : Same H H') : Go T g H g H' where
  ok := ⟨k.sub.trans e, k.sep, fun a t q z => k.liv a t q (e.free z)⟩
  D := Same.refl _
  Dn := fun _ _ q => .inl q
  own := fun _ _ q => q
  ownN := fun _ _ q => .inl q
  fr := fun a o q _ => e a o q
/-- the caller changes a thing of its own -/
theorem Ok.mine {g : Gh} {H : Hp} {a : Addr} {o : HO} (k : Ok g H) (hD : g.D a = none) (hO : g.own a = none) : Ok g (upd H a o) := ⟨fun b u q => by
    rw [upd_ne (fun e => by rw [e, hD] at q; cases q)]
    exact k.sub b u q, k.sep, fun b t q => by
    rw [upd_ne (fun e => by rw [e, hO] at q; cases q)]
    exact k.liv b t q⟩

/-! ### fields by their places -/
theorem zl {ks : List Str} (hn : ks.Nodup) : ∀ {vs : List V} {i : Nat} {k : Str} {v : V}, ks[i]? = some k → vs[i]? = some v → (ks.zip vs).lookup k = some v := by
  induction ks with
  | nil => intro vs i k v h; simp at h
  | cons x ks ih =>
    intro vs i k v h1 h2
    cases vs with
    | nil => simp at h2
    | cons y vs =>
      cases i with
      | zero =>
        simp at h1 h2
        subst h1 h2
        simp [List.lookup]
      | succ i =>
        have h3 : ks[i]? = some k := by simpa using h1
        have h4 : vs[i]? = some v := by simpa using h2
        have hx : (k == x) = false := beq_eq_false_iff_ne.mpr fun e => by
          subst e
          exact (List.nodup_cons.mp hn).1 (List.mem_of_getElem? h3)
        show List.lookup k ((x, y) :: ks.zip vs) = some v
        rw [List.lookup_cons, hx]
        exact ih (List.nodup_cons.mp hn).2 h3 h4
theorem zn {ks : List Str} {k : Str} (h : ks.contains k = false) : ∀ {vs : List V}, (ks.zip vs).lookup k = none := by
  induction ks with
  | nil => intro vs; rfl
  | cons x ks ih =>
    intro vs
    rw [List.contains_cons, Bool.or_eq_false_iff] at h
    cases vs with
    | nil => rfl
    | cons y vs =>
      show List.lookup k ((x, y) :: ks.zip vs) = none
      rw [List.lookup_cons, h.1]
      exact ih h.2
theorem zp {ks : List Str} (hn : ks.Nodup) : ∀ {vs : List V} {i : Nat} {k : Str} {v : V}, ks[i]? = some k → i < vs.length → putF k v (ks.zip vs) = ks.zip (vs.set i v) := by
  induction ks with
  | nil => intro vs i k v h; simp at h
  | cons x ks ih =>
    intro vs i k v h1 h2
    cases vs with
    | nil => simp at h2
    | cons y vs =>
      cases i with
      | zero =>
        simp at h1
        subst h1
        show (if x = x then _ else _) = _
        rw [if_pos rfl]
        rfl
      | succ i =>
        have h3 : ks[i]? = some k := by simpa using h1
        have h4 : i < vs.length := by simpa using h2
        show (if x = k then _ else (x, y) :: putF k v (ks.zip vs)) = _
        rw [if_neg fun e => by subst e; exact (List.nodup_cons.mp hn).1 (List.mem_of_getElem? h3), ih (List.nodup_cons.mp hn).2 h3 h4]
        rfl
/-- a field that is new -/
theorem zq {ks : List Str} (hn : ks.Nodup) : ∀ {vs : List V} {k : Str} {v : V}, ks[vs.length]? = some k → putF k v (ks.zip vs) = ks.zip (vs ++ [v]) := by
  induction ks with
  | nil => intro vs k v h; simp at h
  | cons x ks ih =>
    intro vs k v h1
    cases vs with
    | nil =>
      simp at h1
      subst h1
      simp [putF]
    | cons y vs =>
      have h3 : ks[vs.length]? = some k := by simpa using h1
      show (if x = k then _ else (x, y) :: putF k v (ks.zip vs)) = _
      rw [if_neg fun e => by subst e; exact (List.nodup_cons.mp hn).1 (List.mem_of_getElem? h3), ih (List.nodup_cons.mp hn).2 h3]
      rfl
theorem zlen {ks : List Str} {n : Nat} (h : ks.length < n := by decide) {vs : List V} : (ks.zip vs).length < n := by
  rw [List.length_zip]
  omega
def letK : List Str := ["kind", "sender", "to", "number", "told"]
def offK : List Str := ["ballot", "members", "promises", "forward", "agrees"]
def seatK : List Str := ["number", "members", "news", "row", "took", "holding", "ballot", "agreed", "offer"]
def handK : List Str := ["me", "post", "standing", "said", "highest", "behind", "seat"]
def folkK : List Str := ["many", "_post", "_hands"]
theorem letK_nd : letK.Nodup := by decide +kernel
theorem offK_nd : offK.Nodup := by decide +kernel
theorem seatK_nd : seatK.Nodup := by decide +kernel
theorem handK_nd : handK.Nodup := by decide +kernel
theorem folkK_nd : folkK.Nodup := by decide +kernel
/-! ### what stands for what -/
def rstr : V → Prop := fun _ => True
def msgV (D : Hp) (v : V) (m : Msg) : Prop := ∃ a, v = .ref a ∧ D a = some (.tup [.int m.hand, .int m.cnt, .str m.word])
def rowV' (D : Hp) (v : V) (r : List Msg) : Prop := ∃ a xs, v = .ref a ∧ D a = some (.lst xs) ∧ Paired (msgV D) xs r
def memV (D : Hp) (v : V) (ms : List Int) : Prop := ∃ a, v = .ref a ∧ D a = some (.lst (ms.map V.int))
def balV (K : PySem.W.Frag) (D : Hp) (v : V) (b : Bal) : Prop := ∃ a, v = .ref a ∧ SqT K D a [.int b.1, .int b.2]
def agrV (K : PySem.W.Frag) (D : Hp) (v : V) (a : Agr) : Prop := ∃ t bv mv rv, v = .ref t ∧ D t = some (.tup [bv, mv, rv]) ∧ balV K D bv a.bal ∧ memV D mv a.mem ∧ rowV' D rv a.row
def oagrV (K : PySem.W.Frag) (D : Hp) (v : V) : Option Agr → Prop
  | none => v = .non
  | some a => agrV K D v a
def newsV (D : Hp) (v : V) (n : News) : Prop := ∃ t mv rv wv, v = .ref t ∧ D t = some (.tup [.int n.num, mv, rv, wv]) ∧ memV D mv n.mem ∧ rowV' D rv n.row ∧ memV D wv n.wit
def onewsV (D : Hp) (v : V) : Option News → Prop
  | none => v = .non
  | some n => newsV D v n
def pastV (D : Hp) (v : V) (p : Int × List Int × List Msg) : Prop := ∃ t mv rv, v = .ref t ∧ D t = some (.tup [.int p.1, mv, rv]) ∧ memV D mv p.2.1 ∧ rowV' D rv p.2.2
def toldV (K : PySem.W.Frag) (D : Hp) (v : V) : Told → Prop
  | .wish m => msgV D v m
  | .hold m pl => ∃ t mv, v = .ref t ∧ D t = some (.tup [mv, .int pl]) ∧ msgV D mv m
  | .have_ n => v = .int n
  | .take n => v = .int n
  | .prepare b => balV K D v b
  | .promise b row a => ∃ t bv rv av, v = .ref t ∧ D t = some (.tup [bv, rv, av]) ∧ balV K D bv b ∧ rowV' D rv row ∧ oagrV K D av a
  | .accept a => agrV K D v a
  | .agree b => balV K D v b
  | .enter n => newsV D v n
def letV (K : PySem.W.Frag) (D : Hp) (a : Addr) (l : Ltr) : Prop := ∃ dx tv, D a = some (.ins (He.ga K "Letter") dx (letK.zip [.str l.told.kind, .int l.snd, .int l.to, .int l.num, tv])) ∧ toldV K D tv l.told
theorem same_sqT {K : PySem.W.Frag} {H H' : Hp} (e : Same H H') {a : Addr} {xs : List V} (h : SqT K H a xs) : SqT K H' a xs := by
  rcases h with (h | ⟨o, h⟩) | h
  · exact .inl (.inl (e _ _ h))
  · exact .inl (.inr ⟨o, e _ _ h⟩)
  · exact .inr h
theorem paired_imp {α β : Type} {R S : α → β → Prop} (h : ∀ a b, R a b → S a b) : ∀ {xs : List α} {ys : List β}, Paired R xs ys → Paired S xs ys
  | _, _, .nil => .nil
  | _, _, .cons a t => .cons (h _ _ a) (paired_imp h t)
theorem paired_app {α β : Type} {R : α → β → Prop} : ∀ {xs us : List α} {ys ws : List β}, Paired R xs ys → Paired R us ws → Paired R (xs ++ us) (ys ++ ws)
  | _, _, _, _, .nil, s => s
  | _, _, _, _, .cons r t, s => .cons r (paired_app t s)
section
variable {D D' : Hp} (e : Same D D')
include e
theorem msgV.up {v : V} {m : Msg} (h : msgV D v m) : msgV D' v m := by obtain ⟨a, rfl, h⟩ := h; exact ⟨a, rfl, e _ _ h⟩
theorem rowV'.up {v : V} {r : List Msg} (h : rowV' D v r) : rowV' D' v r := by obtain ⟨a, xs, rfl, h, p⟩ := h; exact ⟨a, xs, rfl, e _ _ h, paired_imp (fun _ _ => msgV.up e) p⟩
theorem memV.up {v : V} {r : List Int} (h : memV D v r) : memV D' v r := by obtain ⟨a, rfl, h⟩ := h; exact ⟨a, rfl, e _ _ h⟩
theorem balV.up {K : PySem.W.Frag} {v : V} {b : Bal} (h : balV K D v b) : balV K D' v b := by obtain ⟨a, rfl, h⟩ := h; exact ⟨a, rfl, same_sqT e h⟩
theorem agrV.up {K : PySem.W.Frag} {v : V} {a : Agr} (h : agrV K D v a) : agrV K D' v a := by obtain ⟨t, bv, mv, rv, rfl, h, p, q, r⟩ := h; exact ⟨t, bv, mv, rv, rfl, e _ _ h, p.up e, q.up e, r.up e⟩
theorem oagrV.up {K : PySem.W.Frag} {v : V} : ∀ {a : Option Agr}, oagrV K D v a → oagrV K D' v a
  | none, h => h
  | some _, h => agrV.up e h
theorem newsV.up {v : V} {n : News} (h : newsV D v n) : newsV D' v n := by obtain ⟨t, mv, rv, wv, rfl, h, p, q, r⟩ := h; exact ⟨t, mv, rv, wv, rfl, e _ _ h, p.up e, q.up e, r.up e⟩
theorem onewsV.up {v : V} : ∀ {n : Option News}, onewsV D v n → onewsV D' v n
  | none, h => h
  | some _, h => newsV.up e h
theorem pastV.up {v : V} {p : Int × List Int × List Msg} (h : pastV D v p) : pastV D' v p := by obtain ⟨t, mv, rv, rfl, h, p, q⟩ := h; exact ⟨t, mv, rv, rfl, e _ _ h, p.up e, q.up e⟩
theorem toldV.up {K : PySem.W.Frag} {v : V} : ∀ {t : Told}, toldV K D v t → toldV K D' v t
  | .wish _, h => msgV.up e h
  | .hold _ _, h => by obtain ⟨t, mv, rfl, h, p⟩ := h; exact ⟨t, mv, rfl, e _ _ h, p.up e⟩
  | .have_ _, h => h
  | .take _, h => h
  | .prepare _, h => balV.up e h
  | .promise _ _ _, h => by obtain ⟨t, bv, rv, av, rfl, h, p, q, r⟩ := h; exact ⟨t, bv, rv, av, rfl, e _ _ h, p.up e, q.up e, r.up e⟩
  | .accept _, h => agrV.up e h
  | .agree _, h => balV.up e h
  | .enter _, h => newsV.up e h
theorem letV.up {K : PySem.W.Frag} {a : Addr} {l : Ltr} (h : letV K D a l) : letV K D' a l := by obtain ⟨dx, tv, h, p⟩ := h; exact ⟨dx, tv, e _ _ h, p.up e⟩
end

end
end Fo
namespace Fo
open PySem PySem.Spec PyProof.Rows L2
section
variable {P : Program} {w : World} {K : PySem.W.Frag} {mg : Str → Option Value} {base : Heap}
def promV (K : PySem.W.Frag) (D : Hp) (v : V) (p : List Msg × Option Agr) : Prop := ∃ t rv av, v = .ref t ∧ D t = some (.tup [rv, av]) ∧ rowV' D rv p.1 ∧ oagrV K D av p.2
def fwdV (D : Hp) (v : V) : Option (List Int × List Msg) → Prop
  | none => v = .non
  | some p => ∃ t mv rv, v = .ref t ∧ D t = some (.tup [mv, rv]) ∧ memV D mv p.1 ∧ rowV' D rv p.2
theorem promV.up {K : PySem.W.Frag} {D D' : Hp} (e : Same D D') {v : V} {p : List Msg × Option Agr} (h : promV K D v p) : promV K D' v p := by obtain ⟨t, rv, av, rfl, h, p, q⟩ := h; exact ⟨t, rv, av, rfl, e _ _ h, p.up e, q.up e⟩
theorem fwdV.up {D D' : Hp} (e : Same D D') {v : V} : ∀ {p : Option (List Int × List Msg)}, fwdV D v p → fwdV D' v p
  | none, h => h
  | some _, h => by obtain ⟨t, mv, rv, rfl, h, p, q⟩ := h; exact ⟨t, mv, rv, rfl, e _ _ h, p.up e, q.up e⟩
def agsK (l : List Int) : List (Key × V) := l.map fun h => (Sum.inl h, V.bl true)
def holdK (l : List (Int × Nat)) : List (Key × V) := l.map fun p => (Sum.inl p.1, V.int p.2)
structure OL where
  dx : Addr
  bv : V
  mv : V
  pa : Addr
  fv : V
  ga : Addr
  pkv : List (Key × V)
/-- what the class says, carried by its instances -/
structure OffF (K : PySem.W.Frag) : Prop where
  cl : Cls K (He.ga K "Offer")
  ballot : NoAttr K (He.ga K "Offer") "ballot"
  members : NoAttr K (He.ga K "Offer") "members"
  promises : NoAttr K (He.ga K "Offer") "promises"
  forward : NoAttr K (He.ga K "Offer") "forward"
  agrees : NoAttr K (He.ga K "Offer") "agrees"
structure OffR (K : PySem.W.Frag) (g : Gh) (H : Hp) (oa : Addr) (i : Nat) (o : Off) (L : OL) : Prop where
  own : g.own oa = some (.off i)
  obj : H oa = some (.ins (He.ga K "Offer") L.dx (offK.zip [L.bv, L.mv, .ref L.pa, L.fv, .ref L.ga]))
  bal : balV K g.D L.bv o.bal
  mem : memV g.D L.mv o.mem
  pown : g.own L.pa = some (.proms i)
  pobj : H L.pa = some (.dK L.pkv)
  prom : Paired (fun (q : Key × V) (p : Int × List Msg × Option Agr) => q.1 = Sum.inl p.1 ∧ promV K g.D q.2 p.2) L.pkv o.proms
  fwd : fwdV g.D L.fv o.fwd
  gown : g.own L.ga = some (.ags i)
  gobj : H L.ga = some (.dK (agsK o.ags))
  fc : OffF K
def OffO (K : PySem.W.Frag) (g : Gh) (H : Hp) (v : V) (i : Nat) : Option Off → Prop
  | none => v = .non
  | some o => ∃ oa L, v = .ref oa ∧ OffR K g H oa i o L
theorem OffR.go {K : PySem.W.Frag} {T : Tag → Prop} {g g' : Gh} {H H' : Hp} (e : Go T g H g' H') {oa : Addr} {i : Nat} {o : Off} {L : OL} (h : OffR K g H oa i o L) (n1 : ¬ T (.off i)) (n2 : ¬ T (.proms i)) (n3 : ¬ T (.ags i)) : OffR K g' H' oa i o L :=
  ⟨e.own _ _ h.own, e.stay h.obj h.own n1, h.bal.up e.D, h.mem.up e.D, e.own _ _ h.pown, e.stay h.pobj h.pown n2, paired_imp (fun _ _ q => ⟨q.1, q.2.up e.D⟩) h.prom, h.fwd.up e.D, e.own _ _ h.gown, e.stay h.gobj h.gown n3, h.fc⟩
theorem OffO.go {K : PySem.W.Frag} {T : Tag → Prop} {g g' : Gh} {H H' : Hp} (e : Go T g H g' H') {v : V} {i : Nat} (n1 : ¬ T (.off i)) (n2 : ¬ T (.proms i)) (n3 : ¬ T (.ags i)) : ∀ {o : Option Off}, OffO K g H v i o → OffO K g' H' v i o
  | none, h => h
  | some _, h => by obtain ⟨oa, L, rfl, h⟩ := h; exact ⟨oa, L, rfl, h.go e n1 n2 n3⟩
structure SL where
  dx : Addr
  mv : V
  nv : V
  ra : Addr
  ha : Addr
  bv : V
  av : V
  ov : V
  rxs : List V
structure SeatR (K : PySem.W.Frag) (g : Gh) (H : Hp) (sa : Addr) (i : Nat) (s : Seat) (L : SL) : Prop where
  own : g.own sa = some (.seat i)
  obj : H sa = some (.ins (He.ga K "Seat") L.dx (seatK.zip [.int s.num, L.mv, L.nv, .ref L.ra, .int s.took, .ref L.ha, L.bv, L.av, L.ov]))
  mem : memV g.D L.mv s.mem
  news : onewsV g.D L.nv s.news
  rown : g.own L.ra = some (.row i)
  robj : H L.ra = some (.lst L.rxs)
  row : Paired (msgV g.D) L.rxs s.row
  hown : g.own L.ha = some (.hold i)
  hobj : H L.ha = some (.dK (holdK s.hold))
  bal : balV K g.D L.bv s.bal
  agr : oagrV K g.D L.av s.agr
  off : OffO K g H L.ov i s.off
def SeatO (K : PySem.W.Frag) (g : Gh) (H : Hp) (v : V) (i : Nat) : Option Seat → Prop
  | none => v = .non
  | some s => ∃ sa L, v = .ref sa ∧ SeatR K g H sa i s L
/-- the tags of a seat -/
def TS_ (i : Nat) : Tag → Prop
  | .seat j | .row j | .hold j | .off j | .proms j | .ags j => j = i
  | _ => False
theorem SeatR.go {K : PySem.W.Frag} {T : Tag → Prop} {g g' : Gh} {H H' : Hp} (e : Go T g H g' H') {sa : Addr} {i : Nat} {s : Seat} {L : SL} (h : SeatR K g H sa i s L) (n : ∀ t, TS_ i t → ¬ T t) : SeatR K g' H' sa i s L :=
  ⟨e.own _ _ h.own, e.stay h.obj h.own (n _ rfl), h.mem.up e.D, h.news.up e.D, e.own _ _ h.rown, e.stay h.robj h.rown (n _ rfl), paired_imp (fun _ _ => msgV.up e.D) h.row, e.own _ _ h.hown, e.stay h.hobj h.hown (n _ rfl), h.bal.up e.D, h.agr.up e.D,
    h.off.go e (n _ rfl) (n _ rfl) (n _ rfl)⟩
theorem SeatO.go {K : PySem.W.Frag} {T : Tag → Prop} {g g' : Gh} {H H' : Hp} (e : Go T g H g' H') {v : V} {i : Nat} (n : ∀ t, TS_ i t → ¬ T t) : ∀ {s : Option Seat}, SeatO K g H v i s → SeatO K g' H' v i s
  | none, h => h
  | some _, h => by obtain ⟨oa, L, rfl, h⟩ := h; exact ⟨oa, L, rfl, h.go e n⟩
structure HL where
  dx : Addr
  bh : Addr
  bxs : List V
  sv : V
structure HandR (K : PySem.W.Frag) (g : Gh) (H : Hp) (a : Addr) (i : Nat) (pa : Addr) (h : Hnd) (L : HL) : Prop where
  own : g.own a = some (.hand i)
  obj : H a = some (.ins (He.ga K "Hand") L.dx (handK.zip [.int i, .ref pa, .bl h.up, .int h.said, .int h.high, .ref L.bh, L.sv]))
  bown : g.own L.bh = some (.past i)
  bobj : H L.bh = some (.lst L.bxs)
  past : Paired (pastV g.D) L.bxs h.past
  seat : SeatO K g H L.sv i h.seat
/-- the tags of a hand -/
def TH_ (i : Nat) : Tag → Prop
  | .hand j | .past j | .seat j | .row j | .hold j | .off j | .proms j | .ags j => j = i
  | _ => False
theorem TH_of {i : Nat} {t : Tag} (h : TS_ i t) : TH_ i t := by cases t <;> first | exact h | exact h.elim
theorem HandR.go {K : PySem.W.Frag} {T : Tag → Prop} {g g' : Gh} {H H' : Hp} (e : Go T g H g' H') {a : Addr} {i : Nat} {pa : Addr} {h : Hnd} {L : HL} (r : HandR K g H a i pa h L) (n : ∀ t, TH_ i t → ¬ T t) : HandR K g' H' a i pa h L :=
  ⟨e.own _ _ r.own, e.stay r.obj r.own (n _ rfl), e.own _ _ r.bown, e.stay r.bobj r.bown (n _ rfl), paired_imp (fun _ _ => pastV.up e.D) r.past, r.seat.go e fun t q => n t (TH_of q)⟩
structure PostR (K : PySem.W.Frag) (g : Gh) (H : Hp) (pa : Addr) (ls : List Ltr) (as : List Addr) : Prop where
  own : g.own pa = some .post
  obj : H pa = some (.lst (as.map V.ref))
  ls : Paired (letV K g.D) as ls
theorem PostR.go {K : PySem.W.Frag} {T : Tag → Prop} {g g' : Gh} {H H' : Hp} (e : Go T g H g' H') {pa : Addr} {ls : List Ltr} {as : List Addr} (h : PostR K g H pa ls as) (n : ¬ T .post) : PostR K g' H' pa ls as :=
  ⟨e.own _ _ h.own, e.stay h.obj h.own n, paired_imp (fun _ _ => letV.up e.D) h.ls⟩
/-- what a hand's doings may change: its own things and the post -/
def TP (i : Nat) : Tag → Prop := fun t => t = .post ∨ TH_ i t
/-- a store into one object of the folk's, the rest by Go -/
theorem go_one {g : Gh} {H : Hp} {p : Addr} {t : Tag} {o : HO} (k : Ok g H) (h : g.own p = some t) : Go (fun u => u = t) g H g (upd H p o) := Go.set k h rfl
theorem SeatR.put {K : PySem.W.Frag} {g : Gh} {H H' : Hp} {sa : Addr} {i : Nat} {s s' : Seat} {L L' : SL} (r : SeatR K g H sa i s L) (e : Go (fun u => u = .seat i) g H g H') (h1 : L'.dx = L.dx) (hr : L'.ra = L.ra) (hx : L'.rxs = L.rxs) (hh : L'.ha = L.ha) (ho : L'.ov = L.ov)
    (obj : H' sa = some (.ins (He.ga K "Seat") L'.dx (seatK.zip [.int s'.num, L'.mv, L'.nv, .ref L'.ra, .int s'.took, .ref L'.ha, L'.bv, L'.av, L'.ov])))
    (mem : memV g.D L'.mv s'.mem) (news : onewsV g.D L'.nv s'.news) (bal : balV K g.D L'.bv s'.bal) (agr : oagrV K g.D L'.av s'.agr) (e1 : s'.row = s.row) (e2 : s'.hold = s.hold) (e3 : s'.off = s.off) : SeatR K g H' sa i s' L' :=
  ⟨r.own, obj, mem, news, hr ▸ r.rown, by rw [hr, hx]; exact e.stay r.robj r.rown (by intro h; cases h), by rw [hx, e1]; exact r.row, hh ▸ r.hown, by rw [hh, e2]; exact e.stay r.hobj r.hown (by intro h; cases h), bal, agr,
    by rw [ho, e3]; exact r.off.go e (by intro h; cases h) (by intro h; cases h) (by intro h; cases h)⟩

end
end Fo
namespace Fo
open PySem PySem.Spec PyProof.Rows L2
section
variable {P : Program} {w : World} {K : PySem.W.Frag} {mg : Str → Option Value} {base : Heap}
/-! sorted over a dict, over its values -/
theorem sorted_srcI {X : Cx} {pins : List (Addr × Obj)} {σ : L2.St} {H : Hp} {s : Shared} {T : String} {r d : Addr} {n : Nat} {Pv : Nat → Value → Prop} {OK : Heap → Prop} {Q : VK} {b : Bool} {kw : List (Str × Value)} (I : Inv X pins σ H s)
    (Kd : PySem.W.KdlSrc X.prog X.w T r d n Pv OK) (hc : X.calm = true) (hok : OK s.heap) (ns : List Int) (hn : n = ns.length) (hl : ns.length ≤ 1000) (hv : ∀ i v, Pv i v → ∃ k t, ns[i]? = some k ∧ v = .int k t)
    (hk : ∀ a, Builtin.«list.sort» ⟨[.ref a], kw⟩ = Builtin.«list.sort» ⟨[.ref a], [(Str.ofString "reverse", .bool b)]⟩) (ha1 : argsOk "sorted" ⟨[.ref r], kw⟩) (ha2 : ∀ a, argsOk "list.sort" ⟨[a], kw⟩)
    (q : ∀ (ns' : List Int) (p : Addr), ns'.Perm ns → OrdB b ns' → H p = none → Q (.ref p) (upd H p (.lst (ns'.map V.int)))) : wpAny (model X.prog X.w) X.A (call (.builtin "sorted") [.ref r] kw) (EP X pins σ Q) X.xe s := by
  have h16 : n ≤ sizeLine := by rw [hn]; exact Nat.le_trans hl (by decide)
  refine call_function_entry_kw kind_sorted plain_sorted entry_sorted ha1 ?_
  unfold Builtin.«sorted»
  refine wpAny_bind (m := checkCount "sorted" 1 1 _) (wpAny_pure ?_)
  refine wpAny_bind (PySem.W.kdu_collect (A := X.A.in1) Kd (I.ok.hd hc) hok h16 fun h' tk acc hkp hacc => ?_)
  have hal : acc.toList.length = ns.length := by rw [Array.length_toList, hacc.1, hn]
  have hS : IntsAre acc.toList ns := by
    have gen : ∀ (us : List Value) (ms : List Int), us.length = ms.length → (∀ (j : Nat) (v : Value), us[j]? = some v → ∃ k t, ms[j]? = some k ∧ v = .int k t) → IntsAre us ms := by
      intro us
      induction us with
      | nil => intro ms e _; cases ms with
        | nil => exact .nil
        | cons _ _ => cases e
      | cons u us ih => intro ms e hq; cases ms with
        | nil => cases e
        | cons m ms =>
          obtain ⟨k, t, e1, e2⟩ := hq 0 u rfl
          cases e1
          subst e2
          exact .cons m t (ih ms (Nat.succ.inj e) fun j v hj => hq (j + 1) v hj)
    exact gen _ _ hal fun j v e => hv j v (hacc.2 j v (by rw [← Array.getElem?_toList]; exact e))
  have I1 : Inv X pins σ H { s with heap := h', toks := tk } := I.kept hkp
  have hz : acc.toList.length ≤ sizeLine := by rw [hal]; exact Nat.le_trans hl (by decide)
  refine wpAny_bind (wpAny_newList ?_ hz)
  have hoL : (h'.push (seqObj "list" acc.toList.toArray 0)).get? h'.objs.size = some (seqObj "list" acc.toList.toArray 0) := Heap.get?_push_size _ rfl
  show wpAny _ _ _ _ _ { s with heap := h'.push (seqObj "list" acc.toList.toArray 0), toks := tk }
  refine wpAny_bind (wpAny_holding (wpAny_call_entry_kw slot_list_sort ⟨_, hoL, rfl⟩ entry_list_sort ?_ (ha2 _)))
  rw [hk]
  refine SrtR.list_sort_ordR (s := { s with heap := h'.push (seqObj "list" acc.toList.toArray 0), toks := tk }) SrtO.swo_int hoL hz (fun h2 => SrtO.ints_sortable hS h2) fun out h1 h2 => ⟨_, rfl, ?_⟩
  obtain ⟨ns', k1, k2, k3⟩ := SrtR.ints_outR hS h1 h2
  obtain ⟨e', he'⟩ := PyProof.Rows.sortedHeap_at (vs := acc.toList) (out := if b = true then out.toArray.reverse else out.toArray) hoL
  have hlen : (ns'.map V.int).length ≤ sizeLine := by rw [List.length_map, k2.length_eq]; exact Nat.le_trans hl (by decide)
  have e0 : ((if b = true then out.toArray.reverse else out.toArray).toList).toArray = (if b = true then out.toArray.reverse else out.toArray) := Array.toArray_toList
  refine wpAny_pure ⟨_, rfl, .ref h'.objs.size, upd H h'.objs.size (.lst (ns'.map V.int)), I1.laid (t' := tk) (fun c u e => ?_) (Nat.le_refl _) ⟨hlen, _, e', vals_of_ints k1, by rw [e0]; exact he'⟩, rfl, q ns' _ k2 k3 (I1.hok.fresh (Nat.le_refl _))⟩
  have hb : c < h'.objs.size := Heap.lt_size e
  rw [PyProof.Rows.sortedHeap_old (Nat.ne_of_lt hb) (by rw [size_push']; exact Nat.lt_succ_of_lt hb)]
  exact Heap.get?_push_of_some _ e
theorem sort_none (a : Addr) : Builtin.«list.sort» ⟨[.ref a], []⟩ = Builtin.«list.sort» ⟨[.ref a], [(Str.ofString "reverse", .bool false)]⟩ := by
  first | rfl | kernel_rfl
/-- sorted(d), the keys whole numbers -/
def rSortedDI : List V → Hp → VK → Prop := fun xs H Q => ∃ (a : Addr) (kvs : List (Key × V)) (ks : List Int), xs = [.ref a] ∧ H a = some (.dK kvs) ∧ kvs.map (·.1) = ks.map Sum.inl ∧ ks.length ≤ 1000 ∧
  ∀ (ns : List Int) (p : Addr), ns.Perm ks → ns.Pairwise (· ≤ ·) → H p = none → Q (.ref p) (upd H p (.lst (ns.map V.int)))
theorem cr_sortedDI {X : Cx} (hc : X.calm = true) : CallR X (.builtin "sorted") rSortedDI := by
  intro pins s σ H xs us Q I r h
  obtain ⟨a, kvs, ks, rfl, hd, hks, hl, q⟩ := h
  rw [Vals.ref1 r]
  obtain ⟨z, lo, vs, rel, dd⟩ := dk_rd I.hok (.inl hd)
  obtain ⟨ep, hat⟩ := dd.dictAt
  have e1 : vs.map (·.1) = ks.map Sum.inl := rel.keys.symm.trans hks
  have e2 : vs.length = ks.length := by have e := congrArg List.length e1; rwa [List.length_map, List.length_map] at e
  refine sorted_srcI (b := false) I (PySem.W.kdl_dict (knd := mixKind X.prog X.w) (kvs := vs) (ep := ep) lo) hc hat ks e2 hl (fun i v hv => ?_) sort_none (PyProof.Rows.args_sorted1 _) (fun _ => PyProof.Rows.args_list_sort _) q
  obtain ⟨k, x, e3, e4⟩ := hv
  have e5 : (vs.map (·.1))[i]? = some k := by rw [List.getElem?_map, e3]; rfl
  rw [e1, List.getElem?_map] at e5
  cases e6 : ks[i]? with
  | none => rw [e6] at e5; cases e5
  | some y =>
    rw [e6] at e5
    have e7 : Sum.inl y = k := Option.some.inj e5
    subst e7
    obtain ⟨t, ev⟩ := Value.isInt_shape (k := y) (v := v) e4
    exact ⟨y, t, rfl, ev⟩
/-- d.values() as a value: a view of the dict -/
def viewO (r d : Addr) : HO := .ext fun h => h.IsValuesView r d
def tVals (td : TE) : TE := fun σ H Q => td σ H fun x H1 => ∃ d kvs, x = .ref d ∧ H1 d = some (.dK kvs) ∧ ∀ r, H1 r = none → Q (.ref r) (upd H1 r (viewO r d))
theorem pe_vals {X : Cx} {e : Expr} {apos cpos : Pos} {td : TE} (he : PE X e td) (hbase : attributeBase e "values" X.env (eval e X.env) = eval e X.env := by rfl) (hline : (apos.endLine == cpos.line) = true := by rfl) : PE X (.Call (.Attribute e "values" apos) [] [] cpos) (tVals td) := by
  refine ⟨fun pins s σ H Q I h => ?_⟩
  refine wpAny_Call_method (T := "dict") (id := "dict.values") hbase rfl hline F.plainAttrs_dict F.slot_dict_values F.type_dict_values (thn (he.run pins s σ H _ I h) fun u s1 w => ?_)
  obtain ⟨x, H1, I1, rx, d, kvs, rfl, hd, q⟩ := w
  obtain rfl : u = Value.ref d := rx
  obtain ⟨z, lo, vs, kv, hm⟩ := I1.hok d _ hd
  refine ⟨hm.typeIs, hm.mapOf.noDict, ?_⟩
  show wpAny _ _ (callWith cpos (.builtin "dict.values") [.ref d] [] []) _ X.xe s1
  refine method_meetsIn F.slot_dict_values F.entry_dict_values rfl (PySem.evalArgs_none ⟨rfl, hm.typeIs, F.args_dict_values_1 _, _, meets_dict_values (mixKind X.prog X.w) d lo, ⟨vs, hm⟩, ?_⟩)
  have at1 : (s1.heap.push { cls := .type "dict_values", data := .fields #[.ref d] }).get? s1.heap.objs.size = some { cls := .type "dict_values", data := .fields #[.ref d] } := Heap.get?_push_size _ rfl
  refine ⟨.ref s1.heap.objs.size, _, I1.laid (t' := s1.toks) (fun c u e => Heap.get?_push_of_some _ e) (Nat.le_refl _) (o := viewO s1.heap.objs.size d) ?_, rfl, q _ (I1.hok.fresh (Nat.le_refl _))⟩
  exact ⟨⟨_, at1, rfl, rfl⟩, ⟨_, at1⟩, fun h1 h2 p k => by obtain ⟨o, ho, x⟩ := p; exact ⟨o, k o ho, x⟩⟩
/-- sorted(d.values(), reverse=True) -/
def rSortedVR : List V → List V → Hp → VK → Prop := fun xs zs H Q => ∃ (r d : Addr) (kvs : List (Key × V)) (ns : List Int), xs = [.ref r] ∧ zs = [.bl true] ∧ H r = some (viewO r d) ∧ H d = some (.dK kvs) ∧ kvs.map (·.2) = ns.map V.int ∧ ns.length ≤ 1000 ∧
  ∀ (ns' : List Int) (p : Addr), ns'.Perm ns → ns'.Pairwise (· ≥ ·) → H p = none → Q (.ref p) (upd H p (.lst (ns'.map V.int)))
theorem cr_sortedVR {X : Cx} (hc : X.calm = true) : CallRK X (.builtin "sorted") [Str.ofString "reverse"] rSortedVR := by
  intro pins s σ H vs zs us ws Q I r rz h
  obtain ⟨v, d, kvs, ns, rfl, rfl, hv, hd, he, hl, q⟩ := h
  rw [Vals.ref1 r]
  obtain ⟨w1, rfl, e1⟩ := vals1 rz
  obtain rfl : w1 = Value.bool true := e1
  obtain ⟨z, lo, us2, rel, dd⟩ := dk_rd I.hok (.inl hd)
  obtain ⟨ep, hat⟩ := dd.dictAt
  have hview : s.heap.IsValuesView v d := (I.hok v _ hv).1
  have e2 : us2.length = ns.length := by
    have e := congrArg List.length he
    rw [List.length_map, List.length_map] at e
    rw [← e]
    exact (Paired.length rel).symm
  refine sorted_srcI (b := true) I (PySem.W.kdl_values (knd := mixKind X.prog X.w) (kvs := us2) (ep := ep) (r := v)) hc ⟨hview, hat⟩ ns e2 hl (fun i u hu => ?_) (fun _ => rfl) (PyProof.Rows.args_sorted_rev _ _) (fun _ => PyProof.Rows.args_list_sort_rev _ _) q
  obtain ⟨k, hk⟩ := hu
  have gen : ∀ {as : List (Key × V)} {bs : List (Key × Value)} {j : Nat} {k : Key} {u : Value}, KV as bs → bs[j]? = some (k, u) → ∃ x, as[j]? = some x ∧ RelV x.2 u := by
    intro as bs j k u hh
    induction hh generalizing j with
    | nil => intro e; simp at e
    | cons a t ih =>
      intro e
      cases j with
      | zero => simp at e; subst e; exact ⟨_, rfl, a.2⟩
      | succ j => exact ih (j := j) (by simpa using e)
  obtain ⟨x, hx, rx⟩ := gen rel hk
  have e5 : (kvs.map (·.2))[i]? = some x.2 := by rw [List.getElem?_map, hx]; rfl
  rw [he, List.getElem?_map] at e5
  cases e6 : ns[i]? with
  | none => rw [e6] at e5; cases e5
  | some y =>
    rw [e6] at e5
    have e7 : V.int y = x.2 := Option.some.inj e5
    rw [← e7] at rx
    obtain ⟨t, ev⟩ := rx
    exact ⟨y, t, rfl, ev⟩

end
end Fo
namespace Fo
open PySem PySem.Spec PyProof.Rows L2
section
variable {P : Program} {w : World} {K : PySem.W.Frag} {mg : Str → Option Value} {base : Heap}
/-! one pair of whole numbers greater than another -/
def rGtP (K : PySem.W.Frag) : R2 := fun x y H Q => ∃ (a b : Addr) (p q : Int × Int), x = .ref a ∧ y = .ref b ∧ SqT K H a [.int p.1, .int p.2] ∧ SqT K H b [.int q.1, .int q.2] ∧
  Q (.bl (Ob.lexAt (fun j => decide ([p.1, p.2].getD j 0 = [q.1, q.2].getD j 0)) (fun j => decide ([q.1, q.2].getD j 0 < [p.1, p.2].getD j 0)) (decide ([q.1, q.2].length < [p.1, p.2].length)) 0 (min [p.1, p.2].length [q.1, q.2].length))) H
theorem op_gtP {X : Cx} (hu : X.A.units < cLine) : OpR X (compareOp .Gt) (rGtP X.K) := by
  intro pins s σ H x y v u Q I rx ry h
  obtain ⟨a, b, p, q, rfl, rfl, ha, hb, qq⟩ := h
  cases rx
  cases ry
  obtain ⟨us, r1, t1, _⟩ := I.tuple ha
  obtain ⟨ws, r2, t2, _⟩ := I.tuple hb
  have i1 : IntsAre us [p.1, p.2] := Vals.ints (ns := [p.1, p.2]) r1
  have i2 : IntsAre ws [q.1, q.2] := Vals.ints (ns := [q.1, q.2]) r2
  have s1 : us.toArray.size = [p.1, p.2].length := by rw [List.size_toArray]; exact i1.length
  have s2 : ws.toArray.size = [q.1, q.2].length := by rw [List.size_toArray]; exact i2.length
  have g1 : ∀ j (h1 : j < us.toArray.size), ∃ t, us.toArray[j] = .int ([p.1, p.2].getD j 0) t := fun j h1 => PyProof.Rows.IntsAre.int_at i1 j _ (by simp only [List.size_toArray] at h1; simp [h1])
  have g2 : ∀ j (h1 : j < ws.toArray.size), ∃ t, ws.toArray[j] = .int ([q.1, q.2].getD j 0) t := fun j h1 => PyProof.Rows.IntsAre.int_at i2 j _ (by simp only [List.size_toArray] at h1; simp [h1])
  have R := Ob.RcOp.tuples_gt (A := X.A) (s := s) (e := fun j => decide ([p.1, p.2].getD j 0 = [q.1, q.2].getD j 0)) (r := fun j => decide ([q.1, q.2].getD j 0 < [p.1, p.2].getD j 0)) t1 t2 hu (fun j h1 h2 => by
      obtain ⟨z1, y1⟩ := g1 j h1
      obtain ⟨z2, y2⟩ := g2 j h2
      rw [y1, y2]
      have e0 : ([p.1, p.2].getD j 0 == [q.1, q.2].getD j 0) = decide ([p.1, p.2].getD j 0 = [q.1, q.2].getD j 0) := by
        cases hd : decide ([p.1, p.2].getD j 0 = [q.1, q.2].getD j 0) with
        | true => exact beq_iff_eq.mpr (of_decide_eq_true hd)
        | false => exact beq_eq_false_iff_ne.mpr (of_decide_eq_false hd)
      rw [← e0]
      exact SeqAt.EqAt.int_int _ _ _ _) (fun j h1 h2 _ => by
      obtain ⟨z1, y1⟩ := g1 j h1
      obtain ⟨z2, y2⟩ := g2 j h2
      rw [y1, y2]
      exact Ob.RcOp.gt_int _ _ _ _)
  rw [s1, s2] at R
  exact R X.prog X.w X.xe (EP X pins σ Q) ⟨.bl _, H, I, rfl, qq⟩

end
end Fo
namespace Fo
open PySem PySem.Spec PyProof.Rows L2
section
variable {P : Program} {w : World} {K : PySem.W.Frag} {mg : Str → Option Value} {base : Heap}
/-! a match on a text against written texts -/
/-- cases: each a written text and a suite -/
inductive McOk (X : Cx) : List MatchCase → List (Str × TS) → Prop where
  | nil : McOk X [] []
  | cons {k : Str} {j : Nat} {p q : Pos} {body : List Stmt} {t : TS} {cs : List MatchCase} {ts : List (Str × TS)} (hb : PSs X body t) (h : McOk X cs ts) : McOk X (⟨.MatchValue (.Constant (.str k) j p) q, none, body⟩ :: cs) ((k, t) :: ts)
def tMc (z : Str) : List (Str × TS) → TS
  | [] => tNext
  | (k, t) :: r => fun D σ H => if z = k then t D σ H else tMc z r D σ H
def tMatchS (te : TE) (ts : List (Str × TS)) : TS := fun D σ H => te σ H fun x H1 => ∃ z, x = .str z ∧ tMc z ts D σ H1
theorem mc_run {X : Cx} {pins : List (Addr × Obj)} {σ : L2.St} {H : Hp} {D : Ends} {z : Str} {u : Value} (hu : RelV (.str z) u) : ∀ {cs : List MatchCase} {ts : List (Str × TS)} (_ : McOk X cs ts) {s : Shared} {first : Bool}, Inv X pins σ H s → tMc z ts D σ H →
    wpAny (model X.prog X.w) X.A (matchCases cs X.env u first) (SP X pins D) X.xe s
  | _, _, .nil, s, first, I, h => wpAny_matchCases_nil ⟨σ, H, I, h⟩
  | _, _, .cons (k := k) (ts := ts) hb h, s, first, I, q => by
    refine wpAny_matchCases_cons (wpAny_matchPattern_Value (thn (pe_str.run pins s σ H (fun v H1 => v = .str k ∧ H1 = H) I ⟨rfl, rfl⟩) fun x s1 w => ?_))
    obtain ⟨y, H1, I1, ry, rfl, rfl⟩ := w
    refine thn (op_eq pins s1 σ H1 (.str z) (.str k) u x (fun v H2 => v = .bl (decide (V.str z = V.str k)) ∧ H2 = H1) I1 hu ry ⟨rfl, rfl, rfl⟩) fun c s2 w => ?_
    obtain ⟨y2, H2, I2, ry2, rfl, rfl⟩ := w
    cases (show c = Value.bool _ from ry2)
    refine wpAny_truthy_bool ?_
    by_cases e : z = k
    · have q2 : (if z = k then _ else _) := q
      rw [if_pos e] at q2
      rw [decide_eq_true (show V.str z = V.str k by rw [e])]
      refine wpAny_pure ?_
      exact hb.run pins s2 σ H2 D I2 q2
    · have q2 : (if z = k then _ else _) := q
      rw [if_neg e] at q2
      rw [decide_eq_false (show ¬ V.str z = V.str k from fun w => e (V.str.inj w))]
      exact mc_run hu h I2 q2
theorem ps_matchS {X : Cx} {e : Expr} {cs : List MatchCase} {pos : Pos} {te : TE} {ts : List (Str × TS)} (he : PE X e te) (h : McOk X cs ts) : PS X (.Match e cs pos) (tMatchS te ts) := by
  refine ⟨fun pins s σ H D I q => wpAny_Match (thn (he.run pins s σ H _ I q) fun u s1 w => ?_)⟩
  obtain ⟨x, H1, I1, rx, z, rfl, q1⟩ := w
  exact mc_run rx h I1 q1

end
end Fo
namespace Fo
open PySem PySem.Spec PyProof.Rows L2
section
variable {P : Program} {w : World} {K : PySem.W.Frag} {mg : Str → Option Value} {base : Heap}
/-! rules of my own: set(a list of iar), sorted of a dict's values falling, of a dict's keys, a match on a text -/
abbrev fso (w : World) : Obj := { cls := .type "set", dict := none, data := .set #[] 0 (.fresh 0 0 (!w.params.followText "set-order")) }
set_option maxHeartbeats 6400000 in
theorem set_of_lst {Pr : Program} {wo : World} {Ar : Around} {Er : Value → Shared → Prop} {st : Shared} {li : Addr} {its : Array Value} (zs : List Int) {Qr : Value → Shared → Prop} (calm : Ar.handled = none) (isl : st.heap.IsList li its) (iar : IntsAre its.toList zs)
    (few : zs.length + 1 < scanBound)
    (go : ∀ (hp : Heap) (tk c : Nat), SetR wo hp st.heap.objs.size (fun j => decide (j ∈ zs)) c → c ≤ zs.length → (∀ b o, st.heap.get? b = some o → hp.get? b = some o) → Qr (.ref st.heap.objs.size) { st with heap := hp, toks := tk }) :
    wpAny (model Pr wo) Ar (call (.type "set") [.ref li]) Qr Er st := by
  have sz : its.size = zs.length := by
    have z := IntsAre.length iar
    rwa [Array.length_toList] at z
  obtain ⟨cc, tl, mro⟩ := F.called_set.mro
  have made := F.called_set.made; have sub := F.called_set.sub
  refine wpAny_call (codeAny_of_tree ?_)
  show wpAny _ _ (callAny (.type "set") ⟨[.ref li], []⟩) _ _ _
  refine wpAny_pure ⟨Code.quiet_builtin _ (by decide +kernel), codeAny_builtin F.entry_type_call ?_⟩
  rw [Around.under_plain (weight_type_call_type _ _ _) rfl]
  have k1 := F.called_set.notType; have k2 := F.called_set.canCreate; have k3 := F.typeCall_set_1 (.ref li)
  repeat (any_goals (first | assumption | wp_step))
  refine codeAny_mono (code_set_led1 (.ref li) (E := Er) (Q₁ := fun ob s₁ => ob = .ref st.heap.objs.size ∧ s₁ = { st with heap := st.heap.push (fso wo) }) ⟨rfl, rfl⟩) fun rr s₁ hrr => ?_
  cases rr with
  | error e => exact hrr
  | ok fl => cases fl with
    | ret ob =>
      obtain ⟨rfl, rfl⟩ := hrr
      have at0 : (st.heap.push (fso wo)).get? st.heap.objs.size = some (fso wo) := Heap.get?_push_size _ rfl
      have ty0 : Shared.TypeIs { st with heap := st.heap.push (fso wo) } (.ref st.heap.objs.size) "set" := ⟨_, at0, rfl⟩
      have k4 := F.called_set.init.lookup; have k5 := F.called_set.init.bind (.ref st.heap.objs.size)
      repeat (any_goals (first | assumption | wp_step))
      refine codeAny_mono (codeAny_call_builtin (R := wants (fun r s₂ => r = .none ∧ ∃ hp tk c, s₂ = { st with heap := hp, toks := tk } ∧ SetR wo hp st.heap.objs.size (fun j => decide (j ∈ zs)) c ∧ c ≤ zs.length ∧
          ∀ b o, st.heap.get? b = some o → hp.get? b = some o) Er) F.called_set.init.plain F.entry_set_init (check_set_init_1 ty0 ?_)) fun r₂ s₂ hr₂ => ?_
      · obtain ⟨ol, hol, e1, nl, e2⟩ := isl
        obtain ⟨oc, od, odt, osl⟩ := ol
        simp only at e1 e2
        subst e1 e2
        have at1 : (st.heap.push (fso wo)).get? li = some { cls := .type "list", dict := od, data := .seq its nl, slots := osl } := Heap.get?_push_of_some _ hol
        have k6 := F.sub_list_set; have k7 := F.sub_list_frozenset
        have k8 : (Value.type "list" == Value.type "dict") = false := by decide
        have is1 : (st.heap.push (fso wo)).IsList li its := ⟨_, at1, rfl, nl, rfl⟩
        unfold Builtin.«set.__init__» noKeywords Builtin.Frozenset.updateFrom
        generalize keep : pyIter = it0
        wp_walk
        subst keep
        refine wpAny_pyIter_list is1 ?_
        refine wpAny_bind (wpAny_runValue ?_)
        have lt0 : li < st.heap.objs.size := Heap.lt_size hol
        have hh3 : Ar.in1.in1.in1.handled = none := by simp [calm]
        have n1 : li ≠ (st.heap.push (fso wo)).objs.size := by rw [Heap.size_push]; exact Nat.ne_of_lt (Nat.lt_succ_of_lt lt0)
        have n2 : st.heap.objs.size ∉ [(st.heap.push (fso wo)).objs.size, li] := by
          rw [Heap.size_push]
          simp only [List.mem_cons, List.not_mem_nil, or_false, not_or]
          exact And.intro (Nat.ne_of_lt (Nat.lt_succ_self _)) (Nat.ne_of_gt lt0)
        have vals : ∀ (i : Nat) (v : Value), its[i]? = some v → ∃ k t, zs[i]? = some k ∧ v = .int k t := fun i v hv => by
          have li' : i < zs.length := sz ▸ (Array.getElem?_eq_some_iff.mp hv).1
          obtain ⟨t, e⟩ := PyProof.Rows.IntsAre.int_at iar i v (by rw [Array.getElem?_toList]; exact hv)
          exact ⟨zs[i], t, List.getElem?_eq_getElem li', by rw [e, List.getD_eq_getElem?_getD, List.getElem?_eq_getElem li']; rfl⟩
        refine set_update_ints ((Walks.list hh3 _ li n1 its).toS) st.heap.objs.size n2 zs sz few vals (its.size - 0) 0 _ (by omega) (Nat.zero_le _) ⟨⟨_, Heap.get?_push_size _ rfl, rfl, rfl⟩, (is1.push _)⟩
          ⟨0, Nat.le_refl 0, setR_new_at (Heap.get?_push_of_some _ at0)⟩ ?_
        intro s' c' mv lec inS
        obtain ⟨hp, g2, d', tk', os'⟩ := s'
        have eg : g2 = st.gens := mv.gens
        have ed : d' = st.drawn := mv.drawn
        have eo : os' = st.os := mv.os
        subst eg ed eo
        show wpAny _ _ _ _ _ _
        refine wpAny_pure ?_
        show wpAny _ _ (ret Value.none) _ _ _
        rw [sz] at lec
        refine wpAny_pure ⟨rfl, hp, tk', c', rfl, inS, lec, fun b o e => ?_⟩
        have lb := Heap.lt_size e
        refine mv.heap b o ?_ (Heap.get?_push_of_some _ (Heap.get?_push_of_some _ e))
        simp only [List.mem_cons, List.not_mem_nil, or_false, not_or]
        rw [Heap.size_push]
        exact And.intro (Nat.ne_of_lt lb) (Nat.ne_of_lt (Nat.lt_succ_of_lt lb))
      · cases r₂ with
        | error e => exact hr₂
        | ok fl₂ => cases fl₂ with
          | ret r =>
            obtain ⟨rfl, hp, tk, c, rfl, a1, a2, a3⟩ := hr₂
            repeat (any_goals (first | assumption | wp_step))
            exact go _ _ _ a1 a2 a3
          | _ => exact hr₂.elim
    | _ => exact hrr.elim
def rSetL (K : PySem.W.Frag) (w : World) : List V → Hp → VK → Prop := fun vs H Q => ∃ (a : Addr) (ns : List Int), vs = [.ref a] ∧ SqL K H a (ns.map V.int) ∧ ns.length ≤ 1000 ∧
  ∀ p c, H p = none → c ≤ ns.length → Q (.ref p) (upd H p (SetO w p (fun j => decide (j ∈ ns)) c))
theorem cr_setL {X : Cx} (hc : X.calm = true) : CallR X (.type "set") (rSetL X.K X.w) := by
  intro pins s σ H vs us Q I r h
  obtain ⟨a, ns, rfl, hs, hl, q⟩ := h
  rw [Vals.ref1 r]
  obtain ⟨its, rv, li, hz⟩ := I.list hs
  refine set_of_lst ns (I.ok.hd hc) li.isList (by simpa using rv.ints) (Nat.lt_of_le_of_lt (Nat.add_le_add_right hl 1) (by decide)) fun hp tk c hS hcl hk => ?_
  exact ⟨.ref _, _, I.laid (t' := tk) hk (Nat.le_refl _) (setO_new hS), rfl, q _ c (I.hok.fresh (Nat.le_refl _)) hcl⟩

end
end Fo
namespace Fo
open PySem PySem.Spec PyProof.Rows L2
section
variable {P : Program} {w : World} {K : PySem.W.Frag} {mg : Str → Option Value} {base : Heap}
theorem put_Hand_me {a0 a1 a2 a3 a4 a5 a6 v : V} : putF "me" v (handK.zip [a0, a1, a2, a3, a4, a5, a6]) = handK.zip [v, a1, a2, a3, a4, a5, a6] := zp handK_nd (i := 0) rfl (by show 0 < 7; decide)
theorem put_Hand_post {a0 a1 a2 a3 a4 a5 a6 v : V} : putF "post" v (handK.zip [a0, a1, a2, a3, a4, a5, a6]) = handK.zip [a0, v, a2, a3, a4, a5, a6] := zp handK_nd (i := 1) rfl (by show 1 < 7; decide)
theorem put_Hand_standing {a0 a1 a2 a3 a4 a5 a6 v : V} : putF "standing" v (handK.zip [a0, a1, a2, a3, a4, a5, a6]) = handK.zip [a0, a1, v, a3, a4, a5, a6] := zp handK_nd (i := 2) rfl (by show 2 < 7; decide)
theorem put_Hand_said {a0 a1 a2 a3 a4 a5 a6 v : V} : putF "said" v (handK.zip [a0, a1, a2, a3, a4, a5, a6]) = handK.zip [a0, a1, a2, v, a4, a5, a6] := zp handK_nd (i := 3) rfl (by show 3 < 7; decide)
theorem put_Hand_highest {a0 a1 a2 a3 a4 a5 a6 v : V} : putF "highest" v (handK.zip [a0, a1, a2, a3, a4, a5, a6]) = handK.zip [a0, a1, a2, a3, v, a5, a6] := zp handK_nd (i := 4) rfl (by show 4 < 7; decide)
theorem put_Hand_behind {a0 a1 a2 a3 a4 a5 a6 v : V} : putF "behind" v (handK.zip [a0, a1, a2, a3, a4, a5, a6]) = handK.zip [a0, a1, a2, a3, a4, v, a6] := zp handK_nd (i := 5) rfl (by show 5 < 7; decide)
theorem put_Hand_seat {a0 a1 a2 a3 a4 a5 a6 v : V} : putF "seat" v (handK.zip [a0, a1, a2, a3, a4, a5, a6]) = handK.zip [a0, a1, a2, a3, a4, a5, v] := zp handK_nd (i := 6) rfl (by show 6 < 7; decide)
theorem put_Seat_number {a0 a1 a2 a3 a4 a5 a6 a7 a8 v : V} : putF "number" v (seatK.zip [a0, a1, a2, a3, a4, a5, a6, a7, a8]) = seatK.zip [v, a1, a2, a3, a4, a5, a6, a7, a8] := zp seatK_nd (i := 0) rfl (by show 0 < 9; decide)
theorem put_Seat_members {a0 a1 a2 a3 a4 a5 a6 a7 a8 v : V} : putF "members" v (seatK.zip [a0, a1, a2, a3, a4, a5, a6, a7, a8]) = seatK.zip [a0, v, a2, a3, a4, a5, a6, a7, a8] := zp seatK_nd (i := 1) rfl (by show 1 < 9; decide)
theorem put_Seat_news {a0 a1 a2 a3 a4 a5 a6 a7 a8 v : V} : putF "news" v (seatK.zip [a0, a1, a2, a3, a4, a5, a6, a7, a8]) = seatK.zip [a0, a1, v, a3, a4, a5, a6, a7, a8] := zp seatK_nd (i := 2) rfl (by show 2 < 9; decide)
theorem put_Seat_row {a0 a1 a2 a3 a4 a5 a6 a7 a8 v : V} : putF "row" v (seatK.zip [a0, a1, a2, a3, a4, a5, a6, a7, a8]) = seatK.zip [a0, a1, a2, v, a4, a5, a6, a7, a8] := zp seatK_nd (i := 3) rfl (by show 3 < 9; decide)
theorem put_Seat_took {a0 a1 a2 a3 a4 a5 a6 a7 a8 v : V} : putF "took" v (seatK.zip [a0, a1, a2, a3, a4, a5, a6, a7, a8]) = seatK.zip [a0, a1, a2, a3, v, a5, a6, a7, a8] := zp seatK_nd (i := 4) rfl (by show 4 < 9; decide)
theorem put_Seat_holding {a0 a1 a2 a3 a4 a5 a6 a7 a8 v : V} : putF "holding" v (seatK.zip [a0, a1, a2, a3, a4, a5, a6, a7, a8]) = seatK.zip [a0, a1, a2, a3, a4, v, a6, a7, a8] := zp seatK_nd (i := 5) rfl (by show 5 < 9; decide)
theorem put_Seat_ballot {a0 a1 a2 a3 a4 a5 a6 a7 a8 v : V} : putF "ballot" v (seatK.zip [a0, a1, a2, a3, a4, a5, a6, a7, a8]) = seatK.zip [a0, a1, a2, a3, a4, a5, v, a7, a8] := zp seatK_nd (i := 6) rfl (by show 6 < 9; decide)
theorem put_Seat_agreed {a0 a1 a2 a3 a4 a5 a6 a7 a8 v : V} : putF "agreed" v (seatK.zip [a0, a1, a2, a3, a4, a5, a6, a7, a8]) = seatK.zip [a0, a1, a2, a3, a4, a5, a6, v, a8] := zp seatK_nd (i := 7) rfl (by show 7 < 9; decide)
theorem put_Seat_offer {a0 a1 a2 a3 a4 a5 a6 a7 a8 v : V} : putF "offer" v (seatK.zip [a0, a1, a2, a3, a4, a5, a6, a7, a8]) = seatK.zip [a0, a1, a2, a3, a4, a5, a6, a7, v] := zp seatK_nd (i := 8) rfl (by show 8 < 9; decide)
theorem put_Offer_ballot {a0 a1 a2 a3 a4 v : V} : putF "ballot" v (offK.zip [a0, a1, a2, a3, a4]) = offK.zip [v, a1, a2, a3, a4] := zp offK_nd (i := 0) rfl (by show 0 < 5; decide)
theorem put_Offer_members {a0 a1 a2 a3 a4 v : V} : putF "members" v (offK.zip [a0, a1, a2, a3, a4]) = offK.zip [a0, v, a2, a3, a4] := zp offK_nd (i := 1) rfl (by show 1 < 5; decide)
theorem put_Offer_promises {a0 a1 a2 a3 a4 v : V} : putF "promises" v (offK.zip [a0, a1, a2, a3, a4]) = offK.zip [a0, a1, v, a3, a4] := zp offK_nd (i := 2) rfl (by show 2 < 5; decide)
theorem put_Offer_forward {a0 a1 a2 a3 a4 v : V} : putF "forward" v (offK.zip [a0, a1, a2, a3, a4]) = offK.zip [a0, a1, a2, v, a4] := zp offK_nd (i := 3) rfl (by show 3 < 5; decide)
theorem put_Offer_agrees {a0 a1 a2 a3 a4 v : V} : putF "agrees" v (offK.zip [a0, a1, a2, a3, a4]) = offK.zip [a0, a1, a2, a3, v] := zp offK_nd (i := 4) rfl (by show 4 < 5; decide)
theorem put_Folk_many {a0 a1 a2 v : V} : putF "many" v (folkK.zip [a0, a1, a2]) = folkK.zip [v, a1, a2] := zp folkK_nd (i := 0) rfl (by show 0 < 3; decide)
theorem put_Folk_post {a0 a1 a2 v : V} : putF "_post" v (folkK.zip [a0, a1, a2]) = folkK.zip [a0, v, a2] := zp folkK_nd (i := 1) rfl (by show 1 < 3; decide)
theorem put_Folk_hands {a0 a1 a2 v : V} : putF "_hands" v (folkK.zip [a0, a1, a2]) = folkK.zip [a0, a1, v] := zp folkK_nd (i := 2) rfl (by show 2 < 3; decide)
theorem plen {f : Str} {v : V} : ∀ {fs : List (Str × V)} {n : Nat}, fs.length ≤ n → (putF f v fs).length ≤ n + 1
  | [], n, _ => by show 1 ≤ n + 1; omega
  | (g, x) :: r, n, h => by
    have h2 : r.length + 1 ≤ n := h
    show (if g = f then (g, v) :: r else (g, x) :: putF f v r).length ≤ n + 1
    split
    · show r.length + 1 ≤ n + 1
      omega
    · have := plen (f := f) (v := v) (fs := r) (n := n - 1) (by omega)
      show (putF f v r).length + 1 ≤ n + 1
      omega
theorem zle {ks : List Str} {vs : List V} : (ks.zip vs).length ≤ ks.length := by
  rw [List.length_zip]
  omega
theorem pl1 {f : Str} {v : V} : (putF f v []).length ≤ 1 := plen (Nat.le_refl 0)
theorem lt1000 {n m : Nat} (h : n ≤ m) (k : m < 1000 := by decide) : n < 1000 := Nat.lt_of_le_of_lt h k
theorem letK_mk {k s t n d : V} : putF "told" d (putF "number" n (putF "to" t (putF "sender" s (putF "kind" k [])))) = letK.zip [k, s, t, n, d] := by
  rw [show ([] : List (Str × V)) = letK.zip [] from rfl, zq letK_nd (k := "kind") rfl, zq letK_nd (k := "sender") rfl, zq letK_nd (k := "to") rfl, zq letK_nd (k := "number") rfl, zq letK_nd (k := "told") rfl]
  rfl
def spLetterI (K : PySem.W.Frag) : Sp := fun vs H Q _ => ∃ (p dx : Addr) (k s t n d : V), vs = [.ref p, k, s, t, n, d] ∧ H p = some (.ins (He.ga K "Letter") dx []) ∧ Q .non (upd H p (.ins (He.ga K "Letter") dx (letK.zip [k, s, t, n, d])))
theorem sc_Letter_init : FnScope ["self", "kind", "sender", "to", "number", "told"] ["self", "kind", "sender", "to", "number", "told"] (defScope s_Letter_init) := ⟨rfl, rfl, rfl, by decide +kernel, rfl, by decide +kernel, by decide +kernel⟩
set_option maxRecDepth 100000 in
theorem ok_Letter_init (T : Txt K mg) : OkF P w K mg base CX0 1 (He.ma K (He.ga K "Letter") "__init__") ["self", "kind", "sender", "to", "number", "told"] (spLetterI K) := by
  obtain ⟨fd, F⟩ := T.F_Letter_init
  refine ⟨fd, F.ok sc_Letter_init (fun vs H Q E h => ?_) (fun cdv A outer s H vs Q E hr h => ?_), F.bindsN fun _ _ _ _ _ _ us hl => match us, hl with | [_, _, _, _, _, _], _ => rfl, F.kp⟩
  · obtain ⟨_, _, _, _, _, _, _, rfl, _⟩ := h
    rfl
  · refine ⟨_, PSs.nox (pss_cons (ps_fld (pv 0) (pv 1) rfl) (pss_cons (ps_fld (pv 0) (pv 2) rfl) (pss_cons (ps_fld (pv 0) (pv 3) rfl) (pss_cons (ps_fld (pv 0) (pv 4) rfl) (pss_one (ps_fld (pv 0) (pv 5) rfl)))))), ?_⟩
    obtain ⟨p, dx, k, s, t, n, d, rfl, hp, q⟩ := h
    refine ⟨_, rfl, _, rfl, p, _, dx, _, rfl, hp, T.cl_Letter, T.na_Letter_kind, (by show 0 < 1000; decide), ?_⟩
    refine ⟨_, rfl, _, rfl, p, _, dx, _, rfl, upd_same, T.cl_Letter, T.na_Letter_sender, lt1000 pl1, ?_⟩
    refine ⟨_, rfl, _, rfl, p, _, dx, _, rfl, upd_same, T.cl_Letter, T.na_Letter_to, lt1000 (plen pl1), ?_⟩
    refine ⟨_, rfl, _, rfl, p, _, dx, _, rfl, upd_same, T.cl_Letter, T.na_Letter_number, lt1000 (plen (plen pl1)), ?_⟩
    refine ⟨_, rfl, _, rfl, p, _, dx, _, rfl, upd_same, T.cl_Letter, T.na_Letter_told, lt1000 (plen (plen (plen pl1))), ?_⟩
    rw [upd_upd, upd_upd, upd_upd, upd_upd, letK_mk]
    exact q
theorem offK_mk {a b c d e : V} : putF "agrees" e (putF "forward" d (putF "promises" c (putF "members" b (putF "ballot" a [])))) = offK.zip [a, b, c, d, e] := by
  rw [show ([] : List (Str × V)) = offK.zip [] from rfl, zq offK_nd (k := "ballot") rfl, zq offK_nd (k := "members") rfl, zq offK_nd (k := "promises") rfl, zq offK_nd (k := "forward") rfl, zq offK_nd (k := "agrees") rfl]
  rfl
def spOfferI (K : PySem.W.Frag) : Sp := fun vs H Q _ => ∃ (p dx : Addr) (b m : V), vs = [.ref p, b, m] ∧ H p = some (.ins (He.ga K "Offer") dx []) ∧
  ∀ pd ga, H pd = none → H ga = none → ga ≠ pd → Q .non (upd (upd (upd H pd (.dK [])) ga (.dK [])) p (.ins (He.ga K "Offer") dx (offK.zip [b, m, .ref pd, .non, .ref ga])))
theorem seatK_mk {a b c d e f g h i : V} : putF "offer" i (putF "agreed" h (putF "ballot" g (putF "holding" f (putF "took" e (putF "row" d (putF "news" c (putF "members" b (putF "number" a [])))))))) = seatK.zip [a, b, c, d, e, f, g, h, i] := by
  rw [show ([] : List (Str × V)) = seatK.zip [] from rfl, zq seatK_nd (k := "number") rfl, zq seatK_nd (k := "members") rfl, zq seatK_nd (k := "news") rfl, zq seatK_nd (k := "row") rfl, zq seatK_nd (k := "took") rfl,
    zq seatK_nd (k := "holding") rfl, zq seatK_nd (k := "ballot") rfl, zq seatK_nd (k := "agreed") rfl, zq seatK_nd (k := "offer") rfl]
  rfl
theorem holdK_put (l : List (Int × Nat)) (k : Int) (n : Nat) : putK (holdK l) (Sum.inl k) (.int n) = holdK (putA k n l) := by
  have h1 : ((holdK l).any fun kv => decide (kv.1 = (Sum.inl k : Key))) = (l.any fun p => decide (p.1 = k)) := by
    unfold holdK
    rw [List.any_map]
    congr 1
    funext p
    exact decide_eq_decide.mpr ⟨fun q => Sum.inl.inj q, fun q => congrArg Sum.inl q⟩
  unfold putK putA
  rw [h1]
  split
  · unfold holdK
    rw [List.map_map, List.map_map]
    refine List.map_congr_left fun p _ => ?_
    show (if (Sum.inl p.1 : Key) = Sum.inl k then ((Sum.inl p.1 : Key), V.int n) else (Sum.inl p.1, V.int p.2)) = (Sum.inl (if p.1 = k then (p.1, n) else p).1, V.int (if p.1 = k then (p.1, n) else p).2)
    by_cases e : p.1 = k
    · rw [if_pos (by rw [e]), if_pos e]
    · rw [if_neg (fun q => e (Sum.inl.inj q)), if_neg e]
  · unfold holdK
    rw [List.map_append]
    rfl
theorem putA_new {α : Type} {k : Int} {v : α} {l : List (Int × α)} (h : k ∉ l.map (·.1)) : putA k v l = l ++ [(k, v)] := by
  unfold putA
  rw [if_neg]
  intro q
  obtain ⟨p, hp, e⟩ := List.any_eq_true.mp q
  exact h (List.mem_map.mpr ⟨p, hp, of_decide_eq_true e⟩)
def spSeatI (K : PySem.W.Frag) : Sp := fun vs H Q _ => ∃ (p dx m : Addr) (n nw : V) (ms : List Int), vs = [.ref p, n, .ref m, nw] ∧ H p = some (.ins (He.ga K "Seat") dx []) ∧ SqL K H m (ms.map V.int) ∧ ms.Nodup ∧ ms.length ≤ 1000 ∧
  ∀ ra ha, H ra = none → H ha = none → ha ≠ ra → Q .non (upd (upd (upd H ra (.lst [])) ha (.dK (holdK (ms.map fun h => (h, 0))))) p (.ins (He.ga K "Seat") dx (seatK.zip [n, .ref m, nw, .ref ra, .int 0, .ref ha, .ref (He.ga K "NO_BALLOT"), .non, .non])))
theorem sq_insne {K : PySem.W.Frag} {H H' : Hp} {a p C dx : Addr} {fs : List (Str × V)} {xs : List V} (hp : H p = some (.ins C dx fs)) (e : ∀ b o, b ≠ p → H b = some o → H' b = some o) (h : SqL K H a xs) : SqL K H' a xs := by
  have n : ∀ o, H a = some o → (∀ C dx fs, o ≠ .ins C dx fs) → a ≠ p := fun o q d z => by
    rw [z, hp] at q
    exact d _ _ _ (Option.some.inj q).symm
  rcases h with (h | ⟨o, h⟩) | h
  · exact .inl (.inl (e _ _ (n _ h fun _ _ _ z => nomatch z) h))
  · exact .inl (.inr ⟨o, e _ _ (n _ h fun _ _ _ z => nomatch z) h⟩)
  · exact .inr h
theorem sc_Seat_init : FnScope ["self", "number", "members", "news", "hand"] ["self", "number", "members", "news"] (defScope s_Seat_init) := ⟨rfl, rfl, rfl, by decide +kernel, rfl, by decide +kernel, by decide +kernel⟩
set_option maxRecDepth 100000 in
theorem ok_Seat_init (T : Txt K mg) : OkF P w K mg base CX0 1 (He.ma K (He.ga K "Seat") "__init__") ["self", "number", "members", "news"] (spSeatI K) := by
  obtain ⟨fd, F⟩ := T.F_Seat_init
  refine ⟨fd, F.ok sc_Seat_init (fun vs H Q E h => ?_) (fun cdv A outer s H vs Q E hr h => ?_), F.bindsN fun _ _ _ _ _ _ us hl => match us, hl with | [_, _, _, _], _ => rfl, F.kp⟩
  · obtain ⟨_, _, _, _, _, _, rfl, _⟩ := h
    rfl
  · refine ⟨_, PSs.nox (pss_cons (ps_fld (pv 0) (pv 1) rfl) (pss_cons (ps_fld (pv 0) (pv 2) rfl) (pss_cons (ps_fld (pv 0) (pv 3) rfl) (pss_cons (ps_fld (pv 0) (pe_lst pa_nil) rfl) (pss_cons (ps_fld (pv 0) pe_int rfl) (pss_cons (ps_fld (pv 0) (pe_dc (own := [("hand", 4)]) (g := (gName 4)) (tk := (tVar 4)) (tv := (tC (.int 0))) rfl sc_Seat_init.nd (pi_list (pv 2)) (blkOk_by (own := [("hand", 4)]) (N := ["self", "number", "members", "news", "hand"]) (sc := defScope s_Seat_init) (by decide +kernel)) (fun _ _ _ _ _ => (pg_name (i := 4) sc_Seat_init.nd rfl (Or.inl rfl))) (fun _ _ _ _ _ => pts_nil) (fun _ _ _ _ _ => (pv 4)) (fun _ _ _ _ _ => pe_int)) rfl) (pss_cons (ps_fld (pv 0) (pe_glob (v := .ref (He.ga K "NO_BALLOT")) rfl T.g_NO_BALLOT rfl) rfl) (pss_cons (ps_fld (pv 0) pe_non rfl) (pss_one (ps_fld (pv 0) pe_non rfl)))))))))), ?_⟩
    obtain ⟨p, dx, m, n, nw, ms, rfl, hp, hm, nd, hl, q⟩ := h
    refine ⟨_, rfl, _, rfl, p, _, dx, _, rfl, hp, T.cl_Seat, T.na_Seat_number, (by show 0 < 1000; decide), ?_⟩
    refine ⟨_, rfl, _, rfl, p, _, dx, _, rfl, upd_same, T.cl_Seat, T.na_Seat_members, lt1000 pl1, ?_⟩
    refine ⟨_, rfl, _, rfl, p, _, dx, _, rfl, upd_same, T.cl_Seat, T.na_Seat_news, lt1000 (plen pl1), Nat.zero_le _, fun ra hra => ?_⟩
    rw [upd_upd, upd_upd] at hra
    have n1 : ra ≠ p := fun e => by rw [e, upd_same] at hra; cases hra
    have hra' : H ra = none := by rw [upd_ne n1] at hra; exact hra
    refine ⟨_, rfl, p, _, dx, _, rfl, (by rw [upd_ne n1.symm, upd_same]), T.cl_Seat, T.na_Seat_row, lt1000 (plen (plen pl1)), ?_⟩
    refine ⟨_, rfl, p, _, dx, _, rfl, upd_same, T.cl_Seat, T.na_Seat_took, lt1000 (plen (plen (plen pl1))), ?_⟩
    rw [upd_upd, upd_upd, upd_upd, upd_over n1]
    generalize hF : putF "took" (V.int 0) (putF "row" (V.ref ra) (putF "news" nw (putF "members" (V.ref m) (putF "number" n [])))) = F5
    have hF5 : F5.length ≤ 5 := by rw [← hF]; exact plen (plen (plen (plen pl1)))
    have e1 : ∀ b o, b ≠ p → H b = some o → upd (upd H ra (.lst [])) p (.ins (He.ga K "Seat") dx F5) b = some o := fun b o z w => by rw [upd_ne z]; exact same_upd hra' _ _ w
    have hm1 := sq_insne hp e1 hm
    refine ⟨_, rfl, m, rfl, ⟨_, hm1⟩, fun ha hha => ?_⟩
    have n2 : ha ≠ p := fun e => by rw [e, upd_same] at hha; cases hha
    have n3 : ha ≠ ra := fun e => by rw [e, upd_ne n1, upd_same] at hha; cases hha
    have hha' : H ha = none := by rw [upd_ne n2, upd_ne n3] at hha; exact hha
    refine dc_list (K := K) (a := m) (xs := ms.map V.int) (fun i H' => H' = upd (upd (upd H ra (.lst [])) p (.ins (He.ga K "Seat") dx F5)) ha (.dK (holdK ((ms.take i).map fun h => (h, 0))))) rfl (fun i H' _ e => by rw [e]; exact (same_upd hha).seq hm1) ?_ ?_
    · rintro i x H' hx rfl
      rw [List.getElem?_map] at hx
      cases hz : ms[i]? with
      | none => rw [hz] at hx; cases hx
      | some z =>
        rw [hz] at hx
        cases hx
        have hlen : (ms.take i).length ≤ 1000 := Nat.le_trans (List.length_take_le' _ _) hl
        refine ⟨rfl, _, rfl, _, Sum.inl z, rfl, upd_same, ?_, ?_⟩
        · rw [holdK, List.length_map, List.length_map]
          exact small1000 hlen
        · rw [upd_upd]
          congr 2
          show putK _ (Sum.inl z) (V.int ((0 : Nat) : Int)) = _
          rw [holdK_put, putA_new, take_succ_of hz, List.map_append]
          · rfl
          · rw [List.map_map]
            intro w
            obtain ⟨y, hy, e⟩ := List.mem_map.mp w
            have e2 : y = z := e
            rw [e2] at hy
            obtain ⟨j, hj⟩ := List.getElem?_of_mem hy
            rw [List.getElem?_take] at hj
            split at hj
            · rename_i hji
              have hi := (List.getElem?_eq_some_iff.mp hz).1
              obtain ⟨hj2, ej⟩ := List.getElem?_eq_some_iff.mp hj
              obtain ⟨hi2, ei⟩ := List.getElem?_eq_some_iff.mp hz
              exact List.pairwise_iff_getElem.mp nd j i hj2 hi2 hji (by rw [ej, ei])
            · cases hj
    · rintro H' rfl
      rw [List.length_map, List.take_length]
      refine ⟨_, rfl, p, _, dx, _, rfl, (by rw [upd_ne n2.symm, upd_same]), T.cl_Seat, T.na_Seat_holding, lt1000 hF5, ?_⟩
      refine ⟨_, rfl, p, _, dx, _, rfl, upd_same, T.cl_Seat, T.na_Seat_ballot, lt1000 (plen hF5), ?_⟩
      refine ⟨_, rfl, p, _, dx, _, rfl, upd_same, T.cl_Seat, T.na_Seat_agreed, lt1000 (plen (plen hF5)), ?_⟩
      refine ⟨_, rfl, p, _, dx, _, rfl, upd_same, T.cl_Seat, T.na_Seat_offer, lt1000 (plen (plen (plen hF5))), ?_⟩
      have k := q ra ha hra' hha' n3
      rw [upd_upd, upd_upd, upd_upd, upd_over n2, ← hF, seatK_mk]
      exact k
def spLead (K : PySem.W.Frag) : Sp := fun vs H Q _ => ∃ (p dx m : Addr) (fs : List V) (ms : List Int), vs = [.ref p] ∧ H p = some (.ins (He.ga K "Seat") dx (seatK.zip fs)) ∧ fs[1]? = some (.ref m) ∧ SqL K H m (ms.map V.int) ∧ ms ≠ [] ∧ Q (.int (ms.headD 0)) H
def balD (b : Bal) : PyData := .tuple [.int b.1, .int b.2]
theorem balV.dp {K : PySem.W.Frag} {D : Hp} {v : V} {b : Bal} (h : balV K D v b) : Dp K D v (balD b) := by
  obtain ⟨a, rfl, h⟩ := h
  exact .tup h (dpAll_ints [b.1, b.2])
theorem balD_sh (b : Bal) : SeqAt.shaped (balD b) = true := shaped_of (by simp [balD, PyData.canLay0, PyData.canLayAll0]) (by simp [balD, PyData.depth, PyData.depthAll])
theorem balD_eqv (a b : Bal) : PyData.eqv (balD a) (balD b) = decide (a = b) := by
  simp only [balD, PyData.eqv, PyData.eqvAll, Bool.and_true]
  obtain ⟨a1, a2⟩ := a
  obtain ⟨b1, b2⟩ := b
  by_cases h1 : a1 = b1 <;> by_cases h2 : a2 = b2 <;> simp [h1, h2]
theorem noBal_V {mg : Str → Option Value} (T : Txt K mg) (D : Hp) : balV K D (.ref (He.ga K "NO_BALLOT")) noBal := ⟨_, rfl, He.tupB_ok T.tup_NO_BALLOT D⟩
def spAnsw (K : PySem.W.Frag) : Sp := fun vs H Q _ => ∃ (p dx : Addr) (fs : List V) (bv : V) (b : Bal), vs = [.ref p] ∧ H p = some (.ins (He.ga K "Seat") dx (seatK.zip fs)) ∧ fs[6]? = some bv ∧ balV K H bv b ∧ Q (.bl (decide (b ≠ noBal))) H
theorem sc_Seat_answered : FnScope ["self"] ["self"] (defScope s_Seat_answered) := ⟨rfl, rfl, rfl, by decide +kernel, rfl, by decide +kernel, by decide +kernel⟩
set_option maxRecDepth 100000 in
theorem ok_Seat_answered (T : Txt K mg) : OkF P w K mg base CX0 1 (He.ma K (He.ga K "Seat") "answered") ["self"] (spAnsw K) := by
  obtain ⟨fd, F⟩ := T.F_Seat_answered
  refine ⟨fd, F.ok sc_Seat_answered (fun vs H Q E h => ?_) (fun cdv A outer s H vs Q E hr h => ?_), F.bindsN fun _ _ _ _ _ _ us hl => match us, hl with | [_], _ => rfl, F.kp⟩
  · obtain ⟨_, _, _, _, _, rfl, _⟩ := h
    rfl
  · refine ⟨_, PSs.nox (pss_one (ps_ret (pe_cmpR (op_neD hr.u64) (pe_fld (pv 0) rfl) (pe_glob (v := .ref (He.ga K "NO_BALLOT")) rfl T.g_NO_BALLOT rfl) (nomark _)))), ?_⟩
    obtain ⟨p, dx, fs, bv, b, rfl, hp, hf, hb, q⟩ := h
    refine ⟨_, rfl, _, _, _, _, _, rfl, hp, T.cl_Seat, T.na_Seat_ballot, zl seatK_nd (i := 6) rfl hf, _, _, hb.dp, (noBal_V T H).dp, balD_sh _, balD_sh _, ?_⟩
    rw [balD_eqv]
    have e : decide (b ≠ noBal) = !decide (b = noBal) := by by_cases h : b = noBal <;> simp [h]
    rw [e] at q
    exact q
theorem handK_mk {a b c d e f g : V} : putF "seat" g (putF "behind" f (putF "highest" e (putF "said" d (putF "standing" c (putF "post" b (putF "me" a [])))))) = handK.zip [a, b, c, d, e, f, g] := by
  rw [show ([] : List (Str × V)) = handK.zip [] from rfl, zq handK_nd (k := "me") rfl, zq handK_nd (k := "post") rfl, zq handK_nd (k := "standing") rfl, zq handK_nd (k := "said") rfl, zq handK_nd (k := "highest") rfl,
    zq handK_nd (k := "behind") rfl, zq handK_nd (k := "seat") rfl]
  rfl
def spHandI (K : PySem.W.Frag) : Sp := fun vs H Q _ => ∃ (p dx : Addr) (m po : V), vs = [.ref p, m, po] ∧ H p = some (.ins (He.ga K "Hand") dx []) ∧
  ∀ bh, H bh = none → bh ≠ p → Q .non (upd (upd H bh (.lst [])) p (.ins (He.ga K "Hand") dx (handK.zip [m, po, .bl true, .int 0, .int (-1), .ref bh, .non])))
theorem sc_Hand_init : FnScope ["self", "me", "post"] ["self", "me", "post"] (defScope s_Hand_init) := ⟨rfl, rfl, rfl, by decide +kernel, rfl, by decide +kernel, by decide +kernel⟩
set_option maxRecDepth 100000 in
theorem ok_Hand_init (T : Txt K mg) : OkF P w K mg base CX0 1 (He.ma K (He.ga K "Hand") "__init__") ["self", "me", "post"] (spHandI K) := by
  obtain ⟨fd, F⟩ := T.F_Hand_init
  refine ⟨fd, F.ok sc_Hand_init (fun vs H Q E h => ?_) (fun cdv A outer s H vs Q E hr h => ?_), F.bindsN fun _ _ _ _ _ _ us hl => match us, hl with | [_, _, _], _ => rfl, F.kp⟩
  · obtain ⟨_, _, _, _, rfl, _⟩ := h
    rfl
  · refine ⟨_, PSs.nox (pss_cons (ps_fld (pv 0) (pv 1) rfl) (pss_cons (ps_fld (pv 0) (pv 2) rfl) (pss_cons (ps_fld (pv 0) pe_bl rfl) (pss_cons (ps_fld (pv 0) pe_int rfl) (pss_cons (ps_fld (pv 0) (pe_un un_neg pe_int) rfl) (pss_cons (ps_fld (pv 0) (pe_lst pa_nil) rfl) (pss_one (ps_fld (pv 0) pe_non rfl)))))))), ?_⟩
    obtain ⟨p, dx, m, po, rfl, hp, q⟩ := h
    refine ⟨_, rfl, _, rfl, p, _, dx, _, rfl, hp, T.cl_Hand, T.na_Hand_me, (by show 0 < 1000; decide), ?_⟩
    refine ⟨_, rfl, _, rfl, p, _, dx, _, rfl, upd_same, T.cl_Hand, T.na_Hand_post, lt1000 pl1, ?_⟩
    refine ⟨_, rfl, p, _, dx, _, rfl, upd_same, T.cl_Hand, T.na_Hand_standing, lt1000 (plen pl1), ?_⟩
    refine ⟨_, rfl, p, _, dx, _, rfl, upd_same, T.cl_Hand, T.na_Hand_said, lt1000 (plen (plen pl1)), ?_⟩
    refine ⟨_, rfl, _, rfl, p, _, dx, _, rfl, upd_same, T.cl_Hand, T.na_Hand_highest, lt1000 (plen (plen (plen pl1))), Nat.zero_le _, fun bh hbh => ?_⟩
    rw [upd_upd, upd_upd, upd_upd, upd_upd] at hbh
    have n1 : bh ≠ p := fun e => by rw [e, upd_same] at hbh; cases hbh
    have hbh' : H bh = none := by rw [upd_ne n1] at hbh; exact hbh
    refine ⟨_, rfl, p, _, dx, _, rfl, (by rw [upd_ne n1.symm, upd_same]), T.cl_Hand, T.na_Hand_behind, lt1000 (plen (plen (plen (plen pl1)))), ?_⟩
    refine ⟨_, rfl, p, _, dx, _, rfl, upd_same, T.cl_Hand, T.na_Hand_seat, lt1000 (plen (plen (plen (plen (plen pl1))))), ?_⟩
    have k := q bh hbh' n1
    rw [upd_upd, upd_upd, upd_upd, upd_upd, upd_upd, upd_over n1, handK_mk]
    exact k
theorem upd_over2 {H : Hp} {x p q : Addr} {a b c d : HO} (hp : p ≠ x) (hq : q ≠ x) : upd (upd (upd (upd H x a) p b) q c) x d = upd (upd (upd H p b) q c) x d := by
  funext y
  unfold upd
  split
  · rfl
  · rename_i h
    split
    · rfl
    · split <;> rfl
/-- a new seat -/
theorem seat_new {K : PySem.W.Frag} {mg : Str → Option Value} (T : Txt K mg) {g : Gh} {H : Hp} (k : Ok g H) {x dx ra ha m : Addr} {nw : V} {i : Nat} {n : Int} {ms : List Int} {nws : Option News} (hx : H x = none) (hdx : H dx = none) (hne : dx ≠ x)
    (hra : upd (upd H dx (.own x)) x (.ins (He.ga K "Seat") dx []) ra = none) (hha : upd (upd H dx (.own x)) x (.ins (He.ga K "Seat") dx []) ha = none) (hr : ha ≠ ra) (hm : g.D m = some (.lst (ms.map V.int))) (hw : onewsV g.D nw nws) :
    ∃ g' L, Go (TS_ i) g H g' (upd (upd (upd (upd (upd H dx (.own x)) x (.ins (He.ga K "Seat") dx [])) ra (.lst [])) ha (.dK (holdK (ms.map fun h => (h, 0))))) x (.ins (He.ga K "Seat") dx (seatK.zip [.int n, .ref m, nw, .ref ra, .int 0, .ref ha, .ref (He.ga K "NO_BALLOT"), .non, .non]))) ∧
      SeatR K g' (upd (upd (upd (upd (upd H dx (.own x)) x (.ins (He.ga K "Seat") dx [])) ra (.lst [])) ha (.dK (holdK (ms.map fun h => (h, 0))))) x (.ins (He.ga K "Seat") dx (seatK.zip [.int n, .ref m, nw, .ref ra, .int 0, .ref ha, .ref (He.ga K "NO_BALLOT"), .non, .non]))) x i (Seat.fresh n ms nws) L := by
  have rx : ra ≠ x := fun e => by rw [e, upd_same] at hra; cases hra
  have hx2 : ha ≠ x := fun e => by rw [e, upd_same] at hha; cases hha
  have rd : ra ≠ dx := fun e => by rw [e, upd_ne hne, upd_same] at hra; cases hra
  have hd : ha ≠ dx := fun e => by rw [e, upd_ne hne, upd_same] at hha; cases hha
  have hra' : H ra = none := by rw [upd_ne rx, upd_ne rd] at hra; exact hra
  have hha' : H ha = none := by rw [upd_ne hx2, upd_ne hd] at hha; exact hha
  rw [upd_over2 rx hx2]
  have s1 : Go (TS_ i) g H g (upd H dx (.own x)) := Go.ext k (same_upd hdx)
  have f2 : upd H dx (HO.own x) ra = none := by rw [upd_ne rd]; exact hra'
  have s2 : Go (TS_ i) g _ (g.addO ra (.row i)) (upd (upd H dx (.own x)) ra (.lst [])) := Go.newO s1.ok f2 rfl
  have f3 : upd (upd H dx (HO.own x)) ra (.lst []) ha = none := by rw [upd_ne hr, upd_ne hd]; exact hha'
  have s3 : Go (TS_ i) _ _ ((g.addO ra (.row i)).addO ha (.hold i)) (upd (upd (upd H dx (.own x)) ra (.lst [])) ha (.dK (holdK (ms.map fun h => (h, 0))))) := Go.newO s2.ok f3 rfl
  have f4 : upd (upd (upd H dx (HO.own x)) ra (.lst [])) ha (.dK (holdK (ms.map fun h => (h, 0)))) x = none := by rw [upd_ne hx2.symm, upd_ne rx.symm, upd_ne hne.symm]; exact hx
  have s4 : Go (TS_ i) _ _ (((g.addO ra (.row i)).addO ha (.hold i)).addO x (.seat i)) (upd (upd (upd (upd H dx (.own x)) ra (.lst [])) ha (.dK (holdK (ms.map fun h => (h, 0))))) x (.ins (He.ga K "Seat") dx (seatK.zip [.int n, .ref m, nw, .ref ra, .int 0, .ref ha, .ref (He.ga K "NO_BALLOT"), .non, .non]))) := Go.newO s3.ok f4 rfl
  refine ⟨_, ⟨dx, .ref m, nw, ra, ha, .ref (He.ga K "NO_BALLOT"), .non, .non, []⟩, ((s1.trans s2).trans s3).trans s4, ⟨addO_same, upd_same, ⟨m, rfl, hm⟩, hw, ?_, ?_, .nil, ?_, ?_, noBal_V T _, rfl, rfl⟩⟩
  · rw [addO_ne rx, addO_ne hr.symm, addO_same]
  · rw [upd_ne rx, upd_ne hr.symm, upd_same]
  · rw [addO_ne hx2, addO_same]
  · rw [upd_ne hx2, upd_same]
    rfl
def spSit (K : PySem.W.Frag) : Sp := fun vs H Q _ => ∃ (g : Gh) (a pa : Addr) (i : Nat) (h : Hnd) (L : HL) (n : Int) (mv nv : V) (ms : List Int) (nw : Option News), vs = [.ref a, .int n, mv, nv] ∧ Ok g H ∧ HandR K g H a i pa h L ∧ memV g.D mv ms ∧ onewsV g.D nv nw ∧ ms.Nodup ∧ ms.length ≤ 1000 ∧
  ∀ g' H' L', Go (TH_ i) g H g' H' → HandR K g' H' a i pa { h with seat := some (Seat.fresh n ms nw), high := n } L' → Q .non H'
theorem sc_Hand_sit : FnScope ["self", "number", "members", "news"] ["self", "number", "members", "news"] (defScope s_Hand_sit) := ⟨rfl, rfl, rfl, by decide +kernel, rfl, by decide +kernel, by decide +kernel⟩
set_option maxRecDepth 100000 in
theorem ok_Hand_sit (T : Txt K mg) : OkF P w K mg base CX0 3 (He.ma K (He.ga K "Hand") "sit") ["self", "number", "members", "news"] (spSit K) := by
  obtain ⟨fd, F⟩ := T.F_Hand_sit
  obtain ⟨fd_Seat_init, G_Seat_init⟩ := ok_Seat_init (P := P) (w := w) (base := base) T
  refine ⟨fd, F.ok sc_Hand_sit (fun vs H Q E h => ?_) (fun cdv A outer s H vs Q E hr h => ?_), F.bindsN fun _ _ _ _ _ _ us hl => match us, hl with | [_, _, _, _], _ => rfl, F.kp⟩
  · obtain ⟨_, _, _, _, _, _, _, _, _, _, _, rfl, _⟩ := h
    rfl
  · refine ⟨_, PSs.nox (pss_cons (ps_fld (pv 0) (pe_make T.mk_Seat G_Seat_init.1 (hr.mono (by decide)) rfl T.g_Seat G_Seat_init.2.1 .nil pass0 (pa_cons (pv 1) (pa_cons (pv 2) (pa_cons (pv 3) pa_nil)))) rfl) (pss_one (ps_fld (pv 0) (pv 1) rfl))), ?_⟩
    obtain ⟨g, a, pa, i, h, L, n, mv, nv, ms, nw, rfl, k, r, ⟨m, rfl, hm⟩, hw, nd, hl, q⟩ := h
    refine ⟨_, rfl, _, rfl, _, rfl, fun x dx hx hdx hne => ?_⟩
    have hm1 : SqL K (upd (upd H dx (.own x)) x (.ins (He.ga K "Seat") dx [])) m (ms.map V.int) := SqL.of ((same_upd (by rw [upd_ne hne.symm]; exact hx)) _ _ ((same_upd hdx) _ _ (k.sub _ _ hm)))
    refine ⟨x, dx, m, _, _, ms, rfl, upd_same, hm1, nd, hl, fun ra ha hra hha hne2 => ⟨rfl, ?_⟩⟩
    obtain ⟨g1, SLx, e1, r1⟩ := seat_new T k (i := i) (n := n) (nws := nw) hx hdx hne hra hha hne2 hm hw
    generalize (upd (upd (upd (upd (upd H dx (HO.own x)) x (.ins (He.ga K "Seat") dx [])) ra (.lst [])) ha (.dK (holdK (ms.map fun h => (h, 0))))) x (.ins (He.ga K "Seat") dx (seatK.zip [.int n, .ref m, nv, .ref ra, .int 0, .ref ha, .ref (He.ga K "NO_BALLOT"), .non, .non]))) = H1 at *
    have o1 := e1.stay r.obj r.own (by intro z; exact z)
    refine ⟨_, rfl, _, _, _, _, rfl, o1, T.cl_Hand, T.na_Hand_seat, zlen, ?_⟩
    refine ⟨_, rfl, _, rfl, _, _, _, _, rfl, upd_same, T.cl_Hand, T.na_Hand_highest, lt1000 (plen (zle (ks := handK))), ?_⟩
    rw [upd_upd]
    have e4 : Go (fun t => t = .hand i) g1 H1 g1 (upd H1 a (.ins (He.ga K "Hand") L.dx (putF "highest" (V.int n) (putF "seat" (V.ref x) (handK.zip [.int i, .ref pa, .bl h.up, .int h.said, .int h.high, .ref L.bh, L.sv]))))) := Go.set e1.ok (e1.own _ _ r.own) rfl
    have e3 := (e1.mono fun t z => TH_of z).trans (e4.mono fun t z => by subst z; exact (rfl : TH_ i (.hand i)))
    refine q g1 _ ⟨L.dx, L.bh, L.bxs, .ref x⟩ e3 ⟨e1.own _ _ r.own, ?_, e1.own _ _ r.bown, e4.stay (e1.stay r.bobj r.bown (by intro z; exact z)) (e1.own _ _ r.bown) (by intro z; cases z), paired_imp (fun _ _ => pastV.up e1.D) r.past, ⟨x, SLx, rfl, r1.go e4 (fun t z w => by subst w; exact z)⟩⟩
    rw [upd_same, put_Hand_seat, put_Hand_highest]
def spGoOn (K : PySem.W.Frag) : Sp := fun vs H Q _ => ∃ (g : Gh) (a pa : Addr) (i : Nat) (h : Hnd) (L : HL) (s : Seat) (rv : V) (row : List Msg), vs = [.ref a, rv] ∧ Ok g H ∧ HandR K g H a i pa h L ∧ h.seat = some s ∧ rowV' g.D rv row ∧ h.past.length ≤ 100000 ∧
  ∀ g' H' L', Go (TH_ i) g H g' H' → HandR K g' H' a i pa { h with past := h.past ++ [(s.num, s.mem, row)], seat := none } L' → Q .non H'

end
end Fo
namespace Fo
open PySem PySem.Spec PyProof.Rows L2
section
variable {P : Program} {w : World} {K : PySem.W.Frag} {mg : Str → Option Value} {base : Heap}
abbrev TPost : Tag → Prop := fun t => t = .post
theorem nTH_post {i : Nat} : ∀ t, TH_ i t → ¬ TPost t := fun t z w => by subst w; exact z
theorem toldV.lt {K : PySem.W.Frag} {D D' : Hp} {v : V} {t : Told} (h : toldV K D v t) (e : Same D D') : toldV K D' v t := toldV.up e h
def spSend (K : PySem.W.Frag) : Sp := fun vs H Q _ => ∃ (g : Gh) (a pa : Addr) (i : Nat) (h : Hnd) (L : HL) (s : Seat) (ls : List Ltr) (as : List Addr) (to : Nat) (tv : V) (told : Told), vs = [.ref a, .str told.kind, .int to, tv] ∧ Ok g H ∧ HandR K g H a i pa h L ∧ h.seat = some s ∧
  PostR K g H pa ls as ∧ toldV K g.D tv told ∧ ls.length ≤ 1000000 ∧ ∀ g' H' p, Go TPost g H g' H' → PostR K g' H' pa (ls ++ [⟨i, to, s.num, told⟩]) (as ++ [p]) → Q .non H'
theorem sc_Hand_send : FnScope ["self", "kind", "to", "told"] ["self", "kind", "to", "told"] (defScope s_Hand_send) := ⟨rfl, rfl, rfl, by decide +kernel, rfl, by decide +kernel, by decide +kernel⟩
set_option maxRecDepth 100000 in
theorem ok_Hand_send (T : Txt K mg) : OkF P w K mg base CX0 3 (He.ma K (He.ga K "Hand") "send") ["self", "kind", "to", "told"] (spSend K) := by
  obtain ⟨fd, F⟩ := T.F_Hand_send
  obtain ⟨fd_Letter_init, G_Letter_init⟩ := ok_Letter_init (P := P) (w := w) (base := base) T
  refine ⟨fd, F.ok sc_Hand_send (fun vs H Q E h => ?_) (fun cdv A outer s H vs Q E hr h => ?_), F.bindsN fun _ _ _ _ _ _ us hl => match us, hl with | [_, _, _, _], _ => rfl, F.kp⟩
  · obtain ⟨_, _, _, _, _, _, _, _, _, _, _, _, rfl, _⟩ := h
    rfl
  · refine ⟨_, PSs.nox (pss_one (ps_expr (pe_bm PySem.F.plainAttrs_list PySem.F.slot_list_append PySem.F.type_list_append mt_append (pe_fld (pv 0) rfl) (pa_cons (pe_make T.mk_Letter G_Letter_init.1 (hr.mono (by decide)) rfl T.g_Letter G_Letter_init.2.1 .nil pass0 (pa_cons (pv 1) (pa_cons (pe_fld (pv 0) rfl) (pa_cons (pv 2) (pa_cons (pe_fld (pe_fld (pv 0) rfl) rfl) (pa_cons (pv 3) pa_nil)))))) pa_nil)))), ?_⟩
    obtain ⟨g, a, pa, i, h, L, s, ls, as, to, tv, told, rfl, k, r, hs, po, ht, hlen, q⟩ := h
    obtain ⟨hup, hsaid, hhigh, hpast, hseat⟩ := h
    cases hs
    obtain ⟨sa, S, hsv, rs⟩ := r.seat
    have ro := r.obj
    rw [hsv] at ro
    refine ⟨_, rfl, _, _, _, _, _, rfl, ro, T.cl_Hand, T.na_Hand_post, zl handK_nd (i := 1) rfl rfl, .inl ⟨rfl, _, SqL.of po.obj⟩, ?_⟩
    refine ⟨_, rfl, _, rfl, _, _, _, _, _, rfl, ro, T.cl_Hand, T.na_Hand_me, zl handK_nd (i := 0) rfl rfl, _, rfl, _, rfl, _, _, _, _, _, rfl, ro, T.cl_Hand, T.na_Hand_seat, zl handK_nd (i := 6) rfl rfl, _, _, _, _, _, rfl, rs.obj, T.cl_Seat, T.na_Seat_number, zl seatK_nd (i := 0) rfl rfl, _, rfl, fun x dx hx hdx hne => ?_⟩
    refine ⟨x, dx, _, _, _, _, _, rfl, upd_same, rfl, ?_⟩
    rw [upd_upd]
    have e1 : Go TPost g H g (upd H dx (.own x)) := Go.ext k (same_upd hdx)
    have fx : upd H dx (HO.own x) x = none := by rw [upd_ne hne.symm]; exact hx
    have e2 : Go TPost g _ (g.addD x _) (upd (upd H dx (.own x)) x (.ins (He.ga K "Letter") dx (letK.zip [.str told.kind, .int i, .int to, .int s.num, tv]))) := Go.newD e1.ok fx
    have po1 : (upd (upd H dx (.own x)) x (.ins (He.ga K "Letter") dx (letK.zip [.str told.kind, .int i, .int to, .int s.num, tv]))) pa = some (.lst (as.map V.ref)) := same_upd fx _ _ (same_upd hdx _ _ po.obj)
    have e3 : Go TPost _ _ (g.addD x _) (upd (upd (upd H dx (.own x)) x (.ins (He.ga K "Letter") dx (letK.zip [.str told.kind, .int i, .int to, .int s.num, tv]))) pa (.lst (as.map V.ref ++ [V.ref x]))) := Go.set e2.ok po.own rfl
    refine ⟨pa, _, _, rfl, rfl, po1, Nat.lt_of_le_of_lt (show _ ≤ 1000000 by rw [List.length_map, paired_len po.ls]; exact hlen) (by decide), ?_⟩
    refine q _ _ x ((e1.trans e2).trans e3) ⟨po.own, by rw [upd_same, List.map_append]; rfl, paired_app (paired_imp (fun _ _ => letV.up e2.D) po.ls) (.cons ⟨dx, tv, ?_, ht.up e2.D⟩ .nil)⟩
    show upd g.D x _ x = _
    exact upd_same
def spSendEach (K : PySem.W.Frag) : Sp := fun vs H Q _ => ∃ (g : Gh) (a pa b : Addr) (i : Nat) (h : Hnd) (L : HL) (s : Seat) (ls : List Ltr) (as : List Addr) (hs : List Int) (tv : V) (told : Told), vs = [.ref a, .str told.kind, .ref b, tv] ∧ Ok g H ∧ HandR K g H a i pa h L ∧ h.seat = some s ∧
  PostR K g H pa ls as ∧ H b = some (.lst (hs.map V.int)) ∧ g.own b = none ∧ (∀ x ∈ hs, 0 ≤ x) ∧ toldV K g.D tv told ∧ ls.length + hs.length ≤ 1000000 ∧ ∀ g' H' as', Go TPost g H g' H' → PostR K g' H' pa (ls ++ mail i s hs told) as' → Q .non H'
def spSendOthers (K : PySem.W.Frag) : Sp := fun vs H Q _ => ∃ (g : Gh) (a pa : Addr) (i : Nat) (h : Hnd) (L : HL) (s : Seat) (ls : List Ltr) (as : List Addr) (tv : V) (told : Told), vs = [.ref a, .str told.kind, tv] ∧ Ok g H ∧ HandR K g H a i pa h L ∧ h.seat = some s ∧
  PostR K g H pa ls as ∧ (∀ x ∈ s.mem, 0 ≤ x) ∧ s.mem.length ≤ 1000 ∧ toldV K g.D tv told ∧ ls.length + 1000 ≤ 1000000 ∧ ∀ g' H' as', Go TPost g H g' H' → PostR K g' H' pa (ls ++ mail i s (s.others i) told) as' → Q .non H'

end
end Fo
namespace Fo
open PySem PySem.Spec PyProof.Rows L2
section
variable {P : Program} {w : World} {K : PySem.W.Frag} {mg : Str → Option Value} {base : Heap}
theorem insD_perm (x : Nat) : ∀ l : List Nat, (insD x l).Perm (x :: l)
  | [] => List.Perm.refl _
  | y :: r => by
    show (if y ≤ x then x :: y :: r else y :: insD x r).Perm (x :: y :: r)
    split
    · exact List.Perm.refl _
    · exact ((insD_perm x r).cons y).trans (List.Perm.swap x y r)
theorem sortD_perm : ∀ l : List Nat, (sortD l).Perm l
  | [] => List.Perm.refl _
  | x :: r => (insD_perm x _).trans ((sortD_perm r).cons x)
theorem insD_sorted (x : Nat) : ∀ l : List Nat, l.Pairwise (· ≥ ·) → (insD x l).Pairwise (· ≥ ·)
  | [], _ => List.pairwise_singleton _ _
  | y :: r, h => by
    show (if y ≤ x then x :: y :: r else y :: insD x r).Pairwise (· ≥ ·)
    have h1 := List.pairwise_cons.mp h
    split
    · rename_i hx
      refine List.pairwise_cons.mpr ⟨fun z hz => ?_, h⟩
      rcases List.mem_cons.mp hz with rfl | hz
      · exact hx
      · exact Nat.le_trans (h1.1 z hz) hx
    · rename_i hx
      refine List.pairwise_cons.mpr ⟨fun z hz => ?_, insD_sorted x r h1.2⟩
      rcases List.mem_cons.mp ((insD_perm x r).mem_iff.mp hz) with rfl | hz
      · exact Nat.le_of_lt (Nat.lt_of_not_le hx)
      · exact h1.1 z hz
theorem sortD_sorted : ∀ l : List Nat, (sortD l).Pairwise (· ≥ ·)
  | [] => List.Pairwise.nil
  | x :: r => insD_sorted x _ (sortD_sorted r)
def zI (l : List Nat) : List Int := l.map fun (n : Nat) => (n : Int)
theorem zI_len (l : List Nat) : (zI l).length = l.length := List.length_map _
theorem sortD_is {l : List Nat} {ns : List Int} (p : ns.Perm (zI l)) (s : ns.Pairwise (· ≥ ·)) : ns = zI (sortD l) := by
  refine List.Perm.eq_of_pairwise (le := fun a b : Int => a ≥ b) (fun a b _ _ h1 h2 => Int.le_antisymm h2 h1) s ?_ (p.trans ((sortD_perm l).symm.map _))
  unfold zI
  rw [List.pairwise_map]
  exact (sortD_sorted l).imp fun h => by omega
theorem insA_perm (x : Int) : ∀ l : List Int, (insA x l).Perm (x :: l)
  | [] => List.Perm.refl _
  | y :: r => by
    show (if x ≤ y then x :: y :: r else y :: insA x r).Perm (x :: y :: r)
    split
    · exact List.Perm.refl _
    · exact ((insA_perm x r).cons y).trans (List.Perm.swap x y r)
theorem sortA_perm : ∀ l : List Int, (sortA l).Perm l
  | [] => List.Perm.refl _
  | x :: r => (insA_perm x _).trans ((sortA_perm r).cons x)
theorem insA_sorted (x : Int) : ∀ l : List Int, l.Pairwise (· ≤ ·) → (insA x l).Pairwise (· ≤ ·)
  | [], _ => List.pairwise_singleton _ _
  | y :: r, h => by
    show (if x ≤ y then x :: y :: r else y :: insA x r).Pairwise (· ≤ ·)
    have h1 := List.pairwise_cons.mp h
    split
    · rename_i hx
      refine List.pairwise_cons.mpr ⟨fun z hz => ?_, h⟩
      rcases List.mem_cons.mp hz with rfl | hz
      · exact hx
      · exact Int.le_trans hx (h1.1 z hz)
    · rename_i hx
      refine List.pairwise_cons.mpr ⟨fun z hz => ?_, insA_sorted x r h1.2⟩
      rcases List.mem_cons.mp ((insA_perm x r).mem_iff.mp hz) with rfl | hz
      · omega
      · exact h1.1 z hz
theorem sortA_sorted : ∀ l : List Int, (sortA l).Pairwise (· ≤ ·)
  | [] => List.Pairwise.nil
  | x :: r => insA_sorted x _ (sortA_sorted r)
theorem sortA_is {l ns : List Int} (p : ns.Perm l) (s : ns.Pairwise (· ≤ ·)) : ns = sortA l :=
  List.Perm.eq_of_pairwise (le := fun a b : Int => a ≤ b) (fun a b _ _ h1 h2 => Int.le_antisymm h1 h2) s (sortA_sorted l) (p.trans (sortA_perm l).symm)
/-- what a seat must be for its hand's doings to run through -/
structure SOk (i : Nat) (s : Seat) : Prop where
  me : (i : Int) ∈ s.mem
  pos : ∀ x ∈ s.mem, 0 ≤ x
  ml : s.mem.length ≤ 9
  rl : s.row.length ≤ 1000
  nd : s.mem.Nodup
  hk : s.hold.map (·.1) = s.mem
theorem putA_keys {α : Type} {k : Int} {v : α} {l : List (Int × α)} (h : k ∈ l.map (·.1)) : (putA k v l).map (·.1) = l.map (·.1) := by
  have h1 : (l.any fun p => decide (p.1 = k)) = true := by
    obtain ⟨p, hp, e⟩ := List.mem_map.mp h
    exact List.any_eq_true.mpr ⟨p, hp, decide_eq_true e⟩
  unfold putA
  rw [if_pos h1, List.map_map]
  refine List.map_congr_left fun p _ => ?_
  show (if p.1 = k then (p.1, v) else p).1 = p.1
  split <;> rfl
/-- a seat of a hand is as it was but for what Go names -/
theorem HandR.reseat {K : PySem.W.Frag} {g g' : Gh} {H H' : Hp} {a pa sa : Addr} {i : Nat} {h : Hnd} {L : HL} {s' : Seat} {S' : SL} (r : HandR K g H a i pa h L) (hsv : L.sv = .ref sa) (e : Go (TS_ i) g H g' H') (rs : SeatR K g' H' sa i s' S') :
    HandR K g' H' a i pa { h with seat := some s' } L :=
  ⟨e.own _ _ r.own, e.stay r.obj r.own (fun z => z), e.own _ _ r.bown, e.stay r.bobj r.bown (fun z => z), paired_imp (fun _ _ => pastV.up e.D) r.past, ⟨sa, S', hsv, rs⟩⟩
theorem TS_post {i : Nat} : ¬ TS_ i .post := fun z => z
theorem TP_post {i : Nat} : ∀ t, TPost t → TP i t := fun _ h => .inl h
theorem TP_seat {i : Nat} : ∀ t, TS_ i t → TP i t := fun _ h => .inr (TH_of h)
theorem TP_hand {i : Nat} : ∀ t, TH_ i t → TP i t := fun _ h => .inr h
theorem holdK_vals (l : List (Int × Nat)) : (holdK l).map (·.2) = (zI (l.map (·.2))).map V.int := by
  unfold holdK zI
  rw [List.map_map, List.map_map, List.map_map]
  rfl
def spTweh (K : PySem.W.Frag) : Sp := fun vs H Q _ => ∃ (g : Gh) (a pa : Addr) (i : Nat) (h : Hnd) (L : HL) (s : Seat) (ls : List Ltr) (as : List Addr), vs = [.ref a] ∧ Ok g H ∧ HandR K g H a i pa h L ∧ h.seat = some s ∧ SOk i s ∧ PostR K g H pa ls as ∧ ls.length + 1000 ≤ 1000000 ∧
  ∀ g' H' as', Go (TP i) g H g' H' → HandR K g' H' a i pa { h with seat := some (s.tweh i).1 } L → PostR K g' H' pa (ls ++ (s.tweh i).2) as' → Q .non H'

end
end Fo
namespace Fo
open PySem PySem.Spec PyProof.Rows L2
section
variable {P : Program} {w : World} {K : PySem.W.Frag} {mg : Str → Option Value} {base : Heap}
def mOk (m : Msg) : Prop := PyData.strOk m.word = true
def rOk (r : List Msg) : Prop := ∀ m ∈ r, mOk m
def msgD (m : Msg) : PyData := .tuple [.int m.hand, .int m.cnt, .str m.word]
theorem msgD_sd {m : Msg} (h : mOk m) : Sd (msgD m) := ⟨by simp only [msgD, PyData.canLay0, PyData.canLayAll0, Bool.and_true, Bool.true_and]; exact h, by simp [msgD, PyData.depth, PyData.depthAll]⟩
theorem msgV.dp {K : PySem.W.Frag} {D : Hp} {v : V} {m : Msg} (h : msgV D v m) : Dp K D v (msgD m) := by
  obtain ⟨a, rfl, h⟩ := h
  exact .tup (.inl (.inl h)) (.cons (.int _) (.cons (.int _) (.cons (.str _) .nil)))
theorem row_dp {K : PySem.W.Frag} {D : Hp} : ∀ {xs : List V} {r : List Msg}, Paired (msgV D) xs r → DpAll K D xs (r.map msgD)
  | _, _, .nil => .nil
  | _, _, .cons a t => .cons a.dp (row_dp t)
theorem row_sd : ∀ {r : List Msg}, rOk r → SdAll (r.map msgD)
  | [], _ => sdAll_nil
  | m :: r, h => sdAll_cons (msgD_sd (h m List.mem_cons_self)) (row_sd fun x hx => h x (List.mem_cons_of_mem _ hx))
theorem msgD_eqv (a b : Msg) : PyData.eqv (msgD a) (msgD b) = decide (a = b) := by
  simp only [msgD, PyData.eqv, PyData.eqvAll, Bool.and_true]
  obtain ⟨a1, a2, a3⟩ := a
  obtain ⟨b1, b2, b3⟩ := b
  by_cases h1 : a1 = b1 <;> by_cases h2 : a2 = b2 <;> by_cases h3 : a3 = b3 <;> simp [h1, h2, h3]
theorem row_any (m : Msg) (r : List Msg) : ((r.map msgD).any fun z => PyData.eqv z (msgD m)) = decide (m ∈ r) := by
  rw [List.any_map]
  induction r with
  | nil => simp
  | cons x r ih =>
    rw [List.any_cons, ih]
    show (PyData.eqv (msgD x) (msgD m) || decide (m ∈ r)) = _
    rw [msgD_eqv]
    by_cases h : x = m
    · simp [h]
    · have h2 : ¬ m = x := fun e => h e.symm
      simp [h, h2]
theorem SeatR.push {K : PySem.W.Frag} {g : Gh} {H H' : Hp} {sa : Addr} {i : Nat} {s : Seat} {L : SL} {v : V} {m : Msg} (r : SeatR K g H sa i s L) (hm : msgV g.D v m) (e : Go (fun t => t = .row i) g H g H') (he : H' L.ra = some (.lst (L.rxs ++ [v]))) :
    SeatR K g H' sa i { s with row := s.row ++ [m] } { L with rxs := L.rxs ++ [v] } :=
  ⟨r.own, e.stay r.obj r.own (by intro z; cases z), r.mem, r.news, r.rown, he, paired_app r.row (.cons hm .nil), r.hown, e.stay r.hobj r.hown (by intro z; cases z), r.bal, r.agr, r.off.go e (by intro z; cases z) (by intro z; cases z) (by intro z; cases z)⟩
def spSendWish (K : PySem.W.Frag) : Sp := fun vs H Q _ => ∃ (g : Gh) (a pa : Addr) (i : Nat) (h : Hnd) (L : HL) (s : Seat) (ls : List Ltr) (as : List Addr) (word : Str), vs = [.ref a, .str word] ∧ Ok g H ∧ HandR K g H a i pa h L ∧ h.seat = some s ∧ SOk i s ∧ PostR K g H pa ls as ∧ ls.length + 1000 ≤ 1000000 ∧
  ∀ g' H' as', Go (TP i) g H g' H' → HandR K g' H' a i pa (h.say i s word).1 L → PostR K g' H' pa (ls ++ (h.say i s word).2) as' → Q .non H'
/-- a handler of a letter at a hand in a list -/
def spMsg (K : PySem.W.Frag) (pre : Nat → Seat → Ltr → Prop) (f : Seat → Nat → Ltr → Seat × List Ltr) : Sp := fun vs H Q _ => ∃ (g : Gh) (a pa la : Addr) (i : Nat) (h : Hnd) (L : HL) (s : Seat) (ls : List Ltr) (as : List Addr) (l : Ltr), vs = [.ref a, .ref la] ∧ Ok g H ∧ HandR K g H a i pa h L ∧ h.seat = some s ∧ SOk i s ∧ rOk s.row ∧ PostR K g H pa ls as ∧ letV K g.D la l ∧ 0 ≤ l.snd ∧ pre i s l ∧ ls.length + 3000 ≤ 1000000 ∧
  ∀ g' H' as', Go (TP i) g H g' H' → HandR K g' H' a i pa { h with seat := some (f s i l).1 } L → PostR K g' H' pa (ls ++ (f s i l).2) as' → Q .non H'
def preWish (_ : Nat) (s : Seat) (l : Ltr) : Prop := s.row.length < 1000 ∧ ∃ m, l.told = .wish m ∧ mOk m

end
end Fo
namespace Fo
open PySem PySem.Spec PyProof.Rows L2
section
variable {P : Program} {w : World} {K : PySem.W.Frag} {mg : Str → Option Value} {base : Heap}
theorem mail_len (i : Nat) (s : Seat) (hs : List Int) (t : Told) : (mail i s hs t).length = hs.length := List.length_map _
theorem others_len (s : Seat) (i : Nat) : (s.others i).length ≤ s.mem.length := List.length_filter_le _ _
theorem pressGo_app (i : Nat) (s : Seat) : ∀ (xs ys : List Msg) (p : Nat), pressGo i s p (xs ++ ys) = pressGo i s p xs ++ pressGo i s (p + xs.length) ys
  | [], _, p => rfl
  | x :: xs, ys, p => by
    show mail i s (s.others i) (.hold x p) ++ pressGo i s (p + 1) (xs ++ ys) = mail i s (s.others i) (.hold x p) ++ pressGo i s (p + 1) xs ++ _
    rw [pressGo_app i s xs ys (p + 1), List.append_assoc, List.length_cons]
    congr 3
    omega
theorem pressGo_len (i : Nat) (s : Seat) : ∀ (xs : List Msg) (p : Nat), (pressGo i s p xs).length = xs.length * (s.others i).length
  | [], _ => by simp [pressGo]
  | x :: xs, p => by
    show (mail i s (s.others i) (.hold x p) ++ pressGo i s (p + 1) xs).length = _
    rw [List.length_append, mail_len, pressGo_len i s xs (p + 1), List.length_cons, Nat.add_mul, Nat.one_mul, Nat.add_comm]
def spSendAgain (K : PySem.W.Frag) : Sp := fun vs H Q _ => ∃ (g : Gh) (a pa : Addr) (i : Nat) (h : Hnd) (L : HL) (s : Seat) (ls : List Ltr) (as : List Addr), vs = [.ref a] ∧ Ok g H ∧ HandR K g H a i pa h L ∧ h.seat = some s ∧ SOk i s ∧ PostR K g H pa ls as ∧ ls.length + 20000 ≤ 1000000 ∧
  ∀ g' H' as', Go (TP i) g H g' H' → HandR K g' H' a i pa h L → PostR K g' H' pa (ls ++ s.press i) as' → Q .non H'
def preHold (_ : Nat) (s : Seat) (l : Ltr) : Prop := s.row.length < 1000 ∧ ∃ m pl, l.told = .hold m pl
def preHave (_ : Nat) (s : Seat) (l : Ltr) : Prop := l.snd ∈ s.mem ∧ ∃ n, l.told = .have_ n
theorem valV_hold {l : List (Int × Nat)} {k : Int} (h : k ∈ l.map (·.1)) : valV (holdK l) (Sum.inl k) = some (.int (getA k 0 l : Nat)) := by
  obtain ⟨p, hp, e⟩ := List.mem_map.mp h
  unfold valV getA holdK
  rw [List.find?_map]
  have e1 : ((fun (kv : Key × V) => decide (kv.1 = Sum.inl k)) ∘ fun (p : Int × Nat) => ((Sum.inl p.1 : Key), V.int (p.2 : Int))) = fun p => decide (p.1 = k) := by
    funext p
    exact decide_eq_decide.mpr ⟨fun q => Sum.inl.inj q, fun q => congrArg Sum.inl q⟩
  rw [e1]
  cases hf : l.find? fun p => decide (p.1 = k) with
  | none =>
    rw [List.find?_eq_none] at hf
    exact absurd (decide_eq_true e) (hf p hp)
  | some p => rfl
def preTake (_ : Nat) (_ : Seat) (l : Ltr) : Prop := ∃ n, l.told = .take n

end
end Fo
namespace Fo
open PySem PySem.Spec PyProof.Rows L2
section
variable {P : Program} {w : World} {K : PySem.W.Frag} {mg : Str → Option Value} {base : Heap}
theorem off_new {K : PySem.W.Frag} {g : Gh} {H : Hp} (fc : OffF K) (k : Ok g H) {x dx pd ga : Addr} {i : Nat} {bv mv : V} {b : Bal} {ms : List Int} (hx : H x = none) (hdx : H dx = none) (hne : dx ≠ x)
    (hpd : upd (upd H dx (.own x)) x (.ins (He.ga K "Offer") dx []) pd = none) (hga : upd (upd H dx (.own x)) x (.ins (He.ga K "Offer") dx []) ga = none) (hr : ga ≠ pd) (hb : balV K g.D bv b) (hm : memV g.D mv ms) :
    ∃ g' L, Go (TS_ i) g H g' (upd (upd (upd (upd (upd H dx (.own x)) x (.ins (He.ga K "Offer") dx [])) pd (.dK [])) ga (.dK [])) x (.ins (He.ga K "Offer") dx (offK.zip [bv, mv, .ref pd, .non, .ref ga]))) ∧
      OffR K g' (upd (upd (upd (upd (upd H dx (.own x)) x (.ins (He.ga K "Offer") dx [])) pd (.dK [])) ga (.dK [])) x (.ins (He.ga K "Offer") dx (offK.zip [bv, mv, .ref pd, .non, .ref ga]))) x i ⟨b, ms, [], none, []⟩ L := by
  have px : pd ≠ x := fun e => by rw [e, upd_same] at hpd; cases hpd
  have gx : ga ≠ x := fun e => by rw [e, upd_same] at hga; cases hga
  have pdx : pd ≠ dx := fun e => by rw [e, upd_ne hne, upd_same] at hpd; cases hpd
  have gdx : ga ≠ dx := fun e => by rw [e, upd_ne hne, upd_same] at hga; cases hga
  have hpd' : H pd = none := by rw [upd_ne px, upd_ne pdx] at hpd; exact hpd
  have hga' : H ga = none := by rw [upd_ne gx, upd_ne gdx] at hga; exact hga
  rw [upd_over2 px gx]
  have s1 : Go (TS_ i) g H g (upd H dx (.own x)) := Go.ext k (same_upd hdx)
  have f2 : upd H dx (HO.own x) pd = none := by rw [upd_ne pdx]; exact hpd'
  have s2 : Go (TS_ i) g _ (g.addO pd (.proms i)) (upd (upd H dx (.own x)) pd (.dK [])) := Go.newO s1.ok f2 rfl
  have f3 : upd (upd H dx (HO.own x)) pd (.dK []) ga = none := by rw [upd_ne hr, upd_ne gdx]; exact hga'
  have s3 : Go (TS_ i) _ _ ((g.addO pd (.proms i)).addO ga (.ags i)) (upd (upd (upd H dx (.own x)) pd (.dK [])) ga (.dK [])) := Go.newO s2.ok f3 rfl
  have f4 : upd (upd (upd H dx (HO.own x)) pd (.dK [])) ga (.dK []) x = none := by rw [upd_ne gx.symm, upd_ne px.symm, upd_ne hne.symm]; exact hx
  have s4 : Go (TS_ i) _ _ (((g.addO pd (.proms i)).addO ga (.ags i)).addO x (.off i)) (upd (upd (upd (upd H dx (.own x)) pd (.dK [])) ga (.dK [])) x (.ins (He.ga K "Offer") dx (offK.zip [bv, mv, .ref pd, .non, .ref ga]))) := Go.newO s3.ok f4 rfl
  refine ⟨_, ⟨dx, bv, mv, pd, .non, ga, []⟩, ((s1.trans s2).trans s3).trans s4, ⟨addO_same, upd_same, hb, hm, ?_, ?_, .nil, rfl, ?_, ?_, ?_⟩⟩
  · rw [addO_ne px, addO_ne hr.symm, addO_same]
  · rw [upd_ne px, upd_ne hr.symm, upd_same]
  · rw [addO_ne gx, addO_same]
  · rw [upd_ne gx, upd_same]
    rfl
  · exact fc
/-- another offer in the seat -/
theorem SeatR.setOff {K : PySem.W.Frag} {g g' : Gh} {H H' : Hp} {sa : Addr} {i : Nat} {s : Seat} {L : SL} {ov : V} {o : Option Off} (r : SeatR K g H sa i s L) (e : Go (TS_ i) g H g' H') (h0 : H' sa = some (.ins (He.ga K "Seat") L.dx (seatK.zip [.int s.num, L.mv, L.nv, .ref L.ra, .int s.took, .ref L.ha, L.bv, L.av, ov])))
    (h1 : H' L.ra = H L.ra) (h2 : H' L.ha = H L.ha) (ho : OffO K g' H' ov i o) : SeatR K g' H' sa i { s with off := o } { L with ov := ov } :=
  ⟨e.own _ _ r.own, h0, r.mem.up e.D, r.news.up e.D, e.own _ _ r.rown, h1.trans r.robj, paired_imp (fun _ _ => msgV.up e.D) r.row, e.own _ _ r.hown, h2.trans r.hobj, r.bal.up e.D, r.agr.up e.D, ho⟩
theorem SeatR.reoff {K : PySem.W.Frag} {g g' : Gh} {H H' : Hp} {sa oa : Addr} {i : Nat} {s : Seat} {L : SL} {o' : Off} {OL' : OL} {T : Tag → Prop} (r : SeatR K g H sa i s L) (hov : L.ov = .ref oa) (e : Go T g H g' H') (n1 : ¬ T (.seat i)) (n2 : ¬ T (.row i)) (n3 : ¬ T (.hold i)) (ro : OffR K g' H' oa i o' OL') :
    SeatR K g' H' sa i { s with off := some o' } L :=
  ⟨e.own _ _ r.own, e.stay r.obj r.own n1, r.mem.up e.D, r.news.up e.D, e.own _ _ r.rown, e.stay r.robj r.rown n2, paired_imp (fun _ _ => msgV.up e.D) r.row, e.own _ _ r.hown, e.stay r.hobj r.hown n3, r.bal.up e.D, r.agr.up e.D, ⟨oa, OL', hov, ro⟩⟩
/-- the tags of an offer -/
def TO_ (i : Nat) : Tag → Prop
  | .off j | .proms j | .ags j => j = i
  | _ => False
theorem TS_off {i : Nat} : ∀ t, TO_ i t → TS_ i t := fun t h => by cases t <;> first | exact h | exact h.elim
def spSendPrepare (K : PySem.W.Frag) : Sp := fun vs H Q _ => ∃ (g : Gh) (a pa mb : Addr) (i : Nat) (h : Hnd) (L : HL) (s : Seat) (ls : List Ltr) (as : List Addr) (ms : List Int), vs = [.ref a, .ref mb] ∧ Ok g H ∧ HandR K g H a i pa h L ∧ h.seat = some s ∧ SOk i s ∧ PostR K g H pa ls as ∧ H mb = some (.lst (ms.map V.int)) ∧ ms.length ≤ 1000 ∧ ls.length + 1000 ≤ 1000000 ∧
  ∀ g' H' as', Go (TP i) g H g' H' → HandR K g' H' a i pa { h with seat := some (s.propose i ms).1 } L → PostR K g' H' pa (ls ++ (s.propose i ms).2) as' → Q .non H'

end
end Fo
namespace Fo
open PySem PySem.Spec PyProof.Rows L2
section
variable {P : Program} {w : World} {K : PySem.W.Frag} {mg : Str → Option Value} {base : Heap}
theorem balV.lt {K : PySem.W.Frag} {H : Hp} {v w : V} {a b : Bal} (_ : balV K H v a) (_ : balV K H w b) : HT.lexLt [a.1, a.2] [b.1, b.2] = Bal.lt a b := by
  show (if a.1 = b.1 then (if a.2 = b.2 then false else decide (a.2 < b.2)) else decide (a.1 < b.1)) = _
  unfold Bal.lt
  by_cases h1 : a.1 = b.1
  · rw [if_pos h1, if_pos h1]
    by_cases h2 : a.2 = b.2
    · rw [if_pos h2, h2]
      exact (decide_eq_false (by omega)).symm
    · rw [if_neg h2]
  · rw [if_neg h1, if_neg h1]
theorem lexAt_le (a b : Bal) : Ob.lexAt (fun j => decide ([a.1, a.2].getD j 0 = [b.1, b.2].getD j 0)) (fun j => decide ([a.1, a.2].getD j 0 ≤ [b.1, b.2].getD j 0)) (decide ([a.1, a.2].length ≤ [b.1, b.2].length)) 0 (min [a.1, a.2].length [b.1, b.2].length) = !Bal.lt b a := by
  show (if decide (a.1 = b.1) = true then (if decide (a.2 = b.2) = true then true else decide (a.2 ≤ b.2)) else decide (a.1 ≤ b.1)) = _
  unfold Bal.lt
  by_cases h1 : a.1 = b.1
  · rw [decide_eq_true h1, if_pos rfl, if_pos h1.symm]
    by_cases h2 : a.2 = b.2
    · rw [decide_eq_true h2, if_pos rfl, decide_eq_false (show ¬ b.2 < a.2 by omega)]
      rfl
    · rw [decide_eq_false h2, if_neg Bool.false_ne_true]
      by_cases h3 : a.2 ≤ b.2
      · rw [decide_eq_true h3, decide_eq_false (show ¬ b.2 < a.2 by omega)]
        rfl
      · rw [decide_eq_false h3, decide_eq_true (show b.2 < a.2 by omega)]
        rfl
  · rw [decide_eq_false h1, if_neg Bool.false_ne_true, if_neg (fun e => h1 e.symm)]
    by_cases h3 : a.1 ≤ b.1
    · rw [decide_eq_true h3, decide_eq_false (show ¬ b.1 < a.1 by omega)]
      rfl
    · rw [decide_eq_false h3, decide_eq_true (show b.1 < a.1 by omega)]
      rfl
def spSendNews (K : PySem.W.Frag) : Sp := fun vs H Q _ => ∃ (g : Gh) (a pa : Addr) (i : Nat) (h : Hnd) (L : HL) (s : Seat) (ls : List Ltr) (as : List Addr) (o : Nat) (n : News), vs = [.ref a, .int o] ∧ Ok g H ∧ HandR K g H a i pa h L ∧ h.seat = some s ∧ s.news = some n ∧ PostR K g H pa ls as ∧ ls.length ≤ 1000000 ∧
  ∀ g' H' as', Go TPost g H g' H' → PostR K g' H' pa (ls ++ [⟨i, o, s.num, .enter n⟩]) as' → Q .non H'
def prePrep (_ : Nat) (_ : Seat) (l : Ltr) : Prop := ∃ b, l.told = .prepare b
def preAcc (_ : Nat) (_ : Seat) (l : Ltr) : Prop := ∃ a, l.told = .accept a
def spIsLast (K : PySem.W.Frag) : Sp := fun vs H Q _ => ∃ (g : Gh) (ov bv : V) (i : Nat) (o : Option Off) (b : Bal), vs = [ov, bv] ∧ Ok g H ∧ OffO K g H ov i o ∧ balV K g.D bv b ∧ Q (.bl (match o with | none => false | some o => decide (o.bal = b))) H

end
end Fo
namespace Fo
open PySem PySem.Spec PyProof.Rows L2
section
variable {P : Program} {w : World} {K : PySem.W.Frag} {mg : Str → Option Value} {base : Heap}
theorem gtP_is (p q : Bal) : Ob.lexAt (fun j => decide ([p.1, p.2].getD j 0 = [q.1, q.2].getD j 0)) (fun j => decide ([q.1, q.2].getD j 0 < [p.1, p.2].getD j 0)) (decide ([q.1, q.2].length < [p.1, p.2].length)) 0 (min [p.1, p.2].length [q.1, q.2].length) = Bal.lt q p := by
  show (if decide (p.1 = q.1) = true then (if decide (p.2 = q.2) = true then false else decide (q.2 < p.2)) else decide (q.1 < p.1)) = _
  unfold Bal.lt
  by_cases h1 : p.1 = q.1
  · rw [decide_eq_true h1, if_pos rfl, if_pos h1.symm]
    by_cases h2 : p.2 = q.2
    · rw [decide_eq_true h2, if_pos rfl, decide_eq_false (show ¬ q.2 < p.2 by omega)]
    · rw [decide_eq_false h2, if_neg Bool.false_ne_true]
  · rw [decide_eq_false h1, if_neg Bool.false_ne_true, if_neg (fun e => h1 e.symm)]
theorem bestA_cons (b : Option Agr) (x : Int) (r : List Msg) (a : Option Agr) (t : List (Int × List Msg × Option Agr)) : bestA b ((x, r, a) :: t) = bestA (bstep b a) t := rfl
theorem oagr_non {K : PySem.W.Frag} {D : Hp} {v : V} {a : Option Agr} (h : oagrV K D v a) : decide (v = V.non) = a.isNone := by
  cases a with
  | none => rw [show v = .non from h]; rfl
  | some a => obtain ⟨t, _, _, _, rfl, _⟩ := h; rfl
def spPutFwd (K : PySem.W.Frag) : Sp := fun vs H Q _ => ∃ (g : Gh) (oa : Addr) (i : Nat) (o : Off) (L : OL), vs = [.ref oa] ∧ Ok g H ∧ OffR K g H oa i o L ∧ o.proms.length ≤ 1000 ∧ ∀ g' H' v, Go (fun _ => False) g H g' H' → fwdV g'.D v (some o.forward) → Q v H'

end
end Fo
namespace Fo
open PySem PySem.Spec PyProof.Rows L2
section
variable {P : Program} {w : World} {K : PySem.W.Frag} {mg : Str → Option Value} {base : Heap}
theorem prom_any {K : PySem.W.Frag} {D : Hp} {k : Int} : ∀ {pkv : List (Key × V)} {ps : List (Int × List Msg × Option Agr)}, Paired (fun (q : Key × V) (p : Int × List Msg × Option Agr) => q.1 = Sum.inl p.1 ∧ promV K D q.2 p.2) pkv ps → (pkv.any fun kv => decide (kv.1 = Sum.inl k)) = decide (k ∈ ps.map (·.1))
  | _, _, .nil => by simp
  | _, _, .cons (a := q) (b := p) a t => by
    rw [List.any_cons, prom_any t, List.map_cons]
    have e : decide (q.1 = Sum.inl k) = decide (k = p.1) := decide_eq_decide.mpr ⟨fun h => by rw [a.1] at h; exact (Sum.inl.inj h).symm, fun h => by rw [a.1, h]⟩
    rw [e]
    by_cases h : k = p.1
    · simp [h]
    · simp [h]
theorem valV_isSome {k : Key} : ∀ (kvs : List (Key × V)), (valV kvs k).isSome = kvs.any fun kv => decide (kv.1 = k) := by
  intro kvs
  unfold valV
  rw [Option.isSome_map, Bool.eq_iff_iff, List.find?_isSome, List.any_eq_true]
theorem putK_new {kvs : List (Key × V)} {k : Key} {v : V} (h : (kvs.any fun kv => decide (kv.1 = k)) = false) : putK kvs k v = kvs ++ [(k, v)] := by
  unfold putK
  rw [h]
  exact if_neg Bool.false_ne_true
theorem OffR.addProm {K : PySem.W.Frag} {g : Gh} {H H' : Hp} {oa : Addr} {i : Nat} {o : Off} {L : OL} {k : Int} {v : V} {p : List Msg × Option Agr} (r : OffR K g H oa i o L) (e : Go (fun t => t = .proms i) g H g H') (he : H' L.pa = some (.dK (L.pkv ++ [(Sum.inl k, v)]))) (hv : promV K g.D v p) :
    OffR K g H' oa i { o with proms := o.proms ++ [(k, p)] } { L with pkv := L.pkv ++ [(Sum.inl k, v)] } :=
  ⟨r.own, e.stay r.obj r.own (by intro z; cases z), r.bal, r.mem, r.pown, he, paired_app r.prom (.cons ⟨rfl, hv⟩ .nil), r.fwd, r.gown, e.stay r.gobj r.gown (by intro z; cases z), r.fc⟩
theorem OffR.setFwd {K : PySem.W.Frag} {g : Gh} {H H' : Hp} {oa : Addr} {i : Nat} {o : Off} {L : OL} {v : V} {p : Option (List Int × List Msg)} (r : OffR K g H oa i o L) (e : Go (fun t => t = .off i) g H g H') (he : H' oa = some (.ins (He.ga K "Offer") L.dx (offK.zip [L.bv, L.mv, .ref L.pa, v, .ref L.ga]))) (hv : fwdV g.D v p) :
    OffR K g H' oa i { o with fwd := p } { L with fv := v } :=
  ⟨r.own, he, r.bal, r.mem, r.pown, e.stay r.pobj r.pown (by intro z; cases z), r.prom, hv, r.gown, e.stay r.gobj r.gown (by intro z; cases z), r.fc⟩
def preProm (_ : Nat) (s : Seat) (l : Ltr) : Prop := (∀ o, s.off = some o → o.proms.length ≤ 100) ∧ ∃ b row a, l.told = .promise b row a

end
end Fo
namespace Fo
open PySem PySem.Spec PyProof.Rows L2
section
variable {P : Program} {w : World} {K : PySem.W.Frag} {mg : Str → Option Value} {base : Heap}
theorem agsK_any (k : Int) : ∀ l : List Int, ((agsK l).any fun kv => decide (kv.1 = Sum.inl k)) = decide (k ∈ l)
  | [] => by simp [agsK]
  | x :: l => by
    show (decide ((Sum.inl x : Key) = Sum.inl k) || (agsK l).any fun kv => decide (kv.1 = Sum.inl k)) = _
    rw [agsK_any k l]
    have e : decide ((Sum.inl x : Key) = Sum.inl k) = decide (k = x) := decide_eq_decide.mpr ⟨fun h => (Sum.inl.inj h).symm, fun h => by rw [h]⟩
    rw [e]
    by_cases h : k = x <;> simp [h]
theorem agsK_keys (l : List Int) : (agsK l).map (·.1) = l.map Sum.inl := by
  unfold agsK
  rw [List.map_map]
  rfl
theorem strict_eq {a b : List Int} (ha : a.Pairwise (· < ·)) (hb : b.Pairwise (· < ·)) (h : ∀ x, x ∈ a ↔ x ∈ b) : a = b := by
  have na : a.Nodup := ha.imp fun {x y} q => by omega
  have nb : b.Nodup := hb.imp fun {x y} q => by omega
  exact List.Perm.eq_of_pairwise (le := fun x y : Int => x < y) (fun x y _ _ h1 h2 => by omega) ha hb ((List.perm_ext_iff_of_nodup na nb).mpr h)
theorem both_nodup {a b : List Int} (ha : a.Nodup) (hb : b.Nodup) : (a ++ b.filter fun h => decide (h ∉ a)).Nodup := by
  refine List.nodup_append.mpr ⟨ha, hb.sublist List.filter_sublist, fun x hx y hy e => ?_⟩
  subst e
  have := (List.mem_filter.mp hy).2
  simp at this
  exact this hx
theorem both_strict {a b : List Int} (ha : a.Nodup) (hb : b.Nodup) : (bothOf a b).Pairwise (· < ·) := by
  have n : (bothOf a b).Nodup := (sortA_perm _).nodup_iff.mpr (both_nodup ha hb)
  have s := sortA_sorted (a ++ b.filter fun h => decide (h ∉ a))
  exact (List.Pairwise.and s n).imp fun {x y} q => by have := q.1; have := q.2; omega
theorem both_mem {a b : List Int} {x : Int} : x ∈ bothOf a b ↔ x ∈ a ++ b := by
  unfold bothOf
  rw [(sortA_perm _).mem_iff, List.mem_append, List.mem_append, List.mem_filter]
  by_cases h : x ∈ a <;> simp [h]
theorem OffR.addAg {K : PySem.W.Frag} {g : Gh} {H H' : Hp} {oa : Addr} {i : Nat} {o : Off} {L : OL} {k : Int} (r : OffR K g H oa i o L) (e : Go (fun t => t = .ags i) g H g H') (he : H' L.ga = some (.dK (agsK (o.ags ++ [k])))) :
    OffR K g H' oa i { o with ags := o.ags ++ [k] } L :=
  ⟨r.own, e.stay r.obj r.own (by intro z; cases z), r.bal, r.mem, r.pown, e.stay r.pobj r.pown (by intro z; cases z), r.prom, r.fwd, r.gown, he, r.fc⟩
def FwdOk (f : List Int × List Msg) : Prop := f.1.Nodup ∧ (∀ x ∈ f.1, 0 ≤ x) ∧ f.1.length ≤ 9
def preAgr (_ : Nat) (s : Seat) (l : Ltr) : Prop := ∃ b, l.told = .agree b ∧ ∀ o, s.off = some o → o.ags.length ≤ 100 ∧ (o.bal = b → ∃ f, o.fwd = some f ∧ FwdOk f)

end
end Fo
namespace Fo
open PySem PySem.Spec PyProof.Rows L2
section
variable {P : Program} {w : World} {K : PySem.W.Frag} {mg : Str → Option Value} {base : Heap}
theorem inV_ints (x : Int) : ∀ ms : List Int, inV (.int x) (ms.map V.int) = decide (x ∈ ms)
  | [] => by simp [inV]
  | y :: ms => by
    show (eqV (.int y) (.int x) || inV (.int x) (ms.map V.int)) = _
    rw [inV_ints x ms]
    have e : eqV (.int y) (.int x) = decide (x = y) := by
      show _ = _
      by_cases h : x = y
      · subst h; simp [eqV]
      · have h2 : ¬ y = x := fun e => h e.symm
        simp [eqV, h, h2]
    rw [e]
    by_cases h : x = y <;> simp [h]
theorem flat_ints : ∀ ms : List Int, (ms.map V.int).all flatV = true
  | [] => rfl
  | _ :: ms => by rw [List.map_cons, List.all_cons, flat_ints ms]; rfl
def spEnter (K : PySem.W.Frag) : Sp := fun vs H Q _ => ∃ (g : Gh) (a pa la : Addr) (i : Nat) (h : Hnd) (L : HL) (l : Ltr) (n : News), vs = [.ref a, .ref la] ∧ Ok g H ∧ HandR K g H a i pa h L ∧ letV K g.D la l ∧ l.told = .enter n ∧ n.mem.Nodup ∧ n.mem.length ≤ 9 ∧ h.past.length ≤ 100000 ∧
  ∀ g' H' L', Go (TH_ i) g H g' H' → HandR K g' H' a i pa (h.enterC i n) L' → Q .non H'

end
end Fo
namespace Fo
open PySem PySem.Spec PyProof.Rows L2
section
variable {P : Program} {w : World} {K : PySem.W.Frag} {mg : Str → Option Value} {base : Heap}
theorem mc_skip {z k : Str} {t : TS} {r : List (Str × TS)} {D : Ends} {σ : L2.St} {H : Hp} (h : ¬ z = k) (q : tMc z r D σ H) : tMc z ((k, t) :: r) D σ H := by
  show (if z = k then t D σ H else tMc z r D σ H)
  rw [if_neg h]
  exact q
theorem mc_hit {z : Str} {t : TS} {r : List (Str × TS)} {D : Ends} {σ : L2.St} {H : Hp} (q : t D σ H) : tMc z ((z, t) :: r) D σ H := by
  show (if z = z then t D σ H else tMc z r D σ H)
  rw [if_pos rfl]
  exact q
def preRead (_ : Nat) (s : Seat) (l : Ltr) : Prop := s.row.length < 1000 ∧ (∀ o, s.off = some o → o.proms.length ≤ 100 ∧ o.ags.length ≤ 100) ∧ match l.told with
  | .wish m => mOk m
  | .have_ _ => l.snd ∈ s.mem
  | .agree b => ∀ o, s.off = some o → o.bal = b → ∃ f, o.fwd = some f ∧ FwdOk f
  | .enter _ => False
  | _ => True
def preOver (i : Nat) (h : Hnd) (l : Ltr) : Prop := h.up = true → match l.told with
  | .enter n => n.mem.Nodup ∧ n.mem.length ≤ 9 ∧ h.past.length ≤ 100000
  | _ => ∀ s, h.seat = some s → s.num = l.num → SOk i s ∧ rOk s.row ∧ preRead i s l
def spOver (K : PySem.W.Frag) : Sp := fun vs H Q _ => ∃ (g : Gh) (a pa la : Addr) (i : Nat) (h : Hnd) (L : HL) (ls : List Ltr) (as : List Addr) (l : Ltr), vs = [.ref a, .ref la] ∧ Ok g H ∧ HandR K g H a i pa h L ∧ PostR K g H pa ls as ∧ letV K g.D la l ∧ 0 ≤ l.snd ∧ preOver i h l ∧ ls.length + 3000 ≤ 1000000 ∧
  ∀ g' H' L' as', Go (TP i) g H g' H' → HandR K g' H' a i pa (h.over i l).1 L' → PostR K g' H' pa (ls ++ (h.over i l).2) as' → Q .non H'

end
end Fo
namespace Fo
open PySem PySem.Spec PyProof.Rows L2
section
variable {P : Program} {w : World} {K : PySem.W.Frag} {mg : Str → Option Value} {base : Heap}
/-! ### the folk -/
structure FL where
  dx : Addr
  pa : Addr
  hl : Addr
  as : List Addr
  hs : List Addr
structure FolkR (K : PySem.W.Frag) (g : Gh) (H : Hp) (fa : Addr) (f : Flk) (L : FL) : Prop where
  ok : Ok g H
  obj : g.D fa = some (.ins (He.ga K "Folk") L.dx (folkK.zip [.int (f.hands.length : Nat), .ref L.pa, .ref L.hl]))
  hl : g.D L.hl = some (.lst (L.hs.map V.ref))
  post : PostR K g H L.pa f.post L.as
  len : L.hs.length = f.hands.length
  hand : ∀ i a h, L.hs[i]? = some a → f.hands[i]? = some h → ∃ hL, HandR K g H a i L.pa h hL
/-- the refusals -/
def xi (x : V) : Nat := match x with
  | .int i => i.toNat
  | _ => 0
def Flk.who (f : Flk) (x : V) : Except Str Nat := if isHandB x (f.hands.length : Nat) = true then .ok (xi x) else .error "BadHand"
def Flk.acts (f : Flk) (x : V) : Except Str (Nat × Seat) := match f.who x with
  | .error e => .error e
  | .ok i => if (f.hand i).up = false then .error "Fallen" else match (f.hand i).seat with
    | none => .error "Outside"
    | some s => .ok (i, s)
def Flk.seatOf (f : Flk) (x : V) : Except Str (Nat × Seat) := match f.who x with
  | .error e => .error e
  | .ok i => match (f.hand i).seat with
    | none => .error "Outside"
    | some s => .ok (i, s)
def Flk.place (f : Flk) (x : V) : Except Str Nat := if isHandB x (f.post.length : Nat) = true then .ok (xi x) else .error "NoLetter"
/-- a promise that may refuse -/
def Res {α : Type} (K : PySem.W.Frag) (H : Hp) (E : XK) (r : Except Str α) (Q : α → Prop) : Prop := match r with
  | .ok a => Q a
  | .error e => E (.ref (He.ga K e)) none H
theorem isHandB_lt {x : V} {n : Nat} (h : isHandB x (n : Nat) = true) : ∃ i : Nat, x = .int i ∧ i < n ∧ xi x = i := by
  cases x with
  | int j =>
    have h1 : (decide (0 ≤ j) && decide (j < (n : Int))) = true := h
    have h2 := Bool.and_eq_true_iff.mp h1
    have h3 := of_decide_eq_true h2.1
    have h4 := of_decide_eq_true h2.2
    exact ⟨j.toNat, by rw [show ((j.toNat : Nat) : Int) = j by omega], by omega, rfl⟩
  | _ => cases h
theorem who_ok {f : Flk} {x : V} {i : Nat} (h : f.who x = .ok i) : x = .int i ∧ i < f.hands.length := by
  unfold Flk.who at h
  split at h
  · rename_i q
    obtain ⟨j, e1, e2, e3⟩ := isHandB_lt q
    cases h
    rw [e3]
    exact ⟨e1, e2⟩
  · cases h
theorem place_ok {f : Flk} {x : V} {i : Nat} (h : f.place x = .ok i) : x = .int i ∧ i < f.post.length := by
  unfold Flk.place at h
  split at h
  · rename_i q
    obtain ⟨j, e1, e2, e3⟩ := isHandB_lt q
    cases h
    rw [e3]
    exact ⟨e1, e2⟩
  · cases h
theorem FolkR.at {K : PySem.W.Frag} {g : Gh} {H : Hp} {fa : Addr} {f : Flk} {L : FL} (r : FolkR K g H fa f L) {i : Nat} (hi : i < f.hands.length) : ∃ a hL, L.hs[i]? = some a ∧ HandR K g H a i L.pa (f.hand i) hL := by
  have h1 : f.hands[i]? = some (f.hand i) := by
    unfold Flk.hand
    rw [List.getD_eq_getElem?_getD, List.getElem?_eq_getElem hi]
    rfl
  have h2 : i < L.hs.length := by rw [r.len]; exact hi
  obtain ⟨hL, h⟩ := r.hand i _ _ (List.getElem?_eq_getElem h2) h1
  exact ⟨_, hL, List.getElem?_eq_getElem h2, h⟩
def spWho (K : PySem.W.Frag) : Sp := fun vs H Q E => ∃ (g : Gh) (fa : Addr) (f : Flk) (L : FL) (x : V), vs = [.ref fa, x] ∧ FolkR K g H fa f L ∧ Thg K H x ∧ Res K H E (f.who x) fun i => ∀ a, L.hs[i]? = some a → Q (.ref a) H
theorem sc_Folk_who : FnScope ["self", "hand"] ["self", "hand"] (defScope s_Folk_who) := ⟨rfl, rfl, rfl, by decide +kernel, rfl, by decide +kernel, by decide +kernel⟩
set_option maxRecDepth 100000 in
theorem ok_Folk_who (T : Txt K mg) : OkF P w K mg base (L2N.CX P w) 3 (He.ma K (He.ga K "Folk") "_who") ["self", "hand"] (spWho K) := by
  obtain ⟨fd, F⟩ := T.F_Folk_who
  obtain ⟨fd_is_hand, G_is_hand⟩ := ok_is_hand (P := P) (w := w) (base := base) T
  refine ⟨fd, F.ok sc_Folk_who (fun vs H Q E h => ?_) (fun cdv A outer s H vs Q E hr h => ?_), F.bindsN fun _ _ _ _ _ _ us hl => match us, hl with | [_, _], _ => rfl, F.kp⟩
  · obtain ⟨_, _, _, _, _, rfl, _⟩ := h
    rfl
  · refine ⟨_, (pss_cons (ps_if (pt_not (pt_val (pe_call G_is_hand.1 (hr.mono (by decide)) rfl T.g_is_hand G_is_hand.2.2 G_is_hand.2.1 .nil pass0 (pa_cons (pv 1) (pa_cons (pe_fld (pv 0) rfl) pa_nil))))) (pss_one (L2N.ps_raise rfl (L2N.takes_of rfl rfl rfl rfl) (L2N.pmk_own PySem.F.excBase_ValueError T.xi_BadHand T.g_BadHand T.kp_BadHand (raises_own T.xs_BadHand T.xt_BadHand) rfl))) pss_nil) (pss_one (ps_ret (pe_ix ix_list (pe_fld (pv 0) rfl) (pv 1) (fun _ _ => rfl))))), ?_⟩
    obtain ⟨g, fa, f, L, x, rfl, r, hx, q⟩ := h
    have ro := r.ok.sub _ _ r.obj
    refine ⟨_, rfl, _, rfl, _, _, _, _, _, rfl, ro, T.cl_Folk, T.na_Folk_many, zl folkK_nd (i := 0) rfl rfl, x, _, rfl, hx, _, rfl, ?_⟩
    unfold Flk.who at q
    cases hb : isHandB x (f.hands.length : Nat) with
    | false =>
      rw [hb] at q
      exact iteT q
    | true =>
      rw [hb] at q
      obtain ⟨i, rfl, hi, e⟩ := isHandB_lt hb
      obtain ⟨a, hL, ha, hr⟩ := r.at hi
      have q2 : ∀ a, L.hs[i]? = some a → Q (.ref a) H := q
      refine iteF ⟨_, rfl, _, _, _, _, _, rfl, ro, T.cl_Folk, T.na_Folk__hands, zl folkK_nd (i := 2) rfl rfl, _, rfl, L.hl, _, _, _, rfl, rfl, SqL.of (r.ok.sub _ _ r.hl), atI_nat (by rw [List.getElem?_map, ha]; rfl), ?_⟩
      exact q2 a ha
def spWhoActs (K : PySem.W.Frag) : Sp := fun vs H Q E => ∃ (g : Gh) (fa : Addr) (f : Flk) (L : FL) (x : V), vs = [.ref fa, x] ∧ FolkR K g H fa f L ∧ Thg K H x ∧ Res K H E (f.acts x) fun p => ∀ a, L.hs[p.1]? = some a → Q (.ref a) H
def spSeatOf (K : PySem.W.Frag) : Sp := fun vs H Q E => ∃ (g : Gh) (fa : Addr) (f : Flk) (L : FL) (x : V), vs = [.ref fa, x] ∧ FolkR K g H fa f L ∧ Thg K H x ∧ Res K H E (f.seatOf x) fun p => ∀ sa S, SeatR K g H sa p.1 p.2 S → Q (.ref sa) H
theorem sc_Folk_seat_of : FnScope ["self", "hand", "who"] ["self", "hand"] (defScope s_Folk_seat_of) := ⟨rfl, rfl, rfl, by decide +kernel, rfl, by decide +kernel, by decide +kernel⟩
set_option maxRecDepth 100000 in
theorem ok_Folk_seat_of (T : Txt K mg) : OkF P w K mg base (L2N.CX P w) 4 (He.ma K (He.ga K "Folk") "_seat_of") ["self", "hand"] (spSeatOf K) := by
  obtain ⟨fd, F⟩ := T.F_Folk_seat_of
  obtain ⟨fd_Folk_who, G_Folk_who⟩ := ok_Folk_who (P := P) (w := w) (base := base) T
  refine ⟨fd, F.ok sc_Folk_seat_of (fun vs H Q E h => ?_) (fun cdv A outer s H vs Q E hr h => ?_), F.bindsN fun _ _ _ _ _ _ us hl => match us, hl with | [_, _], _ => rfl, F.kp⟩
  · obtain ⟨_, _, _, _, _, rfl, _⟩ := h
    rfl
  · refine ⟨_, (pss_cons (ps_set (i := 2) sc_Folk_seat_of.nd rfl (Or.inl rfl) (pe_meth (pv 0) T.cl_Folk T.me_Folk_who G_Folk_who.1 (hr.mono (by decide)) G_Folk_who.2.1 .nil (passXN (L2N.takes_of rfl rfl rfl rfl) fun _ _ _ _ h => h) (pa_cons (pv 1) pa_nil))) (pss_cons (ps_if (pt_cmpR op_isN (pe_fld (pv 2) rfl) pe_non (nomark _)) (pss_one (L2N.ps_raise rfl (L2N.takes_of rfl rfl rfl rfl) (L2N.pmk_own PySem.F.excBase_ValueError T.xi_Outside T.g_Outside T.kp_Outside (raises_own T.xs_Outside T.xt_Outside) rfl))) pss_nil) (pss_one (ps_ret (pe_fld (pv 2) rfl))))), ?_⟩
    obtain ⟨g, fa, f, L, x, rfl, r, hx, q⟩ := h
    have ro := r.ok.sub _ _ r.obj
    refine ⟨_, rfl, _, _, _, rfl, ro, zn (by decide +kernel), _, rfl, g, fa, f, L, x, rfl, r, hx, ?_⟩
    unfold Flk.seatOf at q
    cases hw : f.who x with
    | error e =>
      rw [hw] at q
      exact q
    | ok i =>
      rw [hw] at q
      intro a ha
      obtain ⟨rfl, hi⟩ := who_ok hw
      obtain ⟨a', hL, ha', hr⟩ := r.at hi
      rw [ha] at ha'
      cases ha'
      have q2 : Res K H E (match (f.hand i).seat with
        | none => .error "Outside"
        | some s => .ok (i, s)) fun p => ∀ sa S, SeatR K g H sa p.1 p.2 S → Q (.ref sa) H := q
      have hro := hr.obj
      have hst := hr.seat
      cases hse : (f.hand i).seat with
      | none =>
        rw [hse] at hst q2
        rw [show hL.sv = .non from hst] at hro
        exact ⟨_, rfl, _, _, _, _, _, rfl, hro, T.cl_Hand, T.na_Hand_seat, zl handK_nd (i := 6) rfl rfl, rfl, _, rfl, iteT q2⟩
      | some s =>
        rw [hse] at hst q2
        obtain ⟨sa, S, hsv, rs⟩ := hst
        rw [hsv] at hro
        refine ⟨_, rfl, _, _, _, _, _, rfl, hro, T.cl_Hand, T.na_Hand_seat, zl handK_nd (i := 6) rfl rfl, rfl, _, rfl, iteF ⟨_, rfl, _, _, _, _, _, rfl, hro, T.cl_Hand, T.na_Hand_seat, zl handK_nd (i := 6) rfl rfl, ?_⟩⟩
        exact q2 sa S rs

end
end Fo
namespace Fo
open PySem PySem.Spec PyProof.Rows L2
section
variable {P : Program} {w : World} {K : PySem.W.Frag} {mg : Str → Option Value} {base : Heap}
theorem FolkR.ext {K : PySem.W.Frag} {g : Gh} {H H' : Hp} {fa : Addr} {f : Flk} {L : FL} (r : FolkR K g H fa f L) (e : Same H H') : FolkR K g H' fa f L := by
  have x : Go (fun _ => False) g H g H' := Go.ext r.ok e
  exact ⟨x.ok, r.obj, r.hl, r.post.go x (fun z => z), r.len, fun i a h h1 h2 => by
    obtain ⟨hL, q⟩ := r.hand i a h h1 h2
    exact ⟨hL, q.go x (fun _ _ z => z)⟩⟩
def spStands (K : PySem.W.Frag) : Sp := fun vs H Q E => ∃ (g : Gh) (fa : Addr) (f : Flk) (L : FL) (x : V), vs = [.ref fa, x] ∧ FolkR K g H fa f L ∧ Thg K H x ∧ Res K H E (f.who x) fun i => Q (.bl (f.hand i).up) H
theorem sc_Folk_stands : FnScope ["self", "hand"] ["self", "hand"] (defScope s_Folk_stands) := ⟨rfl, rfl, rfl, by decide +kernel, rfl, by decide +kernel, by decide +kernel⟩
set_option maxRecDepth 100000 in
theorem ok_Folk_stands (T : Txt K mg) : OkF P w K mg base (L2N.CX P w) 4 (He.ma K (He.ga K "Folk") "stands") ["self", "hand"] (spStands K) := by
  obtain ⟨fd, F⟩ := T.F_Folk_stands
  obtain ⟨fd_Folk_who, G_Folk_who⟩ := ok_Folk_who (P := P) (w := w) (base := base) T
  refine ⟨fd, F.ok sc_Folk_stands (fun vs H Q E h => ?_) (fun cdv A outer s H vs Q E hr h => ?_), F.bindsN fun _ _ _ _ _ _ us hl => match us, hl with | [_, _], _ => rfl, F.kp⟩
  · obtain ⟨_, _, _, _, _, rfl, _⟩ := h
    rfl
  · refine ⟨_, (pss_one (ps_ret (pe_fld (pe_meth (pv 0) T.cl_Folk T.me_Folk_who G_Folk_who.1 (hr.mono (by decide)) G_Folk_who.2.1 .nil (passXN (L2N.takes_of rfl rfl rfl rfl) fun _ _ _ _ h => h) (pa_cons (pv 1) pa_nil)) rfl))), ?_⟩
    obtain ⟨g, fa, f, L, x, rfl, r, hx, q⟩ := h
    have ro := r.ok.sub _ _ r.obj
    refine ⟨_, rfl, _, _, _, rfl, ro, zn (by decide +kernel), _, rfl, g, fa, f, L, x, rfl, r, hx, ?_⟩
    cases hw : f.who x with
    | error e =>
      rw [hw] at q
      exact q
    | ok i =>
      rw [hw] at q
      intro a ha
      obtain ⟨rfl, hi⟩ := who_ok hw
      obtain ⟨a', hL, ha', hr⟩ := r.at hi
      rw [ha] at ha'
      cases ha'
      exact ⟨_, _, _, _, _, rfl, hr.obj, T.cl_Hand, T.na_Hand_standing, zl handK_nd (i := 2) rfl rfl, q⟩
def spStill (K : PySem.W.Frag) : Sp := fun vs H Q E => ∃ (g : Gh) (fa : Addr) (f : Flk) (L : FL) (x : V), vs = [.ref fa, x] ∧ FolkR K g H fa f L ∧ Thg K H x ∧ Res K H E (f.seatOf x) fun p => Q (.bl p.2.still) H
theorem sc_Folk_is_still : FnScope ["self", "hand"] ["self", "hand"] (defScope s_Folk_is_still) := ⟨rfl, rfl, rfl, by decide +kernel, rfl, by decide +kernel, by decide +kernel⟩
set_option maxRecDepth 100000 in
theorem ok_Folk_is_still (T : Txt K mg) : OkF P w K mg base (L2N.CX P w) 5 (He.ma K (He.ga K "Folk") "is_still") ["self", "hand"] (spStill K) := by
  obtain ⟨fd, F⟩ := T.F_Folk_is_still
  obtain ⟨fd_Seat_answered, G_Seat_answered⟩ := ok_Seat_answered (P := P) (w := w) (base := base) T
  obtain ⟨fd_Folk_seat_of, G_Folk_seat_of⟩ := ok_Folk_seat_of (P := P) (w := w) (base := base) T
  refine ⟨fd, F.ok sc_Folk_is_still (fun vs H Q E h => ?_) (fun cdv A outer s H vs Q E hr h => ?_), F.bindsN fun _ _ _ _ _ _ us hl => match us, hl with | [_, _], _ => rfl, F.kp⟩
  · obtain ⟨_, _, _, _, _, rfl, _⟩ := h
    rfl
  · refine ⟨_, (pss_one (ps_ret (pe_meth0 (pe_meth (pv 0) T.cl_Folk T.me_Folk_seat_of G_Folk_seat_of.1 (hr.mono (by decide)) G_Folk_seat_of.2.1 .nil (passXN (L2N.takes_of rfl rfl rfl rfl) fun _ _ _ _ h => h) (pa_cons (pv 1) pa_nil)) T.cl_Seat T.me_Seat_answered G_Seat_answered.1 (hr.mono (by decide)) G_Seat_answered.2.1 .nil pass0))), ?_⟩
    obtain ⟨g, fa, f, L, x, rfl, r, hx, q⟩ := h
    have ro := r.ok.sub _ _ r.obj
    refine ⟨_, rfl, _, _, _, rfl, ro, zn (by decide +kernel), _, rfl, g, fa, f, L, x, rfl, r, hx, ?_⟩
    cases hw : f.seatOf x with
    | error e =>
      rw [hw] at q
      exact q
    | ok p =>
      rw [hw] at q
      intro sa S rs
      have rso := rs.obj
      exact ⟨_, _, _, rfl, rso, zn (by decide +kernel), sa, _, _, _, p.2.bal, rfl, rso, rfl, rs.bal.up r.ok.sub, q⟩
def spTaken (K : PySem.W.Frag) : Sp := fun vs H Q E => ∃ (g : Gh) (fa : Addr) (f : Flk) (L : FL) (x : V), vs = [.ref fa, x] ∧ FolkR K g H fa f L ∧ Thg K H x ∧ Res K H E (f.seatOf x) fun p => ∀ l xs, H l = none → Paired (msgV g.D) xs (p.2.row.take p.2.took) → Q (.ref l) (upd H l (.lst xs))
theorem paired_take {α β : Type} {R : α → β → Prop} : ∀ {xs : List α} {ys : List β} (n : Nat), Paired R xs ys → Paired R (xs.take n) (ys.take n)
  | _, _, 0, _ => .nil
  | _, _, _ + 1, .nil => .nil
  | _, _, n + 1, .cons r t => .cons r (paired_take n t)
theorem sc_Folk_taken : FnScope ["self", "hand", "seat"] ["self", "hand"] (defScope s_Folk_taken) := ⟨rfl, rfl, rfl, by decide +kernel, rfl, by decide +kernel, by decide +kernel⟩
set_option maxRecDepth 100000 in
theorem ok_Folk_taken (T : Txt K mg) : OkF P w K mg base (L2N.CX P w) 5 (He.ma K (He.ga K "Folk") "taken") ["self", "hand"] (spTaken K) := by
  obtain ⟨fd, F⟩ := T.F_Folk_taken
  obtain ⟨fd_Folk_seat_of, G_Folk_seat_of⟩ := ok_Folk_seat_of (P := P) (w := w) (base := base) T
  refine ⟨fd, F.ok sc_Folk_taken (fun vs H Q E h => ?_) (fun cdv A outer s H vs Q E hr h => ?_), F.bindsN fun _ _ _ _ _ _ us hl => match us, hl with | [_, _], _ => rfl, F.kp⟩
  · obtain ⟨_, _, _, _, _, rfl, _⟩ := h
    rfl
  · refine ⟨_, (pss_cons (ps_set (i := 2) sc_Folk_taken.nd rfl (Or.inl rfl) (pe_meth (pv 0) T.cl_Folk T.me_Folk_seat_of G_Folk_seat_of.1 (hr.mono (by decide)) G_Folk_seat_of.2.1 .nil (passXN (L2N.takes_of rfl rfl rfl rfl) fun _ _ _ _ h => h) (pa_cons (pv 1) pa_nil))) (pss_one (ps_ret (pe_slice sl_list (pe_fld (pv 2) rfl) po_none (po_some (pe_fld (pv 2) rfl)))))), ?_⟩
    obtain ⟨g, fa, f, L, x, rfl, r, hx, q⟩ := h
    have ro := r.ok.sub _ _ r.obj
    refine ⟨_, rfl, _, _, _, rfl, ro, zn (by decide +kernel), _, rfl, g, fa, f, L, x, rfl, r, hx, ?_⟩
    cases hw : f.seatOf x with
    | error e =>
      rw [hw] at q
      exact q
    | ok p =>
      rw [hw] at q
      intro sa S rs
      have rso := rs.obj
      have q2 : ∀ l xs, H l = none → Paired (msgV g.D) xs (p.2.row.take p.2.took) → Q (.ref l) (upd H l (.lst xs)) := q
      refine ⟨_, rfl, _, _, _, _, _, rfl, rso, T.cl_Seat, T.na_Seat_row, zl seatK_nd (i := 3) rfl rfl, _, rfl, _, _, _, _, _, rfl, rso, T.cl_Seat, T.na_Seat_took, zl seatK_nd (i := 4) rfl rfl, _, rfl, S.ra, _, rfl, SqL.of rs.robj, fun l hl => ?_⟩
      have e : cutV S.rxs none (some ((p.2.took : Nat) : Int)) = S.rxs.take p.2.took := by
        unfold cutV
        rw [HT.sIx_none, HT.sIx_nat, List.drop_zero, Nat.sub_zero, List.take_eq_take_iff]
        omega
      rw [e]
      exact q2 l _ hl (paired_take _ rs.row)
def spWitness (K : PySem.W.Frag) : Sp := fun vs H Q E => ∃ (g : Gh) (fa : Addr) (f : Flk) (L : FL) (x : V), vs = [.ref fa, x] ∧ FolkR K g H fa f L ∧ Thg K H x ∧ Res K H E (f.seatOf x) fun p => ∀ l, H l = none → Q (.ref l) (upd H l (.lst ((match p.2.news with | none => ([] : List Int) | some n => n.wit).map V.int)))
theorem sc_Folk_witness : FnScope ["self", "hand", "news"] ["self", "hand"] (defScope s_Folk_witness) := ⟨rfl, rfl, rfl, by decide +kernel, rfl, by decide +kernel, by decide +kernel⟩
set_option maxRecDepth 100000 in
theorem ok_Folk_witness (T : Txt K mg) : OkF P w K mg base (L2N.CX P w) 5 (He.ma K (He.ga K "Folk") "witness") ["self", "hand"] (spWitness K) := by
  obtain ⟨fd, F⟩ := T.F_Folk_witness
  obtain ⟨fd_Folk_seat_of, G_Folk_seat_of⟩ := ok_Folk_seat_of (P := P) (w := w) (base := base) T
  refine ⟨fd, F.ok sc_Folk_witness (fun vs H Q E h => ?_) (fun cdv A outer s H vs Q E hr h => ?_), F.bindsN fun _ _ _ _ _ _ us hl => match us, hl with | [_, _], _ => rfl, F.kp⟩
  · obtain ⟨_, _, _, _, _, rfl, _⟩ := h
    rfl
  · refine ⟨_, (pss_cons (ps_set (i := 2) sc_Folk_witness.nd rfl (Or.inl rfl) (pe_fld (pe_meth (pv 0) T.cl_Folk T.me_Folk_seat_of G_Folk_seat_of.1 (hr.mono (by decide)) G_Folk_seat_of.2.1 .nil (passXN (L2N.takes_of rfl rfl rfl rfl) fun _ _ _ _ h => h) (pa_cons (pv 1) pa_nil)) rfl)) (pss_cons (ps_if (pt_cmpR op_isN (pv 2) pe_non (nomark _)) (pss_one (ps_ret (pe_lst pa_nil))) pss_nil) (pss_one (ps_ret (pe_callTy (T := "list") call_list_of (by rfl) T.b_list (by decide +kernel) (pa_cons (pe_ix ix_tup (pv 2) pe_int (fun _ _ => rfl)) pa_nil)))))), ?_⟩
    obtain ⟨g, fa, f, L, x, rfl, r, hx, q⟩ := h
    have ro := r.ok.sub _ _ r.obj
    refine ⟨_, rfl, _, _, _, rfl, ro, zn (by decide +kernel), _, rfl, g, fa, f, L, x, rfl, r, hx, ?_⟩
    cases hw : f.seatOf x with
    | error e =>
      rw [hw] at q
      exact q
    | ok p =>
      rw [hw] at q
      intro sa S rs
      have rso := rs.obj
      have hn := rs.news
      have q2 : ∀ l, H l = none → Q (.ref l) (upd H l (.lst ((match p.2.news with | none => ([] : List Int) | some n => n.wit).map V.int))) := q
      cases hne : p.2.news with
      | none =>
        rw [hne] at hn q2
        rw [show S.nv = .non from hn] at rso
        exact ⟨_, _, _, _, _, rfl, rso, T.cl_Seat, T.na_Seat_news, zl seatK_nd (i := 2) rfl rfl, _, rfl, rfl, _, rfl, iteT ⟨Nat.zero_le _, fun l hl => q2 l hl⟩⟩
      | some n =>
        rw [hne] at hn q2
        obtain ⟨t, mv, rv, wv, hnv, ht, hm, hr, wl, rfl, hwl⟩ := hn
        rw [hnv] at rso
        refine ⟨_, _, _, _, _, rfl, rso, T.cl_Seat, T.na_Seat_news, zl seatK_nd (i := 2) rfl rfl, _, rfl, rfl, _, rfl, iteF ⟨_, rfl, t, _, _, _, rfl, rfl, .inl (.inl (r.ok.sub _ _ ht)), atI_nat (j := 3) rfl, wl, _, rfl, .inl (SqL.of (r.ok.sub _ _ hwl)), fun l hl => q2 l hl⟩⟩
def spListOf (K : PySem.W.Frag) : Sp := fun vs H Q E => ∃ (g : Gh) (fa : Addr) (f : Flk) (L : FL) (x : V), vs = [.ref fa, x] ∧ FolkR K g H fa f L ∧ Thg K H x ∧ Res K H E (f.seatOf x) fun p => ∀ l t, H l = none → H t = none → t ≠ l → Q (.ref t) (upd (upd H l (.lst (p.2.mem.map V.int))) t (.tup [.int p.2.num, .ref l]))
theorem sc_Folk_list_of : FnScope ["self", "hand", "seat"] ["self", "hand"] (defScope s_Folk_list_of) := ⟨rfl, rfl, rfl, by decide +kernel, rfl, by decide +kernel, by decide +kernel⟩
set_option maxRecDepth 100000 in
theorem ok_Folk_list_of (T : Txt K mg) : OkF P w K mg base (L2N.CX P w) 5 (He.ma K (He.ga K "Folk") "list_of") ["self", "hand"] (spListOf K) := by
  obtain ⟨fd, F⟩ := T.F_Folk_list_of
  obtain ⟨fd_Folk_seat_of, G_Folk_seat_of⟩ := ok_Folk_seat_of (P := P) (w := w) (base := base) T
  refine ⟨fd, F.ok sc_Folk_list_of (fun vs H Q E h => ?_) (fun cdv A outer s H vs Q E hr h => ?_), F.bindsN fun _ _ _ _ _ _ us hl => match us, hl with | [_, _], _ => rfl, F.kp⟩
  · obtain ⟨_, _, _, _, _, rfl, _⟩ := h
    rfl
  · refine ⟨_, (pss_cons (ps_set (i := 2) sc_Folk_list_of.nd rfl (Or.inl rfl) (pe_meth (pv 0) T.cl_Folk T.me_Folk_seat_of G_Folk_seat_of.1 (hr.mono (by decide)) G_Folk_seat_of.2.1 .nil (passXN (L2N.takes_of rfl rfl rfl rfl) fun _ _ _ _ h => h) (pa_cons (pv 1) pa_nil))) (pss_one (ps_ret (pe_tup (pa_cons (pe_fld (pv 2) rfl) (pa_cons (pe_callTy (T := "list") call_list_of (by rfl) T.b_list (by decide +kernel) (pa_cons (pe_fld (pv 2) rfl) pa_nil)) pa_nil)))))), ?_⟩
    obtain ⟨g, fa, f, L, x, rfl, r, hx, q⟩ := h
    have ro := r.ok.sub _ _ r.obj
    refine ⟨_, rfl, _, _, _, rfl, ro, zn (by decide +kernel), _, rfl, g, fa, f, L, x, rfl, r, hx, ?_⟩
    cases hw : f.seatOf x with
    | error e =>
      rw [hw] at q
      exact q
    | ok p =>
      rw [hw] at q
      intro sa S rs
      have rso := rs.obj
      have q2 : ∀ l t, H l = none → H t = none → t ≠ l → Q (.ref t) (upd (upd H l (.lst (p.2.mem.map V.int))) t (.tup [.int p.2.num, .ref l])) := q
      obtain ⟨m, hmv, hm⟩ := rs.mem
      rw [hmv] at rso
      refine ⟨_, rfl, _, _, _, _, _, rfl, rso, T.cl_Seat, T.na_Seat_number, zl seatK_nd (i := 0) rfl rfl, _, rfl, _, _, _, _, _, rfl, rso, T.cl_Seat, T.na_Seat_members, zl seatK_nd (i := 1) rfl rfl, m, _, rfl, .inl (SqL.of (r.ok.sub _ _ hm)), fun l hl => ⟨(by show 2 ≤ sizeLine; decide), fun t ht => ?_⟩⟩
      have n1 : t ≠ l := fun e => by rw [e, upd_same] at ht; cases ht
      rw [upd_ne n1] at ht
      exact q2 l t hl ht n1
/-- a tuple told of a list gone on from, its lists of their own -/
def pastF (D H H' : Hp) (v : V) (p : Int × List Int × List Msg) : Prop := ∃ t l m xs, v = .ref t ∧ H t = none ∧ H l = none ∧ H m = none ∧ H' t = some (.tup [.int p.1, .ref l, .ref m]) ∧ H' l = some (.lst (p.2.1.map V.int)) ∧ H' m = some (.lst xs) ∧ Paired (msgV D) xs p.2.2
def spPast (K : PySem.W.Frag) : Sp := fun vs H Q E => ∃ (g : Gh) (fa : Addr) (f : Flk) (L : FL) (x : V), vs = [.ref fa, x] ∧ FolkR K g H fa f L ∧ Thg K H x ∧ Res K H E (f.who x) fun i => (f.hand i).past.length ≤ 100000 ∧ ∀ l xs H', H l = none → Same H H' → H' l = some (.lst xs) → Paired (pastF g.D H H') xs (f.hand i).past → (∀ v ∈ xs, v ≠ .ref l) → Q (.ref l) H'
theorem pastF.up {D H H1 H2 : Hp} (e : Same H1 H2) {v : V} {p : Int × List Int × List Msg} (h : pastF D H H1 v p) : pastF D H H2 v p := by
  obtain ⟨t, l, m, xs, e1, e2, e3, e4, e5, e6, e7, e8⟩ := h
  exact ⟨t, l, m, xs, e1, e2, e3, e4, e _ _ e5, e _ _ e6, e _ _ e7, e8⟩
/-- a heap told of twice: the list D set aside -/
theorem same_but {H H1 H2 : Hp} {D : Addr} {o u : HO} (hD : H D = none) (e : Same H H1) (h1 : H1 D = some o) (e2 : Same H1 H2) : Same H (upd H2 D u) := fun a w h => by
  rw [upd_ne (fun z => by rw [z, hD] at h; cases h)]
  exact e2 _ _ (e _ _ h)
theorem pastF.but {D H H1 : Hp} {Dd : Addr} {o : HO} {v : V} {p : Int × List Int × List Msg} (h : pastF D H H1 v p) (n : ∀ t l m xs, H1 t = some (.tup [.int p.1, .ref l, .ref m]) → H1 l = some (.lst (p.2.1.map V.int)) → H1 m = some (.lst xs) → v = .ref t → H t = none → H l = none → H m = none → t ≠ Dd ∧ l ≠ Dd ∧ m ≠ Dd) : pastF D H (upd H1 Dd o) v p := by
  obtain ⟨t, l, m, xs, e1, e2, e3, e4, e5, e6, e7, e8⟩ := h
  obtain ⟨n1, n2, n3⟩ := n t l m xs e5 e6 e7 e1 e2 e3 e4
  exact ⟨t, l, m, xs, e1, e2, e3, e4, by rw [upd_ne n1]; exact e5, by rw [upd_ne n2]; exact e6, by rw [upd_ne n3]; exact e7, e8⟩
/-- as pastF, and apart from one address -/
def pastA (D H : Hp) (Dd : Addr) (H' : Hp) (v : V) (p : Int × List Int × List Msg) : Prop := ∃ t l m xs, v = .ref t ∧ H t = none ∧ H l = none ∧ H m = none ∧ t ≠ Dd ∧ l ≠ Dd ∧ m ≠ Dd ∧ H' t = some (.tup [.int p.1, .ref l, .ref m]) ∧ H' l = some (.lst (p.2.1.map V.int)) ∧ H' m = some (.lst xs) ∧ Paired (msgV D) xs p.2.2
theorem pastA.f {D H H' : Hp} {Dd : Addr} {v : V} {p : Int × List Int × List Msg} (h : pastA D H Dd H' v p) : pastF D H H' v p := by
  obtain ⟨t, l, m, xs, e1, e2, e3, e4, _, _, _, e5, e6, e7, e8⟩ := h
  exact ⟨t, l, m, xs, e1, e2, e3, e4, e5, e6, e7, e8⟩
theorem pastA.ne {D H H' : Hp} {Dd : Addr} {v : V} {p : Int × List Int × List Msg} (h : pastA D H Dd H' v p) : v ≠ .ref Dd := by
  obtain ⟨t, l, m, xs, rfl, e2, e3, e4, n, _⟩ := h
  exact fun z => n (V.ref.inj z)
theorem pastA.up {D H H1 H2 : Hp} {Dd : Addr} {v : V} {p : Int × List Int × List Msg} (e : ∀ a o, a ≠ Dd → H1 a = some o → H2 a = some o) (h : pastA D H Dd H1 v p) : pastA D H Dd H2 v p := by
  obtain ⟨t, l, m, xs, e1, e2, e3, e4, n1, n2, n3, e5, e6, e7, e8⟩ := h
  exact ⟨t, l, m, xs, e1, e2, e3, e4, n1, n2, n3, e _ _ n1 e5, e _ _ n2 e6, e _ _ n3 e7, e8⟩
theorem paired_all {α β : Type} {R : α → β → Prop} {P : α → Prop} (h : ∀ a b, R a b → P a) : ∀ {xs : List α} {ys : List β}, Paired R xs ys → ∀ x ∈ xs, P x
  | _, _, .cons r t, x, hx => by
    rcases List.mem_cons.mp hx with rfl | hx
    · exact h _ _ r
    · exact paired_all h t x hx
theorem sc_Folk_past : FnScope ["self", "hand", "behind", "number", "members", "row"] ["self", "hand"] (defScope s_Folk_past) := ⟨rfl, rfl, rfl, by decide +kernel, rfl, by decide +kernel, by decide +kernel⟩
set_option maxRecDepth 100000 in
theorem ok_Folk_past (T : Txt K mg) : OkF P w K mg base (L2N.CX P w) 4 (He.ma K (He.ga K "Folk") "past") ["self", "hand"] (spPast K) := by
  obtain ⟨fd, F⟩ := T.F_Folk_past
  obtain ⟨fd_Folk_who, G_Folk_who⟩ := ok_Folk_who (P := P) (w := w) (base := base) T
  refine ⟨fd, F.ok sc_Folk_past (fun vs H Q E h => ?_) (fun cdv A outer s H vs Q E hr h => ?_), F.bindsN fun _ _ _ _ _ _ us hl => match us, hl with | [_, _], _ => rfl, F.kp⟩
  · obtain ⟨_, _, _, _, _, rfl, _⟩ := h
    rfl
  · refine ⟨_, (pss_cons (ps_set (i := 2) sc_Folk_past.nd rfl (Or.inl rfl) (pe_fld (pe_meth (pv 0) T.cl_Folk T.me_Folk_who G_Folk_who.1 (hr.mono (by decide)) G_Folk_who.2.1 .nil (passXN (L2N.takes_of rfl rfl rfl rfl) fun _ _ _ _ h => h) (pa_cons (pv 1) pa_nil)) rfl)) (pss_one (ps_ret (pe_lc (own := [("number", 3), ("members", 4), ("row", 5)]) (g := (gTup K 3 (gCons (gName 3) (gCons (gName 4) (gCons (gName 5) gNil))))) (te := (tTup (tCons (tVar 3) (tCons (tCB (rListOf K) (tCons (tVar 4) tNil)) (tCons (tCB (rListOf K) (tCons (tVar 5) tNil)) tNil))))) rfl sc_Folk_past.nd (pi_list (pv 2)) (blkOk_by (own := [("number", 3), ("members", 4), ("row", 5)]) (N := ["self", "hand", "behind", "number", "members", "row"]) (sc := defScope s_Folk_past) (by decide +kernel)) (fun _ _ _ _ _ => (pg_tup rfl (pgs_cons (pg_name (i := 3) sc_Folk_past.nd rfl (Or.inl rfl)) (pgs_cons (pg_name (i := 4) sc_Folk_past.nd rfl (Or.inl rfl)) (pgs_cons (pg_name (i := 5) sc_Folk_past.nd rfl (Or.inl rfl)) pgs_nil))))) (fun _ _ _ _ _ => pts_nil) (fun _ _ _ _ _ => (pe_tup (pa_cons (pv 3) (pa_cons (pe_callTy (T := "list") call_list_of (by rfl) T.b_list (by decide +kernel) (pa_cons (pv 4) pa_nil)) (pa_cons (pe_callTy (T := "list") call_list_of (by rfl) T.b_list (by decide +kernel) (pa_cons (pv 5) pa_nil)) pa_nil))))))))), ?_⟩
    obtain ⟨g, fa, f, L, x, rfl, r, hx, q⟩ := h
    have ro := r.ok.sub _ _ r.obj
    refine ⟨_, rfl, _, _, _, rfl, ro, zn (by decide +kernel), _, rfl, g, fa, f, L, x, rfl, r, hx, ?_⟩
    cases hw : f.who x with
    | error e =>
      rw [hw] at q
      exact q
    | ok i =>
      rw [hw] at q
      intro a ha
      obtain ⟨rfl, hi⟩ := who_ok hw
      obtain ⟨a', hL, ha', hr⟩ := r.at hi
      rw [ha] at ha'
      cases ha'
      obtain ⟨hlen, q⟩ := q
      refine ⟨_, _, _, _, _, rfl, hr.obj, T.cl_Hand, T.na_Hand_behind, zl handK_nd (i := 5) rfl rfl, _, rfl, hL.bh, rfl, ⟨_, SqL.of hr.bobj⟩, fun D hD => ?_⟩
      refine lc_list (K := K) (a := hL.bh) (xs := hL.bxs) (fun j H1 => ∃ xs, H1 D = some (.lst xs) ∧ Same H H1 ∧ Paired (pastA g.D H D H1) xs ((f.hand i).past.take j)) ⟨[], upd_same, same_upd hD, .nil⟩ (fun j H1 _ w => ?_) ?_ ?_
      · obtain ⟨_, _, e, _⟩ := w
        exact SqL.of (e _ _ hr.bobj)
      · rintro j x H1 hj ⟨xs, h1, e1, p1⟩
        obtain ⟨pp, hp, t0, mv, rv, rfl, ht0, ⟨m0, rfl, hm0⟩, ⟨r0, rxs, rfl, hr0, hrx⟩⟩ := paired_get hr.past hj
        have f1 := e1 _ _ (r.ok.sub _ _ hm0)
        have f2 := e1 _ _ (r.ok.sub _ _ hr0)
        refine ⟨t0, _, rfl, .inl (.inl (e1 _ _ (r.ok.sub _ _ ht0))), rfl, _, _, rfl, _, _, rfl, _, _, rfl, rfl, rfl, _, rfl, _, rfl, m0, _, rfl, .inl (SqL.of f1), fun l hl => ?_⟩
        refine ⟨_, rfl, r0, _, rfl, .inl (SqL.of (same_upd hl _ _ f2)), fun m hm => ⟨(by show 3 ≤ sizeLine; decide), fun t ht => ?_⟩⟩
        have nm : m ≠ l := fun z => by rw [z, upd_same] at hm; cases hm
        have nt1 : t ≠ m := fun z => by rw [z, upd_same] at ht; cases ht
        rw [upd_ne nm] at hm
        have nt2 : t ≠ l := fun z => by rw [z, upd_ne nm.symm, upd_same] at ht; cases ht
        rw [upd_ne nt1, upd_ne nt2] at ht
        have lD : l ≠ D := fun z => by rw [z, h1] at hl; cases hl
        have mD : m ≠ D := fun z => by rw [z, h1] at hm; cases hm
        have tD : t ≠ D := fun z => by rw [z, h1] at ht; cases ht
        have hlen2 : xs.length < sizeLine := by
          rw [paired_len p1, List.length_take]
          have : min j (f.hand i).past.length ≤ 100000 := Nat.le_trans (Nat.min_le_right _ _) hlen
          exact Nat.lt_of_le_of_lt this (by decide)
        refine ⟨xs, by rw [upd_ne tD.symm, upd_ne mD.symm, upd_ne lD.symm]; exact h1, hlen2, xs ++ [.ref t], upd_same, ?_, ?_⟩
        · intro a o h
          rw [upd_ne (fun z => by rw [z, hD] at h; cases h)]
          have h2 := e1 _ _ h
          rw [upd_ne (fun z => by rw [z, ht] at h2; cases h2), upd_ne (fun z => by rw [z, hm] at h2; cases h2), upd_ne (fun z => by rw [z, hl] at h2; cases h2)]
          exact h2
        · rw [take_succ_of hp]
          have up1 : ∀ a o, a ≠ D → H1 a = some o → upd (upd (upd (upd H1 l (.lst (pp.2.1.map V.int))) m (.lst rxs)) t (.tup [.int pp.1, .ref l, .ref m])) D (.lst (xs ++ [.ref t])) a = some o := fun a o n h2 => by
            rw [upd_ne n, upd_ne (fun z => by rw [z, ht] at h2; cases h2), upd_ne (fun z => by rw [z, hm] at h2; cases h2), upd_ne (fun z => by rw [z, hl] at h2; cases h2)]
            exact h2
          refine paired_app (paired_imp (fun v p w => w.up up1) p1) (.cons ⟨t, l, m, rxs, rfl, e1.free ht, e1.free hl, e1.free hm, tD, lD, mD, ?_, ?_, ?_, hrx⟩ .nil)
          · rw [upd_ne tD, upd_same]
          · rw [upd_ne lD, upd_ne nt2.symm, upd_ne nm.symm, upd_same]
          · rw [upd_ne mD, upd_ne nt1.symm, upd_same]
      · rintro H1 ⟨xs, h1, e1, p1⟩
        rw [paired_len hr.past, List.take_length] at p1
        exact q D xs H1 hD e1 h1 (paired_imp (fun _ _ w => w.f) p1) (paired_all (fun _ _ w => w.ne) p1)
/-- a tuple told of a letter -/
def letF (H : Hp) (Dd : Addr) (H' : Hp) (v : V) (l : Ltr) : Prop := ∃ t, v = .ref t ∧ H t = none ∧ t ≠ Dd ∧ H' t = some (.tup [.str l.told.kind, .int l.snd, .int l.to])
def spLetters (K : PySem.W.Frag) : Sp := fun vs H Q _ => ∃ (g : Gh) (fa : Addr) (f : Flk) (L : FL), vs = [.ref fa] ∧ FolkR K g H fa f L ∧ f.post.length ≤ 1000000 ∧ ∀ l xs H', H l = none → Same H H' → H' l = some (.lst xs) → Paired (letF H l H') xs f.post → Q (.ref l) H'
theorem sc_Folk_letters : FnScope ["self", "letter"] ["self"] (defScope s_Folk_letters) := ⟨rfl, rfl, rfl, by decide +kernel, rfl, by decide +kernel, by decide +kernel⟩
set_option maxRecDepth 100000 in
theorem ok_Folk_letters (T : Txt K mg) : OkF P w K mg base CX0 1 (He.ma K (He.ga K "Folk") "letters") ["self"] (spLetters K) := by
  obtain ⟨fd, F⟩ := T.F_Folk_letters
  refine ⟨fd, F.ok sc_Folk_letters (fun vs H Q E h => ?_) (fun cdv A outer s H vs Q E hr h => ?_), F.bindsN fun _ _ _ _ _ _ us hl => match us, hl with | [_], _ => rfl, F.kp⟩
  · obtain ⟨_, _, _, _, rfl, _⟩ := h
    rfl
  · refine ⟨_, PSs.nox (pss_one (ps_ret (pe_lc (own := [("letter", 1)]) (g := (gName 1)) (te := (tTup (tCons (tFld K (tVar 1) "kind") (tCons (tFld K (tVar 1) "sender") (tCons (tFld K (tVar 1) "to") tNil))))) rfl sc_Folk_letters.nd (pi_list (pe_fld (pv 0) rfl)) (blkOk_by (own := [("letter", 1)]) (N := ["self", "letter"]) (sc := defScope s_Folk_letters) (by decide +kernel)) (fun _ _ _ _ _ => (pg_name (i := 1) sc_Folk_letters.nd rfl (Or.inl rfl))) (fun _ _ _ _ _ => pts_nil) (fun _ _ _ _ _ => (pe_tup (pa_cons (pe_fld (pv 1) rfl) (pa_cons (pe_fld (pv 1) rfl) (pa_cons (pe_fld (pv 1) rfl) pa_nil)))))))), ?_⟩
    obtain ⟨g, fa, f, L, rfl, r, hlen, q⟩ := h
    have ro := r.ok.sub _ _ r.obj
    refine ⟨_, rfl, _, _, _, _, _, rfl, ro, T.cl_Folk, T.na_Folk__post, zl folkK_nd (i := 1) rfl rfl, L.pa, rfl, ⟨_, SqL.of r.post.obj⟩, fun D hD => ?_⟩
    refine lc_list (K := K) (a := L.pa) (xs := L.as.map V.ref) (fun j H1 => ∃ xs, H1 D = some (.lst xs) ∧ Same H H1 ∧ Paired (letF H D H1) xs (f.post.take j)) ⟨[], upd_same, same_upd hD, .nil⟩ (fun j H1 _ w => ?_) ?_ ?_
    · obtain ⟨_, _, e, _⟩ := w
      exact SqL.of (e _ _ r.post.obj)
    · rintro j x H1 hj ⟨xs, h1, e1, p1⟩
      rw [List.getElem?_map] at hj
      cases hz : L.as[j]? with
      | none => rw [hz] at hj; cases hj
      | some la =>
        rw [hz] at hj
        cases hj
        obtain ⟨l, hl, dx, tv, hla, _⟩ := paired_get r.post.ls hz
        have ho := e1 _ _ (r.ok.sub _ _ hla)
        refine ⟨rfl, _, rfl, _, _, _, _, _, rfl, ho, T.cl_Letter, T.na_Letter_kind, zl letK_nd (i := 0) rfl rfl, _, rfl, _, _, _, _, _, rfl, ho, T.cl_Letter, T.na_Letter_sender, zl letK_nd (i := 1) rfl rfl, _, rfl, _, _, _, _, _, rfl, ho, T.cl_Letter, T.na_Letter_to, zl letK_nd (i := 2) rfl rfl, (by show 3 ≤ sizeLine; decide), fun t ht => ?_⟩
        have tD : t ≠ D := fun z => by rw [z, h1] at ht; cases ht
        have hlen2 : xs.length < sizeLine := by
          rw [paired_len p1, List.length_take]
          exact Nat.lt_of_le_of_lt (Nat.le_trans (Nat.min_le_right _ _) hlen) (by decide)
        refine ⟨xs, by rw [upd_ne tD.symm]; exact h1, hlen2, xs ++ [.ref t], upd_same, ?_, ?_⟩
        · intro a o h
          rw [upd_ne (fun z => by rw [z, hD] at h; cases h)]
          have h2 := e1 _ _ h
          rw [upd_ne (fun z => by rw [z, ht] at h2; cases h2)]
          exact h2
        · rw [take_succ_of hl]
          refine paired_app (paired_imp (fun v p w => ?_) p1) (.cons ⟨t, rfl, e1.free ht, tD, by rw [upd_ne tD, upd_same]⟩ .nil)
          obtain ⟨u, rfl, w1, w2, w3⟩ := w
          refine ⟨u, rfl, w1, w2, ?_⟩
          rw [upd_ne w2, upd_ne (fun z => by rw [z, ht] at w3; cases w3)]
          exact w3
    · rintro H1 ⟨xs, h1, e1, p1⟩
      rw [List.length_map, paired_len r.post.ls, List.take_length] at p1
      exact q D xs H1 hD e1 h1 p1

end
end Fo
namespace Fo
open PySem PySem.Spec PyProof.Rows L2
section
variable {P : Program} {w : World} {K : PySem.W.Frag} {mg : Str → Option Value} {base : Heap}
/-! ### deeds -/
def TA : Tag → Prop := fun _ => True
theorem acts_ok {f : Flk} {x : V} {p : Nat × Seat} (h : f.acts x = .ok p) : x = .int p.1 ∧ p.1 < f.hands.length ∧ (f.hand p.1).up = true ∧ (f.hand p.1).seat = some p.2 := by
  unfold Flk.acts at h
  cases hw : f.who x with
  | error e => rw [hw] at h; cases h
  | ok i =>
    rw [hw] at h
    obtain ⟨e1, e2⟩ := who_ok hw
    have h2 : (if (f.hand i).up = false then (.error "Fallen" : Except Str (Nat × Seat)) else match (f.hand i).seat with
      | none => .error "Outside"
      | some s => .ok (i, s)) = .ok p := h
    cases hu : (f.hand i).up with
    | false => rw [hu] at h2; cases h2
    | true =>
      rw [hu] at h2
      cases hs : (f.hand i).seat with
      | none => rw [hs] at h2; cases h2
      | some s =>
        rw [hs] at h2
        cases h2
        exact ⟨e1, e2, hu, hs⟩
def Flk.deed (f : Flk) (i : Nat) (r : Hnd × List Ltr) : Flk := ⟨f.hands.set i r.1, f.post ++ r.2⟩
theorem TH_TP {i j : Nat} (h : j ≠ i) : ∀ t, TH_ j t → ¬ TP i t := fun t a b => by
  rcases b with rfl | b
  · exact a
  · cases t <;> first | exact a.elim | exact h (a.symm.trans b)
/-- one hand and the post are others -/
theorem FolkR.deed {K : PySem.W.Frag} {g g' : Gh} {H H' : Hp} {fa a : Addr} {f : Flk} {L : FL} {i : Nat} {h' : Hnd} {hL : HL} {ls : List Ltr} {as : List Addr} (r : FolkR K g H fa f L) (ha : L.hs[i]? = some a) (e : Go (TP i) g H g' H') (rh : HandR K g' H' a i L.pa h' hL) (po : PostR K g' H' L.pa ls as) :
    FolkR K g' H' fa ⟨f.hands.set i h', ls⟩ { L with as := as } := by
  refine ⟨e.ok, ?_, e.D _ _ r.hl, po, ?_, fun j b h h1 h2 => ?_⟩
  · have := e.D _ _ r.obj
    show g'.D fa = some (.ins (He.ga K "Folk") L.dx (folkK.zip [.int ((f.hands.set i h').length : Nat), .ref L.pa, .ref L.hl]))
    rw [List.length_set]
    exact this
  · show L.hs.length = (f.hands.set i h').length
    rw [List.length_set]
    exact r.len
  · have h1' : L.hs[j]? = some b := h1
    have h2' : (f.hands.set i h')[j]? = some h := h2
    by_cases q : j = i
    · subst q
      rw [ha] at h1'
      cases h1'
      have hi : j < f.hands.length := by
        rw [← r.len]
        exact (List.getElem?_eq_some_iff.mp ha).1
      rw [List.getElem?_set_self hi] at h2'
      cases h2'
      exact ⟨hL, rh⟩
    · rw [List.getElem?_set_ne (fun z => q z.symm)] at h2'
      obtain ⟨hL', w⟩ := r.hand j b h h1' h2'
      exact ⟨hL', w.go e (TH_TP q)⟩
def spSay (K : PySem.W.Frag) : Sp := fun vs H Q E => ∃ (g : Gh) (fa : Addr) (f : Flk) (L : FL) (x : V) (word : Str), vs = [.ref fa, x, .str word] ∧ FolkR K g H fa f L ∧ Thg K H x ∧ Res K H E (f.acts x) fun p => SOk p.1 p.2 ∧ f.post.length + 1000 ≤ 1000000 ∧
  ∀ g' H' L', Go TA g H g' H' → FolkR K g' H' fa (f.deed p.1 ((f.hand p.1).say p.1 p.2 word)) L' → Q .non H'
def spPress (K : PySem.W.Frag) : Sp := fun vs H Q E => ∃ (g : Gh) (fa : Addr) (f : Flk) (L : FL) (x : V), vs = [.ref fa, x] ∧ FolkR K g H fa f L ∧ Thg K H x ∧ Res K H E (f.acts x) fun p => SOk p.1 p.2 ∧ f.post.length + 20000 ≤ 1000000 ∧ Res K H E (if p.2.lead ≠ p.1 then .error "NotFirst" else .ok ()) fun _ =>
  ∀ g' H' L', Go TA g H g' H' → FolkR K g' H' fa (f.deed p.1 (f.hand p.1, p.2.press p.1)) L' → Q .non H'
/-- a thing that is a list of hands, or none -/
def LstIs (K : PySem.W.Frag) (H : Hp) (v : V) (m : Int) : Option (List Int) → Prop
  | some ms => ∃ a, v = .ref a ∧ H a = some (.lst (ms.map V.int)) ∧ isListB (ms.map V.int) m = true
  | none => (∃ a xs, v = .ref a ∧ H a = some (.lst xs) ∧ (∀ y ∈ xs, Thg K H y) ∧ isListB xs m = false) ∨ (∃ n, TyX K H v (.type n) ∧ kitB n "list" = some false)
theorem isList_of {K : PySem.W.Frag} {H : Hp} {v : V} {m : Int} {ml : Option (List Int)} {Q : VK} (h : LstIs K H v m ml) (q : Q (.bl ml.isSome) H) : spIsList K [v, .int m] H Q E0 := by
  cases ml with
  | some ms =>
    obtain ⟨a, rfl, h1, h2⟩ := h
    refine ⟨_, m, rfl, .inl ⟨a, _, rfl, h1, ?_, by rw [h2]; exact q⟩⟩
    intro y hy
    obtain ⟨z, _, rfl⟩ := List.mem_map.mp hy
    exact thg_int
  | none =>
    rcases h with ⟨a, xs, rfl, h1, h2, h3⟩ | ⟨n, h1, h2⟩
    · exact ⟨_, m, rfl, .inl ⟨a, xs, rfl, h1, h2, by rw [h3]; exact q⟩⟩
    · exact ⟨_, m, rfl, .inr ⟨n, h1, h2, q⟩⟩
theorem isListGo_up {m : Int} : ∀ {ms : List Int} {b : Int}, isListGo m b (ms.map V.int) = true → (∀ x ∈ ms, b < x ∧ 0 ≤ x ∧ x < m) ∧ ms.Pairwise (· < ·)
  | [], _, _ => ⟨(fun _ h => nomatch h), List.Pairwise.nil⟩
  | x :: r, b, h => by
    have h1 : (if 0 ≤ x ∧ x < m ∧ b < x then isListGo m x (r.map V.int) else false) = true := h
    split at h1
    · rename_i c
      obtain ⟨q1, q2⟩ := isListGo_up h1
      refine ⟨fun y hy => ?_, List.pairwise_cons.mpr ⟨fun y hy => (q1 y hy).1, q2⟩⟩
      rcases List.mem_cons.mp hy with rfl | hy
      · exact ⟨c.2.2, c.1, c.2.1⟩
      · have := q1 y hy
        exact ⟨by omega, this.2⟩
    · cases h1
theorem isListB_up {m : Int} {ms : List Int} (h : isListB (ms.map V.int) m = true) : ms ≠ [] ∧ (∀ x ∈ ms, 0 ≤ x ∧ x < m) ∧ ms.Pairwise (· < ·) := by
  have h1 : (!(ms.map V.int).isEmpty && isListGo m (-1) (ms.map V.int)) = true := h
  obtain ⟨h2, h3⟩ := Bool.and_eq_true_iff.mp h1
  obtain ⟨q1, q2⟩ := isListGo_up h3
  refine ⟨fun e => ?_, fun x hx => (q1 x hx).2, q2⟩
  rw [e] at h2
  cases h2
theorem rising_gap {n : Int} : ∀ {ms : List Int} {b : Int}, b < n → (∀ x ∈ ms, b < x ∧ x < n) → ms.Pairwise (· < ·) → (ms.length : Int) + b < n
  | [], b, hb, _, _ => by
    show ((0 : Nat) : Int) + b < n
    omega
  | x :: r, b, hb, h, p => by
    have p1 := List.pairwise_cons.mp p
    have h1 := h x List.mem_cons_self
    have := rising_gap (b := x) h1.2 (fun y hy => ⟨p1.1 y hy, (h y (List.mem_cons_of_mem _ hy)).2⟩) p1.2
    show ((r.length + 1 : Nat) : Int) + b < n
    omega
theorem rising_len {ms : List Int} {n : Nat} (h : ∀ x ∈ ms, 0 ≤ x ∧ x < n) (p : ms.Pairwise (· < ·)) : ms.length ≤ n := by
  have := rising_gap (n := n) (b := -1) (by omega) (fun x hx => ⟨by have := h x hx; omega, (h x hx).2⟩) p
  omega
def spPropose (K : PySem.W.Frag) : Sp := fun vs H Q E => ∃ (g : Gh) (fa : Addr) (f : Flk) (L : FL) (x mv : V) (ml : Option (List Int)), vs = [.ref fa, x, mv] ∧ FolkR K g H fa f L ∧ Thg K H x ∧ LstIs K H mv (f.hands.length : Nat) ml ∧ f.hands.length ≤ 9 ∧ Res K H E (f.acts x) fun p => SOk p.1 p.2 ∧ f.post.length + 1000 ≤ 1000000 ∧ Res K H E (match ml with | none => .error "BadList" | some ms => .ok ms) fun ms =>
  ∀ g' H' L', Go TA g H g' H' → FolkR K g' H' fa (f.deed p.1 ({ f.hand p.1 with seat := some (p.2.propose p.1 ms).1 }, (p.2.propose p.1 ms).2)) L' → Q .non H'
def spShow (K : PySem.W.Frag) : Sp := fun vs H Q E => ∃ (g : Gh) (fa : Addr) (f : Flk) (L : FL) (x y : V), vs = [.ref fa, x, y] ∧ FolkR K g H fa f L ∧ Thg K H x ∧ Thg K H y ∧ f.post.length ≤ 1000000 ∧ Res K H E (f.acts x) fun p => Res K H E (f.who y) fun o => Res K H E (match p.2.news with | none => .error "NoNews" | some n => .ok n) fun n =>
  ∀ g' H' L', Go TA g H g' H' → FolkR K g' H' fa ⟨f.hands, f.post ++ [⟨p.1, o, p.2.num, .enter n⟩]⟩ L' → Q .non H'
theorem FolkR.same {K : PySem.W.Frag} {g : Gh} {H : Hp} {fa : Addr} {f : Flk} {L : FL} (r : FolkR K g H fa f L) {i : Nat} (hi : i < f.hands.length) : f.hands.set i (f.hand i) = f.hands := by
  unfold Flk.hand
  rw [List.getD_eq_getElem?_getD, List.getElem?_eq_getElem hi]
  exact List.set_getElem_self hi
def Hnd.down (h : Hnd) : Hnd := { h with up := false }
def spFall (K : PySem.W.Frag) : Sp := fun vs H Q E => ∃ (g : Gh) (fa : Addr) (f : Flk) (L : FL) (x : V), vs = [.ref fa, x] ∧ FolkR K g H fa f L ∧ Thg K H x ∧ Res K H E (f.who x) fun i => Res K H E (if (f.hand i).up = false then .error "Fallen" else .ok ()) fun _ =>
  ∀ g' H' L', Go TA g H g' H' → FolkR K g' H' fa (f.setHand i (f.hand i).down) L' → Q .non H'
theorem sc_Folk_fall : FnScope ["self", "hand", "who"] ["self", "hand"] (defScope s_Folk_fall) := ⟨rfl, rfl, rfl, by decide +kernel, rfl, by decide +kernel, by decide +kernel⟩
set_option maxRecDepth 100000 in
theorem ok_Folk_fall (T : Txt K mg) : OkF P w K mg base (L2N.CX P w) 4 (He.ma K (He.ga K "Folk") "fall") ["self", "hand"] (spFall K) := by
  obtain ⟨fd, F⟩ := T.F_Folk_fall
  obtain ⟨fd_Folk_who, G_Folk_who⟩ := ok_Folk_who (P := P) (w := w) (base := base) T
  refine ⟨fd, F.ok sc_Folk_fall (fun vs H Q E h => ?_) (fun cdv A outer s H vs Q E hr h => ?_), F.bindsN fun _ _ _ _ _ _ us hl => match us, hl with | [_, _], _ => rfl, F.kp⟩
  · obtain ⟨_, _, _, _, _, rfl, _⟩ := h
    rfl
  · refine ⟨_, (pss_cons (ps_set (i := 2) sc_Folk_fall.nd rfl (Or.inl rfl) (pe_meth (pv 0) T.cl_Folk T.me_Folk_who G_Folk_who.1 (hr.mono (by decide)) G_Folk_who.2.1 .nil (passXN (L2N.takes_of rfl rfl rfl rfl) fun _ _ _ _ h => h) (pa_cons (pv 1) pa_nil))) (pss_cons (ps_if (pt_not (pt_val (pe_fld (pv 2) rfl))) (pss_one (L2N.ps_raise rfl (L2N.takes_of rfl rfl rfl rfl) (L2N.pmk_own PySem.F.excBase_ValueError T.xi_Fallen T.g_Fallen T.kp_Fallen (raises_own T.xs_Fallen T.xt_Fallen) rfl))) pss_nil) (pss_one (ps_fld (pv 2) pe_bl rfl)))), ?_⟩
    obtain ⟨g, fa, f, L, x, rfl, r, hx, q⟩ := h
    have ro := r.ok.sub _ _ r.obj
    refine ⟨_, rfl, _, _, _, rfl, ro, zn (by decide +kernel), _, rfl, g, fa, f, L, x, rfl, r, hx, ?_⟩
    cases hw : f.who x with
    | error e =>
      rw [hw] at q
      exact q
    | ok i =>
      rw [hw] at q
      intro a ha
      obtain ⟨rfl, hi⟩ := who_ok hw
      obtain ⟨a', hL, ha', hr⟩ := r.at hi
      rw [ha] at ha'
      cases ha'
      refine ⟨_, rfl, _, _, _, _, _, rfl, hr.obj, T.cl_Hand, T.na_Hand_standing, zl handK_nd (i := 2) rfl rfl, _, rfl, ?_⟩
      have q2 : Res K H E (if (f.hand i).up = false then .error "Fallen" else .ok ()) fun _ =>
        ∀ g' H' L', Go TA g H g' H' → FolkR K g' H' fa (f.setHand i (f.hand i).down) L' → Q .non H' := q
      cases hup : (f.hand i).up with
      | false =>
        rw [hup] at q2
        exact iteT q2
      | true =>
        rw [hup] at q2
        have q3 : ∀ g' H' L', Go TA g H g' H' → FolkR K g' H' fa (f.setHand i (f.hand i).down) L' → Q .non H' := q2
        refine iteF ⟨_, rfl, _, _, _, _, rfl, hr.obj, T.cl_Hand, T.na_Hand_standing, zlen, ?_⟩
        have e : Go (fun t => t = .hand i) g H g (upd H a (.ins (He.ga K "Hand") hL.dx (putF "standing" (.bl false) (handK.zip [.int i, .ref L.pa, .bl (f.hand i).up, .int (f.hand i).said, .int (f.hand i).high, .ref hL.bh, hL.sv])))) := Go.set r.ok hr.own rfl
        have rh : HandR K g (upd H a (.ins (He.ga K "Hand") hL.dx (putF "standing" (.bl false) (handK.zip [.int i, .ref L.pa, .bl (f.hand i).up, .int (f.hand i).said, .int (f.hand i).high, .ref hL.bh, hL.sv])))) a i L.pa (f.hand i).down hL :=
          ⟨hr.own, (by rw [upd_same, put_Hand_standing] <;> rfl), hr.bown, e.stay hr.bobj hr.bown (by intro z; cases z), hr.past, hr.seat.go e (fun t z w => by subst w; exact z)⟩
        exact q3 _ _ _ (e.mono fun _ _ => trivial) (r.deed ha (e.mono fun t z => by subst z; exact .inr rfl) rh (r.post.go e (by intro z; cases z)))
def spPlace (K : PySem.W.Frag) : Sp := fun vs H Q E => ∃ (g : Gh) (fa : Addr) (f : Flk) (L : FL) (x : V), vs = [.ref fa, x] ∧ FolkR K g H fa f L ∧ Thg K H x ∧ Res K H E (f.place x) fun _ => Q .non H

end
end Fo
namespace Fo
open PySem PySem.Spec PyProof.Rows L2
section
variable {P : Program} {w : World} {K : PySem.W.Frag} {mg : Str → Option Value} {base : Heap}
theorem paired_erase {α β : Type} {R : α → β → Prop} : ∀ {xs : List α} {ys : List β} (i : Nat), Paired R xs ys → Paired R (xs.eraseIdx i) (ys.eraseIdx i)
  | _, _, _, .nil => .nil
  | _, _, 0, .cons _ t => t
  | _, _, i + 1, .cons r t => .cons r (paired_erase i t)
theorem map_erase {α β : Type} (f : α → β) : ∀ (xs : List α) (i : Nat), (xs.map f).eraseIdx i = (xs.eraseIdx i).map f
  | [], _ => rfl
  | _ :: _, 0 => rfl
  | x :: xs, i + 1 => by
    show f x :: (xs.map f).eraseIdx i = f x :: (xs.eraseIdx i).map f
    rw [map_erase f xs i]
def ComeOk (f : Flk) (p : Nat) : Prop := ∀ l, f.post[p]? = some l → l.to < f.hands.length ∧ preOver l.to (f.hand l.to) l ∧ 0 ≤ l.snd ∧ f.post.length + 3000 ≤ 1000000
theorem FolkR.repost {K : PySem.W.Frag} {g g' : Gh} {H H' : Hp} {fa : Addr} {f : Flk} {L : FL} {ls : List Ltr} {as : List Addr} (r : FolkR K g H fa f L) (e : Go TPost g H g' H') (po : PostR K g' H' L.pa ls as) : FolkR K g' H' fa ⟨f.hands, ls⟩ { L with as := as } :=
  ⟨e.ok, e.D _ _ r.obj, e.D _ _ r.hl, po, r.len, fun i a h h1 h2 => by
    obtain ⟨hL, q⟩ := r.hand i a h h1 h2
    exact ⟨hL, q.go e nTH_post⟩⟩
theorem PostR.pop {K : PySem.W.Frag} {g : Gh} {H : Hp} {pa : Addr} {ls : List Ltr} {as : List Addr} (k : Ok g H) (po : PostR K g H pa ls as) (p : Nat) : Go TPost g H g (upd H pa (.lst ((as.map V.ref).eraseIdx p))) ∧ PostR K g (upd H pa (.lst ((as.map V.ref).eraseIdx p))) pa (ls.eraseIdx p) (as.eraseIdx p) :=
  ⟨Go.set k po.own rfl, po.own, by rw [upd_same, map_erase], paired_erase p po.ls⟩
theorem seqIx {i n : Nat} (h : i < n) : seqIndex? (i : Int) n = some i := by
  have h1 : ¬ (i : Int) < 0 := by omega
  show (if (0 ≤ (if (i : Int) < 0 then (i : Int) + n else i) && (if (i : Int) < 0 then (i : Int) + n else (i : Int)) < (n : Int)) = true then some (if (i : Int) < 0 then (i : Int) + n else (i : Int)).toNat else none) = _
  rw [if_neg h1]
  rw [if_pos (by simp; omega)]
  rfl
theorem place_lt {f : Flk} {K : PySem.W.Frag} {g : Gh} {H : Hp} {fa : Addr} {L : FL} (r : FolkR K g H fa f L) {p : Nat} (hp : p < f.post.length) : ∃ la l, L.as[p]? = some la ∧ f.post[p]? = some l ∧ letV K g.D la l := by
  have h1 : p < L.as.length := by rw [paired_len r.post.ls]; exact hp
  obtain ⟨l, h2, h3⟩ := paired_get r.post.ls (List.getElem?_eq_getElem h1)
  exact ⟨_, l, List.getElem?_eq_getElem h1, h2, h3⟩
def spLose (K : PySem.W.Frag) : Sp := fun vs H Q E => ∃ (g : Gh) (fa : Addr) (f : Flk) (L : FL) (x : V), vs = [.ref fa, x] ∧ FolkR K g H fa f L ∧ Thg K H x ∧ f.post.length ≤ 1000000 ∧ Res K H E (f.place x) fun p => ∀ g' H' L', Go TA g H g' H' → FolkR K g' H' fa (f.lose p) L' → Q .non H'
def spDouble (K : PySem.W.Frag) : Sp := fun vs H Q E => ∃ (g : Gh) (fa : Addr) (f : Flk) (L : FL) (x : V), vs = [.ref fa, x] ∧ FolkR K g H fa f L ∧ Thg K H x ∧ f.post.length ≤ 1000000 ∧ Res K H E (f.place x) fun p => ∀ g' H' L', Go TA g H g' H' → FolkR K g' H' fa (f.double p) L' → Q .non H'
def spCome (K : PySem.W.Frag) : Sp := fun vs H Q E => ∃ (g : Gh) (fa : Addr) (f : Flk) (L : FL) (x : V), vs = [.ref fa, x] ∧ FolkR K g H fa f L ∧ Thg K H x ∧ Res K H E (f.place x) fun p => ComeOk f p ∧ ∀ g' H' L', Go TA g H g' H' → FolkR K g' H' fa (f.come p) L' → Q .non H'
def Flk.runs : Nat → Flk → Prop
  | 0, f => f.post = []
  | n + 1, f => f.post ≠ [] ∧ ComeOk f 0 ∧ Flk.runs n (f.come 0)
def Flk.cames : Nat → Flk → Flk
  | 0, f => f
  | n + 1, f => Flk.cames n (f.come 0)
def spCalm (K : PySem.W.Frag) : Sp := fun vs H Q E => ∃ (g : Gh) (fa : Addr) (f : Flk) (L : FL) (n : Nat), vs = [.ref fa] ∧ FolkR K g H fa f L ∧ f.runs n ∧ ∀ g' H' L', Go TA g H g' H' → FolkR K g' H' fa (f.cames n) L' → Q (.int n) H'

end
end Fo
namespace Fo
open PySem PySem.Spec PyProof.Rows L2
section
variable {P : Program} {w : World} {K : PySem.W.Frag} {mg : Str → Option Value} {base : Heap}
/-! ### a folk is made -/
section
variable {K : PySem.W.Frag} {g g' : Gh} {H H' : Hp} (o : ∀ a t, g.own a = some t → g'.own a = some t) (d : Same g.D g'.D) (e : ∀ a t, g.own a = some t → H' a = H a)
include o d e
theorem OffR.mv {oa : Addr} {i : Nat} {f : Off} {L : OL} (r : OffR K g H oa i f L) : OffR K g' H' oa i f L :=
  ⟨o _ _ r.own, (e _ _ r.own).trans r.obj, r.bal.up d, r.mem.up d, o _ _ r.pown, (e _ _ r.pown).trans r.pobj, paired_imp (fun _ _ q => ⟨q.1, q.2.up d⟩) r.prom, r.fwd.up d, o _ _ r.gown, (e _ _ r.gown).trans r.gobj, r.fc⟩
theorem OffO.mv {v : V} {i : Nat} : ∀ {f : Option Off}, OffO K g H v i f → OffO K g' H' v i f
  | none, h => h
  | some _, ⟨oa, L, q, r⟩ => ⟨oa, L, q, r.mv o d e⟩
theorem SeatR.mv {sa : Addr} {i : Nat} {s : Seat} {L : SL} (r : SeatR K g H sa i s L) : SeatR K g' H' sa i s L :=
  ⟨o _ _ r.own, (e _ _ r.own).trans r.obj, r.mem.up d, r.news.up d, o _ _ r.rown, (e _ _ r.rown).trans r.robj, paired_imp (fun _ _ => msgV.up d) r.row, o _ _ r.hown, (e _ _ r.hown).trans r.hobj, r.bal.up d, r.agr.up d, r.off.mv o d e⟩
theorem SeatO.mv {v : V} {i : Nat} : ∀ {s : Option Seat}, SeatO K g H v i s → SeatO K g' H' v i s
  | none, h => h
  | some _, ⟨sa, L, q, r⟩ => ⟨sa, L, q, r.mv o d e⟩
theorem HandR.mv {a pa : Addr} {i : Nat} {h : Hnd} {L : HL} (r : HandR K g H a i pa h L) : HandR K g' H' a i pa h L :=
  ⟨o _ _ r.own, (e _ _ r.own).trans r.obj, o _ _ r.bown, (e _ _ r.bown).trans r.bobj, paired_imp (fun _ _ => pastV.up d) r.past, r.seat.mv o d e⟩
theorem PostR.mv {pa : Addr} {ls : List Ltr} {as : List Addr} (r : PostR K g H pa ls as) : PostR K g' H' pa ls as :=
  ⟨o _ _ r.own, (e _ _ r.own).trans r.obj, paired_imp (fun _ _ => letV.up d) r.ls⟩
end
theorem FolkR.mv {K : PySem.W.Frag} {g : Gh} {H H' : Hp} {fa : Addr} {f : Flk} {L : FL} (r : FolkR K g H fa f L) (k : Ok g H') (e : ∀ a t, g.own a = some t → H' a = H a) : FolkR K g H' fa f L :=
  ⟨k, r.obj, r.hl, r.post.mv (fun _ _ z => z) (Same.refl _) e, r.len, fun i a h h1 h2 => by
    obtain ⟨hL, q⟩ := r.hand i a h h1 h2
    exact ⟨hL, q.mv (fun _ _ z => z) (Same.refl _) e⟩⟩
/-- the caller changes a thing of its own -/
theorem FolkR.mine {K : PySem.W.Frag} {g : Gh} {H : Hp} {fa a : Addr} {u : HO} {f : Flk} {L : FL} (r : FolkR K g H fa f L) (hD : g.D a = none) (hO : g.own a = none) : FolkR K g (upd H a u) fa f L :=
  r.mv (r.ok.mine hD hO) fun b t h => upd_ne fun z => by rw [z, hO] at h; cases h
structure HandsR (K : PySem.W.Frag) (g : Gh) (H : Hp) (pa : Addr) (hs : List Addr) (hands : List Hnd) : Prop where
  len : hs.length = hands.length
  hand : ∀ i a h, hs[i]? = some a → hands[i]? = some h → ∃ hL, HandR K g H a i pa h hL
theorem HandsR.mv {K : PySem.W.Frag} {g g' : Gh} {H H' : Hp} {pa : Addr} {hs : List Addr} {hands : List Hnd} (r : HandsR K g H pa hs hands) (o : ∀ a t, g.own a = some t → g'.own a = some t) (d : Same g.D g'.D) (e : ∀ a t, g.own a = some t → H' a = H a) : HandsR K g' H' pa hs hands :=
  ⟨r.len, fun i a h h1 h2 => by
    obtain ⟨hL, q⟩ := r.hand i a h h1 h2
    exact ⟨hL, q.mv o d e⟩⟩
/-- what the caller had before is there, and is the caller's -/
structure Kp (p : Addr) (H0 : Hp) (g : Gh) (H : Hp) : Prop where
  ok : Ok g H
  old : ∀ a o, a ≠ p → H0 a = some o → H a = some o ∧ g.own a = none ∧ g.D a = none
theorem Kp.go {T : Tag → Prop} {p : Addr} {H0 H H' : Hp} {g g' : Gh} (k : Kp p H0 g H) (e : Go T g H g' H') : Kp p H0 g' H' :=
  ⟨e.ok, fun a o n h => by
    obtain ⟨h1, h2, h3⟩ := k.old a o n h
    exact ⟨e.keep h1 h2, e.free h1 h2, e.notD h1 h3⟩⟩
theorem Kp.mine {p a : Addr} {H0 H : Hp} {g : Gh} {u : HO} (k : Kp p H0 g H) (h : a = p ∨ H0 a = none) (hD : g.D a = none) (hO : g.own a = none) : Kp p H0 g (upd H a u) :=
  ⟨k.ok.mine hD hO, fun b o n h0 => by
    obtain ⟨h1, h2, h3⟩ := k.old b o n h0
    refine ⟨?_, h2, h3⟩
    rw [upd_ne fun z => ?_]
    · exact h1
    · rcases h with h | h
      · exact n (z.trans h)
      · rw [z, h] at h0; cases h0⟩
theorem Kp.start (p : Addr) (H : Hp) : Kp p H ⟨fun _ => none, fun _ => none⟩ H := ⟨⟨(fun _ _ h => nomatch h), (fun _ _ h => nomatch h), (fun _ _ h => nomatch h)⟩, fun _ _ _ h => ⟨h, rfl, rfl⟩⟩
theorem hand_new {K : PySem.W.Frag} {g : Gh} {H : Hp} (k : Ok g H) {x dx bh pa : Addr} {i : Nat} (hx : H x = none) (hdx : H dx = none) (hne : dx ≠ x) (hbh : upd (upd H dx (.own x)) x (.ins (He.ga K "Hand") dx []) bh = none) :
    ∃ g' hL, Go (TH_ i) g H g' (upd (upd (upd (upd H dx (.own x)) x (.ins (He.ga K "Hand") dx [])) bh (.lst [])) x (.ins (He.ga K "Hand") dx (handK.zip [.int i, .ref pa, .bl true, .int 0, .int (-1), .ref bh, .non]))) ∧
      HandR K g' (upd (upd (upd (upd H dx (.own x)) x (.ins (He.ga K "Hand") dx [])) bh (.lst [])) x (.ins (He.ga K "Hand") dx (handK.zip [.int i, .ref pa, .bl true, .int 0, .int (-1), .ref bh, .non]))) x i pa Hnd.new hL := by
  have bx : bh ≠ x := fun e => by rw [e, upd_same] at hbh; cases hbh
  have bd : bh ≠ dx := fun e => by rw [e, upd_ne hne, upd_same] at hbh; cases hbh
  have hbh' : H bh = none := by rw [upd_ne bx, upd_ne bd] at hbh; exact hbh
  rw [upd_over bx]
  have s1 : Go (TH_ i) g H g (upd H dx (.own x)) := Go.ext k (same_upd hdx)
  have f2 : upd H dx (HO.own x) bh = none := by rw [upd_ne bd]; exact hbh'
  have s2 : Go (TH_ i) g _ (g.addO bh (.past i)) (upd (upd H dx (.own x)) bh (.lst [])) := Go.newO s1.ok f2 rfl
  have f3 : upd (upd H dx (HO.own x)) bh (.lst []) x = none := by rw [upd_ne bx.symm, upd_ne hne.symm]; exact hx
  have s3 : Go (TH_ i) _ _ ((g.addO bh (.past i)).addO x (.hand i)) (upd (upd (upd H dx (.own x)) bh (.lst [])) x (.ins (He.ga K "Hand") dx (handK.zip [.int i, .ref pa, .bl true, .int 0, .int (-1), .ref bh, .non]))) := Go.newO s2.ok f3 rfl
  exact ⟨_, ⟨dx, bh, [], .non⟩, (s1.trans s2).trans s3, ⟨addO_same, upd_same, by rw [addO_ne bx, addO_same], by rw [upd_ne bx, upd_same], .nil, rfl⟩⟩
/-- an object that is there is known never to change -/
theorem Ok.addX {g : Gh} {H : Hp} {a : Addr} {o : HO} (k : Ok g H) (h : H a = some o) (hO : g.own a = none) : Ok (g.addD a o) H :=
  ⟨fun b u q => by
    have q2 : upd g.D a o b = some u := q
    by_cases e : b = a
    · rw [e, upd_same] at q2
      cases q2
      rw [e]; exact h
    · rw [upd_ne e] at q2
      exact k.sub b u q2, fun b t q => by
    show upd g.D a o b = none
    rw [upd_ne (fun e => by rw [e] at q; have q2 : g.own a = some t := q; rw [hO] at q2; cases q2)]
    exact k.sep b t q, k.liv⟩
theorem folkK_mk {a b c : V} : putF "_hands" c (putF "_post" b (putF "many" a [])) = folkK.zip [a, b, c] := by
  rw [show ([] : List (Str × V)) = folkK.zip [] from rfl, zq folkK_nd (k := "many") rfl, zq folkK_nd (k := "_post") rfl, zq folkK_nd (k := "_hands") rfl]
  rfl
/-- the hands when these were seated -/
def seatedH (ms : List Int) : Hnd := { Hnd.new with seat := some (Seat.fresh 0 ms none), high := 0 }
def seated (n : Nat) (ms seen : List Int) : List Hnd := (List.range n).map fun (i : Nat) => if (i : Int) ∈ seen then seatedH ms else Hnd.new
theorem seated_len (n : Nat) (ms seen : List Int) : (seated n ms seen).length = n := by
  unfold seated
  rw [List.length_map, List.length_range]
theorem seated_get {n : Nat} (ms seen : List Int) {i : Nat} (h : i < n) : (seated n ms seen)[i]? = some (if (i : Int) ∈ seen then seatedH ms else Hnd.new) := by
  unfold seated
  rw [List.getElem?_map, List.getElem?_range h]
  rfl
theorem seated_nil (n : Nat) (ms : List Int) : seated n ms [] = List.replicate n Hnd.new := by
  refine List.ext_getElem? fun i => ?_
  by_cases h : i < n
  · rw [seated_get ms [] h, if_neg (fun z => nomatch z), List.getElem?_replicate, if_pos h]
  · rw [List.getElem?_eq_none (by rw [seated_len]; omega), List.getElem?_eq_none (by rw [List.length_replicate]; omega)]
theorem seated_set {n : Nat} {ms seen : List Int} {z : Int} (hz : 0 ≤ z) : (seated n ms seen).set z.toNat (seatedH ms) = seated n ms (seen ++ [z]) := by
  refine List.ext_getElem? fun i => ?_
  by_cases h : i < n
  · rw [seated_get ms _ h, List.getElem?_set]
    by_cases q : z.toNat = i
    · rw [if_pos q, if_pos (by rw [seated_len]; omega), if_pos (List.mem_append.mpr (.inr (List.mem_singleton.mpr (by omega))))]
    · rw [if_neg q, seated_get ms _ h]
      have e : ((i : Int) ∈ seen ++ [z]) ↔ (i : Int) ∈ seen := by
        rw [List.mem_append, List.mem_singleton]
        constructor
        · rintro (w | w)
          · exact w
          · omega
        · exact .inl
      by_cases w : (i : Int) ∈ seen
      · rw [if_pos w, if_pos (e.mpr w)]
      · rw [if_neg w, if_neg (fun z => w (e.mp z))]
  · rw [List.getElem?_eq_none (by rw [List.length_set, seated_len]; omega), List.getElem?_eq_none (by rw [seated_len]; omega)]
theorem TH_TH {i j : Nat} (h : j ≠ i) : ∀ t, TH_ j t → ¬ TH_ i t := fun t a b => TH_TP h t a (.inr b)
theorem HandsR.snoc {K : PySem.W.Frag} {g g' : Gh} {H H' : Hp} {pa x : Addr} {hs : List Addr} {hands : List Hnd} {n : Nat} {h : Hnd} {hL : HL} (r : HandsR K g H pa hs hands) (hn : hs.length = n) (e : Go (TH_ n) g H g' H') (rh : HandR K g' H' x n pa h hL) : HandsR K g' H' pa (hs ++ [x]) (hands ++ [h]) := by
  have hl := r.len
  refine ⟨by rw [List.length_append, List.length_append, hl]; rfl, fun i a u h1 h2 => ?_⟩
  by_cases q : i < n
  · rw [List.getElem?_append_left (by omega)] at h1 h2
    obtain ⟨hL', w⟩ := r.hand i a u h1 h2
    exact ⟨hL', w.go e (TH_TH (by omega))⟩
  · have hi : i = n := by
      have := (List.getElem?_eq_some_iff.mp h1).1
      rw [List.length_append] at this
      have h3 : i < hs.length + 1 := this
      omega
    subst hi
    rw [← hn, List.getElem?_append_right (Nat.le_refl _), Nat.sub_self] at h1
    rw [← hn, hl, List.getElem?_append_right (Nat.le_refl _), Nat.sub_self] at h2
    cases h1
    cases h2
    exact ⟨hL, rh⟩
theorem HandsR.set {K : PySem.W.Frag} {g g' : Gh} {H H' : Hp} {pa a : Addr} {hs : List Addr} {hands : List Hnd} {n : Nat} {h : Hnd} {hL : HL} (r : HandsR K g H pa hs hands) (ha : hs[n]? = some a) (e : Go (TH_ n) g H g' H') (rh : HandR K g' H' a n pa h hL) : HandsR K g' H' pa hs (hands.set n h) := by
  refine ⟨by rw [List.length_set]; exact r.len, fun i b u h1 h2 => ?_⟩
  by_cases q : i = n
  · subst q
    rw [ha] at h1
    cases h1
    rw [List.getElem?_set_self (by rw [← r.len]; exact (List.getElem?_eq_some_iff.mp ha).1)] at h2
    cases h2
    exact ⟨hL, rh⟩
  · rw [List.getElem?_set_ne (fun z => q z.symm)] at h2
    obtain ⟨hL', w⟩ := r.hand i b u h1 h2
    exact ⟨hL', w.go e (TH_TH q)⟩
def firstIs (m : Nat) : Option (List Int) → Except Str Flk
  | none => .error "BadList"
  | some ms => .ok (Flk.new m ms)
def Flk.make (mv : V) (ml : Option (List Int)) : Except Str Flk := match mv with
  | .int m => if 1 ≤ m ∧ m ≤ 9 then firstIs m.toNat ml else .error "BadHand"
  | _ => .error "BadHand"
/-- the folk in the making -/
structure Making (K : PySem.W.Frag) (p dx pa D : Addr) (H : Hp) (fs : List V) (g : Gh) (H1 : Hp) (hs : List Addr) (hands : List Hnd) : Prop where
  kp : Kp p H g H1
  obj : H1 p = some (.ins (He.ga K "Folk") dx (folkK.zip fs))
  po : g.own p = none
  pD : g.D p = none
  lst : H1 D = some (.lst (hs.map V.ref))
  lo : g.own D = none
  lD : g.D D = none
  post : PostR K g H1 pa [] []
  hands : HandsR K g H1 pa hs hands
theorem Making.go {K : PySem.W.Frag} {T : Tag → Prop} {p dx pa D : Addr} {H : Hp} {fs : List V} {g g' : Gh} {H1 H2 : Hp} {hs : List Addr} {hands hands' : List Hnd} (r : Making K p dx pa D H fs g H1 hs hands) (e : Go T g H1 g' H2) (n : ¬ T .post) (w : HandsR K g' H2 pa hs hands') : Making K p dx pa D H fs g' H2 hs hands' :=
  ⟨r.kp.go e, e.keep r.obj r.po, e.free r.obj r.po, e.notD r.obj r.pD, e.keep r.lst r.lo, e.free r.lst r.lo, e.notD r.lst r.lD, r.post.go e n, w⟩
def spFolkI (K : PySem.W.Frag) : Sp := fun vs H Q E => ∃ (p dx : Addr) (mv fv : V) (ml : Option (List Int)), vs = [.ref p, mv, fv] ∧ H p = some (.ins (He.ga K "Folk") dx []) ∧ Thg K H mv ∧ (∀ m, mv = .int m → 1 ≤ m → m ≤ 9 → LstIs K H fv m ml) ∧ Res K H E (Flk.make mv ml) fun f =>
  ∀ g H' L, Kp p H g H' → FolkR K g H' p f L → Q .non H'
theorem sc_Folk_init : FnScope ["self", "many", "first", "hand", "members", "member"] ["self", "many", "first"] (defScope s_Folk_init) := ⟨rfl, rfl, rfl, by decide +kernel, rfl, by decide +kernel, by decide +kernel⟩
set_option maxRecDepth 100000 in
theorem ok_Folk_init (T : Txt K mg) : OkF P w K mg base (L2N.CX P w) 4 (He.ma K (He.ga K "Folk") "__init__") ["self", "many", "first"] (spFolkI K) := by
  obtain ⟨fd, F⟩ := T.F_Folk_init
  obtain ⟨fd_is_whole, G_is_whole⟩ := ok_is_whole (P := P) (w := w) (base := base) T
  obtain ⟨fd_is_list, G_is_list⟩ := ok_is_list (P := P) (w := w) (base := base) T
  obtain ⟨fd_Hand_init, G_Hand_init⟩ := ok_Hand_init (P := P) (w := w) (base := base) T
  obtain ⟨fd_Hand_sit, G_Hand_sit⟩ := ok_Hand_sit (P := P) (w := w) (base := base) T
  refine ⟨fd, F.ok sc_Folk_init (fun vs H Q E h => ?_) (fun cdv A outer s H vs Q E hr h => ?_), F.bindsN fun _ _ _ _ _ _ us hl => match us, hl with | [_, _, _], _ => rfl, F.kp⟩
  · obtain ⟨_, _, _, _, _, rfl, _⟩ := h
    rfl
  · refine ⟨_, (pss_cons (ps_if (PW.pt (pw_or (pt_not (pt_val (pe_call G_is_whole.1 (hr.mono (by decide)) rfl T.g_is_whole G_is_whole.2.2 G_is_whole.2.1 .nil pass0 (pa_cons (pv 1) pa_nil)))) (pw_or (pt_cmpR op_lt (pv 1) pe_int (nomark _)) (pw_or1 (pt_cmpR op_gt (pv 1) (pe_glob (v := .int 9) rfl T.i_MOST_HANDS.choose_spec ⟨_, rfl⟩) (nomark _)))))) (pss_one (L2N.ps_raise rfl (L2N.takes_of rfl rfl rfl rfl) (L2N.pmk_own PySem.F.excBase_ValueError T.xi_BadHand T.g_BadHand T.kp_BadHand (raises_own T.xs_BadHand T.xt_BadHand) rfl))) pss_nil) (pss_cons (ps_if (pt_not (pt_val (pe_call G_is_list.1 (hr.mono (by decide)) rfl T.g_is_list G_is_list.2.2 G_is_list.2.1 .nil pass0 (pa_cons (pv 2) (pa_cons (pv 1) pa_nil))))) (pss_one (L2N.ps_raise rfl (L2N.takes_of rfl rfl rfl rfl) (L2N.pmk_own PySem.F.excBase_ValueError T.xi_BadList T.g_BadList T.kp_BadList (raises_own T.xs_BadList T.xt_BadList) rfl))) pss_nil) (pss_cons (ps_fld (pv 0) (pv 1) rfl) (pss_cons (ps_fld (pv 0) (pe_lst pa_nil) rfl) (pss_cons (ps_fld (pv 0) (pe_lc (own := [("hand", 3)]) (g := (gName 3)) (te := (tMake (He.ga K "Hand") (spHandI K) [] E0 (tCons (tVar 3) (tCons (tFld K (tVar 0) "_post") tNil)))) rfl sc_Folk_init.nd (pi_range1 rfl T.b_range (pa_cons (pv 1) pa_nil)) (blkOk_by (own := [("hand", 3)]) (N := ["self", "many", "first", "hand", "members", "member"]) (sc := defScope s_Folk_init) (by decide +kernel)) (fun _ _ _ _ _ => (pg_name (i := 3) sc_Folk_init.nd rfl (Or.inl rfl))) (fun _ _ _ _ _ => pts_nil) (fun _ _ _ _ _ => (pe_make T.mk_Hand G_Hand_init.1 (hr.mono (by decide)) rfl T.g_Hand G_Hand_init.2.1 .nil pass0 (pa_cons (pv 3) (pa_cons (pe_fld (pv 0) rfl) pa_nil))))) rfl) (pss_cons (ps_set (i := 4) sc_Folk_init.nd rfl (Or.inl rfl) (pe_callTy (T := "list") call_list_of (by rfl) T.b_list (by decide +kernel) (pa_cons (pv 2) pa_nil))) (pss_one (ps_for (passes_of rfl) rfl (pi_list (pv 4)) (pg_name (i := 5) sc_Folk_init.nd rfl (Or.inl rfl)) (pss_one (ps_expr (pe_meth (pe_ix ix_list (pe_fld (pv 0) rfl) (pv 5) (fun _ _ => rfl)) T.cl_Hand T.me_Hand_sit G_Hand_sit.1 (hr.mono (by decide)) G_Hand_sit.2.1 .nil pass0 (pa_cons pe_int (pa_cons (pv 4) (pa_cons pe_non pa_nil)))))))))))))), ?_⟩
    obtain ⟨p, dx, mv, fv, ml, rfl, hp, hm, hl, q⟩ := h
    refine ⟨_, rfl, mv, rfl, hm, _, rfl, ?_⟩
    have bad : Flk.make mv ml = .error "BadHand" → E (.ref (He.ga K "BadHand")) none H := fun e => by
      rw [e] at q
      exact q
    cases mv with
    | int m =>
      refine iteF ⟨_, rfl, _, _, rfl, rfl, _, rfl, ?_⟩
      by_cases h0 : m < 1
      · rw [decide_eq_true h0]
        exact iteT (iteT (bad (by show (if 1 ≤ m ∧ m ≤ 9 then _ else _) = _; rw [if_neg (by omega)])))
      rw [decide_eq_false h0]
      refine iteF ⟨_, rfl, _, _, rfl, rfl, _, rfl, ?_⟩
      by_cases h9 : m > 9
      · rw [decide_eq_true h9]
        exact iteT (bad (by show (if 1 ≤ m ∧ m ≤ 9 then _ else _) = _; rw [if_neg (by omega)]))
      rw [decide_eq_false h9]
      have hm2 : Flk.make (.int m) ml = firstIs m.toNat ml := by
        show (if 1 ≤ m ∧ m ≤ 9 then _ else _) = _
        rw [if_pos (by omega)]
      rw [hm2] at q
      refine iteF ⟨_, rfl, _, rfl, ?_⟩
      dsimp only [tNil]
      have hli := hl m rfl (by omega) (by omega)
      refine isList_of hli ⟨_, rfl, ?_⟩
      cases ml with
      | none => exact iteT q
      | some ms =>
        have q2 : ∀ g H' L, Kp p H g H' → FolkR K g H' p (Flk.new m.toNat ms) L → Q .non H' := q
        obtain ⟨fa, rfl, hfa, hB⟩ := hli
        obtain ⟨hne, hms, hup⟩ := isListB_up hB
        have hpf : fa ≠ p := fun z => by rw [z, hp] at hfa; cases hfa
        refine iteF ⟨_, rfl, _, rfl, p, _, dx, _, rfl, hp, T.cl_Folk, T.na_Folk_many, (by show 0 < 1000; decide), Nat.zero_le _, fun pa hpa => ?_⟩
        have n1 : pa ≠ p := fun e => by rw [e, upd_same] at hpa; cases hpa
        have hpa' : H pa = none := by rw [upd_ne n1] at hpa; exact hpa
        refine ⟨_, rfl, p, _, dx, _, rfl, (by rw [upd_ne n1.symm, upd_same]), T.cl_Folk, T.na_Folk__post, lt1000 pl1, ?_⟩
        rw [upd_over n1, show putF "_post" (V.ref pa) (putF "many" (V.int m) []) = folkK.zip [.int m, .ref pa] by
          rw [show ([] : List (Str × V)) = folkK.zip [] from rfl, zq folkK_nd (k := "many") rfl, zq folkK_nd (k := "_post") rfl]; rfl]
        have e1 : Go TPost ⟨fun _ => none, fun _ => none⟩ H _ (upd H pa (.lst [])) := Go.newO (Kp.start p H).ok hpa' rfl
        have k1 := (Kp.start p H).go e1
        have kA : Kp p H _ (upd (upd H pa (.lst [])) p (.ins (He.ga K "Folk") dx (folkK.zip [.int m, .ref pa]))) := k1.mine (.inl rfl) rfl (addO_ne n1.symm)
        have hAo : (Gh.addO ⟨fun _ => none, fun _ => none⟩ pa Tag.post).own p = none := addO_ne n1.symm
        have hAp : (upd (upd H pa (.lst [])) p (.ins (He.ga K "Folk") dx (folkK.zip [.int m, .ref pa]))) p = some (.ins (He.ga K "Folk") dx (folkK.zip [.int m, .ref pa])) := upd_same
        have pA : PostR K (Gh.addO ⟨fun _ => none, fun _ => none⟩ pa .post) (upd (upd H pa (.lst [])) p (.ins (He.ga K "Folk") dx (folkK.zip [.int m, .ref pa]))) pa [] [] := ⟨addO_same, by rw [upd_ne n1, upd_same]; rfl, .nil⟩
        have hAD : (Gh.addO ⟨fun _ => none, fun _ => none⟩ pa Tag.post).D = fun _ => none := rfl
        generalize Gh.addO ⟨fun _ => none, fun _ => none⟩ pa Tag.post = gA at *
        generalize upd (upd H pa (.lst [])) p (.ins (He.ga K "Folk") dx (folkK.zip [.int m, .ref pa])) = HA at *
        refine ⟨_, rfl, m, rfl, by omega, by omega, fun D hD => ?_⟩
        refine lc_range (lo := 0) (n := m.toNat) (fun j H1 => ∃ g hs, hs.length = j ∧ Making K p dx pa D H [.int m, .ref pa] g H1 hs (List.replicate j Hnd.new)) ?_ ?_ ?_
        · have x : Go (fun _ => False) gA HA gA (upd HA D (.lst [])) := Go.ext kA.ok (same_upd hD)
          exact ⟨gA, [], rfl, kA.go x, x.keep hAp hAo, hAo, by rw [hAD], upd_same, kA.ok.onone hD, by rw [hAD], pA.go x (fun z => z), ⟨rfl, fun i a h h1 _ => nomatch h1⟩⟩
        · rintro j H1 hj ⟨g, hs, hsl, M⟩
          have mo := M.obj
          refine ⟨rfl, _, rfl, _, rfl, _, _, _, _, _, rfl, mo, T.cl_Folk, T.na_Folk__post, zl folkK_nd (i := 1) rfl rfl, fun x dx2 hx hdx hne2 => ?_⟩
          refine ⟨x, dx2, _, _, rfl, upd_same, fun bh hbh hb2 => ⟨rfl, ?_⟩⟩
          obtain ⟨g2, hL, e2, rh⟩ := hand_new (pa := pa) (i := j) M.kp.ok hx hdx hne2 hbh
          have hj0 : V.int (0 + (j : Int)) = V.int j := by rw [Int.zero_add]
          rw [hj0]
          generalize (upd (upd (upd (upd H1 dx2 (HO.own x)) x (.ins (He.ga K "Hand") dx2 [])) bh (.lst [])) x (.ins (He.ga K "Hand") dx2 (handK.zip [.int j, .ref pa, .bl true, .int 0, .int (-1), .ref bh, .non]))) = H2 at *
          have w := M.hands.snoc hsl e2 rh
          have HD2 := e2.keep M.lst M.lo
          have DO2 := e2.free M.lst M.lo
          have DD2 := e2.notD M.lst M.lD
          have hDp : D ≠ p := fun z => by have := M.lst; rw [z, M.obj] at this; cases this
          refine ⟨_, HD2, Nat.lt_of_le_of_lt (show _ ≤ 1000 by rw [List.length_map]; omega) (by decide), g2, hs ++ [x], by rw [List.length_append, hsl]; rfl, ?_⟩
          have k2 := M.kp.go e2
          have ch : ∀ b t, g2.own b = some t → upd H2 D (.lst (hs.map V.ref ++ [V.ref x])) b = H2 b := fun b t h => upd_ne fun z => by rw [z, DO2] at h; cases h
          have hH0 : H D = none := by
            cases y : H D with
            | none => rfl
            | some o =>
              have h1 := (kA.old D o hDp y).1
              rw [hD] at h1; cases h1
          refine ⟨k2.mine (.inr hH0) DD2 DO2, ?_, e2.free M.obj M.po, e2.notD M.obj M.pD, by rw [upd_same, List.map_append]; rfl, DO2, DD2, (M.post.go e2 (fun z => z)).mv (fun _ _ z => z) (Same.refl _) ch, ?_⟩
          · rw [upd_ne hDp.symm]
            exact e2.keep M.obj M.po
          · rw [List.replicate_succ']
            exact w.mv (fun _ _ z => z) (Same.refl _) ch
        · rintro H2 ⟨g, hs, hsl, M⟩
          refine ⟨_, rfl, p, _, dx, _, rfl, M.obj, T.cl_Folk, T.na_Folk__hands, lt1000 (zle (ks := folkK)), ?_⟩
          rw [show putF "_hands" (V.ref D) (folkK.zip [.int m, .ref pa]) = folkK.zip [.int m, .ref pa, .ref D] from zq folkK_nd (k := "_hands") rfl]
          have hDp : D ≠ p := fun z => by have := M.lst; rw [z, M.obj] at this; cases this
          have ch : ∀ b t, g.own b = some t → upd H2 p (.ins (He.ga K "Folk") dx (folkK.zip [.int m, .ref pa, .ref D])) b = H2 b := fun b t h => upd_ne fun z => by rw [z, M.po] at h; cases h
          have M2 : Making K p dx pa D H [.int m, .ref pa, .ref D] g (upd H2 p (.ins (He.ga K "Folk") dx (folkK.zip [.int m, .ref pa, .ref D]))) hs (seated m.toNat ms []) :=
            ⟨M.kp.mine (.inl rfl) M.pD M.po, upd_same, M.po, M.pD, by rw [upd_ne hDp]; exact M.lst, M.lo, M.lD, M.post.mv (fun _ _ z => z) (Same.refl _) ch, by rw [seated_nil]; exact M.hands.mv (fun _ _ z => z) (Same.refl _) ch⟩
          generalize upd H2 p (.ins (He.ga K "Folk") dx (folkK.zip [.int m, .ref pa, .ref D])) = H3 at *
          have hfa3 := (M2.kp.old fa _ hpf hfa).1
          refine ⟨_, rfl, fa, _, rfl, .inl (SqL.of hfa3), fun l hl3 => ?_⟩
          have e4 : Go (fun _ => False) g H3 (g.addD l (.lst (ms.map V.int))) (upd H3 l (.lst (ms.map V.int))) := Go.newD M2.kp.ok hl3
          have M4 := M2.go e4 (fun z => z) (M2.hands.mv e4.own e4.D (fun b t h => by
            cases y : H3 b with
            | none => exact absurd y (M2.kp.ok.liv b t h)
            | some o => exact e4.stay y h (fun z => z)))
          have hl4 : (g.addD l (.lst (ms.map V.int))).D l = some (.lst (ms.map V.int)) := by show upd g.D l _ l = _; exact upd_same
          generalize g.addD l (.lst (ms.map V.int)) = g4 at *
          generalize upd H3 l (.lst (ms.map V.int)) = H4 at *
          refine ⟨_, rfl, l, rfl, ⟨_, SqL.of (M4.kp.ok.sub _ _ hl4)⟩, for_list (K := K) (a := l) (xs := ms.map V.int) (fun j σ H1 => ∃ g1 v, σ = [some (.ref p), some (.int m), some (.ref fa), none, some (.ref l), v] ∧ Making K p dx pa D H [.int m, .ref pa, .ref D] g1 H1 hs (seated m.toNat ms (ms.take j)) ∧ g1.D l = some (.lst (ms.map V.int)))
            ⟨g4, none, rfl, M4, hl4⟩ (fun j σ H1 _ ⟨g1, v, _, M1, h1⟩ => SqL.of (M1.kp.ok.sub _ _ h1)) ?_ ?_⟩
          · rintro j x σ H1 hx ⟨g1, v, rfl, M1, hl1⟩
            rw [List.getElem?_map] at hx
            cases hz : ms[j]? with
            | none => rw [hz] at hx; cases hx
            | some z =>
              rw [hz] at hx
              cases hx
              have hz2 := hms z (List.mem_of_getElem? hz)
              have hzn : z.toNat < m.toNat := by omega
              have hzh : z.toNat < hs.length := by omega
              obtain ⟨a, ha⟩ : ∃ a, hs[z.toNat]? = some a := ⟨_, List.getElem?_eq_getElem hzh⟩
              have hnot : ((z.toNat : Nat) : Int) ∉ ms.take j := by
                rw [show ((z.toNat : Nat) : Int) = z by omega]
                intro w
                obtain ⟨i, hi⟩ := List.getElem?_of_mem w
                rw [List.getElem?_take] at hi
                split at hi
                · rename_i hij
                  obtain ⟨hi2, ei⟩ := List.getElem?_eq_some_iff.mp hi
                  obtain ⟨hj2, ej⟩ := List.getElem?_eq_some_iff.mp hz
                  have := List.pairwise_iff_getElem.mp hup i j hi2 hj2 hij
                  omega
                · cases hi
              obtain ⟨hL, rh⟩ := M1.hands.hand z.toNat a Hnd.new ha (by rw [seated_get ms _ hzn, if_neg hnot])
              have hml := rising_len (n := m.toNat) (fun x hx => ⟨(hms x hx).1, by have := (hms x hx).2; omega⟩) hup
              refine ⟨_, rfl, _, _, _, _, _, rfl, M1.obj, T.cl_Folk, T.na_Folk__hands, zl folkK_nd (i := 2) rfl rfl, _, rfl, D, _, _, V.ref a, rfl, rfl, SqL.of M1.lst, ?_, _, _, _, rfl, rh.obj, zn (by decide +kernel), _, rfl, g1, a, pa, z.toNat, Hnd.new, hL, 0, .ref l, .non, ms, none, rfl, M1.kp.ok, rh, ⟨l, rfl, hl1⟩, rfl, hup.imp (fun h => by omega), by omega, fun g5 H5 L5 e5 r5 => ?_⟩
              · rw [show z = ((z.toNat : Nat) : Int) by omega]
                exact atI_nat (by rw [List.getElem?_map, ha]; rfl)
              · have w := M1.hands.set ha e5 r5
                have hs2 : (seated m.toNat ms (ms.take j)).set z.toNat { Hnd.new with seat := some (Seat.fresh 0 ms none), high := 0 } = seated m.toNat ms (ms.take (j + 1)) := by
                  rw [take_succ_of hz]
                  exact seated_set hz2.1
                rw [hs2] at w
                exact ⟨g5, _, rfl, M1.go e5 (fun z => z) w, e5.D _ _ hl1⟩
          · rintro σ H1 ⟨g1, v, rfl, M1, hl1⟩
            rw [List.length_map, List.take_length] at M1
            have hDp1 : D ≠ p := hDp
            have ok1 := M1.kp.ok.addX M1.obj M1.po
            have ok2 := ok1.addX (a := D) M1.lst M1.lo
            have sm : Same g1.D ((g1.addD p (.ins (He.ga K "Folk") dx (folkK.zip [.int m, .ref pa, .ref D]))).addD D (.lst (hs.map V.ref))).D := fun b o h => by
              show upd (upd g1.D p _) D _ b = some o
              rw [upd_ne (fun z => by rw [z, M1.lD] at h; cases h), upd_ne (fun z => by rw [z, M1.pD] at h; cases h)]
              exact h
            have so : ∀ a t, g1.own a = some t → ((g1.addD p (.ins (He.ga K "Folk") dx (folkK.zip [.int m, .ref pa, .ref D]))).addD D (.lst (hs.map V.ref))).own a = some t := fun _ _ z => z
            refine q2 ((g1.addD p (.ins (He.ga K "Folk") dx (folkK.zip [.int m, .ref pa, .ref D]))).addD D (.lst (hs.map V.ref))) H1 ⟨dx, pa, D, [], hs⟩ ⟨ok2, fun b o n h => ?_⟩ ⟨ok2, ?_, ?_, ?_, ?_, fun i a h h1 h2 => ?_⟩
            · obtain ⟨w1, w2, w3⟩ := M1.kp.old b o n h
              refine ⟨w1, w2, ?_⟩
              show upd (upd g1.D p _) D _ b = none
              have bD : b ≠ D := fun z => by
                rw [z] at h
                have h1 := (kA.old D o hDp h).1
                rw [hD] at h1; cases h1
              rw [upd_ne bD, upd_ne n]
              exact w3
            · show upd (upd g1.D p _) D _ p = _
              rw [upd_ne hDp.symm, upd_same]
              have hl2 : ((Flk.new m.toNat ms).hands.length : Int) = m := by
                show ((seated m.toNat ms ms).length : Int) = m
                rw [seated_len]
                omega
              rw [hl2]
            · show upd (upd g1.D p _) D _ D = _
              rw [upd_same]
            · exact M1.post.mv so sm (fun _ _ _ => rfl)
            · show hs.length = (seated m.toNat ms ms).length
              exact M1.hands.len
            · obtain ⟨hL, w⟩ := M1.hands.hand i a h h1 h2
              exact ⟨hL, w.mv so sm (fun _ _ _ => rfl)⟩
    | _ => exact iteT (bad rfl)

end
end Fo
namespace Fo
open PySem PySem.Spec PyProof.Rows L2
section
variable {P : Program} {w : World} {K : PySem.W.Frag} {mg : Str → Option Value} {base : Heap}
/-! ### what keeps, whatever comes -/
def BalGe (s : Seat) (b : Bal) : Prop := ∃ o, s.off = some o ∧ b.1 ≤ o.bal.1 ∧ (o.bal = b → o.fwd.isSome = true)
/-- what is known of lists, of messages -/
structure Prm where
  Y : List Int → Prop
  Z : Msg → Prop
  ok : ∀ x, Z x → mOk x
structure MemOk (X : Prm) (m : Nat) (ms : List Int) : Prop where
  y : X.Y ms
  ne : ms ≠ []
  rg : ∀ x ∈ ms, 0 ≤ x ∧ x < (m : Int)
  up : ms.Pairwise (· < ·)
theorem MemOk.len {X : Prm} {m : Nat} {ms : List Int} (h : MemOk X m ms) : ms.length ≤ m := rising_len h.rg h.up
theorem MemOk.nd {X : Prm} {m : Nat} {ms : List Int} (h : MemOk X m ms) : ms.Nodup := h.up.imp fun q => by omega
structure RowOk (X : Prm) (B : Nat) (r : List Msg) : Prop where
  len : r.length ≤ B
  z : ∀ x ∈ r, X.Z x
theorem RowOk.ok {X : Prm} {B : Nat} {r : List Msg} (h : RowOk X B r) : rOk r := fun x hx => X.ok x (h.z x hx)
structure AgrOk (X : Prm) (m B : Nat) (a : Agr) : Prop where
  mem : MemOk X m a.mem
  row : RowOk X B a.row
structure NewsOk (X : Prm) (m B : Nat) (c : Int) (n : News) : Prop where
  mem : MemOk X m n.mem
  row : RowOk X B n.row
  num : n.num ≤ c
structure OffOk (X : Prm) (m B : Nat) (o : Off) : Prop where
  mem : MemOk X m o.mem
  prow : ∀ p ∈ o.proms, RowOk X B p.2.1 ∧ ∀ a, p.2.2 = some a → AgrOk X m B a
  pk : (o.proms.map (·.1)).Nodup
  pr : ∀ x ∈ o.proms.map (·.1), 0 ≤ x ∧ x < (m : Int)
  fwd : ∀ f, o.fwd = some f → MemOk X m f.1 ∧ RowOk X B f.2
  ak : o.ags.Nodup
  ar : ∀ x ∈ o.ags, 0 ≤ x ∧ x < (m : Int)
structure SeatOk (X : Prm) (m B : Nat) (c : Int) (i : Nat) (s : Seat) : Prop where
  mem : MemOk X m s.mem
  me : (i : Int) ∈ s.mem
  row : RowOk X B s.row
  hk : s.hold.map (·.1) = s.mem
  news : ∀ n, s.news = some n → NewsOk X m B c n
  agr : ∀ a, s.agr = some a → AgrOk X m B a
  off : ∀ o, s.off = some o → OffOk X m B o ∧ s.num < c
structure HandOk (X : Prm) (m B : Nat) (c : Int) (i : Nat) (h : Hnd) : Prop where
  high : h.high ≤ c
  past : (h.past.length : Int) ≤ h.high + 1
  seat : ∀ s, h.seat = some s → SeatOk X m B c i s ∧ s.num = h.high ∧ (h.past.length : Int) ≤ s.num
def ToldOk (X : Prm) (m B : Nat) (c : Int) : Told → Prop
  | .wish x => X.Z x
  | .hold x pl => X.Z x ∧ pl < B
  | .promise _ row a => RowOk X B row ∧ ∀ x, a = some x → AgrOk X m B x
  | .accept a => AgrOk X m B a
  | .enter n => NewsOk X m B c n
  | _ => True
structure LetOk (X : Prm) (m B : Nat) (c : Int) (l : Ltr) : Prop where
  to : l.to < m
  s0 : 0 ≤ l.snd
  s1 : l.snd < (m : Int)
  told : ToldOk X m B c l.told
/-- what a letter tells of its sender's seat, of its receiver's -/
def sndC (l : Ltr) (s : Seat) : Prop := match l.told with
  | .hold _ _ => (l.to : Int) ∈ s.mem
  | .accept a => BalGe s a.bal
  | _ => True
def needC (l : Ltr) : Prop := match l.told with
  | .have_ _ => True
  | .agree _ => True
  | _ => False
def toC (l : Ltr) (s : Seat) : Prop := match l.told with
  | .have_ _ => l.snd ∈ s.mem
  | .agree b => BalGe s b
  | _ => True
structure LetOn (l : Ltr) (i : Nat) (h : Hnd) : Prop where
  n1 : l.snd = i → l.num ≤ h.high
  c1 : l.snd = i → ∀ s, h.seat = some s → s.num = l.num → sndC l s
  n2 : l.to = i → needC l → l.num ≤ h.high
  c2 : l.to = i → ∀ s, h.seat = some s → s.num = l.num → toC l s
structure HStep (h h' : Hnd) : Prop where
  high : h.high ≤ h'.high
  seat : ∀ s', h'.seat = some s' → h.high < s'.num ∨ ∃ s, h.seat = some s ∧ s'.num = s.num ∧ s'.mem = s.mem ∧ ∀ b, BalGe s b → BalGe s' b
theorem LetOn.step {l : Ltr} {i : Nat} {h h' : Hnd} (o : LetOn l i h) (e : HStep h h') : LetOn l i h' where
  n1 := fun q => Int.le_trans (o.n1 q) e.high
  n2 := fun q k => Int.le_trans (o.n2 q k) e.high
  c1 := fun q s' hs hn => by
    rcases e.seat s' hs with w | ⟨s, h1, h2, h3, h4⟩
    · have := o.n1 q
      omega
    · have w := o.c1 q s h1 (h2 ▸ hn)
      unfold sndC at w ⊢
      cases ht : l.told with
      | hold a b => rw [ht] at w; exact h3 ▸ w
      | accept a => rw [ht] at w; exact h4 _ w
      | _ => trivial
  c2 := fun q s' hs hn => by
    rcases e.seat s' hs with w | ⟨s, h1, h2, h3, h4⟩
    · unfold toC
      have n := o.n2 q
      unfold needC at n
      cases ht : l.told with
      | have_ a =>
        rw [ht] at n
        have := n trivial
        omega
      | agree a =>
        rw [ht] at n
        have := n trivial
        omega
      | _ => trivial
    · have w := o.c2 q s h1 (h2 ▸ hn)
      unfold toC at w ⊢
      cases ht : l.told with
      | have_ a => rw [ht] at w; exact h3 ▸ w
      | agree a => rw [ht] at w; exact h4 _ w
      | _ => trivial
theorem HStep.refl (h : Hnd) : HStep h h := ⟨Int.le_refl _, fun s hs => .inr ⟨s, hs, rfl, rfl, fun _ q => q⟩⟩
theorem HStep.trans {h h1 h2 : Hnd} (a : HStep h h1) (b : HStep h1 h2) : HStep h h2 := ⟨Int.le_trans a.high b.high, fun s2 e2 => by
  rcases b.seat s2 e2 with w | ⟨s1, e1, n1, m1, k1⟩
  · exact .inl (Int.lt_of_le_of_lt a.high w)
  · rcases a.seat s1 e1 with w | ⟨s, e, n, m, k⟩
    · exact .inl (n1 ▸ w)
    · exact .inr ⟨s, e, n1.trans n, m1.trans m, fun q z => k1 q (k q z)⟩⟩
/-! growing bounds -/
theorem RowOk.mono {X : Prm} {B B' : Nat} {r : List Msg} (h : RowOk X B r) (e : B ≤ B') : RowOk X B' r := ⟨Nat.le_trans h.len e, h.z⟩
theorem AgrOk.mono {X : Prm} {m B B' : Nat} {a : Agr} (h : AgrOk X m B a) (e : B ≤ B') : AgrOk X m B' a := ⟨h.mem, h.row.mono e⟩
theorem NewsOk.mono {X : Prm} {m B B' : Nat} {c c' : Int} {n : News} (h : NewsOk X m B c n) (e : B ≤ B') (d : c ≤ c') : NewsOk X m B' c' n := ⟨h.mem, h.row.mono e, Int.le_trans h.num d⟩
theorem OffOk.mono {X : Prm} {m B B' : Nat} {o : Off} (h : OffOk X m B o) (e : B ≤ B') : OffOk X m B' o :=
  ⟨h.mem, fun p hp => ⟨(h.prow p hp).1.mono e, fun a ha => ((h.prow p hp).2 a ha).mono e⟩, h.pk, h.pr, fun f hf => ⟨(h.fwd f hf).1, (h.fwd f hf).2.mono e⟩, h.ak, h.ar⟩
theorem SeatOk.mono {X : Prm} {m B B' : Nat} {c c' : Int} {i : Nat} {s : Seat} (h : SeatOk X m B c i s) (e : B ≤ B') (d : c ≤ c') : SeatOk X m B' c' i s :=
  ⟨h.mem, h.me, h.row.mono e, h.hk, fun n hn => (h.news n hn).mono e d, fun a ha => (h.agr a ha).mono e, fun o ho => ⟨(h.off o ho).1.mono e, Int.lt_of_lt_of_le (h.off o ho).2 d⟩⟩
theorem HandOk.mono {X : Prm} {m B B' : Nat} {c c' : Int} {i : Nat} {h : Hnd} (r : HandOk X m B c i h) (e : B ≤ B') (d : c ≤ c') : HandOk X m B' c' i h :=
  ⟨Int.le_trans r.high d, r.past, fun s hs => ⟨(r.seat s hs).1.mono e d, (r.seat s hs).2⟩⟩
theorem LetOk.mono {X : Prm} {m B B' : Nat} {c c' : Int} {l : Ltr} (h : LetOk X m B c l) (e : B ≤ B') (d : c ≤ c') : LetOk X m B' c' l := by
  refine ⟨h.to, h.s0, h.s1, ?_⟩
  have w := h.told
  cases ht : l.told with
  | wish x => rw [ht] at w; exact w
  | hold x pl => rw [ht] at w; exact ⟨w.1, Nat.lt_of_lt_of_le w.2 e⟩
  | promise b row a => rw [ht] at w; exact ⟨w.1.mono e, fun x hx => (w.2 x hx).mono e⟩
  | accept a => rw [ht] at w; exact AgrOk.mono w e
  | enter n => rw [ht] at w; exact NewsOk.mono w e d
  | _ => trivial
/-! weights -/
def Told.wt : Told → Nat
  | .wish _ => 89 | .hold _ _ => 10 | .have_ _ => 9 | .take _ => 1 | .prepare _ => 101 | .promise _ _ _ => 100 | .accept _ => 11 | .agree _ => 10 | .enter _ => 1
def Told.wn : Told → Nat
  | .wish _ => 1 | _ => 0
def wsum (ls : List Ltr) : Nat := (ls.map fun l => l.told.wt).sum
def wcnt (ls : List Ltr) : Nat := (ls.map fun l => l.told.wn).sum
theorem wt_pos (t : Told) : 1 ≤ t.wt := by cases t <;> simp [Told.wt]
theorem wsum_app (a b : List Ltr) : wsum (a ++ b) = wsum a + wsum b := by
  unfold wsum
  rw [List.map_append, List.sum_append]
theorem wcnt_app (a b : List Ltr) : wcnt (a ++ b) = wcnt a + wcnt b := by
  unfold wcnt
  rw [List.map_append, List.sum_append]
theorem wsum_len : ∀ ls : List Ltr, ls.length ≤ wsum ls
  | [] => Nat.le_refl _
  | l :: r => by
    have h1 := wsum_len r
    have h2 := wt_pos l.told
    show r.length + 1 ≤ l.told.wt + wsum r
    omega
theorem sum_erase (g : Ltr → Nat) : ∀ (ls : List Ltr) (p : Nat) (l : Ltr), ls[p]? = some l → ((ls.eraseIdx p).map g).sum + g l = (ls.map g).sum
  | [], _, _, h => by simp at h
  | x :: r, 0, l, h => by
    simp at h
    subst h
    show (r.map g).sum + g x = g x + (r.map g).sum
    omega
  | x :: r, p + 1, l, h => by
    have := sum_erase g r p l (by simpa using h)
    show g x + ((r.eraseIdx p).map g).sum + g l = g x + (r.map g).sum
    omega
theorem mail_wsum (i : Nat) (s : Seat) (t : Told) : ∀ hs : List Int, wsum (mail i s hs t) = hs.length * t.wt
  | [] => by simp [mail, wsum]
  | x :: r => by
    show t.wt + wsum (mail i s r t) = (r.length + 1) * t.wt
    rw [mail_wsum i s t r, Nat.add_mul, Nat.one_mul, Nat.add_comm]
theorem mail_wcnt (i : Nat) (s : Seat) (t : Told) (h : t.wn = 0) : ∀ hs : List Int, wcnt (mail i s hs t) = 0
  | [] => rfl
  | x :: r => by
    show t.wn + wcnt (mail i s r t) = 0
    rw [mail_wcnt i s t h r, h]
theorem mail_mem {i : Nat} {s : Seat} {hs : List Int} {t : Told} {l : Ltr} (h : l ∈ mail i s hs t) : ∃ x ∈ hs, l = ⟨i, x.toNat, s.num, t⟩ := by
  obtain ⟨x, hx, e⟩ := List.mem_map.mp h
  exact ⟨x, hx, e.symm⟩
theorem others_lt {i : Nat} {s : Seat} (h : (i : Int) ∈ s.mem) : (s.others i).length < s.mem.length := by
  unfold Seat.others
  rw [List.length_filter_lt_length_iff_exists]
  exact ⟨_, h, by simp⟩
theorem nodup_len {m : Nat} {l : List Int} (h : l.Nodup) (r : ∀ x ∈ l, 0 ≤ x ∧ x < (m : Int)) : l.length ≤ m := by
  rw [← (sortA_perm l).length_eq]
  refine rising_len (fun x hx => r x ((sortA_perm l).mem_iff.mp hx)) ?_
  have h1 := sortA_sorted l
  have h2 : (sortA l).Nodup := (sortA_perm l).nodup_iff.mpr h
  exact (h1.and h2).imp fun ⟨a, b⟩ => by omega
theorem both_ok {X : Prm} {m : Nat} {a b : List Int} (ha : MemOk X m a) (hb : MemOk X m b) : (bothOf a b).length ≤ m ∧ ∀ x ∈ bothOf a b, 0 ≤ x ∧ x < (m : Int) := by
  have h1 : ∀ x ∈ a ++ b.filter (fun h => decide (h ∉ a)), 0 ≤ x ∧ x < (m : Int) := fun x hx => by
    rcases List.mem_append.mp hx with w | w
    · exact ha.rg x w
    · exact hb.rg x (List.mem_filter.mp w).1
  refine ⟨?_, fun x hx => h1 x ((sortA_perm _).mem_iff.mp hx)⟩
  show (sortA _).length ≤ m
  rw [(sortA_perm _).length_eq]
  refine nodup_len (List.nodup_append.mpr ⟨ha.nd, hb.nd.filter _, fun x hx y hy e => ?_⟩) h1
  have := of_decide_eq_true (List.mem_filter.mp hy).2
  exact this (e ▸ hx)

end
end Fo
namespace Fo
open PySem PySem.Spec PyProof.Rows L2
section
variable {P : Program} {w : World} {K : PySem.W.Frag} {mg : Str → Option Value} {base : Heap}
/-- what a seat's doings keep: s with bound B gives s' with B' and the letters out, where l came -/
structure Did (X : Prm) (m B' : Nat) (c : Int) (i : Nat) (l : Ltr) (s s' : Seat) (out : List Ltr) : Prop where
  ok : SeatOk X m B' c i s'
  num : s'.num = s.num
  mem : s'.mem = s.mem
  ge : ∀ b, BalGe s b → BalGe s' b
  let_ : ∀ x ∈ out, LetOk X m B' c x ∧ x.snd = i ∧ x.num = s.num
  snd : ∀ x ∈ out, sndC x s'
  to : ∀ x ∈ out, needC x → x.to = l.snd.toNat ∧ (∀ j hj, LetOn l j hj → l.snd = (j : Nat) → (∀ s2, hj.seat = some s2 → s2.num = l.num → sndC l s2) → ∀ s2, hj.seat = some s2 → s2.num = l.num → toC x s2)
  wsum : wsum out < l.told.wt
  wcnt : wcnt out = 0
theorem keys_ok {i : Nat} {s : Seat} (hk : s.hold.map (·.1) = s.mem) (me : (i : Int) ∈ s.mem) {k : Int} {n : Nat} (hm : k ∈ s.mem) : (putA k n s.hold).map (·.1) = s.mem := by
  rw [putA_keys (by rw [hk]; exact hm), hk]
theorem others_mem {s : Seat} {i : Nat} {x : Int} (h : x ∈ s.others i) : x ∈ s.mem := (List.mem_filter.mp h).1
theorem others_mul {X : Prm} {m B : Nat} {c : Int} {i : Nat} {s : Seat} (hm : m ≤ 9) (h : SeatOk X m B c i s) : (s.others i).length ≤ 8 := by
  have h1 := others_lt h.me
  have h2 := h.mem.len
  omega
/-- a mail to hands of the list -/
theorem mail_let {X : Prm} {m B : Nat} {c : Int} {i : Nat} {s : Seat} (h : SeatOk X m B c i s) {hs : List Int} (hh : ∀ x ∈ hs, 0 ≤ x ∧ x < (m : Int)) {t : Told} (ht : ToldOk X m B c t) : ∀ x ∈ mail i s hs t, LetOk X m B c x ∧ x.snd = i ∧ x.num = s.num := fun x hx => by
  obtain ⟨y, hy, rfl⟩ := mail_mem hx
  have h1 := hh y hy
  have h2 := h.mem.rg _ h.me
  exact ⟨⟨by show y.toNat < m; omega, by show (0 : Int) ≤ i; omega, h2.2, ht⟩, rfl, rfl⟩
theorem tweh_did {X : Prm} {m B : Nat} {c : Int} {i : Nat} {s : Seat} (hm : m ≤ 9) (h : SeatOk X m B c i s) : SeatOk X m B c i (s.tweh i).1 ∧ (s.tweh i).1.num = s.num ∧ (s.tweh i).1.mem = s.mem ∧ (s.tweh i).1.off = s.off ∧ (s.tweh i).1.row = s.row ∧ (∀ x ∈ (s.tweh i).2, LetOk X m B c x ∧ x.snd = i ∧ x.num = s.num ∧ ∃ n, x.told = .take n) ∧ wsum (s.tweh i).2 ≤ 8 ∧ wcnt (s.tweh i).2 = 0 := by
  have hk : (putA (i : Int) s.row.length s.hold).map (·.1) = s.mem := keys_ok h.hk h.me h.me
  show SeatOk X m B c i (if (s.note i s.row.length).most > s.took then (({ s.note i s.row.length with took := (s.note i s.row.length).most } : Seat), mail i s (s.others i) (.take (s.note i s.row.length).most)) else (s.note i s.row.length, [])).1 ∧ (if (s.note i s.row.length).most > s.took then (({ s.note i s.row.length with took := (s.note i s.row.length).most } : Seat), mail i s (s.others i) (.take (s.note i s.row.length).most)) else (s.note i s.row.length, [])).1.num = s.num ∧ (if (s.note i s.row.length).most > s.took then (({ s.note i s.row.length with took := (s.note i s.row.length).most } : Seat), mail i s (s.others i) (.take (s.note i s.row.length).most)) else (s.note i s.row.length, [])).1.mem = s.mem ∧ (if (s.note i s.row.length).most > s.took then (({ s.note i s.row.length with took := (s.note i s.row.length).most } : Seat), mail i s (s.others i) (.take (s.note i s.row.length).most)) else (s.note i s.row.length, [])).1.off = s.off ∧ (if (s.note i s.row.length).most > s.took then (({ s.note i s.row.length with took := (s.note i s.row.length).most } : Seat), mail i s (s.others i) (.take (s.note i s.row.length).most)) else (s.note i s.row.length, [])).1.row = s.row ∧ (∀ x ∈ (if (s.note i s.row.length).most > s.took then (({ s.note i s.row.length with took := (s.note i s.row.length).most } : Seat), mail i s (s.others i) (.take (s.note i s.row.length).most)) else (s.note i s.row.length, [])).2, LetOk X m B c x ∧ x.snd = i ∧ x.num = s.num ∧ ∃ n, x.told = .take n) ∧ wsum (if (s.note i s.row.length).most > s.took then (({ s.note i s.row.length with took := (s.note i s.row.length).most } : Seat), mail i s (s.others i) (.take (s.note i s.row.length).most)) else (s.note i s.row.length, [])).2 ≤ 8 ∧ wcnt (if (s.note i s.row.length).most > s.took then (({ s.note i s.row.length with took := (s.note i s.row.length).most } : Seat), mail i s (s.others i) (.take (s.note i s.row.length).most)) else (s.note i s.row.length, [])).2 = 0
  split
  · refine ⟨⟨h.mem, h.me, h.row, hk, h.news, h.agr, h.off⟩, rfl, rfl, rfl, rfl, fun x hx => ?_, ?_, mail_wcnt _ _ _ rfl _⟩
    · obtain ⟨a, b, d⟩ := mail_let h (fun y hy => h.mem.rg y (others_mem hy)) (t := .take _) trivial x hx
      obtain ⟨y, hy, rfl⟩ := mail_mem hx
      exact ⟨a, b, d, _, rfl⟩
    · rw [mail_wsum]
      have := others_mul hm h
      show _ * 1 ≤ 8
      omega
  · exact ⟨⟨h.mem, h.me, h.row, hk, h.news, h.agr, h.off⟩, rfl, rfl, rfl, rfl, (fun x hx => (nomatch hx)), Nat.zero_le 8, rfl⟩
theorem BalGe.off {s s' : Seat} (e : s'.off = s.off) {b : Bal} (h : BalGe s b) : BalGe s' b := by
  unfold BalGe at h ⊢
  rw [e]
  exact h
/-- nothing is done -/
theorem Did.none {X : Prm} {m B : Nat} {c : Int} {i : Nat} {l : Ltr} {s : Seat} (h : SeatOk X m B c i s) : Did X m B c i l s s [] :=
  ⟨h, rfl, rfl, fun _ q => q, fun x hx => (nomatch hx), fun x hx => (nomatch hx), fun x hx => (nomatch hx), wt_pos _, rfl⟩
theorem wish_did {X : Prm} {m B : Nat} {c : Int} {i : Nat} {l : Ltr} {s : Seat} {x : Msg} (hm : m ≤ 9) (h : SeatOk X m B c i s) (hl : l.told = .wish x) (ok : X.Z x) : Did X m (B + 1) c i l s (s.wish i x).1 (s.wish i x).2 := by
  have hB := h.mono (B' := B + 1) (by omega) (Int.le_refl c)
  unfold Seat.wish
  split
  · exact Did.none hB
  · have h1 : SeatOk X m (B + 1) c i { s with row := s.row ++ [x] } := ⟨h.mem, h.me, ⟨by rw [List.length_append]; have := h.row.len; show s.row.length + 1 ≤ B + 1; omega, fun y hy => by
      rcases List.mem_append.mp hy with w | w
      · exact h.row.z y w
      · rw [List.mem_singleton.mp w]; exact ok⟩, h.hk, hB.news, hB.agr, hB.off⟩
    obtain ⟨a1, a2, a3, a4, a5, a6, a7, a8⟩ := tweh_did hm h1
    generalize hr : ({ s with row := s.row ++ [x] } : Seat).tweh i = r at *
    have hmail := mail_let hB (hs := s.others i) (fun y hy => h.mem.rg y (others_mem hy)) (t := .hold x s.row.length) ⟨ok, by have := h.row.len; omega⟩
    refine ⟨a1, a2, a3, fun b q => q.off a4, fun y hy => ?_, fun y hy => ?_, fun y hy n => ?_, ?_, ?_⟩
    · rcases List.mem_append.mp hy with w | w
      · exact hmail y w
      · exact ⟨(a6 y w).1, (a6 y w).2.1, (a6 y w).2.2.1⟩
    · rcases List.mem_append.mp hy with w | w
      · obtain ⟨z, hz, rfl⟩ := mail_mem w
        show ((z.toNat : Nat) : Int) ∈ r.1.mem
        rw [a3]
        have := (h.mem.rg z (others_mem hz)).1
        rw [show ((z.toNat : Nat) : Int) = z by omega]
        exact others_mem hz
      · obtain ⟨_, _, _, n, e⟩ := a6 y w
        unfold sndC
        rw [e]
        trivial
    · rcases List.mem_append.mp hy with w | w
      · obtain ⟨z, hz, rfl⟩ := mail_mem w
        exact n.elim
      · obtain ⟨_, _, _, k, e⟩ := a6 y w
        unfold needC at n
        rw [e] at n
        exact n.elim
    · show wsum (_ ++ r.2) < _
      rw [wsum_app, mail_wsum, hl]
      have := others_mul hm h
      show _ * 10 + _ < 89
      omega
    · show wcnt (_ ++ r.2) = 0
      rw [wcnt_app, mail_wcnt _ _ _ rfl, a8]
/-- one letter back to the sender -/
theorem back_let {X : Prm} {m B : Nat} {c : Int} {i : Nat} {l : Ltr} {s : Seat} (h : SeatOk X m B c i s) (hl : LetOk X m B c l) {t : Told} (ht : ToldOk X m B c t) : ∀ x ∈ [(⟨i, l.snd.toNat, s.num, t⟩ : Ltr)], LetOk X m B c x ∧ x.snd = i ∧ x.num = s.num := fun x hx => by
  rw [List.mem_singleton.mp hx]
  have h1 := hl.s0
  have h2 := hl.s1
  have h3 := h.mem.rg _ h.me
  exact ⟨⟨by show l.snd.toNat < m; omega, by show (0 : Int) ≤ i; omega, h3.2, ht⟩, rfl, rfl⟩
theorem hold_did {X : Prm} {m B : Nat} {c : Int} {i : Nat} {l : Ltr} {s : Seat} {x : Msg} {pl : Nat} (h : SeatOk X m B c i s) (hl : LetOk X m B c l) (ht : l.told = .hold x pl) (hto : l.to = i) : Did X m B c i l s (s.holdC i l.snd x pl).1 (s.holdC i l.snd x pl).2 := by
  have w := hl.told
  rw [ht] at w
  obtain ⟨w1, w2⟩ := w
  unfold Seat.holdC
  split
  · exact Did.none h
  · have h1 : SeatOk X m B c i (if pl = s.row.length then { s with row := s.row ++ [x] } else s) := by
      split
      · rename_i e
        refine ⟨h.mem, h.me, ⟨by rw [List.length_append]; show s.row.length + 1 ≤ B; omega, fun y hy => ?_⟩, h.hk, h.news, h.agr, h.off⟩
        rcases List.mem_append.mp hy with w | w
        · exact h.row.z y w
        · rw [List.mem_singleton.mp w]; exact w1
      · exact h
    have e1 : (if pl = s.row.length then { s with row := s.row ++ [x] } else s).num = s.num := by split <;> rfl
    have e2 : (if pl = s.row.length then { s with row := s.row ++ [x] } else s).mem = s.mem := by split <;> rfl
    have e3 : (if pl = s.row.length then { s with row := s.row ++ [x] } else s).off = s.off := by split <;> rfl
    refine ⟨h1, e1, e2, fun b q => q.off e3, back_let h hl (t := .have_ _) trivial, fun y hy => ?_, fun y hy n => ?_, ?_, rfl⟩
    · rw [List.mem_singleton.mp hy]; trivial
    · rw [List.mem_singleton.mp hy]
      refine ⟨rfl, fun j hj _ _ sn s2 e2 n2 => ?_⟩
      have := sn s2 e2 n2
      unfold sndC at this
      rw [ht] at this
      show (i : Int) ∈ s2.mem
      rw [← hto]
      exact this
    · rw [ht]
      show 9 + 0 < 10
      omega
theorem have_did {X : Prm} {m B : Nat} {c : Int} {i : Nat} {l : Ltr} {s : Seat} {n : Nat} (hm : m ≤ 9) (h : SeatOk X m B c i s) (ht : l.told = .have_ n) (hs : l.snd ∈ s.mem) : Did X m B c i l s (s.haveC i l.snd n).1 (s.haveC i l.snd n).2 := by
  unfold Seat.haveC
  have h1 : SeatOk X m B c i (s.note l.snd (max (getA l.snd 0 s.hold) n)) := ⟨h.mem, h.me, h.row, keys_ok h.hk h.me hs, h.news, h.agr, h.off⟩
  obtain ⟨a1, a2, a3, a4, a5, a6, a7, a8⟩ := tweh_did hm h1
  refine ⟨a1, a2, a3, fun b q => q.off a4, fun y hy => ⟨(a6 y hy).1, (a6 y hy).2.1, (a6 y hy).2.2.1⟩, fun y hy => ?_, fun y hy n => ?_, ?_, a8⟩
  · obtain ⟨_, _, _, k, e⟩ := a6 y hy
    unfold sndC
    rw [e]
    trivial
  · obtain ⟨_, _, _, k, e⟩ := a6 y hy
    unfold needC at n
    rw [e] at n
    exact n.elim
  · rw [ht]
    show _ < 9
    omega
theorem take_did {X : Prm} {m B : Nat} {c : Int} {i : Nat} {l : Ltr} {s : Seat} {n : Nat} (h : SeatOk X m B c i s) : Did X m B c i l s (s.takeC n) [] :=
  ⟨⟨h.mem, h.me, h.row, h.hk, h.news, h.agr, h.off⟩, rfl, rfl, fun b q => q.off rfl, fun x hx => (nomatch hx), fun x hx => (nomatch hx), fun x hx => (nomatch hx), wt_pos _, rfl⟩
theorem prep_did {X : Prm} {m B : Nat} {c : Int} {i : Nat} {l : Ltr} {s : Seat} {b : Bal} (h : SeatOk X m B c i s) (hl : LetOk X m B c l) (ht : l.told = .prepare b) : Did X m B c i l s (s.prepC i l.snd b).1 (s.prepC i l.snd b).2 := by
  unfold Seat.prepC
  split
  · refine ⟨⟨h.mem, h.me, h.row, h.hk, h.news, h.agr, h.off⟩, rfl, rfl, fun b q => q.off rfl, back_let h hl (t := .promise _ _ _) ⟨h.row, h.agr⟩, fun y hy => ?_, fun y hy n => ?_, ?_, rfl⟩
    · rw [List.mem_singleton.mp hy]; trivial
    · rw [List.mem_singleton.mp hy] at n; exact n.elim
    · rw [ht]
      show 100 + 0 < 101
      omega
  · exact Did.none h
theorem acc_did {X : Prm} {m B : Nat} {c : Int} {i : Nat} {l : Ltr} {s : Seat} {a : Agr} (h : SeatOk X m B c i s) (hl : LetOk X m B c l) (ht : l.told = .accept a) : Did X m B c i l s (s.accC i l.snd a).1 (s.accC i l.snd a).2 := by
  have w := hl.told
  rw [ht] at w
  unfold Seat.accC
  split
  · exact Did.none h
  · refine ⟨⟨h.mem, h.me, h.row, h.hk, h.news, fun x hx => by cases hx; exact w, h.off⟩, rfl, rfl, fun b q => q.off rfl, back_let h hl (t := .agree _) trivial, fun y hy => ?_, fun y hy n => ?_, ?_, rfl⟩
    · rw [List.mem_singleton.mp hy]; trivial
    · rw [List.mem_singleton.mp hy]
      refine ⟨rfl, fun j hj _ _ sn s2 e2 n2 => ?_⟩
      have := sn s2 e2 n2
      unfold sndC at this
      rw [ht] at this
      exact this
    · rw [ht]
      show 10 + 0 < 11
      omega
theorem bestA_of : ∀ (l : List (Int × List Msg × Option Agr)) (b : Option Agr) (a : Agr), bestA b l = some a → b = some a ∨ ∃ p ∈ l, p.2.2 = some a
  | [], b, a, h => .inl h
  | (k, r, x) :: l, b, a, h => by
    have h1 : bestA (bstep b x) l = some a := h
    rcases bestA_of l _ a h1 with w | ⟨p, hp, e⟩
    · unfold bstep at w
      cases x with
      | none =>
        cases b with
        | none => cases w
        | some y => exact .inl w
      | some y =>
        cases b with
        | none => exact .inr ⟨_, List.mem_cons_self, w⟩
        | some z =>
          have w1 : (if Bal.lt z.bal y.bal = true then some y else some z) = some a := w
          split at w1
          · exact .inr ⟨_, List.mem_cons_self, w1⟩
          · exact .inl w1
    · exact .inr ⟨p, List.mem_cons_of_mem _ hp, e⟩
theorem longV_of : ∀ (xss : List (List Msg)) (b : List Msg), longV b xss = b ∨ longV b xss ∈ xss
  | [], _ => .inl rfl
  | r :: xss, b => by
    show longV (if r.length > b.length then r else b) xss = b ∨ _
    split
    · rcases longV_of xss r with w | w
      · exact .inr (by rw [show longV b (r :: xss) = longV (if r.length > b.length then r else b) xss from rfl]; rename_i h; rw [if_pos h, w]; exact List.mem_cons_self)
      · exact .inr (by rw [show longV b (r :: xss) = longV (if r.length > b.length then r else b) xss from rfl]; rename_i h; rw [if_pos h]; exact List.mem_cons_of_mem _ w)
    · rcases longV_of xss b with w | w
      · exact .inl w
      · exact .inr (by rw [show longV b (r :: xss) = longV (if r.length > b.length then r else b) xss from rfl]; rename_i h; rw [if_neg h]; exact List.mem_cons_of_mem _ w)
theorem forward_ok {X : Prm} {m B : Nat} {o : Off} (h : OffOk X m B o) : MemOk X m o.forward.1 ∧ RowOk X B o.forward.2 := by
  unfold Off.forward
  cases hb : bestA none o.proms with
  | some a =>
    rcases bestA_of _ _ _ hb with w | ⟨p, hp, e⟩
    · cases w
    · have := (h.prow p hp).2 a e
      exact ⟨this.mem, this.row⟩
  | none =>
    refine ⟨h.mem, ?_⟩
    show RowOk X B (longV [] (o.proms.map fun p => p.2.1))
    rcases longV_of (o.proms.map fun p => p.2.1) [] with w | w
    · rw [w]
      exact ⟨Nat.zero_le _, fun x hx => (nomatch hx)⟩
    · obtain ⟨p, hp, e⟩ := List.mem_map.mp w
      rw [← e]
      exact (h.prow p hp).1
theorem BalGe.off2 {s s' : Seat} {o o' : Off} (h1 : s.off = some o) (h2 : s'.off = some o') (e : o'.bal = o.bal) (k : o.fwd.isSome = true → o'.fwd.isSome = true) {b : Bal} (h : BalGe s b) : BalGe s' b := by
  obtain ⟨x, hx, q1, q2⟩ := h
  rw [h1] at hx
  cases hx
  exact ⟨o', h2, e ▸ q1, fun z => k (q2 (e ▸ z))⟩
theorem prom_did {X : Prm} {m B : Nat} {c : Int} {i : Nat} {l : Ltr} {s : Seat} {b : Bal} {row : List Msg} {a : Option Agr} (hm : m ≤ 9) (h : SeatOk X m B c i s) (hl : LetOk X m B c l) (ht : l.told = .promise b row a) : Did X m B c i l s (s.promC i l.snd b row a).1 (s.promC i l.snd b row a).2 := by
  have w := hl.told
  rw [ht] at w
  unfold Seat.promC
  cases ho : s.off with
  | none => exact Did.none h
  | some o =>
    obtain ⟨oo, on⟩ := h.off o ho
    show Did X m B c i l s (if o.bal ≠ b ∨ l.snd ∈ o.proms.map (·.1) then (s, []) else _).1 (if o.bal ≠ b ∨ l.snd ∈ o.proms.map (·.1) then (s, []) else _).2
    split
    · exact Did.none h
    · rename_i hc
      have hb : o.bal = b := Decidable.byContradiction fun z => hc (.inl z)
      have hn : l.snd ∉ o.proms.map (·.1) := fun z => hc (.inr z)
      have o1 : OffOk X m B { o with proms := o.proms ++ [(l.snd, row, a)] } := by
        refine ⟨oo.mem, fun p hp => ?_, ?_, fun x hx => ?_, oo.fwd, oo.ak, oo.ar⟩
        · rcases List.mem_append.mp hp with z | z
          · exact oo.prow p z
          · rw [List.mem_singleton.mp z]; exact w
        · rw [List.map_append]
          refine List.nodup_append.mpr ⟨oo.pk, List.pairwise_singleton _ _, fun x hx y hy e => ?_⟩
          rw [List.mem_singleton.mp hy] at e
          have e' : x = l.snd := e
          rw [e'] at hx
          exact hn hx
        · rw [List.map_append] at hx
          rcases List.mem_append.mp hx with z | z
          · exact oo.pr x z
          · rw [List.mem_singleton.mp z]; exact ⟨hl.s0, hl.s1⟩
      dsimp only
      split
      · have fw := forward_ok o1
        refine ⟨⟨h.mem, h.me, h.row, h.hk, h.news, h.agr, fun x hx => ?_⟩, rfl, rfl, fun b' q => q.off2 (o' := { o with proms := o.proms ++ [(l.snd, row, a)], fwd := some (Off.forward { o with proms := o.proms ++ [(l.snd, row, a)] }) }) ho rfl rfl (fun _ => rfl), mail_let h (fun y hy => h.mem.rg y hy) (t := .accept _) ⟨fw.1, fw.2⟩, fun y hy => ?_, fun y hy n => ?_, ?_, mail_wcnt _ _ _ rfl _⟩
        · cases hx
          exact ⟨⟨o1.mem, o1.prow, o1.pk, o1.pr, fun f hf => by cases hf; exact fw, o1.ak, o1.ar⟩, on⟩
        · obtain ⟨z, hz, rfl⟩ := mail_mem hy
          exact ⟨_, rfl, by rw [← hb]; exact Int.le_refl _, fun _ => rfl⟩
        · obtain ⟨z, hz, rfl⟩ := mail_mem hy
          exact n.elim
        · rw [mail_wsum, ht]
          have := h.mem.len
          show _ * 11 < 100
          omega
      · refine ⟨⟨h.mem, h.me, h.row, h.hk, h.news, h.agr, fun x hx => ?_⟩, rfl, rfl, fun b' q => q.off2 (o' := { o with proms := o.proms ++ [(l.snd, row, a)] }) ho rfl rfl (fun z => z), fun x hx => (nomatch hx), fun x hx => (nomatch hx), fun x hx => (nomatch hx), wt_pos _, rfl⟩
        cases hx
        exact ⟨o1, on⟩
theorem agr_did {X : Prm} {m B : Nat} {c : Int} {i : Nat} {l : Ltr} {s : Seat} {b : Bal} (hm : m ≤ 9) (h : SeatOk X m B c i s) (hl : LetOk X m B c l) (ht : l.told = .agree b) (hg : BalGe s b) : Did X m B c i l s (s.agrC i l.snd b).1 (s.agrC i l.snd b).2 := by
  unfold Seat.agrC
  cases ho : s.off with
  | none => exact Did.none h
  | some o =>
    obtain ⟨oo, on⟩ := h.off o ho
    show Did X m B c i l s (if o.bal ≠ b ∨ l.snd ∈ o.ags then (s, []) else _).1 (if o.bal ≠ b ∨ l.snd ∈ o.ags then (s, []) else _).2
    split
    · exact Did.none h
    · rename_i hc
      have hb : o.bal = b := Decidable.byContradiction fun z => hc (.inl z)
      have hn : l.snd ∉ o.ags := fun z => hc (.inr z)
      obtain ⟨o', e', _, hf⟩ := hg
      rw [ho] at e'
      cases e'
      obtain ⟨f, hf⟩ := Option.isSome_iff_exists.mp (hf hb)
      obtain ⟨f1, f2⟩ := oo.fwd f hf
      have o1 : OffOk X m B { o with ags := o.ags ++ [l.snd] } := by
        refine ⟨oo.mem, oo.prow, oo.pk, oo.pr, oo.fwd, ?_, fun x hx => ?_⟩
        · refine List.nodup_append.mpr ⟨oo.ak, List.pairwise_singleton _ _, fun x hx y hy e => ?_⟩
          rw [List.mem_singleton.mp hy] at e
          have e' : x = l.snd := e
          rw [e'] at hx
          exact hn hx
        · rcases List.mem_append.mp hx with z | z
          · exact oo.ar x z
          · rw [List.mem_singleton.mp z]; exact ⟨hl.s0, hl.s1⟩
      have k1 : SeatOk X m B c i { s with off := some { o with ags := o.ags ++ [l.snd] } } := ⟨h.mem, h.me, h.row, h.hk, h.news, h.agr, fun x hx => by cases hx; exact ⟨o1, on⟩⟩
      dsimp only
      split
      · rw [show o.fwd.getD ([], []) = f by rw [hf]; rfl]
        obtain ⟨g1, g2⟩ := both_ok h.mem f1
        refine ⟨k1, rfl, rfl, fun b' q => q.off2 (o' := { o with ags := o.ags ++ [l.snd] }) ho rfl rfl (fun z => z), mail_let h g2 (t := .enter _) ⟨f1, f2, by show s.num + 1 ≤ c; omega⟩, fun y hy => ?_, fun y hy n => ?_, ?_, mail_wcnt _ _ _ rfl _⟩
        · obtain ⟨z, hz, rfl⟩ := mail_mem hy
          trivial
        · obtain ⟨z, hz, rfl⟩ := mail_mem hy
          exact n.elim
        · rw [mail_wsum, ht]
          show _ * 1 < 10
          have : (bothOf s.mem f.1).length ≤ m := g1
          omega
      · exact ⟨k1, rfl, rfl, fun b' q => q.off2 (o' := { o with ags := o.ags ++ [l.snd] }) ho rfl rfl (fun z => z), fun x hx => (nomatch hx), fun x hx => (nomatch hx), fun x hx => (nomatch hx), wt_pos _, rfl⟩

end
end Fo
namespace Fo
open PySem PySem.Spec PyProof.Rows L2
section
variable {P : Program} {w : World} {K : PySem.W.Frag} {mg : Str → Option Value} {base : Heap}
theorem read_did {X : Prm} {m B : Nat} {c : Int} {i : Nat} {l : Ltr} {s : Seat} (hm : m ≤ 9) (h : SeatOk X m B c i s) (hl : LetOk X m B c l) (hto : l.to = i) (c2 : toC l s) : Did X m (B + l.told.wn) c i l s (s.read i l).1 (s.read i l).2 := by
  have w := hl.told
  unfold toC at c2
  unfold Seat.read
  cases ht : l.told with
  | wish x => rw [ht] at w; exact wish_did hm h ht w
  | hold x pl => exact hold_did h hl ht hto
  | have_ n => rw [ht] at c2; exact have_did hm h ht c2
  | take n => exact take_did h
  | prepare b => exact prep_did h hl ht
  | promise b row a => exact prom_did hm h hl ht
  | accept a => exact acc_did h hl ht
  | agree b => rw [ht] at c2; exact agr_did hm h hl ht c2
  | enter n => exact Did.none h
theorem fresh_ok {X : Prm} {m B : Nat} {c : Int} {i : Nat} {n : Int} {ms : List Int} {nw : Option News} (hm : MemOk X m ms) (me : (i : Int) ∈ ms) (hn : ∀ x, nw = some x → NewsOk X m B c x) : SeatOk X m B c i (Seat.fresh n ms nw) := by
  refine ⟨hm, me, ⟨Nat.zero_le _, fun x hx => (nomatch hx)⟩, ?_, hn, fun a ha => (nomatch ha), fun o ho => (nomatch ho)⟩
  show (ms.map fun h => (h, 0)).map (·.1) = ms
  rw [List.map_map]
  exact (List.map_congr_left fun _ _ => rfl).trans (List.map_id ms)
theorem join_ok {X : Prm} {m B : Nat} {c : Int} {i : Nat} {h : Hnd} {n : News} (r : HandOk X m B c i h) (hs : h.seat = none) (hn : NewsOk X m B c n) : HandOk X m B c i (h.join i n) ∧ HStep h (h.join i n) := by
  unfold Hnd.join
  split
  · rename_i q
    have hp := r.past
    refine ⟨⟨hn.num, by show (h.past.length : Int) ≤ n.num + 1; omega, fun s e => ?_⟩, ⟨by show h.high ≤ n.num; omega, fun s e => ?_⟩⟩
    · cases e
      exact ⟨fresh_ok hn.mem q.1 (fun x hx => by cases hx; exact hn), rfl, by show (h.past.length : Int) ≤ n.num; omega⟩
    · cases e
      exact .inl q.2
  · exact ⟨r, HStep.refl h⟩
theorem enter_ok {X : Prm} {m B : Nat} {c : Int} {i : Nat} {h : Hnd} {n : News} (r : HandOk X m B c i h) (hn : NewsOk X m B c n) : HandOk X m B c i (h.enterC i n) ∧ HStep h (h.enterC i n) := by
  unfold Hnd.enterC
  cases hs : h.seat with
  | none => exact join_ok r hs hn
  | some s =>
    show HandOk X m B c i (if s.num ≠ n.num - 1 then h else _) ∧ HStep h (if s.num ≠ n.num - 1 then h else _)
    split
    · exact ⟨r, HStep.refl h⟩
    · obtain ⟨a1, a2, a3⟩ := r.seat s hs
      have r1 : HandOk X m B c i { h with past := h.past ++ [(s.num, s.mem, n.row)], seat := none } := ⟨r.high, by
        show ((h.past ++ [(s.num, s.mem, n.row)]).length : Int) ≤ h.high + 1
        rw [List.length_append]
        show ((h.past.length + 1 : Nat) : Int) ≤ h.high + 1
        omega, fun s e => (nomatch e)⟩
      obtain ⟨b1, b2⟩ := join_ok r1 rfl hn
      have st : HStep h { h with past := h.past ++ [(s.num, s.mem, n.row)], seat := none } := ⟨Int.le_refl _, fun s e => by cases e⟩
      exact ⟨b1, st.trans b2⟩
theorem toC_plain {x : Ltr} (h : ¬ needC x) (s : Seat) : toC x s := by
  unfold needC at h
  unfold toC
  cases ht : x.told with
  | have_ n => rw [ht] at h; exact absurd trivial h
  | agree n => rw [ht] at h; exact absurd trivial h
  | _ => trivial
structure OverOk (X : Prm) (m B : Nat) (c : Int) (i : Nat) (l : Ltr) (h h' : Hnd) (out : List Ltr) : Prop where
  hand : HandOk X m B c i h'
  step : HStep h h'
  wsum : wsum out < l.told.wt
  wcnt : wcnt out = 0
  out : ∀ x ∈ out, LetOk X m B c x ∧ ∀ j hj, LetOn l j hj → (j = i → hj = h') → LetOn x j hj
theorem OverOk.same {X : Prm} {m B : Nat} {c : Int} {i : Nat} {l : Ltr} {h : Hnd} (r : HandOk X m B c i h) : OverOk X m B c i l h h [] := ⟨r, HStep.refl h, wt_pos _, rfl, fun x hx => (nomatch hx)⟩
theorem over_ok {X : Prm} {m B : Nat} {c : Int} {i : Nat} {l : Ltr} {h : Hnd} (hm : m ≤ 9) (r : HandOk X m B c i h) (hl : LetOk X m B c l) (hto : l.to = i) (ho : LetOn l i h) : OverOk X m (B + l.told.wn) c i l h (h.over i l).1 (h.over i l).2 := by
  have rB := r.mono (B' := B + l.told.wn) (Nat.le_add_right _ _) (Int.le_refl c)
  unfold Hnd.over
  split
  · exact OverOk.same rB
  · have main : OverOk X m (B + l.told.wn) c i l h (match h.seat with | none => (h, ([] : List Ltr)) | some s => if s.num = l.num then (({ h with seat := some (s.read i l).1 } : Hnd), (s.read i l).2) else (h, [])).1 (match h.seat with | none => (h, ([] : List Ltr)) | some s => if s.num = l.num then (({ h with seat := some (s.read i l).1 } : Hnd), (s.read i l).2) else (h, [])).2 := by
      cases hs : h.seat with
      | none => exact OverOk.same rB
      | some s =>
        dsimp only
        split
        · rename_i hn
          obtain ⟨a1, a2, a3⟩ := r.seat s hs
          have d := read_did hm a1 hl hto (ho.c2 hto s hs hn)
          have dn := d.num
          refine ⟨⟨rB.high, rB.past, fun s2 e => ?_⟩, ⟨Int.le_refl _, fun s2 e => ?_⟩, d.wsum, d.wcnt, fun x hx => ?_⟩
          · cases e
            exact ⟨d.ok, dn.trans a2, by rw [dn]; exact a3⟩
          · cases e
            exact .inr ⟨s, hs, dn, d.mem, d.ge⟩
          · obtain ⟨x1, x2, x3⟩ := d.let_ x hx
            refine ⟨x1, fun j hj lo he => ?_⟩
            have hi : x.snd = (j : Nat) → j = i := fun e => by rw [x2] at e; omega
            refine ⟨fun e => ?_, fun e s2 e2 n2 => ?_, fun e nd => ?_, fun e s2 e2 n2 => ?_⟩
            · rw [he (hi e)]
              show x.num ≤ h.high
              omega
            · rw [he (hi e)] at e2
              cases e2
              exact d.snd x hx
            · obtain ⟨t1, _⟩ := d.to x hx nd
              have h0 := hl.s0
              have := lo.n1 (by omega)
              omega
            · by_cases nd : needC x
              · obtain ⟨t1, t2⟩ := d.to x hx nd
                have h0 := hl.s0
                have lj : l.snd = (j : Nat) := by omega
                exact t2 j hj lo lj (fun s3 e3 n3 => lo.c1 lj s3 e3 n3) s2 e2 (by omega)
              · exact toC_plain nd s2
        · exact OverOk.same rB
    have w := hl.told
    cases ht : l.told with
    | enter n =>
      rw [ht] at w
      obtain ⟨b1, b2⟩ := enter_ok r w
      exact ⟨b1, b2, by rw [ht]; show 0 < 1; decide, rfl, fun x hx => (nomatch hx)⟩
    | _ => rw [ht] at main; exact main
theorem sok_of {X : Prm} {m B : Nat} {c : Int} {i : Nat} {s : Seat} (hm : m ≤ 9) (hB : B ≤ 900) (h : SeatOk X m B c i s) : SOk i s :=
  ⟨h.me, fun x hx => (h.mem.rg x hx).1, Nat.le_trans h.mem.len hm, by have := h.row.len; omega, h.mem.nd, h.hk⟩
theorem pre_of {X : Prm} {m B : Nat} {c : Int} {i : Nat} {l : Ltr} {h : Hnd} (hm : m ≤ 9) (hB : B ≤ 900) (hc : c ≤ 90000) (r : HandOk X m B c i h) (hl : LetOk X m B c l) (hto : l.to = i) (ho : LetOn l i h) : preOver i h l := by
  intro hup
  have main : ∀ s, h.seat = some s → s.num = l.num → SOk i s ∧ rOk s.row ∧ ((∀ n, l.told ≠ .enter n) → preRead i s l) := fun s hs hn => by
    obtain ⟨a1, a2, a3⟩ := r.seat s hs
    refine ⟨sok_of hm hB a1, a1.row.ok, fun ne => ⟨by have := a1.row.len; omega, fun o hof => ?_, ?_⟩⟩
    · obtain ⟨oo, _⟩ := a1.off o hof
      have h1 := nodup_len oo.pk oo.pr
      have h2 := nodup_len oo.ak oo.ar
      rw [List.length_map] at h1
      omega
    · have w := hl.told
      have c2 := ho.c2 hto s hs hn
      unfold toC at c2
      cases ht : l.told with
      | wish x => rw [ht] at w; exact X.ok x w
      | have_ n => rw [ht] at c2; exact c2
      | agree b =>
        rw [ht] at c2
        intro o hof hb
        obtain ⟨o', e', _, k⟩ := c2
        rw [hof] at e'
        cases e'
        obtain ⟨f, hf⟩ := Option.isSome_iff_exists.mp (k hb)
        obtain ⟨f1, f2⟩ := (a1.off o hof).1.fwd f hf
        exact ⟨f, hf, f1.nd, fun x hx => (f1.rg x hx).1, Nat.le_trans f1.len hm⟩
      | enter n => exact absurd ht (ne n)
      | _ => trivial
  have w := hl.told
  cases ht : l.told with
  | enter n =>
    rw [ht] at w
    have h1 : NewsOk X m B c n := w
    refine ⟨h1.mem.nd, Nat.le_trans h1.mem.len hm, ?_⟩
    have := r.past
    have := r.high
    omega
  | _ => exact fun s hs hn => ⟨(main s hs hn).1, (main s hs hn).2.1, (main s hs hn).2.2 (fun n e => by rw [ht] at e; cases e)⟩
structure FInv (X : Prm) (m B : Nat) (c : Int) (f : Flk) : Prop where
  len : f.hands.length = m
  hands : ∀ i, i < m → HandOk X m B c i (f.hand i)
  post : ∀ l ∈ f.post, LetOk X m B c l ∧ ∀ i, i < m → LetOn l i (f.hand i)
theorem hand_set {f : Flk} {i j : Nat} {h : Hnd} {ls : List Ltr} (hi : i < f.hands.length) : (⟨f.hands.set i h, ls⟩ : Flk).hand j = if j = i then h else f.hand j := by
  unfold Flk.hand
  rw [List.getD_eq_getElem?_getD, List.getD_eq_getElem?_getD]
  show ((f.hands.set i h)[j]?).getD Hnd.new = _
  rw [List.getElem?_set]
  by_cases e : i = j
  · subst e
    rw [if_pos rfl, if_pos rfl, if_pos hi]
    rfl
  · rw [if_neg e, if_neg (fun z => e z.symm)]
theorem FInv.mono {X : Prm} {m B B' : Nat} {c c' : Int} {f : Flk} (F : FInv X m B c f) (e : B ≤ B') (d : c ≤ c') : FInv X m B' c' f :=
  ⟨F.len, fun i hi => (F.hands i hi).mono e d, fun l hl => ⟨(F.post l hl).1.mono e d, (F.post l hl).2⟩⟩
/-- one hand goes on, letters go, letters come -/
theorem FInv.deed {X : Prm} {m B B' : Nat} {c c' : Int} {f : Flk} (F : FInv X m B c f) (e : B ≤ B') (d : c ≤ c') {i : Nat} (hi : i < m) {h' : Hnd} (rh : HandOk X m B' c' i h') (st : HStep (f.hand i) h') {old out : List Ltr} (ho : ∀ x ∈ old, x ∈ f.post)
    (hx : ∀ x ∈ out, LetOk X m B' c' x ∧ ∀ j, j < m → LetOn x j (if j = i then h' else f.hand j)) : FInv X m B' c' ⟨f.hands.set i h', old ++ out⟩ := by
  have hl := F.len
  refine ⟨by rw [List.length_set]; exact hl, fun j hj => ?_, fun l hm => ?_⟩
  · rw [hand_set (by omega)]
    split
    · rename_i q
      rw [q]
      exact rh
    · exact (F.hands j hj).mono e d
  · rcases List.mem_append.mp hm with w | w
    · obtain ⟨p1, p2⟩ := F.post l (ho l w)
      refine ⟨p1.mono e d, fun j hj => ?_⟩
      rw [hand_set (by omega)]
      split
      · rename_i q
        rw [q]
        exact (p2 i hi).step st
      · exact p2 j hj
    · obtain ⟨p1, p2⟩ := hx l w
      refine ⟨p1, fun j hj => ?_⟩
      rw [hand_set (by omega)]
      exact p2 j hj
theorem come_inv {X : Prm} {m B : Nat} {c : Int} {f : Flk} {p : Nat} {l : Ltr} (hm : m ≤ 9) (F : FInv X m B c f) (hp : f.post[p]? = some l) : FInv X m (B + l.told.wn) c (f.come p) ∧ wsum (f.come p).post < wsum f.post ∧ wcnt (f.come p).post + l.told.wn = wcnt f.post := by
  obtain ⟨q1, q2⟩ := F.post l (List.mem_of_getElem? hp)
  have ov := over_ok hm (F.hands l.to q1.to) q1 rfl (q2 l.to q1.to)
  have hc : f.come p = ⟨f.hands.set l.to ((f.hand l.to).over l.to l).1, f.post.eraseIdx p ++ ((f.hand l.to).over l.to l).2⟩ := by
    unfold Flk.come
    rw [hp]
  rw [hc]
  refine ⟨F.deed (Nat.le_add_right _ _) (Int.le_refl c) q1.to ov.hand ov.step (fun x hx => List.mem_of_mem_eraseIdx hx) (fun x hx => ?_), ?_, ?_⟩
  · obtain ⟨x1, x2⟩ := ov.out x hx
    refine ⟨x1, fun j hj => x2 j _ ?_ (fun e => by rw [if_pos e])⟩
    split
    · rename_i e
      rw [e]
      exact (q2 l.to q1.to).step ov.step
    · exact q2 j hj
  · show wsum (_ ++ _) < _
    rw [wsum_app]
    have h1 := sum_erase (fun l => l.told.wt) f.post p l hp
    have h2 := ov.wsum
    unfold wsum at h2 ⊢
    omega
  · show wcnt (_ ++ _) + _ = _
    rw [wcnt_app, ov.wcnt]
    exact sum_erase (fun l => l.told.wn) f.post p l hp
theorem come_ok {X : Prm} {m B : Nat} {c : Int} {f : Flk} {p : Nat} (hm : m ≤ 9) (hB : B ≤ 900) (hc : c ≤ 90000) (hw : wsum f.post + 3000 ≤ 1000000) (F : FInv X m B c f) : ComeOk f p := fun l hp => by
  obtain ⟨q1, q2⟩ := F.post l (List.mem_of_getElem? hp)
  have := wsum_len f.post
  exact ⟨by rw [F.len]; exact q1.to, pre_of hm hB hc (F.hands l.to q1.to) q1 rfl (q2 l.to q1.to), q1.s0, by omega⟩
theorem runs_of {X : Prm} {m : Nat} {c : Int} (hm : m ≤ 9) (hc : c ≤ 90000) : ∀ (k B : Nat) (f : Flk), wsum f.post ≤ k → FInv X m B c f → B + wcnt f.post ≤ 900 → wsum f.post + 3000 ≤ 1000000 → ∃ n, f.runs n ∧ (f.cames n).post = [] ∧ ∃ B', FInv X m B' c (f.cames n) ∧ B' ≤ B + wcnt f.post
  | 0, B, f, h0, F, hB, hw => by
    have := wsum_len f.post
    have e : f.post = [] := List.length_eq_zero_iff.mp (by omega)
    exact ⟨0, e, e, B, F, Nat.le_add_right _ _⟩
  | k + 1, B, f, h0, F, hB, hw => by
    cases hp : f.post with
    | nil => exact ⟨0, hp, hp, B, F, Nat.le_add_right _ _⟩
    | cons l r =>
      have hp0 : f.post[0]? = some l := by rw [hp]; rfl
      obtain ⟨F1, w1, w2⟩ := come_inv hm F hp0
      obtain ⟨n, a, b, B', F', hB'⟩ := runs_of hm hc k (B + l.told.wn) (f.come 0) (by omega) F1 (by omega) (by omega)
      rw [← hp]
      exact ⟨n + 1, ⟨by rw [hp]; exact fun z => (nomatch z), come_ok hm (by omega) hc hw F, a⟩, b, B', F', by omega⟩

end
end Fo
namespace Fo
open PySem PySem.Spec PyProof.Rows L2
section
variable {P : Program} {w : World} {K : PySem.W.Frag} {mg : Str → Option Value} {base : Heap}
/-! ### the deeds keep it -/
theorem hand_get {X : Prm} {m B : Nat} {c : Int} {f : Flk} (F : FInv X m B c f) {x : V} {p : Nat × Seat} (h : f.acts x = .ok p) : p.1 < m ∧ SeatOk X m B c p.1 p.2 ∧ p.2.num = (f.hand p.1).high ∧ HandOk X m B c p.1 (f.hand p.1) := by
  obtain ⟨_, h1, _, h2⟩ := acts_ok h
  rw [F.len] at h1
  have r := F.hands _ h1
  exact ⟨h1, (r.seat _ h2).1, (r.seat _ h2).2.1, r⟩
/-- a letter that asks nothing but its sender's number -/
theorem LetOn.plain {x : Ltr} {i : Nat} {h : Hnd} (n : x.snd = i → x.num ≤ h.high) (c : x.snd = i → ∀ s, h.seat = some s → s.num = x.num → sndC x s) (nd : ¬ needC x) : LetOn x i h :=
  ⟨n, c, fun _ k => absurd k nd, fun _ s _ _ => toC_plain nd s⟩
theorem lead_mem {X : Prm} {s : Seat} {m : Nat} (h : MemOk X m s.mem) : s.lead ∈ s.mem := by
  unfold Seat.lead
  cases hs : s.mem with
  | nil => exact absurd hs h.ne
  | cons x r => exact List.mem_cons_self
theorem say_inv {X : Prm} {m B : Nat} {c : Int} {f : Flk} (F : FInv X m B c f) {x : V} {p : Nat × Seat} {word : Str} (h : f.acts x = .ok p) (ok : X.Z ⟨p.1, (f.hand p.1).said, word⟩) : FInv X m B c (f.deed p.1 ((f.hand p.1).say p.1 p.2 word)) ∧ wsum (f.deed p.1 ((f.hand p.1).say p.1 p.2 word)).post = wsum f.post + 89 ∧ wcnt (f.deed p.1 ((f.hand p.1).say p.1 p.2 word)).post = wcnt f.post + 1 := by
  obtain ⟨h1, a1, a2, r⟩ := hand_get F h
  have hl := a1.mem.rg _ (lead_mem a1.mem)
  have hi := a1.mem.rg _ a1.me
  refine ⟨F.deed (Nat.le_refl _) (Int.le_refl _) h1 (h' := { f.hand p.1 with said := (f.hand p.1).said + 1 }) ⟨r.high, r.past, r.seat⟩ ⟨Int.le_refl _, fun s hs => .inr ⟨s, hs, rfl, rfl, fun _ q => q⟩⟩ (fun _ h => h) (fun y hy => ?_), ?_, ?_⟩
  · rw [List.mem_singleton.mp hy]
    refine ⟨⟨by show p.2.lead.toNat < m; omega, by show (0 : Int) ≤ p.1; omega, hi.2, ok⟩, fun j hj => LetOn.plain (fun e => ?_) (fun _ _ _ _ => trivial) (fun z => z)⟩
    have e2 : j = p.1 := by have e3 : (p.1 : Int) = (j : Nat) := e; omega
    rw [if_pos e2]
    show p.2.num ≤ (f.hand p.1).high
    omega
  · show wsum (f.post ++ _) = _
    rw [wsum_app]
    rfl
  · show wcnt (f.post ++ _) = _
    rw [wcnt_app]
    rfl
theorem press_mem {i : Nat} {s : Seat} : ∀ {ms : List Msg} {p : Nat} {x : Ltr}, x ∈ pressGo i s p ms → ∃ y ∈ s.others i, ∃ m ∈ ms, ∃ q, p ≤ q ∧ q < p + ms.length ∧ x = ⟨i, y.toNat, s.num, .hold m q⟩
  | [], _, _, h => nomatch h
  | m :: r, p, x, h => by
    rcases List.mem_append.mp (show x ∈ mail i s (s.others i) (.hold m p) ++ pressGo i s (p + 1) r from h) with w | w
    · obtain ⟨y, hy, e⟩ := mail_mem w
      exact ⟨y, hy, m, List.mem_cons_self, p, Nat.le_refl _, by show p < p + (r.length + 1); omega, e⟩
    · obtain ⟨y, hy, n, hn, q, q1, q2, e⟩ := press_mem w
      exact ⟨y, hy, n, List.mem_cons_of_mem _ hn, q, by omega, by show q < p + (r.length + 1); omega, e⟩
theorem press_wsum {i : Nat} {s : Seat} : ∀ (ms : List Msg) (p : Nat), wsum (pressGo i s p ms) = ms.length * ((s.others i).length * 10) ∧ wcnt (pressGo i s p ms) = 0
  | [], _ => ⟨by simp [pressGo, wsum], rfl⟩
  | m :: r, p => by
    obtain ⟨h1, h2⟩ := press_wsum (i := i) (s := s) r (p + 1)
    constructor
    · show wsum (_ ++ _) = (r.length + 1) * _
      rw [wsum_app, h1, mail_wsum, Nat.add_mul, Nat.one_mul]
      show _ * 10 + _ = _
      omega
    · show wcnt (_ ++ _) = 0
      rw [wcnt_app, h2, mail_wcnt _ _ _ rfl]
theorem press_inv {X : Prm} {m B : Nat} {c : Int} {f : Flk} (hm : m ≤ 9) (F : FInv X m B c f) {x : V} {p : Nat × Seat} (h : f.acts x = .ok p) : FInv X m B c (f.deed p.1 (f.hand p.1, p.2.press p.1)) ∧ wsum (f.deed p.1 (f.hand p.1, p.2.press p.1)).post ≤ wsum f.post + B * 80 + 8 ∧ wcnt (f.deed p.1 (f.hand p.1, p.2.press p.1)).post = wcnt f.post := by
  obtain ⟨h1, a1, a2, r⟩ := hand_get F h
  have hi := a1.mem.rg _ a1.me
  have ho := others_mul hm a1
  have hr := a1.row.len
  refine ⟨F.deed (Nat.le_refl _) (Int.le_refl _) h1 r (HStep.refl _) (fun _ h => h) (fun y hy => ?_), ?_, ?_⟩
  · have key : ∀ j, j < m → y.snd = p.1 → y.num = p.2.num → ¬ needC y → (∀ s, (f.hand p.1).seat = some s → s.num = y.num → sndC y s) → LetOn y j (if j = p.1 then f.hand p.1 else f.hand j) := fun j hj e1 e2 nd cs => by
      refine LetOn.plain (fun e => ?_) (fun e s hs hn => ?_) nd
      · have e3 : j = p.1 := by rw [e1] at e; omega
        rw [if_pos e3]
        omega
      · have e3 : j = p.1 := by rw [e1] at e; omega
        rw [if_pos e3] at hs
        exact cs s hs hn
    have hseat := (acts_ok h).2.2.2
    rcases List.mem_append.mp (show y ∈ pressGo p.1 p.2 0 p.2.row ++ mail p.1 p.2 (p.2.others p.1) (.take p.2.took) from hy) with w | w
    · obtain ⟨z, hz, mm, hmm, q, q1, q2, rfl⟩ := press_mem w
      have hz2 := a1.mem.rg z (others_mem hz)
      refine ⟨⟨by show z.toNat < m; omega, by show (0 : Int) ≤ p.1; omega, hi.2, a1.row.z mm hmm, by omega⟩, fun j hj => key j hj rfl rfl (fun z => z) (fun s hs _ => ?_)⟩
      rw [hseat] at hs
      cases hs
      show ((z.toNat : Nat) : Int) ∈ p.2.mem
      rw [show ((z.toNat : Nat) : Int) = z by omega]
      exact others_mem hz
    · obtain ⟨z, hz, rfl⟩ := mail_mem w
      have hz2 := a1.mem.rg z (others_mem hz)
      exact ⟨⟨by show z.toNat < m; omega, by show (0 : Int) ≤ p.1; omega, hi.2, trivial⟩, fun j hj => key j hj rfl rfl (fun z => z) (fun s hs _ => trivial)⟩
  · show wsum (f.post ++ (pressGo p.1 p.2 0 p.2.row ++ mail p.1 p.2 (p.2.others p.1) (.take p.2.took))) ≤ _
    rw [wsum_app, wsum_app, (press_wsum _ _).1, mail_wsum]
    have h3 : p.2.row.length * ((p.2.others p.1).length * 10) ≤ B * 80 := Nat.mul_le_mul hr (by omega)
    show _ + (_ + _ * 1) ≤ _
    omega
  · show wcnt (f.post ++ (pressGo p.1 p.2 0 p.2.row ++ mail p.1 p.2 (p.2.others p.1) (.take p.2.took))) = _
    rw [wcnt_app, wcnt_app, (press_wsum _ _).2, mail_wcnt _ _ _ rfl]
    rfl
theorem propose_inv {X : Prm} {m B : Nat} {c : Int} {f : Flk} (F : FInv X m B c f) {x : V} {p : Nat × Seat} {ms : List Int} (h : f.acts x = .ok p) (hms : MemOk X m ms) :
    FInv X m B (c + 1) (f.deed p.1 ({ f.hand p.1 with seat := some (p.2.propose p.1 ms).1 }, (p.2.propose p.1 ms).2)) ∧ wsum (f.deed p.1 ({ f.hand p.1 with seat := some (p.2.propose p.1 ms).1 }, (p.2.propose p.1 ms).2)).post ≤ wsum f.post + m * 101 ∧ wcnt (f.deed p.1 ({ f.hand p.1 with seat := some (p.2.propose p.1 ms).1 }, (p.2.propose p.1 ms).2)).post = wcnt f.post := by
  obtain ⟨h1, a1, a2, r⟩ := hand_get F h
  have hseat := (acts_ok h).2.2.2
  have hi := a1.mem.rg _ a1.me
  have rm := r.mono (Nat.le_refl B) (show c ≤ c + 1 by omega)
  have am := a1.mono (Nat.le_refl B) (show c ≤ c + 1 by omega)
  have hp := (r.seat _ hseat).2.2
  obtain ⟨last, hlast⟩ : ∃ last : Int, last = (match p.2.off with | some o => max p.2.bal.1 o.bal.1 | none => p.2.bal.1) := ⟨_, rfl⟩
  have hpr : p.2.propose p.1 ms = ({ p.2 with off := some ⟨(last + 1, (p.1 : Int)), ms, [], none, []⟩ }, mail p.1 p.2 p.2.mem (.prepare (last + 1, (p.1 : Int)))) := by
    rw [hlast]
    rfl
  rw [hpr]
  refine ⟨F.deed (Nat.le_refl _) (by omega) h1 (h' := { f.hand p.1 with seat := some { p.2 with off := some ⟨(last + 1, (p.1 : Int)), ms, [], none, []⟩ } }) ⟨rm.high, rm.past, fun s e => ?_⟩ ⟨Int.le_refl _, fun s e => ?_⟩ (fun _ h => h) (fun y hy => ?_), ?_, ?_⟩
  · cases e
    refine ⟨⟨am.mem, am.me, am.row, am.hk, am.news, am.agr, fun o ho => ?_⟩, a2, hp⟩
    cases ho
    refine ⟨⟨hms, fun q hq => (nomatch hq), List.Pairwise.nil, fun q hq => (nomatch hq), fun f hf => (nomatch hf), List.Pairwise.nil, fun q hq => (nomatch hq)⟩, ?_⟩
    have := r.high
    show p.2.num < c + 1
    omega
  · cases e
    refine .inr ⟨p.2, hseat, rfl, rfl, fun b q => ?_⟩
    obtain ⟨o, ho, q1, q2⟩ := q
    rw [ho] at hlast
    have hl2 : last = max p.2.bal.1 o.bal.1 := hlast
    refine ⟨_, rfl, by show b.1 ≤ last + 1; omega, fun e => ?_⟩
    have e2 : last + 1 = b.1 := congrArg Prod.fst e
    omega
  · obtain ⟨z, hz, rfl⟩ := mail_mem hy
    have hz2 := a1.mem.rg z hz
    refine ⟨⟨by show z.toNat < m; omega, by show (0 : Int) ≤ p.1; omega, hi.2, trivial⟩, fun j hj => LetOn.plain (fun e => ?_) (fun _ _ _ _ => trivial) (fun z => z)⟩
    have e2 : j = p.1 := by have e3 : (p.1 : Int) = (j : Nat) := e; omega
    rw [if_pos e2]
    show p.2.num ≤ (f.hand p.1).high
    omega
  · show wsum (f.post ++ mail _ _ _ _) ≤ _
    rw [wsum_app, mail_wsum]
    have : p.2.mem.length * 101 ≤ m * 101 := Nat.mul_le_mul a1.mem.len (Nat.le_refl _)
    show _ + _ * 101 ≤ _
    omega
  · show wcnt (f.post ++ mail _ _ _ _) = _
    rw [wcnt_app, mail_wcnt _ _ _ rfl]
    rfl
theorem set_same {f : Flk} {i : Nat} (hi : i < f.hands.length) : f.hands.set i (f.hand i) = f.hands := by
  unfold Flk.hand
  rw [List.getD_eq_getElem?_getD, List.getElem?_eq_getElem hi]
  exact List.set_getElem_self hi
theorem show_inv {X : Prm} {m B : Nat} {c : Int} {f : Flk} (F : FInv X m B c f) {x : V} {p : Nat × Seat} {o : Nat} {n : News} (h : f.acts x = .ok p) (ho : o < m) (hn : p.2.news = some n) : FInv X m B c ⟨f.hands, f.post ++ [⟨p.1, o, p.2.num, .enter n⟩]⟩ ∧ wsum (f.post ++ [(⟨p.1, o, p.2.num, .enter n⟩ : Ltr)]) = wsum f.post + 1 ∧ wcnt (f.post ++ [(⟨p.1, o, p.2.num, .enter n⟩ : Ltr)]) = wcnt f.post := by
  obtain ⟨h1, a1, a2, r⟩ := hand_get F h
  have hi := a1.mem.rg _ a1.me
  have w := F.deed (Nat.le_refl _) (Int.le_refl _) h1 r (HStep.refl _) (old := f.post) (out := [⟨p.1, o, p.2.num, .enter n⟩]) (fun _ h => h) (fun y hy => by
    rw [List.mem_singleton.mp hy]
    refine ⟨⟨ho, by show (0 : Int) ≤ p.1; omega, hi.2, a1.news n hn⟩, fun j hj => LetOn.plain (fun e => ?_) (fun _ _ _ _ => trivial) (fun z => z)⟩
    have e2 : j = p.1 := by have e3 : (p.1 : Int) = (j : Nat) := e; omega
    rw [if_pos e2]
    show p.2.num ≤ (f.hand p.1).high
    omega)
  rw [set_same (by rw [F.len]; exact h1)] at w
  refine ⟨w, ?_, ?_⟩
  · rw [wsum_app]; rfl
  · rw [wcnt_app]; rfl
theorem fall_inv {X : Prm} {m B : Nat} {c : Int} {f : Flk} (F : FInv X m B c f) {i : Nat} (hi : i < m) : FInv X m B c (f.setHand i (f.hand i).down) := by
  have r := F.hands i hi
  have w := F.deed (Nat.le_refl _) (Int.le_refl _) hi (h' := (f.hand i).down) ⟨r.high, r.past, r.seat⟩ ⟨Int.le_refl _, fun s hs => .inr ⟨s, hs, rfl, rfl, fun _ q => q⟩⟩ (old := f.post) (out := []) (fun _ h => h) (fun y hy => (nomatch hy))
  rw [List.append_nil] at w
  exact w
theorem lose_inv {X : Prm} {m B : Nat} {c : Int} {f : Flk} (F : FInv X m B c f) {p : Nat} {l : Ltr} (hp : f.post[p]? = some l) : FInv X m B c (f.lose p) ∧ wsum (f.lose p).post ≤ wsum f.post ∧ wcnt (f.lose p).post ≤ wcnt f.post := by
  refine ⟨⟨F.len, F.hands, fun l hl => F.post l (List.mem_of_mem_eraseIdx hl)⟩, ?_, ?_⟩
  · have := sum_erase (fun l => l.told.wt) f.post p l hp
    unfold wsum
    show ((f.post.eraseIdx p).map _).sum ≤ _
    omega
  · have := sum_erase (fun l => l.told.wn) f.post p l hp
    unfold wcnt
    show ((f.post.eraseIdx p).map _).sum ≤ _
    omega
theorem wt_le (t : Told) : t.wt ≤ 101 := by cases t <;> simp [Told.wt]
theorem wn_le (t : Told) : t.wn ≤ 1 := by cases t <;> simp [Told.wn]
theorem double_inv {X : Prm} {m B : Nat} {c : Int} {f : Flk} (F : FInv X m B c f) {p : Nat} {l : Ltr} (hp : f.post[p]? = some l) : FInv X m B c (f.double p) ∧ wsum (f.double p).post ≤ wsum f.post + 101 ∧ wcnt (f.double p).post ≤ wcnt f.post + 1 := by
  have hd : f.double p = ⟨f.hands, f.post ++ [l]⟩ := by
    unfold Flk.double
    rw [hp]
  rw [hd]
  refine ⟨⟨F.len, F.hands, fun x hx => ?_⟩, ?_, ?_⟩
  · rcases List.mem_append.mp hx with w | w
    · exact F.post x w
    · rw [List.mem_singleton.mp w]
      exact F.post l (List.mem_of_getElem? hp)
  · show wsum (f.post ++ [l]) ≤ _
    rw [wsum_app]
    have := wt_le l.told
    show _ + (l.told.wt + 0) ≤ _
    omega
  · show wcnt (f.post ++ [l]) ≤ _
    rw [wcnt_app]
    have := wn_le l.told
    show _ + (l.told.wn + 0) ≤ _
    omega
theorem new_inv {X : Prm} {m : Nat} {ms : List Int} (h : MemOk X m ms) : FInv X m 0 0 (Flk.new m ms) := by
  refine ⟨seated_len m ms ms, fun i hi => ?_, fun l hl => (nomatch hl)⟩
  have e : (Flk.new m ms).hand i = if (i : Int) ∈ ms then seatedH ms else Hnd.new := by
    show ((seated m ms ms).getD i Hnd.new) = _
    rw [List.getD_eq_getElem?_getD, seated_get ms ms hi]
    rfl
  rw [e]
  split
  · rename_i w
    refine ⟨Int.le_refl _, by show ((0 : Nat) : Int) ≤ 0 + 1; omega, fun s hs => ?_⟩
    cases hs
    exact ⟨fresh_ok h w (fun _ z => (nomatch z)), rfl, Int.le_refl _⟩
  · exact ⟨by show (-1 : Int) ≤ 0; omega, by show ((0 : Nat) : Int) ≤ -1 + 1; omega, fun s hs => (nomatch hs)⟩

end
end Fo
namespace Fo
open PySem PySem.Spec PyProof.Rows L2
section
variable {P : Program} {w : World} {K : PySem.W.Frag} {mg : Str → Option Value} {base : Heap}
/-! ### calls in a try, whose wish speaks of the slots -/
def tMethE (C : Addr) (m : Str) (sp : Sp) (E : L2.St → XK) (ta : TE) (t : L2.TA) : TE := fun σ H Q => ta σ H fun x H1 => ∃ a dx fs, x = .ref a ∧ H1 a = some (.ins C dx fs) ∧ fs.lookup m = none ∧ t σ H1 fun vs H2 => sp (x :: vs) H2 Q (E σ)
section
variable {X : Cx} {CX : CXT} {k : Nat} {f C : Addr} {fd : FuncData} {ps : List Str} {sp : Sp} {E : L2.St → XK} {x m : Str} {p pos apos : Pos} {e o : Expr} {es : List Expr} {ta : TE} {t : L2.TA}
theorem pe_methE {pl : Sem Bool} (he : PE X o ta) (c : Cls X.K C) (hm : Meth X.K C m f) (F : FnOk X.prog X.w X.K X.mg X.base CX k f fd ps sp) (hr : Room k X.A) (hb : L2.Binds X.K fd ps []) (hx : ∀ σ, PassesAt CX X σ (E σ)) (ha : PA X (e :: es) t)
    (hst : starEach (e :: es) X.env = (false, eval e X.env) :: starEach es X.env := by rfl) (hpl : (backTo pos (starEach es X.env)).any (·.1) = false := by rfl)
    (ht : eval (.Call (.Attribute o m apos) (e :: es) [] pos) X.env = (do
      let ov ← eval o X.env
      standAt apos.atName
      let (f, first) ← holding [ov] (getMethod ov m pl)
      callWith pos f first (backTo pos (starEach (e :: es) X.env)) (backToKw pos (keywordEach [] X.env))) := by rfl) :
    PE X (.Call (.Attribute o m apos) (e :: es) [] pos) (tMethE C m sp E ta t) := by
  constructor
  intro pn sh sl Hp0 Qv J wish
  refine PySem.W.methodCall_KW (pl := pl) (thn (he.run pn sh sl Hp0 _ J wish) fun ov sh1 ⟨rv, Hp1, J1, rel, self, sdx, sfs, isref, there, nof, rest⟩ => ?_) ht
  subst isref
  have hself : ov = Value.ref self := rel
  subst hself
  refine getmeth_ok J1 there c hm nof (PySem.W.callWith_K (first := [.ref self]) (h₀ := X.base) J.ok.mod.kin hm.kp (thn (ha.run pos pn sh1 sl Hp1 _ J1 rest) fun given sh2 ⟨seen, Hp2, J2, rels, fin⟩ => ⟨J2.kIn, ?_⟩) hst hpl)
  exact run_fnS (us := .ref self :: given) (vs := .ref self :: seen) F hr hb (hx sl) J2 (.cons rfl rels) fin
end
/-- a block that is run only where p holds -/
theorem pss_guard {X : Cx} {p : Prop} {b : List Stmt} {t : TS} (h : p → PSs X b t) : PSs X b (fun D σ H => p ∧ t D σ H) := ⟨fun pins s σ H D I q => (h q.1).run pins s σ H D I q.2⟩
def refOf : Value → Addr
  | .ref a => a
  | _ => 0
/-- isinstance(e, (C, ..)), e the exception that the suite holds -/
def rIsET (K : PySem.W.Frag) (D a : Addr) : List V → Hp → VK → Prop := fun xs H Q => ∃ (tp : Addr) (cs : List V) (us : List Value) (b : Bool), xs = [.ref a, .ref tp] ∧ H tp = some (.tup cs) ∧ Paired ClsV cs us ∧ PySem.W.kitAny K (.ref D) us = some b ∧ Q (.bl b) H
theorem call_isET {X : Cx} {a D : Addr} {oe : Obj} {pn : List (Addr × Obj)} (C : ExcC X.K D) (hz : Zc (.ref D) none oe) (hf : ∃ vs, oe.data = .fields vs) : CallR (X.suite a ((a, oe) :: pn)) (.builtin "isinstance") (rIsET X.K D a) := by
  intro pn sh sl Hp0 given seen Qv inv rels wish
  obtain ⟨tup, named, vals, ans, rfl, htup, kinds, told, fin⟩ := wish
  cases rels with
  | cons r1 rs =>
    cases rs with
    | cons r2 rs2 =>
      cases rs2
      cases r1
      cases r2
      have held := (inv.pin (a, oe) (List.mem_append.mpr (.inl List.mem_cons_self))).1
      obtain ⟨fields, hfields⟩ := hf
      have at_ : PySem.W.InstAt sh.heap a oe D none := by
        obtain ⟨c1, c2, c3, c4⟩ := oe
        obtain ⟨z1, z2⟩ := hz
        dsimp only at z1 z2 hfields
        subst z1 z2 hfields
        exact ⟨held, rfl, rfl, trivial⟩
      have ob : ObjOk X.prog X.w Hp0 sh.heap tup (.tup named) := inv.hok tup _ htup
      obtain ⟨_, its, rv, obj, g1, g2, cnt, g3⟩ := ob
      have same := ClsV.all kinds rv
      subst same
      obtain ⟨c1, c2, c3, c4⟩ := obj
      simp only at g2 g3
      subst g2 g3
      exact PySem.W.kia_tup (PySem.W.handS_kitx_exc C.hg C.hk C.hs C.hd C.ha C.hn C.ht C.hm) inv.kIn at_ g1 told (fun bad => nomatch bad) fun tok => ⟨.bl ans, Hp0, inv.kept (t' := tok) fun _ _ keep => keep, rfl, fin⟩
theorem guard_hz {K : PySem.W.Frag} {D : Addr} {cls : Value} {d : Option Addr} {oe : Obj} (g : cls = .ref D ∧ d = none ∧ ExcC K D) (hz : Zc cls d oe) : Zc (.ref D) none oe := by
  obtain ⟨rfl, rfl, _⟩ := g
  exact hz

end
end Fo
namespace Fo
open PySem PySem.Spec PyProof.Rows L2
section
variable {P : Program} {w : World} {K : PySem.W.Frag} {mg : Str → Option Value} {base : Heap}
/-! ### of all laws (as in C5c, C5d) -/
theorem isListGo_of {m : Int} : ∀ {ms : List Int} {b : Int}, (∀ x ∈ ms, b < x ∧ 0 ≤ x ∧ x < m) → ms.Pairwise (· < ·) → isListGo m b (ms.map V.int) = true
  | [], _, _, _ => rfl
  | x :: r, b, h, p => by
    have p1 := List.pairwise_cons.mp p
    have h1 := h x List.mem_cons_self
    show (if 0 ≤ x ∧ x < m ∧ b < x then isListGo m x (r.map V.int) else false) = true
    rw [if_pos ⟨h1.2.1, h1.2.2, h1.1⟩]
    exact isListGo_of (fun y hy => ⟨p1.1 y hy, (h y (List.mem_cons_of_mem _ hy)).2⟩) p1.2
theorem isListB_of {m : Int} {ms : List Int} (h : ms ≠ []) (r : ∀ x ∈ ms, 0 ≤ x ∧ x < m) (p : ms.Pairwise (· < ·)) : isListB (ms.map V.int) m = true := by
  show (!(ms.map V.int).isEmpty && isListGo m (-1) (ms.map V.int)) = true
  rw [isListGo_of (fun x hx => ⟨by have := (r x hx).1; omega, r x hx⟩) p]
  cases ms with
  | nil => exact absurd rfl h
  | cons x r => rfl
theorem tOr_of {ta tb : TT} {σ : L2.St} {H : Hp} {Kq : Bool → Hp → Prop} {c1 c2 : Bool} (h1 : ∀ Q : Bool → Hp → Prop, Q c1 H → ta σ H Q) (h2 : ∀ Q : Bool → Hp → Prop, (∀ H1, Same H H1 → Q c2 H1) → tb σ H Q) (k : ∀ H1, Same H H1 → Kq (c1 || c2) H1) : tOr ta tb σ H Kq := by
  refine h1 _ ?_
  cases c1 with
  | true => exact iteT (k H (Same.refl _))
  | false => exact iteF (h2 _ fun H1 e => k H1 e)
theorem tAnd_of {ta tb : TT} {σ : L2.St} {H : Hp} {Kq : Bool → Hp → Prop} {c1 c2 : Bool} (h1 : ∀ Q : Bool → Hp → Prop, Q c1 H → ta σ H Q) (h2 : ∀ Q : Bool → Hp → Prop, Q c2 H → tb σ H Q) (k : Kq (c1 && c2) H) : tAnd ta tb σ H Kq := by
  refine h1 _ ?_
  cases c1 with
  | true => exact iteT (h2 _ k)
  | false => exact iteF k
theorem paired_drop {α β : Type} {R : α → β → Prop} : ∀ {xs : List α} {ys : List β} (n : Nat), Paired R xs ys → Paired R (xs.drop n) (ys.drop n)
  | _, _, 0, h => h
  | _, _, _ + 1, .nil => .nil
  | _, _, n + 1, .cons _ t => paired_drop n t
theorem cut_to {xs : List V} {p : Nat} (hp : p ≤ xs.length) : cutV xs none (some ((p : Nat) : Int)) = xs.take p := by
  unfold cutV
  rw [HT.sIx_none, HT.sIx_nat, List.drop_zero, Nat.sub_zero, Nat.min_eq_left hp]
theorem cut_from {xs : List V} {p : Nat} (hp : p ≤ xs.length) : cutV xs (some ((p : Nat) : Int)) none = xs.drop p := by
  unfold cutV
  rw [HT.sIx_none, HT.sIx_nat, Nat.min_eq_left hp]
  exact List.take_of_length_le (by rw [List.length_drop]; exact Nat.le_refl _)
theorem int_dec (i j : Int) : decide (V.int i = V.int j) = decide (i = j) := decide_eq_decide.mpr ⟨fun z => V.int.inj z, fun z => by rw [z]⟩
theorem who_in {f : Flk} {i : Nat} (hi : i < f.hands.length) : f.who (.int i) = .ok i := by
  unfold Flk.who
  have e : isHandB (.int i) (f.hands.length : Nat) = true := by
    show (decide ((0 : Int) ≤ i) && decide ((i : Int) < ((f.hands.length : Nat) : Int))) = true
    rw [decide_eq_true (by omega), decide_eq_true (by omega)]
    rfl
  rw [if_pos e]
  rfl
/-- a list that the caller holds -/
def Held (K : PySem.W.Frag) (g : Gh) (H : Hp) (a : Addr) (xs : List V) : Prop := (SqL K H a xs ∧ (∃ o, H a = some o) ∧ g.own a = none) ∨ (∀ H', SqL K H' a xs)
theorem Held.sq {K : PySem.W.Frag} {g : Gh} {H : Hp} {a : Addr} {xs : List V} (h : Held K g H a xs) : SqL K H a xs := by
  rcases h with h | h
  · exact h.1
  · exact h H
theorem sqL_at {K : PySem.W.Frag} {H H' : Hp} {a : Addr} {xs : List V} {o : HO} (h : SqL K H a xs) (h1 : H a = some o) (h2 : H' a = some o) : SqL K H' a xs := by
  rcases h with (h | ⟨u, h⟩) | h
  · rw [h1] at h; cases h
    exact .inl (.inl h2)
  · rw [h1] at h; cases h
    exact .inl (.inr ⟨u, h2⟩)
  · exact .inr h
theorem Held.of {K : PySem.W.Frag} {g : Gh} {H : Hp} {a : Addr} {xs : List V} (h : SqL K H a xs) (n : ∀ o, H a = some o → g.own a = none) : Held K g H a xs := by
  rcases h with (h | ⟨u, h⟩) | h
  · exact .inl ⟨.inl (.inl h), ⟨_, h⟩, n _ h⟩
  · exact .inl ⟨.inl (.inr ⟨u, h⟩), ⟨_, h⟩, n _ h⟩
  · exact .inr fun H' => .inr h
theorem Held.go {K : PySem.W.Frag} {T : Tag → Prop} {g g' : Gh} {H H' : Hp} {a : Addr} {xs : List V} (h : Held K g H a xs) (e : Go T g H g' H') : Held K g' H' a xs := by
  rcases h with ⟨h, ⟨o, h1⟩, h2⟩ | h
  · exact .inl ⟨sqL_at h h1 (e.keep h1 h2), ⟨o, e.keep h1 h2⟩, e.free h1 h2⟩
  · exact .inr h
theorem Held.same {K : PySem.W.Frag} {g : Gh} {H H' : Hp} {a : Addr} {xs : List V} (h : Held K g H a xs) (e : Same H H') : Held K g H' a xs := by
  rcases h with ⟨h, ⟨o, h1⟩, h2⟩ | h
  · exact .inl ⟨e.seq h, ⟨o, e _ _ h1⟩, h2⟩
  · exact .inr h
theorem kept_ne {H : Hp} {a l : Addr} {o : HO} (h : H a = some o) (hl : H l = none) : a ≠ l := fun z => by rw [z, hl] at h; cases h

end
end Fo
namespace Fo
open PySem PySem.Spec PyProof.Rows L2
section
variable {P : Program} {w : World} {K : PySem.W.Frag} {mg : Str → Option Value} {base : Heap}
/-! ### a def called within an except suite, whose promise speaks of the caught exception -/
structure FnE (P : Program) (w : World) (K : PySem.W.Frag) (mg : Str → Option Value) (base : Heap) (CX : CXT) (k : Nat) (f : Addr) (fd : FuncData) (ps : List Str) (sp : Addr × Obj → Sp) : Prop where
  len : ∀ {p vs H Q E}, sp p vs H Q E → vs.length = ps.length
  goes : ∀ {A : Around} {outer : List Env} {sh : Shared} {H : Hp} {given : Args} {us : List Value} {vs : List V} {Q : VK} {E : XK} {p : Addr × Obj}, L2H.RoomH k A → L2H.Hot1 A p → L2H.PinOk outer H sh p → Env0 P w K mg base A outer sh H →
    BindsTo sh fd given (ps.zip us) → Vals vs us → sp p vs H Q E → codeAny (model P w) A (.call (.ref f) given) (CR CX outer P w H sh Q E) sh
theorem fnE_of {CX : CXT} {x qual : Str} {params : Arguments} {body : List Stmt} {scope : Scope} {dvs : List V} {kws : List (Str × V)} {f : Addr} {fd : FuncData} {N ps : List Str} {k : Nat} {sp : Addr × Obj → Sp} (F : FunD K x qual params body scope dvs kws f fd) (S : FnScope N ps scope)
    (len : ∀ {p vs H Q E}, sp p vs H Q E → vs.length = ps.length)
    (inside : ∀ (cdv : Value) (A : Around) (outer : List Env) (sh : Shared) (H : Hp) (vs : List V) (Q : VK) (E : XK) (p : Addr × Obj), L2H.Hot1 A p → L2H.RoomH k (A.deeper (envOfC qual scope sh.heap.objs.size f cdv)) → sp p vs H Q E →
      ∃ t, PSs (L2H.cxH CX P w K mg base N qual scope f cdv A outer sh H E p) body t ∧ t ⟨fun _ H' => Q .non H', Q, fun _ _ => False, fun _ _ => False⟩ (L2.start N vs) H) : FnE P w K mg base CX (k + 1) f fd ps sp := by
  obtain ⟨oc, od, dV, kV, doc, pm, an, cdv, ct, osl, hfd, there, coded, _, _⟩ := F.ex
  subst hfd
  refine ⟨len, ?_⟩
  intro A outer sh H given us vs Q E p room hot pin env0 bind rels wish
  have stays : ∀ b o, base.get? b = some o → sh.heap.get? b = some o := fun b o e => (env0.bs b o e).1
  have kin : K.In sh.heap := env0.mod.kin.keeps stays
  have free : sh.heap.NoLimit := env0.mod.nolimit.keeps stays
  have names : ∀ y ∈ ps.zip us, scope.names.lookup y.1 = some .local ∨ (scope.names.lookup y.1 = some .cell ∧ ((cellsFrom (sh.heap.objs.size + 1) scope.names []).lookup y.1).isSome = true) := by
    rintro ⟨n, v⟩ hy
    cases S.par n (List.of_mem_zip hy).1 with
    | inl q => exact Or.inl q
    | inr q => exact Or.inr ⟨q, PySem.W.cellsFrom_some _ _ _ (.inl q)⟩
  refine codeAny_call_function room.depth (kin f _ there) rfl S.co S.gen rfl (PySem.W.codeRec_of kin coded) (bind _ _ _ _ (wpAny_newFunctionEnv_cells S.kind names fun env here s1 made => ?_))
  cases here
  have within := L2H.inv_startH (CX := CX) (N := N) (qual := qual) (f := f) (cd := cdv) (E := E) S pin env0 (len wish) rels made
  obtain ⟨t, derived, asked⟩ := inside cdv A outer sh H vs Q E p hot (room.deeper _) wish
  refine ⟨free.keeps made.toInCall.keep, codeAny_func (wpAny_mono (derived.run [] s1 _ H _ within asked) ?_ fun _ _ z => z)⟩
  intro out s2 left
  match out, left with
  | .ret u, ⟨v, _, H2, J, rv, q⟩ => exact ⟨v, H2, J.os, J.bare, J.base, J.hok, rv, q⟩
  | .next, ⟨_, H2, J, q⟩ => exact ⟨V.non, H2, J.os, J.bare, J.base, J.hok, rfl, q⟩
  | .brk, ⟨_, _, _, q⟩ => exact q.elim
  | .cont, ⟨_, _, _, q⟩ => exact q.elim
/-- the call: p stands among the pinned -/
theorem pe_callE {X : Cx} {CX : CXT} {k : Nat} {f : Addr} {fd : FuncData} {ps : List Str} {sp : Addr × Obj → Sp} {E : XK} {x : Str} {q pos : Pos} {e : Expr} {es : List Expr} {t : L2.TA} (p : Addr × Obj) (F : FnE X.prog X.w X.K X.mg X.base CX k f fd ps sp) (room : L2H.RoomH k X.A) (hot : L2H.Hot1 X.A p) (isin : p ∈ X.pn)
    (hg : Gl X x) (hm : X.mg x = some (.ref f)) (kept : PySem.W.keepIn X.K (.ref f) = true) (bd : L2.Binds X.K fd ps []) (out : Passes CX X E) (sp' : Sp) (weak : ∀ vs H Q, sp' vs H Q E → sp p vs H Q E) (ha : PA X (e :: es) t) (hdb : (x == ("__debug__" : Str)) = false := by decide)
    (he : starEach (e :: es) X.env = (false, eval e X.env) :: starEach es X.env := by rfl) (hpl : (backTo pos (starEach es X.env)).any (·.1) = false := by rfl) : PE X (.Call (.Name x q) (e :: es) [] pos) (tCall sp' [] E t) := by
  constructor
  intro pn sh σ H Q I wish
  apply wpAny_Call_Name_kw
  refine ld_glob I hg hm (PySem.W.callWith_K (h₀ := X.base) I.ok.mod.kin kept (thn (ha.run pos pn sh σ H _ I wish) ?_) he hpl) hdb
  rintro us s1 ⟨vs, H1, J, rels, asked⟩
  rw [List.append_nil] at asked
  have asked := weak _ _ _ asked
  refine ⟨J.kIn, ?_⟩
  have many : us.length = ps.length := rels.length.symm.trans (F.len asked)
  have bind := bd s1 us J.kIn (by rw [List.append_nil]; exact many)
  rw [List.append_nil] at bind
  obtain ⟨p1, p2, p3, p4, p5⟩ := J.pin p (List.mem_append.mpr (.inl isin))
  have pin : L2H.PinOk X.stack H1 s1 p := ⟨p1, p2, fun hm => by
    rcases List.mem_cons.mp (J.stkSub p.1 hm) with z | z
    · exact p3 z
    · exact p4 z, p5⟩
  refine wpAny_call (codeAny_mono (F.goes room hot pin J.env0 bind rels asked) ?_)
  intro res s2 w
  match res, w with
  | .error ex, w => exact out pn σ H1 s1 ex s2 J w
  | .ok (.ret u), w => exact J.after w
  | .ok .next, w => exact w.elim
  | .ok .brk, w => exact w.elim
  | .ok .cont, w => exact w.elim
/-- isinstance(e, C), e a pinned exception of which class D is known -/
theorem call_isEp {X : Cx} {a D : Addr} {oe : Obj} (isin : (a, oe) ∈ X.pn) (C : ExcC X.K D) (hz : Zc (.ref D) none oe) (hf : ∃ vs, oe.data = .fields vs) : CallR X (.builtin "isinstance") (rIsE X.K D a) := by
  intro pn sh σ H0 given seen Qv I rels wish
  obtain ⟨c, cv, b, rfl, same, told, fin⟩ := wish
  match rels with
  | .cons r1 (.cons r2 .nil) =>
    cases r1
    cases same _ r2
    have held := (I.pin (a, oe) (List.mem_append.mpr (.inl isin))).1
    obtain ⟨o1, o2, o3, o4⟩ := oe
    obtain ⟨fields, hf⟩ := hf
    obtain ⟨z1, z2⟩ := hz
    have at_ : PySem.W.InstAt sh.heap a ⟨o1, o2, o3, o4⟩ D none := by
      dsimp only at z1 z2 hf
      subst z1 z2 hf
      exact ⟨held, rfl, rfl, trivial⟩
    exact PySem.W.kia_one (PySem.W.handS_kitx_exc C.hg C.hk C.hs C.hd C.ha C.hn C.ht C.hm) I.kIn at_ told (fun no => nomatch no) fun tok => ⟨.bl b, H0, I.kept (t' := tok) fun _ _ keep => keep, rfl, fin⟩
theorem call_isETp {X : Cx} {a D : Addr} {oe : Obj} (isin : (a, oe) ∈ X.pn) (C : ExcC X.K D) (hz : Zc (.ref D) none oe) (hf : ∃ vs, oe.data = .fields vs) : CallR X (.builtin "isinstance") (rIsET X.K D a) := by
  intro pn sh σ H0 given seen Qv I rels wish
  obtain ⟨tup, named, vals, ans, rfl, htup, kinds, told, fin⟩ := wish
  match rels with
  | .cons r1 (.cons r2 .nil) =>
    cases r1
    cases r2
    have held := (I.pin (a, oe) (List.mem_append.mpr (.inl isin))).1
    obtain ⟨o1, o2, o3, o4⟩ := oe
    obtain ⟨fields, hf⟩ := hf
    obtain ⟨z1, z2⟩ := hz
    have at_ : PySem.W.InstAt sh.heap a ⟨o1, o2, o3, o4⟩ D none := by
      dsimp only at z1 z2 hf
      subst z1 z2 hf
      exact ⟨held, rfl, rfl, trivial⟩
    obtain ⟨_, its, rv, obj, g1, g2, cnt, g3⟩ := I.hok tup _ htup
    cases ClsV.all kinds rv
    obtain ⟨c1, c2, c3, c4⟩ := obj
    simp only at g2 g3
    subst g2 g3
    exact PySem.W.kia_tup (PySem.W.handS_kitx_exc C.hg C.hk C.hs C.hd C.ha C.hn C.ht C.hm) I.kIn at_ g1 told (fun no => nomatch no) fun tok => ⟨.bl ans, H0, I.kept (t' := tok) fun _ _ keep => keep, rfl, fin⟩
theorem roomE {k : Nat} {A : Around} {h : Option Value} (r : Room k A) : L2H.RoomH k (A.mark h) := ⟨r.dp, r.un⟩

end
end Fo
namespace Fo
open PySem PySem.Spec PyProof.Rows L2
section
variable {P : Program} {w : World} {K : PySem.W.Frag} {mg : Str → Option Value} {base : Heap}
def spDraw (K : PySem.W.Frag) : Sp := fun vs H Q _ => ∃ (a : Addr) (ns : List Int) (k : Nat), vs = [.ref a, .int k] ∧ SqL K H a (ns.map V.int) ∧ Q (.int (ns.getD k 0)) H
theorem sc__law_draw : FnScope ["_law_script", "_law_k"] ["_law_script", "_law_k"] (defScope s__law_draw) := ⟨rfl, rfl, rfl, by decide +kernel, rfl, by decide +kernel, by decide +kernel⟩
set_option maxRecDepth 100000 in
theorem ok__law_draw (T : Txt K mg) : OkF P w K mg base CX0 1 (He.ga K "_law_draw") ["_law_script", "_law_k"] (spDraw K) := by
  obtain ⟨fd, F⟩ := T.F__law_draw
  refine ⟨fd, F.ok sc__law_draw (fun vs H Q E h => ?_) (fun cdv A outer s H vs Q E hr h => ?_), F.bindsN fun _ _ _ _ _ _ us hl => match us, hl with | [_, _], _ => rfl, F.kp⟩
  · obtain ⟨_, _, _, rfl, _⟩ := h
    rfl
  · refine ⟨_, PSs.nox (pss_one (ps_ret (pe_ifExp (pt_cmpR op_gt (pe_callB call_len_seq (by rfl) T.b_len PySem.boot_len (pa_cons (pv 0) pa_nil)) (pv 1) (nomark _)) (pe_ix ix_list (pv 0) (pv 1) (fun _ _ => rfl)) pe_int))), ?_⟩
    obtain ⟨a, ns, k, rfl, hL, q⟩ := h
    refine ⟨_, rfl, a, _, rfl, .inl hL, _, rfl, _, _, rfl, rfl, _, rfl, ite2 (fun hc => ?_) (fun hc => ?_)⟩
    · have hk : k < ns.length := by
        have := of_decide_eq_true hc
        rw [List.length_map] at this
        omega
      have e : ns[k]? = some (ns.getD k 0) := by rw [List.getD_eq_getElem?_getD, List.getElem?_eq_getElem hk]; rfl
      exact ⟨_, rfl, _, rfl, a, _, _, _, rfl, rfl, hL, atI_nat (j := k) (by rw [List.getElem?_map, e]; rfl), q⟩
    · have hk : ns.length ≤ k := by
        by_cases h : ns.length ≤ k
        · exact h
        · exact absurd (decide_eq_true (by rw [List.length_map]; omega)) hc
      have e : ns.getD k 0 = 0 := by rw [List.getD_eq_getElem?_getD, List.getElem?_eq_none hk]; rfl
      rw [e] at q
      exact q
/-- the hands whose bit is set -/
def handsGo : Nat → Int → Int → List Int
  | 0, _, _ => []
  | n + 1, i, b => (if b % 2 = 1 then [i] else []) ++ handsGo n (i + 1) (b / 2)
def handsOf (b m : Int) : List Int := handsGo m.toNat 0 b
theorem handsGo_mem : ∀ (n : Nat) (i b : Int) {x : Int}, x ∈ handsGo n i b → i ≤ x ∧ x < i + n
  | 0, _, _, _, h => by cases h
  | n + 1, i, b, x, h => by
    unfold handsGo at h
    rcases List.mem_append.mp h with h | h
    · split at h
      · rw [List.mem_singleton] at h
        omega
      · cases h
    · have := handsGo_mem n (i + 1) (b / 2) h
      omega
theorem handsGo_sorted : ∀ (n : Nat) (i b : Int), (handsGo n i b).Pairwise (· < ·)
  | 0, _, _ => List.Pairwise.nil
  | n + 1, i, b => by
    unfold handsGo
    refine List.pairwise_append.mpr ⟨?_, handsGo_sorted n _ _, ?_⟩
    · split
      · exact List.pairwise_singleton _ _
      · exact List.Pairwise.nil
    · intro x hx y hy
      have h2 := handsGo_mem n _ _ hy
      split at hx
      · rw [List.mem_singleton] at hx
        omega
      · cases hx
theorem handsGo_len : ∀ (n : Nat) (i b : Int), (handsGo n i b).length ≤ n
  | 0, _, _ => Nat.le_refl _
  | n + 1, i, b => by
    unfold handsGo
    have := handsGo_len n (i + 1) (b / 2)
    rw [List.length_append]
    split <;> simp <;> omega
def spHands : Sp := fun vs H Q _ => ∃ (b m : Int), vs = [.int b, .int m] ∧ m ≤ 1000 ∧ 0 ≤ m ∧ ∀ p H', H p = none → Same H H' → H' p = some (.lst ((handsOf b m).map V.int)) → Q (.ref p) H'
theorem sc__law_hands : FnScope ["_law_bits", "_law_many", "_law_found", "_law_hand"] ["_law_bits", "_law_many"] (defScope s__law_hands) := ⟨rfl, rfl, rfl, by decide +kernel, rfl, by decide +kernel, by decide +kernel⟩
set_option maxRecDepth 100000 in
theorem ok__law_hands (T : Txt K mg) : OkF P w K mg base CX0 1 (He.ga K "_law_hands") ["_law_bits", "_law_many"] (spHands) := by
  obtain ⟨fd, F⟩ := T.F__law_hands
  refine ⟨fd, F.ok sc__law_hands (fun vs H Q E h => ?_) (fun cdv A outer s H vs Q E hr h => ?_), F.bindsN fun _ _ _ _ _ _ us hl => match us, hl with | [_, _], _ => rfl, F.kp⟩
  · obtain ⟨_, _, rfl, _⟩ := h
    rfl
  · refine ⟨_, PSs.nox (pss_cons (ps_set (i := 2) sc__law_hands.nd rfl (Or.inl rfl) (pe_lst pa_nil)) (pss_cons (ps_for PassesOwn.never rfl (pi_range1 rfl T.b_range (pa_cons (pv 1) pa_nil)) (pg_name (i := 3) sc__law_hands.nd rfl (Or.inl rfl)) (pss_cons (ps_if (pt_cmpR op_eq (pe_op op_mod (pv 0) pe_int) pe_int (nomark _)) (pss_one (ps_expr (pe_bm PySem.F.plainAttrs_list PySem.F.slot_list_append PySem.F.type_list_append mt_append (pv 2) (pa_cons (pv 3) pa_nil)))) pss_nil) (pss_one (ps_set (i := 0) sc__law_hands.nd rfl (Or.inl rfl) (pe_op op_fdiv (pv 0) pe_int))))) (pss_one (ps_ret (pv 2))))), ?_⟩
    obtain ⟨b, m, rfl, hm, hm0, k⟩ := h
    refine ⟨Nat.zero_le _, fun p hp => ?_⟩
    refine ⟨_, rfl, m, rfl, by omega, by omega, for_range (lo := 0) (n := m.toNat) (fun i σ H' => ∃ acc b' hv, σ = [some (.int b'), some (.int m), some (.ref p), hv] ∧ H' = upd H p (.lst (acc.map V.int)) ∧ handsOf b m = acc ++ handsGo (m.toNat - i) i b' ∧ acc.length ≤ i)
      ⟨[], b, none, rfl, rfl, rfl, Nat.le_refl _⟩ ?_ ?_⟩
    · rintro i σ H' hi ⟨acc, b', hv, rfl, rfl, e, hl⟩
      have e1 : handsGo (m.toNat - i) i b' = (if b' % 2 = 1 then [(i : Int)] else []) ++ handsGo (m.toNat - (i + 1)) ((i : Int) + 1) (b' / 2) := by
        have e2 : m.toNat - i = (m.toNat - (i + 1)) + 1 := by omega
        rw [e2]
        rfl
      rw [e1] at e
      refine ⟨_, rfl, b', 2, rfl, rfl, (by show (0 : Int) < 2; decide), rfl, _, rfl, iteI (fun hb => ?_) (fun hb => ?_)⟩
      · rw [if_pos hb] at e
        refine ⟨_, rfl, .inl ⟨rfl, _, SqL.of upd_same⟩, _, rfl, p, _, _, rfl, rfl, upd_same, by rw [List.length_map]; exact small1000 (by omega), ?_⟩
        refine ⟨_, rfl, _, _, rfl, rfl, ⟨by decide, by decide⟩, ?_⟩
        rw [upd_upd]
        have ei : (0 : Int) + (i : Int) = i := by omega
        refine ⟨acc ++ [(i : Int)], b' / 2, _, rfl, by rw [List.map_append, ei]; rfl, ?_, by rw [List.length_append]; simp; omega⟩
        rw [e, List.append_assoc]
        rfl
      · rw [if_neg hb] at e
        refine ⟨_, rfl, _, _, rfl, rfl, ⟨by decide, by decide⟩, ?_⟩
        exact ⟨acc, b' / 2, _, rfl, rfl, e, by omega⟩
    · rintro σ H' ⟨acc, b', hv, rfl, rfl, e, hl⟩
      have e1 : handsOf b m = acc := by
        rw [e, Nat.sub_self]
        exact List.append_nil _
      exact ⟨_, rfl, k p _ hp (upd_ext hp) (by rw [upd_same, e1])⟩
def spIsNumber (K : PySem.W.Frag) : Sp := fun vs H Q _ => ∃ x, vs = [x] ∧ Thg K H x ∧ Q (.bl (isInt x)) H

end
end Fo
namespace Fo
open PySem PySem.Spec PyProof.Rows L2
section
variable {P : Program} {w : World} {K : PySem.W.Frag} {mg : Str → Option Value} {base : Heap}
/-! ### x in range(..), of things that are no whole numbers, too -/
theorem rng_loop_entry : entryFor table "range.__contains__.loop" = some Builtin.«range.__contains__.loop» := entryFor_of_tree (by kernel_rfl)
theorem rng_loop_plain : plainId "range.__contains__.loop" = true := by decide +kernel
abbrev rngO (a b : Int) (t u v : Tok) : Obj := { cls := .type "range", dict := none, data := .fields #[.int a t, .int b u, .int 1 v], slots := #[] }
theorem rng_size (a b : Int) : Builtin.Range.rangeSize a b 1 = if a < b then b - a else 0 := by
  unfold Builtin.Range.rangeSize
  simp
  try (split <;> first | omega | rfl)
theorem rng_search (r : Addr) (a b : Int) (t u v : Tok) (x : Value) (hx : ∀ (i : Int) (k : Tok) (A : Around) (s : Shared), SeqAt.EqAt A s (.int i k) x false) (left : Nat) :
    ∀ i : Nat, (b - a).toNat - i = left → Meets (Builtin.«range.__contains__.loop» ⟨[.ref r, x, rawInt i], []⟩) (fun _ R s => s.heap.get? r = some (rngO a b t u v) ∧ ∀ tk, R (.ok (.ret (.bool false))) { s with toks := tk }) := by
  induction left with
  | zero =>
    intro i hk prog w A R s h
    obtain ⟨hp, g, d, tk, os⟩ := s
    obtain ⟨hl, h⟩ := h
    wp_walk using wpAny_loadPart' hl
    rw [if_pos (show ((i : Nat) : Int) ≥ Builtin.Range.rangeSize a b 1 by rw [rng_size]; split <;> omega)]
    wp_walk
    exact h tk
  | succ left ih =>
    intro i hk prog w A R s h
    obtain ⟨hp, g, d, tk, os⟩ := s
    obtain ⟨hl, h⟩ := h
    wp_walk using wpAny_loadPart' hl
    rw [if_neg (show ¬ ((i : Nat) : Int) ≥ Builtin.Range.rangeSize a b 1 by rw [rng_size]; split <;> omega)]
    refine wpAny_bind (wpAny_mkInt (wpAny_bind (hx _ _ _ _ prog w _ _ ?_)))
    have next : ((i : Int) + 1) = ((i + 1 : Nat) : Int) := by push_cast; rfl
    wp_walk
    rw [next]
    exact ⟨plainId_quiet rng_loop_plain _, codeAny_builtin rng_loop_entry (by
      rw [Around.under_plainId rng_loop_plain _]
      exact ih (i + 1) (by omega) prog w A R _ ⟨hl, fun tk' => h tk'⟩)⟩
theorem rng_bool (r : Addr) (a b : Int) (x : Bool) (t u v : Tok) :
    Meets (Builtin.«range.__contains__» ⟨[.ref r, .bool x], []⟩) (fun _ R s => s.heap.get? r = some (rngO a b t u v) ∧ R (.ok (.ret (.bool (Builtin.Range.rangePlace? a b 1 (if x = true then 1 else 0)).isSome))) s) :=
  .of_wp fun prog w A R s h => by
    obtain ⟨hp, g, d, tk, os⟩ := s
    obtain ⟨hl, h⟩ := h
    wp_walk
    exact ⟨_, rfl, h⟩
theorem rng_other (r : Addr) (a b : Int) (x : Value) (t u v : Tok) (hx : ∀ (i : Int) (k : Tok) (A : Around) (s : Shared), SeqAt.EqAt A s (.int i k) x false) (ni : ∀ i k, x ≠ .int i k) (nb : ∀ c, x ≠ .bool c) :
    Meets (Builtin.«range.__contains__» ⟨[.ref r, x], []⟩) (fun _ R s => s.heap.get? r = some (rngO a b t u v) ∧ ∀ tk, R (.ok (.ret (.bool false))) { s with toks := tk }) := by
  intro prog w A R s h
  have no : Builtin.Range.rangeExactInt? x = none := by
    cases x <;> first | rfl | exact absurd rfl (ni _ _) | exact absurd rfl (nb _)
  unfold Builtin.«range.__contains__»
  wp_walk
  rw [no]
  wp_walk
  exact ⟨plainId_quiet rng_loop_plain _, codeAny_builtin rng_loop_entry (by
    rw [Around.under_plainId rng_loop_plain _]
    exact rng_search r a b t u v x hx _ 0 rfl prog w A R _ h)⟩
def rngI (neg : Bool) (lo hi i : Int) : Bool := if neg = true then !decide (lo ≤ i ∧ i < hi) else decide (lo ≤ i ∧ i < hi)
def rngT (neg : Bool) (lo hi : Int) (b : Bool) : Bool := rngI neg lo hi (if b = true then 1 else 0)
/-- x in a range: of whole numbers, of truths, of texts and None -/
def rRng (neg : Bool) : R2 := fun x y H Q => ∃ a lo hi, y = .ref a ∧ H a = some (.rng lo hi) ∧ ((∃ i, x = .int i ∧ Q (.bl (rngI neg lo hi i)) H) ∨
  (∃ b : Bool, x = .bl b ∧ Q (.bl (rngT neg lo hi b)) H) ∨ ((x = .non ∨ ∃ z, x = .str z) ∧ Q (.bl neg) H))
theorem rng_contains {X : Cx} {pins : List (Addr × Obj)} {σ : L2.St} {H : Hp} {s : Shared} {x : V} {v : Value} {a : Addr} {lo hi : Int} {Q : Bool → Hp → Prop} {E : Value → Shared → Prop} {Qv : Bool → Shared → Prop} (I : Inv X pins σ H s) (rx : RelV x v) (ha : H a = some (.rng lo hi))
    (q : (∃ i, x = .int i ∧ Q (decide (lo ≤ i ∧ i < hi)) H) ∨ (∃ b : Bool, x = .bl b ∧ Q (decide (lo ≤ (if b = true then 1 else 0) ∧ (if b = true then (1 : Int) else 0) < hi)) H) ∨ ((x = .non ∨ ∃ z, x = .str z) ∧ Q false H))
    (go : ∀ (b : Bool) (s1 : Shared), Inv X pins σ H s1 → Q b H → Qv b s1) : wpAny (model X.prog X.w) X.A (contains (.ref a) v) Qv E s := by
  obtain ⟨t1, t2, t3, ho⟩ := I.hok a _ ha
  rcases q with ⟨i, rfl, q⟩ | ⟨b, rfl, q⟩ | ⟨hx, q⟩
  · obtain ⟨n, rfl⟩ := rx
    refine wpAny_contains_slot (T := "range") ⟨_, ho, rfl⟩ F.slot_range_contains (call_meets F.slot_range_contains ⟨_, ho, rfl⟩ F.entry_range_contains (F.args_range_contains_2 _ _) (q_contains a lo hi i t1 t2 t3 n) ⟨ho, wpAny_truthy_bool ?_⟩)
    rw [place1]
    exact go _ _ I q
  · cases (show v = Value.bool b from rx)
    refine wpAny_contains_slot (T := "range") ⟨_, ho, rfl⟩ F.slot_range_contains (call_meets F.slot_range_contains ⟨_, ho, rfl⟩ F.entry_range_contains (F.args_range_contains_2 _ _) (rng_bool a lo hi b t1 t2 t3) ⟨ho, wpAny_truthy_bool ?_⟩)
    rw [place1]
    exact go _ _ I q
  · have ni : ∀ i k, v ≠ .int i k := fun i k z => by
      subst z
      rcases hx with rfl | ⟨z, rfl⟩
      · cases (show Value.int i k = Value.none from rx)
      · obtain ⟨t, e⟩ := rx
        cases e
    have nb : ∀ c, v ≠ .bool c := fun c z => by
      subst z
      rcases hx with rfl | ⟨z, rfl⟩
      · cases (show Value.bool c = Value.none from rx)
      · obtain ⟨t, e⟩ := rx
        cases e
    have hq : ∀ (i : Int) (k : Tok) (A : Around) (s : Shared), SeqAt.EqAt A s (.int i k) v false := fun i k A s => by
      have := mem_eqAt (A := A) (s := s) rx (show flatV x = true by rcases hx with rfl | ⟨z, rfl⟩ <;> rfl) (xs := [.int i]) (us := [.int i k]) (.cons ⟨k, rfl⟩ .nil) rfl (.int i k) List.mem_cons_self
      have e : eqU x (.int i k) = false := by rcases hx with rfl | ⟨z, rfl⟩ <;> rfl
      rw [e] at this
      exact this
    refine wpAny_contains_slot (T := "range") ⟨_, ho, rfl⟩ F.slot_range_contains (call_meets F.slot_range_contains ⟨_, ho, rfl⟩ F.entry_range_contains (F.args_range_contains_2 _ _) (rng_other a lo hi v t1 t2 t3 hq ni nb) ⟨ho, fun tk => wpAny_truthy_bool ?_⟩)
    exact go _ _ (I.kept fun _ _ z => z) q
theorem op_inRng {X : Cx} : OpR X (compareOp .In) (rRng false) := by
  intro pins s σ H x y v u Q I rx ry h
  obtain ⟨a, lo, hi, rfl, ha, q⟩ := h
  obtain rfl : u = Value.ref a := ry
  show wpAny _ _ (do return Value.bool (← contains (Value.ref a) v)) _ _ s
  refine wpAny_bind (rng_contains (Q := fun b H1 => Q (.bl b) H1) I rx ha q fun b s1 J q1 => wpAny_pure ⟨.bl b, H, J, rfl, q1⟩)
theorem op_notInRng {X : Cx} : OpR X (compareOp .NotIn) (rRng true) := by
  intro pins s σ H x y v u Q I rx ry h
  obtain ⟨a, lo, hi, rfl, ha, q⟩ := h
  obtain rfl : u = Value.ref a := ry
  show wpAny _ _ (do return Value.bool (!(← contains (Value.ref a) v))) _ _ s
  refine wpAny_bind (rng_contains (Q := fun b H1 => Q (.bl !b) H1) I rx ha q fun b s1 J q1 => wpAny_pure ⟨.bl !b, H, J, rfl, q1⟩)
/-! ### C(..) within a try, whose wish speaks of the slots -/
def tMakeE (C : Addr) (sp : Sp) (E : L2.St → XK) (t : L2.TA) : TE := fun σ H Q => t σ H fun vs H1 => ∀ x dx, H1 x = none → H1 dx = none → dx ≠ x → sp (.ref x :: vs) (upd (upd H1 dx (.own x)) x (.ins C dx [])) (fun v H2 => v = .non ∧ Q (.ref x) H2) (E σ)
theorem pe_makeE {X : Cx} {CX : CXT} {k : Nat} {f C : Addr} {fd : FuncData} {ps : List Str} {sp : Sp} {E : L2.St → XK} {x : Str} {p pos : Pos} {e : Expr} {es : List Expr} {t : L2.TA} (M : Mk X.K C f) (F : FnOk X.prog X.w X.K X.mg X.base CX k f fd ps sp) (room : Room (k + 1) X.A) (hg : Gl X x) (hm : X.mg x = some (.ref C)) (bd : L2.Binds X.K fd ps [])
    (out : ∀ σ, PassesAt CX X σ (E σ)) (ha : PA X (e :: es) t) (hdb : (x == ("__debug__" : Str)) = false := by decide) (he : starEach (e :: es) X.env = (false, eval e X.env) :: starEach es X.env := by rfl) (hpl : (backTo pos (starEach es X.env)).any (·.1) = false := by rfl) :
    PE X (.Call (.Name x p) (e :: es) [] pos) (tMakeE C sp E t) := by
  constructor
  intro pn sh σ H Qv I wish
  apply wpAny_Call_Name_kw
  refine ld_glob I hg hm (PySem.W.callWith_K (h₀ := X.base) I.ok.mod.kin M.kp (thn (ha.run pos pn sh σ H _ I wish) ?_) he hpl) hdb
  rintro us s1 ⟨vs, H1, J, rels, asked⟩
  refine ⟨J.kIn, ?_⟩
  have inside := asked (s1.heap.objs.size + 1) s1.heap.objs.size (J.hok.fresh (Nat.le_succ _)) (J.hok.fresh (Nat.le_refl _)) (Nat.ne_of_lt (Nat.lt_succ_self _))
  have J2 := Inv.made (C := C) J
  have given : Vals (V.ref (s1.heap.objs.size + 1) :: vs) (Value.ref (s1.heap.objs.size + 1) :: us) := .cons rfl rels
  have many : (Value.ref (s1.heap.objs.size + 1) :: us).length = ps.length := given.length.symm.trans (F.len _ _ _ _ inside)
  have bind := bd _ (Value.ref (s1.heap.objs.size + 1) :: us) J2.kIn (by rw [List.append_nil]; exact many)
  rw [List.append_nil] at bind
  have body := F.run _ X.stack _ _ ⟨Value.ref (s1.heap.objs.size + 1) :: us, []⟩ _ _ _ (E σ) (room.make C us []) (J2.env0.make C us []) bind given inside
  refine wpAny_call (make_map (f := f) J.kIn M.makes M.init (beq_iff_eq.mp M.fn) (codeAny_mono body ?_))
  intro res s2 w
  match res, w with
  | .error ex, w => exact out σ pn _ _ ex s2 J2 w
  | .ok (.ret u), w =>
    obtain ⟨v, H2, J3, rv, ev, q3⟩ := J2.after w
    cases ev
    exact ⟨rv, V.ref (s1.heap.objs.size + 1), H2, J3, rfl, q3⟩
  | .ok .next, w => exact w.elim
  | .ok .brk, w => exact w.elim
  | .ok .cont, w => exact w.elim

end
end Fo
namespace Fo
open PySem PySem.Spec PyProof.Rows L2
section
variable {P : Program} {w : World} {K : PySem.W.Frag} {mg : Str → Option Value} {base : Heap}
structure Kit2 (K : PySem.W.Frag) (D : Addr) (b1 b2 b3 b4 : Bool) : Prop where
  ec : ExcC K D
  k1 : PySem.W.kitOne K (.ref D) (.ref (He.ga K "BadHand")) = some b1
  k2 : PySem.W.kitOne K (.ref D) (.ref (He.ga K "BadList")) = some b2
  k3 : PySem.W.kitAny K (.ref D) [.ref (He.ga K "NoLetter"), .ref (He.ga K "Fallen"), .ref (He.ga K "NotFirst"), .ref (He.ga K "NoNews")] = some b3
  k4 : PySem.W.kitOne K (.ref D) (.ref (He.ga K "Outside")) = some b4
  kv : PySem.W.kitOne K (.ref D) (.type "ValueError") = some true
theorem snoc_str (xs : List Str) (s : Str) : xs.map V.str ++ [V.str s] = (xs ++ [s]).map V.str := (List.map_append (l₁ := xs) (l₂ := [s]) (f := V.str)).symm
def one (b : Bool) (s : Str) : List Str := if b = true then [s] else []
def words2 (b1 b2 b3 b4 : Bool) : List Str := one b1 "hand" ++ one b2 "list" ++ one b3 "other" ++ one b4 "outside"
def spWords2 (K : PySem.W.Frag) (p : Addr × Obj) : Sp := fun vs H Q _ => ∃ (D : Addr) (b1 b2 b3 b4 : Bool) (word : Str), vs = [.ref p.1] ∧ Kit2 K D b1 b2 b3 b4 ∧ Zc (.ref D) none p.2 ∧ (∃ us, p.2.data = .fields us) ∧ words2 b1 b2 b3 b4 = [word] ∧ ∀ H', Same H H' → Q (.str word) H'
theorem sc__law_words : FnScope ["_law_e", "_law_words_here"] ["_law_e"] (defScope s__law_words) := ⟨rfl, rfl, rfl, by decide +kernel, rfl, by decide +kernel, by decide +kernel⟩
set_option maxRecDepth 100000 in
theorem ok__law_words (T : Txt K mg) : ∃ fd, FnE P w K mg base CX0 1 (He.ga K "_law_words") fd ["_law_e"] (spWords2 K) ∧ L2.Binds K fd ["_law_e"] [] ∧ PySem.W.keepIn K (.ref (He.ga K "_law_words")) = true := by
  obtain ⟨fd, F⟩ := T.F__law_words
  refine ⟨fd, fnE_of F sc__law_words (fun h => ?_) (fun cdv A outer s H vs Q E p hot hr h => ?_), F.bindsN fun _ _ _ _ _ _ us hl => match us, hl with | [_], _ => rfl, F.kp⟩
  · obtain ⟨_, _, _, _, _, _, rfl, _⟩ := h
    rfl
  · obtain ⟨D, b1, b2, b3, b4, word, rfl, kt, hz, hf, hw, q⟩ := h
    refine ⟨_, PSs.nox (pss_cons (ps_set (i := 1) sc__law_words.nd rfl (Or.inl rfl) (pe_lst pa_nil)) (C8.pss_cut (ps_if (pt_val (pe_callB (call_isEp (a := p.1) (oe := p.2) List.mem_cons_self kt.ec hz hf) (by rfl) T.b_isinstance (by decide +kernel) (pa_cons (pv 0) (pa_cons (pe_glob (v := .ref (He.ga K "BadHand")) rfl T.g_BadHand rfl) pa_nil)))) (pss_one (ps_expr (pe_bm PySem.F.plainAttrs_list PySem.F.slot_list_append PySem.F.type_list_append mt_append (pv 1) (pa_cons pe_str pa_nil)))) pss_nil) (C8.pss_cut (ps_if (pt_val (pe_callB (call_isEp (a := p.1) (oe := p.2) List.mem_cons_self kt.ec hz hf) (by rfl) T.b_isinstance (by decide +kernel) (pa_cons (pv 0) (pa_cons (pe_glob (v := .ref (He.ga K "BadList")) rfl T.g_BadList rfl) pa_nil)))) (pss_one (ps_expr (pe_bm PySem.F.plainAttrs_list PySem.F.slot_list_append PySem.F.type_list_append mt_append (pv 1) (pa_cons pe_str pa_nil)))) pss_nil) (C8.pss_cut (ps_if (pt_val (pe_callB (call_isETp (a := p.1) (oe := p.2) List.mem_cons_self kt.ec hz hf) (by rfl) T.b_isinstance (by decide +kernel) (pa_cons (pv 0) (pa_cons (pe_tup (pa_cons (pe_glob (v := .ref (He.ga K "NoLetter")) rfl T.g_NoLetter rfl) (pa_cons (pe_glob (v := .ref (He.ga K "Fallen")) rfl T.g_Fallen rfl) (pa_cons (pe_glob (v := .ref (He.ga K "NotFirst")) rfl T.g_NotFirst rfl) (pa_cons (pe_glob (v := .ref (He.ga K "NoNews")) rfl T.g_NoNews rfl) pa_nil))))) pa_nil)))) (pss_one (ps_expr (pe_bm PySem.F.plainAttrs_list PySem.F.slot_list_append PySem.F.type_list_append mt_append (pv 1) (pa_cons pe_str pa_nil)))) pss_nil) (C8.pss_cut (ps_if (pt_val (pe_callB (call_isEp (a := p.1) (oe := p.2) List.mem_cons_self kt.ec hz hf) (by rfl) T.b_isinstance (by decide +kernel) (pa_cons (pv 0) (pa_cons (pe_glob (v := .ref (He.ga K "Outside")) rfl T.g_Outside rfl) pa_nil)))) (pss_one (ps_expr (pe_bm PySem.F.plainAttrs_list PySem.F.slot_list_append PySem.F.type_list_append mt_append (pv 1) (pa_cons pe_str pa_nil)))) pss_nil) (pss_one (ps_ret (pe_ifExp (PW.pt (pw_and (pt_cmpR op_eq (pe_callB call_len_seq (by rfl) T.b_len PySem.boot_len (pa_cons (pv 1) pa_nil)) pe_int (nomark _)) (pw_and1 (pt_val (pe_callB (call_isEp (a := p.1) (oe := p.2) List.mem_cons_self kt.ec hz hf) (by rfl) T.b_isinstance (by decide +kernel) (pa_cons (pv 0) (pa_cons (pe_bltn (v := .ty "ValueError") (u := .type "ValueError") (by rfl) T.b_ValueError (by decide +kernel) rfl) pa_nil))))))) (pe_ix ix_list (pv 1) pe_int (fun _ _ => rfl)) pe_str)))))))), ?_⟩
    refine ⟨Nat.zero_le _, fun l hl => ?_⟩
    have hl0 : upd H l (.lst []) l = some (.lst ((([] : List Str)).map V.str)) := upd_same
    have e0 := same_upd (o := .lst []) hl
    generalize upd H l (.lst []) = H0 at *
    have small : ∀ n : Nat, n ≤ 5 → n < sizeLine := fun n h => Nat.lt_of_le_of_lt h (by decide)
    have ol : ∀ b s, (one b s).length ≤ 1 := fun b s => by cases b with | false => exact Nat.zero_le _ | true => exact Nat.le_refl _
    refine ⟨fun σ H' => σ = [some (.ref p.1), some (.ref l)] ∧ Same H H' ∧ H' l = some (.lst ((([] : List Str) ++ one b1 "hand").map V.str)), ?_, ?_⟩
    · refine ⟨_, rfl, _, _, b1, rfl, fun _ h => h, kt.k1, _, rfl, ?_⟩
      cases b1 with
      | false => exact iteF ⟨rfl, e0, by rw [show one false "hand" = [] from rfl, List.append_nil]; exact hl0⟩
      | true => exact iteT ⟨_, rfl, .inl ⟨rfl, _, SqL.of hl0⟩, l, _, _, rfl, rfl, hl0, small _ (by decide), rfl, same_but hl e0 hl0 (Same.refl _), by rw [upd_same]; exact congrArg (fun z => some (HO.lst z)) (snoc_str _ _)⟩
    rintro σ H1 ⟨rfl, e1, hl1⟩
    refine ⟨fun σ H' => σ = [some (.ref p.1), some (.ref l)] ∧ Same H H' ∧ H' l = some (.lst ((([] : List Str) ++ one b1 "hand" ++ one b2 "list").map V.str)), ?_, ?_⟩
    · refine ⟨_, rfl, _, _, b2, rfl, fun _ h => h, kt.k2, _, rfl, ?_⟩
      cases b2 with
      | false => exact iteF ⟨rfl, e1, by rw [show one false "list" = [] from rfl, List.append_nil]; exact hl1⟩
      | true => exact iteT ⟨_, rfl, .inl ⟨rfl, _, SqL.of hl1⟩, l, _, _, rfl, rfl, hl1, small _ (by simp only [List.length_map, List.length_append, List.length_nil]; have := ol b1 "hand"; omega), rfl, same_but hl e1 hl1 (Same.refl _), by rw [upd_same]; exact congrArg (fun z => some (HO.lst z)) (snoc_str _ _)⟩
    rintro σ H2 ⟨rfl, e2, hl2⟩
    refine ⟨fun σ H' => σ = [some (.ref p.1), some (.ref l)] ∧ Same H H' ∧ H' l = some (.lst ((([] : List Str) ++ one b1 "hand" ++ one b2 "list" ++ one b3 "other").map V.str)), ?_, ?_⟩
    · refine ⟨_, rfl, (by show 4 ≤ sizeLine; decide), fun tp htp => ⟨tp, _, _, b3, rfl, upd_same, .cons (.own _) (.cons (.own _) (.cons (.own _) (.cons (.own _) .nil))), kt.k3, _, rfl, ?_⟩⟩
      have e3 := e2.trans (same_upd (o := .tup [V.ref (He.ga K "NoLetter"), .ref (He.ga K "Fallen"), .ref (He.ga K "NotFirst"), .ref (He.ga K "NoNews")]) htp)
      have hl3 := (same_upd (o := .tup [V.ref (He.ga K "NoLetter"), .ref (He.ga K "Fallen"), .ref (He.ga K "NotFirst"), .ref (He.ga K "NoNews")]) htp) _ _ hl2
      cases b3 with
      | false => exact iteF ⟨rfl, e3, by rw [show one false "other" = [] from rfl, List.append_nil]; exact hl3⟩
      | true => exact iteT ⟨_, rfl, .inl ⟨rfl, _, SqL.of hl3⟩, l, _, _, rfl, rfl, hl3, small _ (by simp only [List.length_map, List.length_append, List.length_nil]; have := ol b1 "hand"; have := ol b2 "list"; omega), rfl, same_but hl e3 hl3 (Same.refl _), by rw [upd_same]; exact congrArg (fun z => some (HO.lst z)) (snoc_str _ _)⟩
    rintro σ H3 ⟨rfl, e3, hl3⟩
    refine ⟨fun σ H' => σ = [some (.ref p.1), some (.ref l)] ∧ Same H H' ∧ H' l = some (.lst ((([] : List Str) ++ one b1 "hand" ++ one b2 "list" ++ one b3 "other" ++ one b4 "outside").map V.str)), ?_, ?_⟩
    · refine ⟨_, rfl, _, _, b4, rfl, fun _ h => h, kt.k4, _, rfl, ?_⟩
      cases b4 with
      | false => exact iteF ⟨rfl, e3, by rw [show one false "outside" = [] from rfl, List.append_nil]; exact hl3⟩
      | true => exact iteT ⟨_, rfl, .inl ⟨rfl, _, SqL.of hl3⟩, l, _, _, rfl, rfl, hl3, small _ (by simp only [List.length_map, List.length_append, List.length_nil]; have := ol b1 "hand"; have := ol b2 "list"; have := ol b3 "other"; omega), rfl, same_but hl e3 hl3 (Same.refl _), by rw [upd_same]; exact congrArg (fun z => some (HO.lst z)) (snoc_str _ _)⟩
    rintro σ H4 ⟨rfl, e4, hl4⟩
    have hwd : ([] : List Str) ++ one b1 "hand" ++ one b2 "list" ++ one b3 "other" ++ one b4 "outside" = [word] := by
      rw [List.nil_append]
      exact hw
    rw [hwd] at hl4
    refine ⟨_, rfl, l, _, rfl, .inl (SqL.of hl4), rfl, _, rfl, iteT ⟨_, rfl, _, _, true, rfl, (fun u hu => ?_), kt.kv, _, rfl, iteT ⟨_, rfl, l, _, _, .str word, rfl, rfl, SqL.of hl4, atI_nat (j := 0) rfl, q _ e4⟩⟩⟩
    exact hu
/-- the word of a refusal -/
def word2 (e : Str) : Str := if e = "BadHand" then "hand" else if e = "BadList" then "list" else "outside"
structure KitN2 (K : PySem.W.Frag) (e : Str) : Prop where
  ex : ∃ b1 b2 b3 b4, Kit2 K (He.ga K e) b1 b2 b3 b4 ∧ words2 b1 b2 b3 b4 = [word2 e]
  fe : PySem.W.exmOne K (.ref (He.ga K e)) (.ref (He.ga K "FolkError")) = some true
theorem kit2_BadHand {K : PySem.W.Frag} {mg : Str → Option Value} (T : Txt K mg) : KitN2 K "BadHand" := ⟨⟨true, false, false, false, ⟨⟨T.ec0_BadHand, T.ec1_BadHand, T.ec2_BadHand, T.ec3_BadHand, T.ec4_BadHand, T.ec5_BadHand, T.ec6_BadHand, T.ec7_BadHand⟩, T.ki_BadHand_BadHand, T.ki_BadHand_BadList, T.kaB_BadHand, T.ki_BadHand_Outside, T.ki_BadHand_ValueError⟩, by decide +kernel⟩, T.xm_BadHand_FolkError⟩
theorem kit2_BadList {K : PySem.W.Frag} {mg : Str → Option Value} (T : Txt K mg) : KitN2 K "BadList" := ⟨⟨false, true, false, false, ⟨⟨T.ec0_BadList, T.ec1_BadList, T.ec2_BadList, T.ec3_BadList, T.ec4_BadList, T.ec5_BadList, T.ec6_BadList, T.ec7_BadList⟩, T.ki_BadList_BadHand, T.ki_BadList_BadList, T.kaB_BadList, T.ki_BadList_Outside, T.ki_BadList_ValueError⟩, by decide +kernel⟩, T.xm_BadList_FolkError⟩
theorem kit2_Outside {K : PySem.W.Frag} {mg : Str → Option Value} (T : Txt K mg) : KitN2 K "Outside" := ⟨⟨false, false, false, true, ⟨⟨T.ec0_Outside, T.ec1_Outside, T.ec2_Outside, T.ec3_Outside, T.ec4_Outside, T.ec5_Outside, T.ec6_Outside, T.ec7_Outside⟩, T.ki_Outside_BadHand, T.ki_Outside_BadList, T.kaB_Outside, T.ki_Outside_Outside, T.ki_Outside_ValueError⟩, by decide +kernel⟩, T.xm_Outside_FolkError⟩
def spW2 (K : PySem.W.Frag) (a D : Addr) : Sp := fun vs H Q _ => ∃ (b1 b2 b3 b4 : Bool) (word : Str), vs = [.ref a] ∧ Kit2 K D b1 b2 b3 b4 ∧ words2 b1 b2 b3 b4 = [word] ∧ ∀ H', Same H H' → Q (.str word) H'
theorem spW2_of {K : PySem.W.Frag} {a D : Addr} {oe : Obj} {E : XK} (hz : Zc (.ref D) none oe) (hf : ∃ us, oe.data = .fields us) : ∀ vs H Q, spW2 K a D vs H Q E → spWords2 K (a, oe) vs H Q E := fun vs H Q ⟨b1, b2, b3, b4, word, h1, h2, h3, h4⟩ => ⟨D, b1, b2, b3, b4, word, h1, h2, hz, hf, h3, h4⟩
def spMade2 (K : PySem.W.Frag) : Sp := fun vs H Q _ => ∃ (mv fv : V) (ml : Option (List Int)), vs = [mv, fv] ∧ Thg K H mv ∧ (∀ m, mv = .int m → 1 ≤ m → m ≤ 9 → LstIs K H fv m ml) ∧ (∀ e, Flk.make mv ml = .error e → ∀ H', Same H H' → Q (.str (word2 e)) H') ∧
  (∀ f, Flk.make mv ml = .ok f → ∀ p H0 g H' L, H p = none → Same H H0 → Kp p H0 g H' → FolkR K g H' p f L → Q (.ref p) H')
theorem make_err {mv : V} {ml : Option (List Int)} {e : Str} (h : Flk.make mv ml = .error e) : e = "BadHand" ∨ e = "BadList" := by
  unfold Flk.make at h
  cases mv with
  | int m =>
    dsimp only at h
    split at h
    · cases ml with
      | none => cases h; exact .inr rfl
      | some ms => cases h
    · cases h; exact .inl rfl
  | _ => cases h; exact .inl rfl
theorem lstIs_same {K : PySem.W.Frag} {H H' : Hp} (e : Same H H') {v : V} {m : Int} {ml : Option (List Int)} (h : LstIs K H v m ml) : LstIs K H' v m ml := by
  cases ml with
  | some ms =>
    obtain ⟨a, h1, h2, h3⟩ := h
    exact ⟨a, h1, e _ _ h2, h3⟩
  | none =>
    rcases h with ⟨a, xs, h1, h2, h3, h4⟩ | ⟨n, h1, h2⟩
    · exact .inl ⟨a, xs, h1, e _ _ h2, fun y hy => thg_same e (h3 y hy), h4⟩
    · exact .inr ⟨n, tyx_same e h1, h2⟩
theorem sc__law_made : FnScope ["_law_many", "_law_first", "_law_e"] ["_law_many", "_law_first"] (defScope s__law_made) := ⟨rfl, rfl, rfl, by decide +kernel, rfl, by decide +kernel, by decide +kernel⟩
set_option maxRecDepth 100000 in
theorem ok__law_made (T : Txt K mg) : OkF P w K mg base CX0 6 (He.ga K "_law_made") ["_law_many", "_law_first"] (spMade2 K) := by
  obtain ⟨fd, F⟩ := T.F__law_made
  obtain ⟨fd_Folk_init, G_Folk_init⟩ := ok_Folk_init (P := P) (w := w) (base := base) T
  obtain ⟨fd__law_words, G__law_words⟩ := ok__law_words (P := P) (w := w) (base := base) T
  refine ⟨fd, F.ok sc__law_made (fun vs H Q E h => ?_) (fun cdv A outer s H vs Q E hr h => ?_), F.bindsN fun _ _ _ _ _ _ us hl => match us, hl with | [_, _], _ => rfl, F.kp⟩
  · obtain ⟨_, _, _, rfl, _⟩ := h
    rfl
  · refine ⟨_, PSs.nox (pss_one (L2N.ps_try_as (i := 2) rfl rfl sc__law_made.nd rfl rfl ⟨rfl, by decide, .inl T.g_FolkError⟩ takes0N (fun W pn xe tk _ => (pss_one (ps_ret (pe_makeE T.mk_Folk G_Folk_init.1 (hr.mono (by decide)) rfl T.g_Folk G_Folk_init.2.1 (fun σ => L2N.passAt tk σ) (pa_cons (pv 0) (pa_cons (pv 1) pa_nil)))))) (fun a oe cls d pn hz hf => (pss_guard (p := cls = .ref (refOf cls) ∧ d = none ∧ ExcC K (refOf cls)) fun gu => (pss_one (ps_ret (pe_callE (a, oe) G__law_words.1 (roomE (hr.mono (by decide))) ⟨rfl, hf.choose, hf.choose_spec, hz.2.2 _ hf.choose_spec⟩ List.mem_cons_self (by rfl) T.g__law_words G__law_words.2.2 G__law_words.2.1 pass0 (spW2 K a (refOf cls)) (spW2_of (guard_hz gu hz.zc) hf) (pa_cons (pv 2) pa_nil)))))))), ?_⟩
    obtain ⟨mv, fv, ml, rfl, hm, hl, qe, qk⟩ := h
    refine ⟨_, rfl, _, rfl, fun p dx hp hdx hne => ?_⟩
    have e1 : Same H (upd (upd H dx (.own p)) p (.ins (He.ga K "Folk") dx [])) := (same_upd hdx).trans (same_upd (by rw [upd_ne hne.symm]; exact hp))
    refine ⟨p, dx, mv, fv, ml, rfl, upd_same, thg_same e1 hm, fun m em h1 h2 => lstIs_same e1 (hl m em h1 h2), ?_⟩
    cases hmk : Flk.make mv ml with
    | ok f => exact fun g H' L kp r => ⟨rfl, qk f hmk p _ g H' L hp e1 kp r⟩
    | error e =>
      have kn : KitN2 K e := by rcases make_err hmk with rfl | rfl; exact kit2_BadHand T; exact kit2_BadList T
      obtain ⟨⟨b1, b2, b3, b4, kt, hw⟩, hfe⟩ := kn
      exact ⟨true, hfe, fun _ a ha => ⟨⟨rfl, rfl, kt.ec⟩, _, rfl, b1, b2, b3, b4, _, rfl, kt, hw, fun H' e' => qe e hmk H' (e1.trans e')⟩, fun z => (nomatch z)⟩
theorem seat_who2 {f : Flk} {x : V} {e : Str} (h : f.who x = .error e) : f.seatOf x = .error e := by unfold Flk.seatOf; rw [h]
theorem seatOf2 {f : Flk} {i : Nat} {s : Seat} (hw : f.who (.int i) = .ok i) (h : (f.hand i).seat = some s) : f.seatOf (.int i) = .ok (i, s) := by
  unfold Flk.seatOf
  rw [hw]
  dsimp only
  rw [h]
theorem seatNo2 {f : Flk} {i : Nat} (hw : f.who (.int i) = .ok i) (h : (f.hand i).seat = none) : f.seatOf (.int i) = .error "Outside" := by
  unfold Flk.seatOf
  rw [hw]
  dsimp only
  rw [h]
/-- what is told of a hand, nothing having happened -/
def Ans2 (kind way : Nat) (ms : List Int) (H H' : Hp) (v : V) : Prop :=
  if kind = 2 then v = .str "hand" else if kind = 1 ∧ way < 4 then v = .str "outside"
  else if way = 0 then (∃ t l, v = .ref t ∧ H t = none ∧ H l = none ∧ t ≠ l ∧ H' t = some (.tup [.int 0, .ref l]) ∧ H' l = some (.lst (ms.map V.int)))
  else if way = 2 then v = .bl false else if way = 5 then v = .bl true else (∃ l, v = .ref l ∧ H l = none ∧ H' l = some (.lst []))
/-- a folk just made -/
structure C2 (f : Flk) (m : Nat) (ms : List Int) : Prop where
  len : f.hands.length = m
  up : ∀ h : Nat, h < m → (f.hand h).up = true
  yes : ∀ h : Nat, h < m → (h : Int) ∈ ms → ∃ s, (f.hand h).seat = some s ∧ s.num = 0 ∧ s.mem = ms ∧ s.row = [] ∧ s.still = false ∧ s.news = none
  no : ∀ h : Nat, h < m → (h : Int) ∉ ms → (f.hand h).seat = none
  past : ∀ h : Nat, h < m → (f.hand h).past = []
def spAsked2 (K : PySem.W.Frag) : Sp := fun vs H Q _ => ∃ (g : Gh) (fa : Addr) (f : Flk) (L : FL) (m : Nat) (ms : List Int) (kind way : Nat) (x : V), vs = [.ref fa, .int way, x] ∧ FolkR K g H fa f L ∧ C2 f m ms ∧ way ≤ 5 ∧ Thg K H x ∧ kind ≤ 2 ∧
  (if kind = 2 then f.who x = .error "BadHand" else ∃ h : Nat, h < m ∧ x = .int h ∧ ((h : Int) ∈ ms ↔ kind = 0)) ∧ ∀ v H', Same H H' → Ans2 kind way ms H H' v → Q v H'
theorem sc__law_asked : FnScope ["_law_folk", "_law_way", "_law_hand", "_law_e"] ["_law_folk", "_law_way", "_law_hand"] (defScope s__law_asked) := ⟨rfl, rfl, rfl, by decide +kernel, rfl, by decide +kernel, by decide +kernel⟩
set_option maxRecDepth 100000 in
theorem ok__law_asked (T : Txt K mg) : OkF P w K mg base CX0 6 (He.ga K "_law_asked") ["_law_folk", "_law_way", "_law_hand"] (spAsked2 K) := by
  obtain ⟨fd, F⟩ := T.F__law_asked
  obtain ⟨fd_Folk_list_of, G_Folk_list_of⟩ := ok_Folk_list_of (P := P) (w := w) (base := base) T
  obtain ⟨fd_Folk_taken, G_Folk_taken⟩ := ok_Folk_taken (P := P) (w := w) (base := base) T
  obtain ⟨fd_Folk_is_still, G_Folk_is_still⟩ := ok_Folk_is_still (P := P) (w := w) (base := base) T
  obtain ⟨fd_Folk_witness, G_Folk_witness⟩ := ok_Folk_witness (P := P) (w := w) (base := base) T
  obtain ⟨fd_Folk_past, G_Folk_past⟩ := ok_Folk_past (P := P) (w := w) (base := base) T
  obtain ⟨fd_Folk_stands, G_Folk_stands⟩ := ok_Folk_stands (P := P) (w := w) (base := base) T
  obtain ⟨fd__law_words, G__law_words⟩ := ok__law_words (P := P) (w := w) (base := base) T
  refine ⟨fd, F.ok sc__law_asked (fun vs H Q E h => ?_) (fun cdv A outer s H vs Q E hr h => ?_), F.bindsN fun _ _ _ _ _ _ us hl => match us, hl with | [_, _, _], _ => rfl, F.kp⟩
  · obtain ⟨_, _, _, _, _, _, _, _, _, rfl, _⟩ := h
    rfl
  · refine ⟨_, PSs.nox (pss_one (L2N.ps_try_as (i := 3) rfl rfl sc__law_asked.nd rfl rfl ⟨rfl, by decide, .inl T.g_FolkError⟩ takes0N (fun W pn xe tk _ => (pss_cons (ps_if (pt_cmpR op_eq (pv 1) pe_int (nomark _)) (pss_one (ps_ret (pe_methE (pv 0) T.cl_Folk T.me_Folk_list_of G_Folk_list_of.1 (hr.mono (by decide)) G_Folk_list_of.2.1 (fun σ => L2N.passAt tk σ) (pa_cons (pv 2) pa_nil)))) pss_nil) (pss_cons (ps_if (pt_cmpR op_eq (pv 1) pe_int (nomark _)) (pss_one (ps_ret (pe_methE (pv 0) T.cl_Folk T.me_Folk_taken G_Folk_taken.1 (hr.mono (by decide)) G_Folk_taken.2.1 (fun σ => L2N.passAt tk σ) (pa_cons (pv 2) pa_nil)))) pss_nil) (pss_cons (ps_if (pt_cmpR op_eq (pv 1) pe_int (nomark _)) (pss_one (ps_ret (pe_methE (pv 0) T.cl_Folk T.me_Folk_is_still G_Folk_is_still.1 (hr.mono (by decide)) G_Folk_is_still.2.1 (fun σ => L2N.passAt tk σ) (pa_cons (pv 2) pa_nil)))) pss_nil) (pss_cons (ps_if (pt_cmpR op_eq (pv 1) pe_int (nomark _)) (pss_one (ps_ret (pe_methE (pv 0) T.cl_Folk T.me_Folk_witness G_Folk_witness.1 (hr.mono (by decide)) G_Folk_witness.2.1 (fun σ => L2N.passAt tk σ) (pa_cons (pv 2) pa_nil)))) pss_nil) (pss_cons (ps_if (pt_cmpR op_eq (pv 1) pe_int (nomark _)) (pss_one (ps_ret (pe_methE (pv 0) T.cl_Folk T.me_Folk_past G_Folk_past.1 (hr.mono (by decide)) G_Folk_past.2.1 (fun σ => L2N.passAt tk σ) (pa_cons (pv 2) pa_nil)))) pss_nil) (pss_one (ps_ret (pe_methE (pv 0) T.cl_Folk T.me_Folk_stands G_Folk_stands.1 (hr.mono (by decide)) G_Folk_stands.2.1 (fun σ => L2N.passAt tk σ) (pa_cons (pv 2) pa_nil)))))))))) (fun a oe cls d pn hz hf => (pss_guard (p := cls = .ref (refOf cls) ∧ d = none ∧ ExcC K (refOf cls)) fun gu => (pss_one (ps_ret (pe_callE (a, oe) G__law_words.1 (roomE (hr.mono (by decide))) ⟨rfl, hf.choose, hf.choose_spec, hz.2.2 _ hf.choose_spec⟩ List.mem_cons_self (by rfl) T.g__law_words G__law_words.2.2 G__law_words.2.1 pass0 (spW2 K a (refOf cls)) (spW2_of (guard_hz gu hz.zc) hf) (pa_cons (pv 3) pa_nil)))))))), ?_⟩
    obtain ⟨g, fa, f, L, m, ms, kind, way, x, rfl, r, c, hway, hx, hk, hkx, q⟩ := h
    have ro := r.ok.sub _ _ r.obj
    by_cases hk2 : kind = 2
    · rw [if_pos hk2] at hkx
      have hs := seat_who2 hkx
      obtain ⟨⟨b1, b2, b3, b4, kt, hw⟩, hfe⟩ := kit2_BadHand T
      have fin : ∀ H', Same H H' → Q (.str (word2 "BadHand")) H' := fun H' e => q _ H' e (by unfold Ans2; rw [if_pos hk2]; rw [show word2 "BadHand" = "hand" by decide +kernel])
      refine ⟨_, rfl, rfl, _, rfl, iteI (fun e0 => ?_) (fun e0 => ⟨_, rfl, rfl, _, rfl, iteI (fun e1 => ?_) (fun e1 => ⟨_, rfl, rfl, _, rfl, iteI (fun e2 => ?_) (fun e2 => ⟨_, rfl, rfl, _, rfl, iteI (fun e3 => ?_) (fun e3 => ⟨_, rfl, rfl, _, rfl, iteI (fun e4 => ?_) (fun e4 => ?_)⟩)⟩)⟩)⟩)⟩
      all_goals refine ⟨_, rfl, _, _, _, rfl, ro, zn (by decide +kernel), _, rfl, g, fa, f, L, x, rfl, r, hx, ?_⟩
      all_goals first | rw [hs] | rw [hkx]
      all_goals exact ⟨true, hfe, fun _ a ha => ⟨⟨rfl, rfl, kt.ec⟩, _, rfl, b1, b2, b3, b4, _, rfl, kt, hw, fin⟩, fun z => (nomatch z)⟩
    rw [if_neg hk2] at hkx
    obtain ⟨h, hh, rfl, hm⟩ := hkx
    have hw := who_in (f := f) (i := h) (by rw [c.len]; exact hh)
    by_cases hk0 : kind = 0
    · have him := hm.mpr hk0
      obtain ⟨s, g1, g2, g3, g4, g5, g6⟩ := c.yes h hh him
      have hs := seatOf2 hw g1
      have ans : ∀ {w : Nat} {H' : Hp} {v : V}, way = w → (if w = 0 then (∃ t l, v = .ref t ∧ H t = none ∧ H l = none ∧ t ≠ l ∧ H' t = some (.tup [.int 0, .ref l]) ∧ H' l = some (.lst (ms.map V.int))) else if w = 2 then v = .bl false else if w = 5 then v = .bl true else (∃ l, v = .ref l ∧ H l = none ∧ H' l = some (.lst []))) → Ans2 kind way ms H H' v := fun {w H' v} e z => by
        unfold Ans2
        rw [if_neg hk2, if_neg (by omega), e]
        exact z
      refine ⟨_, rfl, rfl, _, rfl, iteI (fun e0 => ?_) (fun e0 => ⟨_, rfl, rfl, _, rfl, iteI (fun e1 => ?_) (fun e1 => ⟨_, rfl, rfl, _, rfl, iteI (fun e2 => ?_) (fun e2 => ⟨_, rfl, rfl, _, rfl, iteI (fun e3 => ?_) (fun e3 => ⟨_, rfl, rfl, _, rfl, iteI (fun e4 => ?_) (fun e4 => ?_)⟩)⟩)⟩)⟩)⟩
      all_goals refine ⟨_, rfl, _, _, _, rfl, ro, zn (by decide +kernel), _, rfl, g, fa, f, L, _, rfl, r, thg_int, ?_⟩
      · rw [hs]
        intro l t hl ht nt
        refine q _ _ ((same_upd hl).trans (same_upd (by rw [upd_ne nt]; exact ht))) (ans (w := 0) (by omega) ?_)
        rw [if_pos rfl]
        exact ⟨t, l, rfl, ht, hl, nt, by rw [upd_same, g2], by rw [upd_ne nt.symm, upd_same, g3]⟩
      · rw [hs]
        intro l xs hl p
        have hx0 : xs = [] := by
          have := paired_len p
          rw [g4, List.take_nil] at this
          exact List.length_eq_zero_iff.mp this
        subst hx0
        exact q _ _ (same_upd hl) (ans (w := 1) (by omega) ⟨l, rfl, hl, upd_same⟩)
      · rw [hs]
        exact q _ _ (Same.refl _) (ans (w := 2) (by omega) (by rw [if_neg (by decide), if_pos rfl]; dsimp only; rw [g5]))
      · rw [hs]
        intro l hl
        refine q _ _ (same_upd hl) (ans (w := 3) (by omega) ⟨l, rfl, hl, ?_⟩)
        rw [upd_same]
        dsimp only
        rw [g6]
        rfl
      · rw [hw]
        refine ⟨by rw [c.past h hh]; exact Nat.zero_le _, fun l xs H' hl e h1 p _ => ?_⟩
        rw [c.past h hh] at p
        cases p
        exact q _ _ e (ans (w := 4) (by omega) ⟨l, rfl, hl, h1⟩)
      · rw [hw]
        exact q _ _ (Same.refl _) (ans (w := 5) (by omega) (by rw [if_neg (by decide), if_neg (by decide), if_pos rfl, c.up h hh]))
    · have him : (h : Int) ∉ ms := fun z => hk0 (hm.mp z)
      have g1 := c.no h hh him
      have hs := seatNo2 hw g1
      obtain ⟨⟨b1, b2, b3, b4, kt, hwd⟩, hfe⟩ := kit2_Outside T
      have fin : way < 4 → ∀ H', Same H H' → Q (.str (word2 "Outside")) H' := fun hw4 H' e => q _ H' e (by unfold Ans2; rw [if_neg hk2, if_pos ⟨by omega, hw4⟩]; rw [show word2 "Outside" = "outside" by decide +kernel])
      refine ⟨_, rfl, rfl, _, rfl, iteI (fun e0 => ?_) (fun e0 => ⟨_, rfl, rfl, _, rfl, iteI (fun e1 => ?_) (fun e1 => ⟨_, rfl, rfl, _, rfl, iteI (fun e2 => ?_) (fun e2 => ⟨_, rfl, rfl, _, rfl, iteI (fun e3 => ?_) (fun e3 => ⟨_, rfl, rfl, _, rfl, iteI (fun e4 => ?_) (fun e4 => ?_)⟩)⟩)⟩)⟩)⟩
      all_goals refine ⟨_, rfl, _, _, _, rfl, ro, zn (by decide +kernel), _, rfl, g, fa, f, L, _, rfl, r, thg_int, ?_⟩
      all_goals first | (rw [hs]; exact ⟨true, hfe, fun _ a ha => ⟨⟨rfl, rfl, kt.ec⟩, _, rfl, b1, b2, b3, b4, _, rfl, kt, hwd, fin (by omega)⟩, fun z => (nomatch z)⟩) | skip
      · rw [hw]
        refine ⟨by rw [c.past h hh]; exact Nat.zero_le _, fun l xs H' hl e h1 p _ => ?_⟩
        rw [c.past h hh] at p
        cases p
        refine q _ _ e ?_
        unfold Ans2
        rw [if_neg hk2, if_neg (by omega), if_neg (by omega), if_neg (by omega), if_neg (by omega)]
        exact ⟨l, rfl, hl, h1⟩
      · rw [hw]
        refine q _ _ (Same.refl _) ?_
        unfold Ans2
        rw [if_neg hk2, if_neg (by omega), if_neg (by omega), if_neg (by omega), if_pos (by omega), c.up h hh]

end
end Fo
namespace Fo
open PySem PySem.Spec PyProof.Rows L2
section
variable {P : Program} {w : World} {K : PySem.W.Frag} {mg : Str → Option Value} {base : Heap}
/-! ### the data told -/
def dat2 (kind way : Nat) (ms : List Int) : PyData := if kind = 1 ∧ way < 4 then .str "outside" else if way = 0 then .tuple [.int 0, .list (ms.map PyData.int)] else if way = 2 then .bool false else if way = 5 then .bool true else .list []
def tn2 (kind way : Nat) : String := if kind = 1 ∧ way < 4 then "str" else if way = 0 then "tuple" else if way = 2 then "bool" else if way = 5 then "bool" else "list"
theorem dat2_sh (kind way : Nat) (ms : List Int) : SeqAt.shaped (dat2 kind way ms) = true := by
  unfold dat2
  split
  · decide +kernel
  split
  · refine Sd.shaped ⟨?_, ?_⟩
    · have := (sdAll_ints ms).1
      simp [PyData.canLay0, PyData.canLayAll0, this]
    · have hd : ∀ ns : List Int, PyData.depthAll (ns.map PyData.int) = 0 := fun ns => by
        induction ns with
        | nil => simp [PyData.depthAll]
        | cons n ns ih => simp only [List.map_cons, PyData.depthAll, ih, PyData.depth]; rfl
      simp only [PyData.depth, PyData.depthAll, hd ms]
      decide
  split
  · decide +kernel
  split
  · decide +kernel
  · decide +kernel
theorem kb_bool (kind way : Nat) : kitB (tn2 kind way) "bool" = some (decide (tn2 kind way = "bool")) := by
  unfold tn2
  repeat' split
  all_goals decide +kernel
theorem kb_list (kind way : Nat) : kitB (tn2 kind way) "list" = some (decide (tn2 kind way = "list")) := by
  unfold tn2
  repeat' split
  all_goals decide +kernel
theorem kb_tuple (kind way : Nat) : kitB (tn2 kind way) "tuple" = some (decide (tn2 kind way = "tuple")) := by
  unfold tn2
  repeat' split
  all_goals decide +kernel
theorem tn_list {kind way : Nat} (h : tn2 kind way = "list") : ¬ (kind = 1 ∧ way < 4) ∧ way ≠ 0 ∧ way ≠ 2 ∧ way ≠ 5 := by
  unfold tn2 at h
  split at h
  · exact absurd h (by decide)
  split at h
  · exact absurd h (by decide)
  split at h
  · exact absurd h (by decide)
  split at h
  · exact absurd h (by decide)
  · exact ⟨by assumption, by assumption, by assumption, by assumption⟩
theorem tn_tuple {kind way : Nat} (h : tn2 kind way = "tuple") : ¬ (kind = 1 ∧ way < 4) ∧ way = 0 := by
  unfold tn2 at h
  split at h
  · exact absurd h (by decide)
  split at h
  · exact ⟨by assumption, by assumption⟩
  split at h
  · exact absurd h (by decide)
  split at h
  · exact absurd h (by decide)
  · exact absurd h (by decide)
/-- a value told, as data -/
structure Val2 (K : PySem.W.Frag) (kind way : Nat) (ms : List Int) (H : Hp) (v : V) : Prop where
  dp : Dp K H v (dat2 kind way ms)
  ty : TyX K H v (.type (tn2 kind way))
theorem Val2.same {K : PySem.W.Frag} {kind way : Nat} {ms : List Int} {H H' : Hp} {v : V} (e : Same H H') (h : Val2 K kind way ms H v) : Val2 K kind way ms H' v := ⟨dp_same e h.dp, tyx_same e h.ty⟩
theorem ans_val {K : PySem.W.Frag} {kind way : Nat} {ms : List Int} {H H' : Hp} {v : V} (hk : kind ≠ 2) (h : Ans2 kind way ms H H' v) : Val2 K kind way ms H' v := by
  unfold Ans2 at h
  rw [if_neg hk] at h
  have d : ∀ {x : PyData} {n : String}, dat2 kind way ms = x → tn2 kind way = n → Dp K H' v x → TyX K H' v (.type n) → Val2 K kind way ms H' v := fun e1 e2 a b => ⟨by rw [e1]; exact a, by rw [e2]; exact b⟩
  by_cases h1 : kind = 1 ∧ way < 4
  · rw [if_pos h1] at h
    subst h
    exact d (by unfold dat2; rw [if_pos h1]) (by unfold tn2; rw [if_pos h1]) (.str _) (.base (.str _))
  rw [if_neg h1] at h
  by_cases h2 : way = 0
  · rw [if_pos h2] at h
    obtain ⟨t, l, rfl, _, _, _, g1, g2⟩ := h
    exact d (by unfold dat2; rw [if_neg h1, if_pos h2]) (by unfold tn2; rw [if_neg h1, if_pos h2]) (.tup (.inl (.inl g1)) (.cons (.int 0) (.cons (.lst (SqL.of g2) (dpAll_ints ms)) .nil))) (.base (.tup g1))
  rw [if_neg h2] at h
  by_cases h3 : way = 2
  · rw [if_pos h3] at h
    subst h
    exact d (by unfold dat2; rw [if_neg h1, if_neg h2, if_pos h3]) (by unfold tn2; rw [if_neg h1, if_neg h2, if_pos h3]) (.bl _) (.base (.bl _))
  rw [if_neg h3] at h
  by_cases h4 : way = 5
  · rw [if_pos h4] at h
    subst h
    exact d (by unfold dat2; rw [if_neg h1, if_neg h2, if_neg h3, if_pos h4]) (by unfold tn2; rw [if_neg h1, if_neg h2, if_neg h3, if_pos h4]) (.bl _) (.base (.bl _))
  rw [if_neg h4] at h
  obtain ⟨l, rfl, _, g⟩ := h
  exact d (by unfold dat2; rw [if_neg h1, if_neg h2, if_neg h3, if_neg h4]) (by unfold tn2; rw [if_neg h1, if_neg h2, if_neg h3, if_neg h4]) (.lst (SqL.of g) .nil) (.base (.lst g))
def spRight2 (K : PySem.W.Frag) : Sp := fun vs H Q _ => ∃ (g : Gh) (fa : Addr) (f : Flk) (L : FL) (m : Nat) (ms : List Int) (qa : Addr) (h : Nat), vs = [.ref fa, .ref qa, .int h] ∧ FolkR K g H fa f L ∧ C2 f m ms ∧ h < m ∧ ms.length ≤ 9 ∧ SqL K H qa (ms.map V.int) ∧ ∀ H', Same H H' → Q (.bl true) H'
theorem sc__law_right : FnScope ["_law_folk", "_law_first", "_law_hand", "_law_due", "_law_way", "_law_found"] ["_law_folk", "_law_first", "_law_hand"] (defScope s__law_right) := ⟨rfl, rfl, rfl, by decide +kernel, rfl, by decide +kernel, by decide +kernel⟩
set_option maxRecDepth 100000 in
theorem ok__law_right (T : Txt K mg) : OkF P w K mg base CX0 7 (He.ga K "_law_right") ["_law_folk", "_law_first", "_law_hand"] (spRight2 K) := by
  obtain ⟨fd, F⟩ := T.F__law_right
  obtain ⟨fd__law_asked, G__law_asked⟩ := ok__law_asked (P := P) (w := w) (base := base) T
  refine ⟨fd, F.ok sc__law_right (fun vs H Q E h => ?_) (fun cdv A outer s H vs Q E hr h => ?_), F.bindsN fun _ _ _ _ _ _ us hl => match us, hl with | [_, _, _], _ => rfl, F.kp⟩
  · obtain ⟨_, _, _, _, _, _, _, _, rfl, _⟩ := h
    rfl
  · refine ⟨_, PSs.nox (pss_cons (ps_set (i := 3) sc__law_right.nd rfl (Or.inl rfl) (pe_lst (pa_cons (pe_tup (pa_cons pe_int (pa_cons (pv 1) pa_nil))) (pa_cons (pe_lst pa_nil) (pa_cons pe_bl (pa_cons (pe_lst pa_nil) (pa_cons (pe_lst pa_nil) (pa_cons pe_bl pa_nil)))))))) (C8.pss_cut (ps_if (pt_cmpR op_notIn_seq (pv 2) (pv 1) (by rfl)) (pss_one (ps_set (i := 3) sc__law_right.nd rfl (Or.inl rfl) (pe_lst (pa_cons pe_str (pa_cons pe_str (pa_cons pe_str (pa_cons pe_str (pa_cons (pe_lst pa_nil) (pa_cons pe_bl pa_nil))))))))) pss_nil) (pss_cons (ps_for PassesOwn.never rfl (pi_range1 rfl T.b_range (pa_cons pe_int pa_nil)) (pg_name (i := 4) sc__law_right.nd rfl (Or.inl rfl)) (pss_cons (ps_set (i := 5) sc__law_right.nd rfl (Or.inl rfl) (pe_call G__law_asked.1 (hr.mono (by decide)) rfl T.g__law_asked G__law_asked.2.2 G__law_asked.2.1 .nil pass0 (pa_cons (pv 0) (pa_cons (pv 4) (pa_cons (pv 2) pa_nil))))) (pss_cons (ps_if (PW.pt (pw_or (pt_cmpR (op_neD hr.u64) (pv 5) (pe_ix ix_list (pv 3) (pv 4) (fun _ _ => rfl)) (nomark _)) (pw_or1 (pt_cmpR op_ne (pe_callB call_isi (by rfl) T.b_isinstance (by decide +kernel) (pa_cons (pv 5) (pa_cons (pe_bltn (v := .ty "bool") (u := .type "bool") (by rfl) T.b_bool (by decide +kernel) rfl) pa_nil))) (pe_callB call_isi (by rfl) T.b_isinstance (by decide +kernel) (pa_cons (pe_ix ix_list (pv 3) (pv 4) (fun _ _ => rfl)) (pa_cons (pe_bltn (v := .ty "bool") (u := .type "bool") (by rfl) T.b_bool (by decide +kernel) rfl) pa_nil))) (nomark _))))) (pss_one (ps_ret pe_bl)) pss_nil) (C8.pss_cut (ps_if (pt_val (pe_callB call_isi (by rfl) T.b_isinstance (by decide +kernel) (pa_cons (pv 5) (pa_cons (pe_bltn (v := .ty "list") (u := .type "list") (by rfl) T.b_list (by decide +kernel) rfl) pa_nil)))) (pss_one (ps_expr (pe_bm PySem.F.plainAttrs_list PySem.F.slot_list_append PySem.F.type_list_append mt_append (pv 5) (pa_cons pe_int pa_nil)))) pss_nil) (C8.pss_cut (ps_if (pt_val (pe_callB call_isi (by rfl) T.b_isinstance (by decide +kernel) (pa_cons (pv 5) (pa_cons (pe_bltn (v := .ty "tuple") (u := .type "tuple") (by rfl) T.b_tuple (by decide +kernel) rfl) pa_nil)))) (pss_one (ps_expr (pe_bm PySem.F.plainAttrs_list PySem.F.slot_list_append PySem.F.type_list_append mt_append (pe_ix ix_tup (pv 5) pe_int (fun _ _ => rfl)) (pa_cons pe_int pa_nil)))) pss_nil) (pss_one (ps_if (pt_cmpR (op_neD hr.u64) (pe_call G__law_asked.1 (hr.mono (by decide)) rfl T.g__law_asked G__law_asked.2.2 G__law_asked.2.1 .nil pass0 (pa_cons (pv 0) (pa_cons (pv 4) (pa_cons (pv 2) pa_nil)))) (pe_ix ix_list (pv 3) (pv 4) (fun _ _ => rfl)) (nomark _)) (pss_one (ps_ret pe_bl)) pss_nil))))))) (pss_one (ps_ret pe_bl))))), ?_⟩
    obtain ⟨g, fa, f, L, m, ms, qa, h, rfl, r, c, hh, hml, hq, q⟩ := h
    obtain ⟨kind, hkind⟩ : ∃ kind : Nat, kind = if (h : Int) ∈ ms then 0 else 1 := ⟨_, rfl⟩
    have hk : kind ≤ 1 := by rw [hkind]; split <;> omega
    have hk0 : (h : Int) ∈ ms ↔ kind = 0 := by
      rw [hkind]
      split
      · rename_i z
        exact ⟨fun _ => rfl, fun _ => z⟩
      · rename_i z
        exact ⟨fun w => absurd w z, fun w => by omega⟩
    have pre : ∀ (H1 : Hp) (way : Nat) (Q1 : VK), Same H H1 → way < 6 → (∀ v H', Same H1 H' → Ans2 kind way ms H1 H' v → Q1 v H') → spAsked2 K [.ref fa, .int way, .int h] H1 Q1 E0 := fun H1 way Q1 e hw q1 =>
      ⟨g, fa, f, L, m, ms, kind, way, .int h, rfl, r.ext e, c, by omega, thg_int, by omega, by rw [if_neg (by omega)]; exact ⟨h, hh, rfl, hk0⟩, q1⟩
    refine ⟨_, rfl, (by show 2 ≤ sizeLine; decide), fun t ht => ⟨Nat.zero_le _, fun l1 h1 => ⟨Nat.zero_le _, fun l3 h3 => ⟨Nat.zero_le _, fun l4 h4 => ⟨(by show 6 ≤ sizeLine; decide), fun lo hlo => ?_⟩⟩⟩⟩⟩
    have f1 := same_upd (o := .tup [V.int 0, .ref qa]) ht
    have f2 := same_upd (o := .lst []) h1
    have f3 := same_upd (o := .lst []) h3
    have f4 := same_upd (o := .lst []) h4
    have f5 := same_upd (o := .lst [V.ref t, .ref l1, .bl false, .ref l3, .ref l4, .bl true]) hlo
    have f45 := f4.trans f5
    have f35 := f3.trans f45
    have f25 := f2.trans f35
    have f15 := f1.trans f25
    have q1 := f25 _ _ (upd_same (H := H) (a := t) (o := .tup [V.int 0, .ref qa]))
    have q2 := f35 _ _ (upd_same (a := l1) (o := .lst []))
    have q3 := f45 _ _ (upd_same (a := l3) (o := .lst []))
    have q4 := f5 _ _ (upd_same (a := l4) (o := .lst []))
    have q5 := upd_same (H := upd (upd (upd (upd H t (.tup [V.int 0, .ref qa])) l1 (.lst [])) l3 (.lst [])) l4 (.lst [])) (a := lo) (o := .lst [V.ref t, .ref l1, .bl false, .ref l3, .ref l4, .bl true])
    generalize upd (upd (upd (upd (upd H t (.tup [V.int 0, .ref qa])) l1 (.lst [])) l3 (.lst [])) l4 (.lst [])) lo (.lst [V.ref t, .ref l1, .bl false, .ref l3, .ref l4, .bl true]) = H5 at *
    clear f1 f2 f3 f4 f5 f45 f35 f25
    have vl : ∀ {Hx : Hp} {l : Addr} {way : Nat}, (¬ (kind = 1 ∧ way < 4)) → way ≠ 0 → way ≠ 2 → way ≠ 5 → Hx l = some (.lst []) → Val2 K kind way ms Hx (.ref l) := fun a1 a2 a3 a4 hl => ⟨by unfold dat2; rw [if_neg a1, if_neg a2, if_neg a3, if_neg a4]; exact .lst (SqL.of hl) .nil, by unfold tn2; rw [if_neg a1, if_neg a2, if_neg a3, if_neg a4]; exact .base (.lst hl)⟩
    have vb2 : ∀ {Hx : Hp}, kind = 0 → Val2 K kind 2 ms Hx (.bl false) := fun z => ⟨by unfold dat2; rw [if_neg (by omega), if_neg (by decide), if_pos rfl]; exact .bl _, by unfold tn2; rw [if_neg (by omega), if_neg (by decide), if_pos rfl]; exact .base (.bl _)⟩
    have vb5 : ∀ {Hx : Hp}, Val2 K kind 5 ms Hx (.bl true) := ⟨by unfold dat2; rw [if_neg (by omega), if_neg (by decide), if_neg (by decide), if_pos rfl]; exact .bl _, by unfold tn2; rw [if_neg (by omega), if_neg (by decide), if_neg (by decide), if_pos rfl]; exact .base (.bl _)⟩
    have vs1 : ∀ {Hx : Hp} {way : Nat}, kind = 1 → way < 4 → Val2 K kind way ms Hx (.str "outside") := fun z1 z2 => ⟨by unfold dat2; rw [if_pos ⟨z1, z2⟩]; exact .str _, by unfold tn2; rw [if_pos ⟨z1, z2⟩]; exact .base (.str _)⟩
    refine ⟨fun σ H' => ∃ lo dvs, σ = [some (.ref fa), some (.ref qa), some (.int h), some (.ref lo), none, none] ∧ Same H H' ∧ H' lo = some (.lst dvs) ∧ ∀ way, way < 6 → ∃ v, dvs[way]? = some v ∧ Val2 K kind way ms H' v, ?_, ?_⟩
    · refine ⟨_, rfl, _, rfl, qa, _, rfl, .inl (f15.seq hq), rfl, flat_ints ms, _, rfl, ?_⟩
      rw [inV_ints]
      by_cases hm : (h : Int) ∈ ms
      · rw [decide_eq_true hm]
        have hk00 := hk0.mp hm
        refine iteF ⟨lo, _, rfl, f15, q5, fun way hw => ?_⟩
        match way, hw with
        | 0, _ => exact ⟨_, rfl, ⟨by unfold dat2; rw [if_neg (by omega), if_pos rfl]; exact .tup (.inl (.inl q1)) (.cons (.int 0) (.cons (.lst (f15.seq hq) (dpAll_ints ms)) .nil)), by unfold tn2; rw [if_neg (by omega), if_pos rfl]; exact .base (.tup q1)⟩⟩
        | 1, _ => exact ⟨_, rfl, vl (by omega) (by decide) (by decide) (by decide) q2⟩
        | 2, _ => exact ⟨_, rfl, vb2 hk00⟩
        | 3, _ => exact ⟨_, rfl, vl (by omega) (by decide) (by decide) (by decide) q3⟩
        | 4, _ => exact ⟨_, rfl, vl (by omega) (by decide) (by decide) (by decide) q4⟩
        | 5, _ => exact ⟨_, rfl, vb5⟩
      · rw [decide_eq_false hm]
        have hk1 : kind = 1 := by
          have : kind ≠ 0 := fun z => hm (hk0.mpr z)
          omega
        refine iteT ⟨Nat.zero_le _, fun l6 h6 => ⟨(by show 6 ≤ sizeLine; decide), fun l7 h7 => ⟨l7, _, rfl, f15.trans ((same_upd h6).trans (same_upd h7)), upd_same, fun way hw => ?_⟩⟩⟩
        have q6 := (same_upd (o := .lst [V.str "outside", .str "outside", .str "outside", .str "outside", .ref l6, .bl true]) h7) _ _ (upd_same (H := H5) (a := l6) (o := .lst []))
        match way, hw with
        | 0, _ => exact ⟨_, rfl, vs1 hk1 (by decide)⟩
        | 1, _ => exact ⟨_, rfl, vs1 hk1 (by decide)⟩
        | 2, _ => exact ⟨_, rfl, vs1 hk1 (by decide)⟩
        | 3, _ => exact ⟨_, rfl, vs1 hk1 (by decide)⟩
        | 4, _ => exact ⟨_, rfl, vl (by omega) (by decide) (by decide) (by decide) q6⟩
        | 5, _ => exact ⟨_, rfl, vb5⟩
    clear q1 q2 q3 q4 q5 f15 vl vb2 vb5 vs1
    rintro σ H6 ⟨lo, dvs, rfl, e6, hdv, hdd⟩
    refine ⟨6, rfl, by decide, by decide, for_range (lo := 0) (n := 6) (fun i σ H' => ∃ wv fv, σ = [some (.ref fa), some (.ref qa), some (.int h), some (.ref lo), wv, fv] ∧ Same H6 H') ⟨none, none, rfl, Same.refl _⟩ ?_ ?_⟩
    · rintro i σ H7 hi ⟨wv, fv, rfl, e7⟩
      have e67 := e6.trans e7
      obtain ⟨dv, hdvi, hval⟩ := hdd i hi
      rw [Int.zero_add]
      refine ⟨_, rfl, _, rfl, _, rfl, ?_⟩
      dsimp only [tNil]
      refine pre H7 i _ e67 hi fun v H8 e8 ans => ?_
      have va : Val2 K kind i ms H8 v := ans_val (by omega) ans
      have vd := hval.same (e7.trans e8)
      have hlo8 := (e7.trans e8) _ _ hdv
      have sh := dat2_sh kind i ms
      refine ⟨_, rfl, _, rfl, _, rfl, lo, _, _, dv, rfl, rfl, SqL.of hlo8, atI_nat hdvi, _, _, va.dp, vd.dp, sh, sh, _, rfl, ?_⟩
      rw [PySem.SeqAt.eqv_refl _ (SeqAt.canLay_of_shaped sh)]
      refine iteF ⟨_, rfl, _, _, _, _, _, rfl, .ty _, va.ty, kit_ty (kb_bool kind i), _, rfl, _, rfl, lo, _, _, dv, rfl, rfl, SqL.of hlo8, atI_nat hdvi, _, _, _, _, _, rfl, .ty _, vd.ty, kit_ty (kb_bool kind i), rfl, _, rfl, ?_⟩
      rw [show (!decide (V.bl (decide (tn2 kind i = "bool")) = V.bl (decide (tn2 kind i = "bool")))) = false by simp]
      refine iteF ⟨fun σ H' => σ = [some (.ref fa), some (.ref qa), some (.int h), some (.ref lo), some (.int i), some v] ∧ Same H7 H' ∧ TyX K H' v (.type (tn2 kind i)) ∧ (tn2 kind i = "tuple" → ∃ t l, v = .ref t ∧ H7 l = none ∧ H' t = some (.tup [.int 0, .ref l]) ∧ t ≠ l ∧ H' l = some (.lst (ms.map V.int))), ?_, ?_⟩
      · refine ⟨_, rfl, _, _, _, _, _, rfl, .ty _, va.ty, kit_ty (kb_list kind i), _, rfl, iteD (fun hl => ?_) (fun hl => ?_)⟩
        · obtain ⟨a1, a2, a3, a4⟩ := tn_list hl
          unfold Ans2 at ans
          rw [if_neg (by omega), if_neg a1, if_neg a2, if_neg a3, if_neg a4] at ans
          obtain ⟨l, rfl, g1, g2⟩ := ans
          refine ⟨_, rfl, .inl ⟨rfl, _, SqL.of g2⟩, l, _, _, rfl, rfl, g2, (by decide), rfl, same_but g1 e8 g2 (Same.refl _), ?_, fun z => ?_⟩
          · rw [hl]
            exact .base (.lst upd_same)
          · rw [hl] at z
            exact absurd z (by decide)
        · refine ⟨rfl, e8, va.ty, fun z => ?_⟩
          obtain ⟨a1, a2⟩ := tn_tuple z
          unfold Ans2 at ans
          rw [if_neg (by omega), if_neg a1, if_pos a2] at ans
          obtain ⟨t, l, rfl, g1, g2, g3, g4, g5⟩ := ans
          exact ⟨t, l, rfl, g2, g4, g3, g5⟩
      rintro σ H9 ⟨rfl, e9, ty9, tu9⟩
      refine ⟨fun σ H' => σ = [some (.ref fa), some (.ref qa), some (.int h), some (.ref lo), some (.int i), some v] ∧ Same H7 H', ?_, ?_⟩
      · refine ⟨_, rfl, _, _, _, _, _, rfl, .ty _, ty9, kit_ty (kb_tuple kind i), _, rfl, iteD (fun hl => ?_) (fun _ => ⟨rfl, e9⟩)⟩
        obtain ⟨t, l, rfl, g1, g2, g3, g4⟩ := tu9 hl
        refine ⟨_, rfl, t, _, _, .ref l, rfl, rfl, .inl (.inl g2), atI_nat (j := 1) rfl, .inl ⟨rfl, _, SqL.of g4⟩, l, _, _, rfl, rfl, g4, ?_, rfl, same_but g1 e9 g4 (Same.refl _)⟩
        rw [List.length_map]
        exact Nat.lt_of_le_of_lt hml (by decide)
      rintro σ H10 ⟨rfl, e10⟩
      refine ⟨_, rfl, _, rfl, _, rfl, ?_⟩
      dsimp only [tNil]
      refine pre H10 i _ (e67.trans e10) hi fun v2 H11 e11 ans2 => ?_
      have va2 : Val2 K kind i ms H11 v2 := ans_val (by omega) ans2
      have e711 := e10.trans e11
      have vd2 := hval.same (e7.trans e711)
      refine ⟨_, rfl, _, rfl, lo, _, _, dv, rfl, rfl, SqL.of ((e7.trans e711) _ _ hdv), atI_nat hdvi, _, _, va2.dp, vd2.dp, sh, sh, _, rfl, ?_⟩
      rw [PySem.SeqAt.eqv_refl _ (SeqAt.canLay_of_shaped sh)]
      exact iteF ⟨_, _, rfl, e7.trans e711⟩
    · rintro σ H7 ⟨wv, fv, rfl, e7⟩
      exact q _ (e6.trans e7)

end
end Fo
namespace Fo
open PySem PySem.Spec PyProof.Rows L2
section
variable {P : Program} {w : World} {K : PySem.W.Frag} {mg : Str → Option Value} {base : Heap}
def spLaw (K : PySem.W.Frag) : Sp := fun vs H Q _ => ∃ (a : Addr) (ns : List Int), vs = [.ref a] ∧ SqL K H a (ns.map V.int) ∧ ns.length ≤ 63 ∧ ∀ H', Q (.bl true) H'
/-- what may stand for a number of hands -/
def MV2 (mv : V) : Prop := (∃ i, mv = .int i) ∨ (∃ b, mv = .bl b) ∨ (mv = .non ∨ ∃ z, mv = .str z)
theorem MV2.thg {K : PySem.W.Frag} {H : Hp} {mv : V} (h : MV2 mv) : Thg K H mv := by
  rcases h with ⟨i, rfl⟩ | ⟨b, rfl⟩ | rfl | ⟨z, rfl⟩
  · exact thg_int
  · exact .inr (.inl ⟨_, rfl⟩)
  · exact .inr (.inr ⟨rfl, _, .base .non, by decide +kernel⟩)
  · exact .inr (.inr ⟨rfl, _, .base (.str _), by decide +kernel⟩)
/-- a good number of hands -/
def good2 (mv : V) : Bool := match mv with
  | .int i => decide (1 ≤ i ∧ i < 10)
  | _ => false
def dw20 (g : Bool) : Str := if g = true then "" else "hand"
def dw2 (g : Bool) (ml : Option (List Int)) : Str := if g = true then (if ml = none then "list" else "") else "hand"
theorem c2_new {m : Nat} {ms : List Int} (rg : ∀ x ∈ ms, 0 ≤ x ∧ x < (m : Int)) : C2 (Flk.new m ms) m ms := by
  have hh : ∀ i, i < m → (Flk.new m ms).hand i = if (i : Int) ∈ ms then seatedH ms else Hnd.new := fun i hi => by
    show ((seated m ms ms).getD i Hnd.new) = _
    rw [List.getD_eq_getElem?_getD, seated_get ms ms hi]
    rfl
  refine ⟨seated_len m ms ms, fun i hi => ?_, fun i hi hm => ?_, fun i hi hm => ?_, fun i hi => ?_⟩
  · rw [hh i hi]
    split <;> rfl
  · rw [hh i hi, if_pos hm]
    exact ⟨_, rfl, rfl, rfl, rfl, (by show decide (noBal ≠ noBal) = false; decide), rfl⟩
  · rw [hh i hi, if_neg hm]
    rfl
  · rw [hh i hi]
    split <;> rfl
theorem fl_false {fs : List Int} {s x : Int} (h : isListGo s (-1) ((fs ++ [x]).map V.int) = true) : x < s ∧ ∀ y ∈ fs, y < x := by
  obtain ⟨h1, h2⟩ := isListGo_up h
  refine ⟨(h1 x (by simp)).2.2, fun y hy => ?_⟩
  exact (List.pairwise_append.mp h2).2.2 y hy x (by simp)
theorem notB {xs : List V} {s : Int} (h : isListGo s (-1) xs = true → False) : isListB xs s = false := by
  cases e : isListB xs s with
  | false => rfl
  | true =>
    have : (!xs.isEmpty && isListGo s (-1) xs) = true := e
    exact (h (Bool.and_eq_true_iff.mp this).2).elim
theorem odd2 (K : PySem.W.Frag) (H : Hp) {f : Flk} {m : Nat} (hl : f.hands.length = m) (q : Nat) (hq : q < 6) : ∃ v, [V.int (-1), .int m, .bl true, .str "0", .non, .bl false][q]? = some v ∧ Thg K H v ∧ f.who v = .error "BadHand" := by
  have bad : ∀ v, isHandB v (f.hands.length : Nat) = false → f.who v = .error "BadHand" := fun v h => by
    unfold Flk.who
    rw [h]
    rfl
  rw [hl] at bad
  match q, hq with
  | 0, _ => exact ⟨_, rfl, thg_int, bad _ (by show (decide ((0 : Int) ≤ -1) && decide ((-1 : Int) < ((m : Nat) : Int))) = false; rw [decide_eq_false (by omega)]; rfl)⟩
  | 1, _ => exact ⟨_, rfl, thg_int, bad _ (by show (decide ((0 : Int) ≤ m) && decide ((m : Int) < (m : Int))) = false; rw [decide_eq_false (show ¬ (m : Int) < (m : Int) by omega), Bool.and_false])⟩
  | 2, _ => exact ⟨_, rfl, .inr (.inl ⟨_, rfl⟩), bad _ rfl⟩
  | 3, _ => exact ⟨_, rfl, .inr (.inr ⟨rfl, _, .base (.str _), by decide +kernel⟩), bad _ rfl⟩
  | 4, _ => exact ⟨_, rfl, .inr (.inr ⟨rfl, _, .base .non, by decide +kernel⟩), bad _ rfl⟩
  | 5, _ => exact ⟨_, rfl, .inr (.inl ⟨_, rfl⟩), bad _ rfl⟩
theorem sc_law : FnScope ["_law_script", "_law_many", "_law_size", "_law_first", "_law_due", "_law_some", "_law_handed", "_law_folk", "_law_hand", "_law_odd", "_law_way"] ["_law_script"] (defScope s_law) := ⟨rfl, rfl, rfl, by decide +kernel, rfl, by decide +kernel, by decide +kernel⟩
theorem law_final (T : Txt K mg) {fd : FuncData} (F : FnP K "law" "law" s_law (He.ga K "law") fd) : FnOk P w K mg base CX0 8 (He.ga K "law") fd ["_law_script"] (spLaw K) := by
  obtain ⟨fd__law_draw, G__law_draw⟩ := ok__law_draw (P := P) (w := w) (base := base) T
  obtain ⟨fd__law_hands, G__law_hands⟩ := ok__law_hands (P := P) (w := w) (base := base) T
  obtain ⟨fd__law_made, G__law_made⟩ := ok__law_made (P := P) (w := w) (base := base) T
  obtain ⟨fd_Folk_letters, G_Folk_letters⟩ := ok_Folk_letters (P := P) (w := w) (base := base) T
  obtain ⟨fd__law_right, G__law_right⟩ := ok__law_right (P := P) (w := w) (base := base) T
  obtain ⟨fd__law_asked, G__law_asked⟩ := ok__law_asked (P := P) (w := w) (base := base) T
  refine F.ok sc_law (fun vs H Q E h => ?_) (fun cdv A outer s H vs Q E hr h => ?_)
  · obtain ⟨_, _, rfl, _⟩ := h
    rfl
  · refine ⟨_, PSs.nox (pss_cons (ps_set (i := 1) sc_law.nd rfl (Or.inl rfl) (pe_op op_sub (pe_op op_mod (pe_call G__law_draw.1 (hr.mono (by decide)) rfl T.g__law_draw G__law_draw.2.2 G__law_draw.2.1 .nil pass0 (pa_cons (pv 0) (pa_cons pe_int pa_nil))) pe_int) pe_int)) (C8.pss_cut (ps_if (pt_cmpR op_eq (pe_op op_mod (pe_op op_fdiv (pe_call G__law_draw.1 (hr.mono (by decide)) rfl T.g__law_draw G__law_draw.2.2 G__law_draw.2.1 .nil pass0 (pa_cons (pv 0) (pa_cons pe_int pa_nil))) pe_int) pe_int) pe_int (nomark _)) (pss_one (ps_set (i := 1) sc_law.nd rfl (Or.inl rfl) (pe_ix ix_list (pe_lst (pa_cons pe_bl (pa_cons pe_str (pa_cons pe_non (pa_cons (pe_op op_pow pe_int pe_int) (pa_cons pe_bl pa_nil)))))) (pe_op op_mod (pe_op op_fdiv (pe_call G__law_draw.1 (hr.mono (by decide)) rfl T.g__law_draw G__law_draw.2.2 G__law_draw.2.1 .nil pass0 (pa_cons (pv 0) (pa_cons pe_int pa_nil))) pe_int) pe_int) (fun _ _ => rfl)))) pss_nil) (C8.pss_cut (ps_set (i := 2) sc_law.nd rfl (Or.inl rfl) (pe_ifExp (PW.pt (pw_and (pt_cmpR op_inRng (pv 1) (pe_callTy (T := "range") cr_range2 (by rfl) T.b_range (by decide +kernel) (pa_cons pe_int (pa_cons pe_int pa_nil))) (by rfl)) (pw_and1 (pt_cmpR op_isnotB (pv 1) pe_bl (nomark _))))) (pv 1) pe_int)) (pss_cons (ps_set (i := 3) sc_law.nd rfl (Or.inl rfl) (pe_call G__law_hands.1 (hr.mono (by decide)) rfl T.g__law_hands G__law_hands.2.2 G__law_hands.2.1 .nil pass0 (pa_cons (pe_call G__law_draw.1 (hr.mono (by decide)) rfl T.g__law_draw G__law_draw.2.2 G__law_draw.2.1 .nil pass0 (pa_cons (pv 0) (pa_cons pe_int pa_nil))) (pa_cons (pv 2) pa_nil)))) (C8.pss_cut (ps_if (pt_cmpR (op_eqD hr.u64) (pv 3) (pe_lst pa_nil) (nomark _)) (pss_one (ps_set (i := 3) sc_law.nd rfl (Or.inl rfl) (pe_lst (pa_cons (pe_op op_sub (pv 2) pe_int) pa_nil)))) pss_nil) (C8.pss_cut (ps_set (i := 4) sc_law.nd rfl (Or.inl rfl) (pe_ifExp (PW.pt (pw_or (pt_cmpR op_isB (pv 1) pe_bl (nomark _)) (pw_or1 (pt_cmpR op_notInRng (pv 1) (pe_callTy (T := "range") cr_range2 (by rfl) T.b_range (by decide +kernel) (pa_cons pe_int (pa_cons pe_int pa_nil))) (by rfl))))) pe_str pe_str)) (C8.pss_cut (ps_if (pt_cmpR op_eq (pe_op op_mod (pe_call G__law_draw.1 (hr.mono (by decide)) rfl T.g__law_draw G__law_draw.2.2 G__law_draw.2.1 .nil pass0 (pa_cons (pv 0) (pa_cons pe_int pa_nil))) pe_int) pe_int (nomark _)) (pss_cons (ps_set (i := 5) sc_law.nd rfl (Or.inl rfl) (pe_lst (pa_cons (pe_lst pa_nil) (pa_cons (pe_op op_cat (pv 3) (pe_lst (pa_cons (pv 2) pa_nil))) (pa_cons (pe_op op_cat (pv 3) (pe_lst (pa_cons (pe_ix ix_list (pv 3) (pe_un un_neg pe_int) (fun _ _ => rfl)) pa_nil))) (pa_cons (pe_callTy (T := "tuple") call_tuple_of (by rfl) T.b_tuple (by decide +kernel) (pa_cons (pv 3) pa_nil)) (pa_cons pe_non (pa_cons (pe_lst (pa_cons (pe_un un_neg pe_int) pa_nil)) (pa_cons (pe_lst (pa_cons pe_bl pa_nil)) (pa_cons (pe_lst (pa_cons pe_bl pa_nil)) pa_nil)))))))))) (pss_cons (ps_set (i := 3) sc_law.nd rfl (Or.inl rfl) (pe_ix ix_list (pv 5) (pe_op op_mod (pe_op op_fdiv (pe_call G__law_draw.1 (hr.mono (by decide)) rfl T.g__law_draw G__law_draw.2.2 G__law_draw.2.1 .nil pass0 (pa_cons (pv 0) (pa_cons pe_int pa_nil))) pe_int) pe_int) (fun _ _ => rfl))) (pss_one (ps_set (i := 4) sc_law.nd rfl (Or.inl rfl) (pe_ifExp (pt_cmpR op_eq (pv 4) pe_str (nomark _)) pe_str (pv 4)))))) pss_nil) (C8.pss_cut (ps_set (i := 6) sc_law.nd rfl (Or.inl rfl) (pe_ifExp (pt_val (pe_callB call_isi (by rfl) T.b_isinstance (by decide +kernel) (pa_cons (pv 3) (pa_cons (pe_bltn (v := .ty "list") (u := .type "list") (by rfl) T.b_list (by decide +kernel) rfl) pa_nil)))) (pe_callTy (T := "list") call_list_of (by rfl) T.b_list (by decide +kernel) (pa_cons (pv 3) pa_nil)) (pv 3))) (pss_cons (ps_set (i := 7) sc_law.nd rfl (Or.inr rfl) (pe_call G__law_made.1 (hr.mono (by decide)) rfl T.g__law_made G__law_made.2.2 G__law_made.2.1 .nil pass0 (pa_cons (pv 1) (pa_cons (pv 6) pa_nil)))) (pss_cons (ps_if (pt_cmpR op_ne (pv 4) pe_str (nomark _)) (pss_one (ps_ret (pe_cmpR op_eq (pv 7) (pv 4) (nomark _)))) pss_nil) (pss_cons (ps_if (PW.pt (pw_or (pt_val (pe_callB call_isi (by rfl) T.b_isinstance (by decide +kernel) (pa_cons (pv 7) (pa_cons (pe_bltn (v := .ty "str") (u := .type "str") (by rfl) T.b_str (by decide +kernel) rfl) pa_nil)))) (pw_or (pt_cmpR op_ne (pe_fld (pv 7) rfl) (pv 1) (nomark _)) (pw_or1 (pt_cmpR (op_neD hr.u64) (pe_meth0 (pv 7) T.cl_Folk T.me_Folk_letters G_Folk_letters.1 (hr.mono (by decide)) G_Folk_letters.2.1 .nil pass0) (pe_lst pa_nil) (nomark _)))))) (pss_one (ps_ret pe_bl)) pss_nil) (pss_cons (ps_expr (pe_bm PySem.F.plainAttrs_list PySem.F.slot_list_append PySem.F.type_list_append mt_append (pv 6) (pa_cons pe_int pa_nil))) (pss_cons (ps_for PassesOwn.never rfl (pi_range1 rfl T.b_range (pa_cons (pv 1) pa_nil)) (pg_name (i := 8) sc_law.nd rfl (Or.inl rfl)) (pss_one (ps_if (pt_not (pt_val (pe_call G__law_right.1 (hr.mono (by decide)) rfl T.g__law_right G__law_right.2.2 G__law_right.2.1 .nil pass0 (pa_cons (pv 7) (pa_cons (pv 3) (pa_cons (pv 8) pa_nil)))))) (pss_one (ps_ret pe_bl)) pss_nil))) (pss_cons (ps_set (i := 9) sc_law.nd rfl (Or.inr rfl) (pe_ix ix_list (pe_lst (pa_cons (pe_un un_neg pe_int) (pa_cons (pv 1) (pa_cons pe_bl (pa_cons pe_str (pa_cons pe_non (pa_cons pe_bl pa_nil))))))) (pe_op op_mod (pe_call G__law_draw.1 (hr.mono (by decide)) rfl T.g__law_draw G__law_draw.2.2 G__law_draw.2.1 .nil pass0 (pa_cons (pv 0) (pa_cons pe_int pa_nil))) pe_int) (fun _ _ => rfl))) (pss_one (ps_ret (pe_cmpR (op_eqD hr.u64) (pe_lc (own := [("_law_way", 10)]) (g := (gName 10)) (te := (tCall (spAsked2 K) [] E0 (tCons (tVar 7) (tCons (tVar 10) (tCons (tVar 9) tNil))))) rfl sc_law.nd (pi_range1 rfl T.b_range (pa_cons pe_int pa_nil)) (blkOk_by (own := [("_law_way", 10)]) (N := ["_law_script", "_law_many", "_law_size", "_law_first", "_law_due", "_law_some", "_law_handed", "_law_folk", "_law_hand", "_law_odd", "_law_way"]) (sc := defScope s_law) (by decide +kernel)) (fun _ _ _ _ _ => (pg_name (i := 10) sc_law.nd rfl (Or.inl rfl))) (fun _ _ _ _ _ => pts_nil) (fun _ _ _ _ _ => (pe_call G__law_asked.1 (hr.mono (by decide)) rfl T.g__law_asked G__law_asked.2.2 G__law_asked.2.1 .nil pass0 (pa_cons (pv 7) (pa_cons (pv 10) (pa_cons (pv 9) pa_nil)))))) (pe_op op_rep (pe_lst (pa_cons pe_str pa_nil)) pe_int) (nomark _)))))))))))))))))), ?_⟩
    obtain ⟨a, ns, rfl, hA, hns, k⟩ := h
    refine ⟨_, rfl, a, ns, 0, rfl, hA, _, _, rfl, rfl, (by show (0 : Int) < 13; decide), _, _, rfl, rfl, ?_⟩
    refine ⟨fun σ H' => ∃ mv, σ = [some (.ref a), some mv, none, none, none, none, none, none, none, none, none] ∧ Same H H' ∧ MV2 mv, ?_, ?_⟩
    · refine ⟨_, rfl, a, ns, 0, rfl, hA, _, _, rfl, rfl, ⟨by decide, by decide⟩, _, _, rfl, rfl, (by show (0 : Int) < 9; decide), rfl, _, rfl, iteI (fun _ => ?_) (fun _ => ⟨_, rfl, Same.refl _, .inl ⟨_, rfl⟩⟩)⟩
      obtain ⟨q, hq, hqe⟩ : ∃ q : Nat, q < 5 ∧ ns.getD 0 0 / 117 % 5 = (q : Nat) := by
        have h1 := Int.emod_nonneg (ns.getD 0 0 / 117) (show (5 : Int) ≠ 0 by decide)
        have h2 := Int.emod_lt_of_pos (ns.getD 0 0 / 117) (show (0 : Int) < 5 by decide)
        exact ⟨(ns.getD 0 0 / 117 % 5).toNat, by omega, by omega⟩
      refine ⟨_, _, rfl, rfl, ⟨by decide, by decide, by decide⟩, (by show 5 ≤ sizeLine; decide), fun lo hlo => ?_⟩
      have eo := same_upd (o := .lst [V.bl true, .str "3", .non, .int (10 ^ 20), .bl false]) hlo
      obtain ⟨v, hv, hmv⟩ : ∃ v, [V.bl true, .str "3", .non, .int (10 ^ 20), .bl false][q]? = some v ∧ MV2 v := by
        match q, hq with
        | 0, _ => exact ⟨_, rfl, .inr (.inl ⟨_, rfl⟩)⟩
        | 1, _ => exact ⟨_, rfl, .inr (.inr (.inr ⟨_, rfl⟩))⟩
        | 2, _ => exact ⟨_, rfl, .inr (.inr (.inl rfl))⟩
        | 3, _ => exact ⟨_, rfl, .inl ⟨_, rfl⟩⟩
        | 4, _ => exact ⟨_, rfl, .inr (.inl ⟨_, rfl⟩)⟩
      refine ⟨_, rfl, a, ns, 0, rfl, eo.seq hA, _, _, rfl, rfl, ⟨by decide, by decide⟩, _, _, rfl, rfl, (by show (0 : Int) < 5; decide), lo, _, _, v, rfl, rfl, SqL.of upd_same, ?_, v, rfl, eo, hmv⟩
      try dsimp only
      rw [hqe]
      exact atI_nat hv
    rintro σ H1 ⟨mv, rfl, e1, hmv⟩
    have hA1 := e1.seq hA
    -- the size
    refine ⟨fun σ H' => ∃ sz : Nat, σ = [some (.ref a), some mv, some (.int sz), none, none, none, none, none, none, none, none] ∧ Same H1 H' ∧ 1 ≤ sz ∧ sz ≤ 9 ∧ (good2 mv = true → mv = .int sz), ?_, ?_⟩
    · have five : ∀ H', Same H1 H' → good2 mv = false → ∃ sz : Nat, [some (.ref a), some mv, some (V.int 5), none, none, none, none, none, none, none, none] = [some (.ref a), some mv, some (.int sz), none, none, none, none, none, none, none, none] ∧ Same H1 H' ∧ 1 ≤ sz ∧ sz ≤ 9 ∧ (good2 mv = true → mv = .int sz) := fun H' e g => ⟨5, rfl, e, by decide, by decide, fun z => by rw [g] at z; cases z⟩
      refine ⟨_, rfl, _, _, rfl, fun p hp => ⟨p, 1, 10, rfl, upd_same, ?_⟩⟩
      have ep := same_upd (o := .rng 1 10) hp
      rcases hmv with ⟨i, rfl⟩ | ⟨b, rfl⟩ | hx
      · refine .inl ⟨i, rfl, _, rfl, ?_⟩
        by_cases hi : 1 ≤ i ∧ i < 10
        · rw [show rngI false 1 10 i = true from decide_eq_true hi]
          refine iteT ⟨_, rfl, true, rfl, _, rfl, ?_⟩
          rw [show (!decide (V.int i = V.bl true)) = true by rw [decide_eq_false (fun z => nomatch z)]; rfl]
          refine iteT ⟨_, rfl, i.toNat, by rw [show ((i.toNat : Nat) : Int) = i by omega]; rfl, ep, by omega, by omega, fun _ => by rw [show ((i.toNat : Nat) : Int) = i by omega]⟩
        · rw [show rngI false 1 10 i = false from decide_eq_false hi]
          exact iteF (iteF (five _ ep (by unfold good2; exact decide_eq_false hi)))
      · refine .inr (.inl ⟨b, rfl, _, rfl, ?_⟩)
        cases b with
        | true =>
          rw [show rngT false 1 10 true = true by decide]
          refine iteT ⟨_, rfl, true, rfl, _, rfl, ?_⟩
          rw [show (!decide (V.bl true = V.bl true)) = false by simp]
          exact iteF (five _ ep rfl)
        | false =>
          rw [show rngT false 1 10 false = false by decide]
          exact iteF (iteF (five _ ep rfl))
      · refine .inr (.inr ⟨hx, _, rfl, iteF (iteF (five _ ep ?_))⟩)
        rcases hx with rfl | ⟨z, rfl⟩ <;> rfl
    rintro σ H2 ⟨sz, rfl, e2, hs1, hs9, hgs⟩
    have hA2 := e2.seq hA1
    refine ⟨_, rfl, a, ns, 1, rfl, hA2, _, rfl, _, (sz : Int), rfl, by omega, by omega, fun q1 H3 hq1 e3 hL3 => ?_⟩
    have hA3 := e3.seq hA2
    obtain ⟨hs, hhs⟩ : ∃ hs, handsOf (ns.getD 1 0) (sz : Int) = hs := ⟨_, rfl⟩
    rw [hhs] at hL3
    have hrg : ∀ x ∈ hs, 0 ≤ x ∧ x < (sz : Int) := fun x hx => by
      rw [← hhs] at hx
      have := handsGo_mem _ _ _ hx
      omega
    have hup : hs.Pairwise (· < ·) := by rw [← hhs]; exact handsGo_sorted _ _ _
    have hshl : ∀ ms : List Int, SeqAt.shaped (.list (ms.map PyData.int)) = true := fun ms => shaped_list (sdAll_ints ms)
    refine ⟨fun σ H' => ∃ qa fs, σ = [some (.ref a), some mv, some (.int sz), some (.ref qa), none, none, none, none, none, none, none] ∧ Same H3 H' ∧ H' qa = some (.lst (fs.map V.int)) ∧ fs ≠ [] ∧ (∀ x ∈ fs, 0 ≤ x ∧ x < (sz : Int)) ∧ fs.Pairwise (· < ·), ?_, ?_⟩
    · refine ⟨_, rfl, Nat.zero_le _, fun e he => ⟨.list (hs.map PyData.int), .list [], .lst (SqL.of (same_upd he _ _ hL3)) (dpAll_ints hs), .lst (SqL.of upd_same) .nil, hshl hs, (by decide +kernel), _, rfl, ?_⟩⟩
      have e2' := same_upd (o := .lst []) he
      have hL2 := e2' _ _ hL3
      cases hs with
      | nil =>
        rw [show PyData.eqv (.list (([] : List Int).map PyData.int)) (.list []) = true by decide +kernel]
        refine iteT ⟨_, rfl, _, _, rfl, rfl, (by show 1 ≤ sizeLine; decide), fun l hl => ⟨l, [(sz : Int) - 1], rfl, e2'.trans (same_upd hl), upd_same, (fun z => nomatch z), fun x hx => ?_, List.pairwise_singleton _ _⟩⟩
        rw [List.mem_singleton.mp hx]
        omega
      | cons x xs =>
        rw [show PyData.eqv (.list ((x :: xs).map PyData.int)) (.list []) = false by simp [PyData.eqv, PyData.eqvAll]]
        exact iteF ⟨q1, _, rfl, e2', hL2, (fun z => nomatch z), hrg, hup⟩
    rintro σ H4 ⟨qa, fs, rfl, e4, hqa, hne, hrg', hup'⟩
    clear hL3 hrg hup
    have hA4 := e4.seq hA3
    have hfl : fs.length ≤ 9 := Nat.le_trans (rising_len hrg' hup') hs9
    -- what is due of the number
    refine ⟨fun σ H' => σ = [some (.ref a), some mv, some (.int sz), some (.ref qa), some (.str (dw20 (good2 mv))), none, none, none, none, none, none] ∧ Same H4 H', ?_, ?_⟩
    · refine ⟨_, rfl, true, rfl, _, rfl, ?_⟩
      rcases hmv with ⟨i, rfl⟩ | ⟨b, rfl⟩ | hx
      · rw [decide_eq_false (show ¬ V.int i = V.bl true from fun z => nomatch z)]
        refine iteF ⟨_, rfl, _, _, rfl, fun p hp => ⟨p, 1, 10, rfl, upd_same, .inl ⟨i, rfl, _, rfl, ?_⟩⟩⟩
        have ep := same_upd (o := .rng 1 10) hp
        by_cases hi : 1 ≤ i ∧ i < 10
        · rw [show rngI true 1 10 i = false by unfold rngI; rw [if_pos rfl, decide_eq_true hi]; rfl]
          refine iteF ⟨?_, ep⟩
          rw [show good2 (.int i) = true by unfold good2; exact decide_eq_true hi]
          rfl
        · rw [show rngI true 1 10 i = true by unfold rngI; rw [if_pos rfl, decide_eq_false hi]; rfl]
          refine iteT ⟨?_, ep⟩
          rw [show good2 (.int i) = false by unfold good2; exact decide_eq_false hi]
          rfl
      · cases b with
        | true => exact iteT (iteT ⟨rfl, Same.refl _⟩)
        | false =>
          refine iteF ⟨_, rfl, _, _, rfl, fun p hp => ⟨p, 1, 10, rfl, upd_same, .inr (.inl ⟨false, rfl, _, rfl, ?_⟩)⟩⟩
          rw [show rngT true 1 10 false = true by decide]
          exact iteT ⟨rfl, same_upd hp⟩
      · have hnb : decide (mv = V.bl true) = false := by rcases hx with rfl | ⟨z, rfl⟩ <;> exact decide_eq_false (fun z => nomatch z)
        rw [hnb]
        refine iteF ⟨_, rfl, _, _, rfl, fun p hp => ⟨p, 1, 10, rfl, upd_same, .inr (.inr ⟨hx, _, rfl, iteT ⟨?_, same_upd hp⟩⟩)⟩⟩
        rcases hx with rfl | ⟨z, rfl⟩ <;> rfl
    rintro σ H5 ⟨rfl, e5⟩
    have hA5 := e5.seq hA4
    have hqa5 := e5 _ _ hqa
    have hgl : isListB (fs.map V.int) (sz : Int) = true := isListB_of hne hrg' hup'
    refine ⟨fun σ H' => ∃ (fv : V) (ml : Option (List Int)) (w5 : Option V), σ = [some (.ref a), some mv, some (.int sz), some fv, some (.str (dw2 (good2 mv) ml)), w5, none, none, none, none, none] ∧ Same H5 H' ∧ LstIs K H' fv sz ml ∧ (ml ≠ none → fv = .ref qa ∧ ml = some fs), ?_, ?_⟩
    · refine ⟨_, rfl, a, ns, 2, rfl, hA5, _, _, rfl, rfl, (by show (0 : Int) < 4; decide), rfl, _, rfl, iteI (fun _ => ?_) (fun _ => ?_)⟩
      · obtain ⟨q, hq, hqe⟩ : ∃ q : Nat, q < 8 ∧ ns.getD 2 0 / 4 % 8 = (q : Nat) := by
          have h1 := Int.emod_nonneg (ns.getD 2 0 / 4) (show (8 : Int) ≠ 0 by decide)
          have h2 := Int.emod_lt_of_pos (ns.getD 2 0 / 4) (show (0 : Int) < 8 by decide)
          exact ⟨(ns.getD 2 0 / 4 % 8).toNat, by omega, by omega⟩
        obtain ⟨fi, x, hfx⟩ : ∃ fi x, fs = fi ++ [x] := ⟨_, _, (List.dropLast_concat_getLast hne).symm⟩
        have hcat : ∀ (ys : List V), ys.length = 1 → (fs.map V.int).length + ys.length ≤ sizeLine := fun ys hy => by
          rw [List.length_map, hy]
          exact Nat.le_trans (show fs.length + 1 ≤ 10 by omega) (by decide)
        refine ⟨Nat.zero_le _, fun l1 h1 => ⟨_, rfl, _, rfl, (by show 1 ≤ sizeLine; decide), fun l2 h2 => ?_⟩⟩
        have f1 := same_upd (o := .lst []) h1
        have f2 := same_upd (o := .lst [V.int sz]) h2
        refine ⟨qa, l2, _, _, rfl, rfl, (f1.trans f2) _ _ hqa5, upd_same, hcat _ rfl, fun l3 h3 => ?_⟩
        have f3 := same_upd (o := .lst (fs.map V.int ++ [V.int sz])) h3
        have hq3 := (f1.trans (f2.trans f3)) _ _ hqa5
        refine ⟨_, rfl, _, rfl, _, rfl, qa, _, _, .int x, rfl, rfl, SqL.of hq3, ?_, (by show 1 ≤ sizeLine; decide), fun l4 h4 => ?_⟩
        · rw [hfx, List.map_append]
          exact atI_last _ _
        have f4 := same_upd (o := .lst [V.int x]) h4
        refine ⟨qa, l4, _, _, rfl, rfl, f4 _ _ hq3, upd_same, hcat _ rfl, fun l5 h5 => ?_⟩
        have f5 := same_upd (o := .lst (fs.map V.int ++ [V.int x])) h5
        have hq5 := (f4.trans f5) _ _ hq3
        refine ⟨_, rfl, qa, _, rfl, .inl ⟨SqL.of hq5, fun l6 h6 => ?_⟩⟩
        have f6 := same_upd (o := .tup (fs.map V.int)) h6
        refine ⟨_, rfl, (by show 1 ≤ sizeLine; decide), fun l7 h7 => ⟨(by show 1 ≤ sizeLine; decide), fun l8 h8 => ⟨(by show 1 ≤ sizeLine; decide), fun l9 h9 => ⟨(by show 8 ≤ sizeLine; decide), fun lo hlo => ?_⟩⟩⟩⟩
        have f7 := same_upd (o := .lst [V.int (-1)]) h7
        have f8 := same_upd (o := .lst [V.bl false]) h8
        have f9 := same_upd (o := .lst [V.bl true]) h9
        have f0 := same_upd (o := .lst [V.ref l1, .ref l3, .ref l5, .ref l6, .non, .ref l7, .ref l8, .ref l9]) hlo
        have f90 := f9.trans f0
        have f80 := f8.trans f90
        have f70 := f7.trans f80
        have f60 := f6.trans f70
        have f50 := f5.trans f60
        have f40 := f4.trans f50
        have f30 := f3.trans f40
        have f20 := f2.trans f30
        have f10 := f1.trans f20
        have q1 := f20 _ _ (upd_same (H := H5) (a := l1) (o := .lst []))
        have q3 := f40 _ _ (upd_same (a := l3) (o := .lst (fs.map V.int ++ [V.int sz])))
        have q5 := f60 _ _ (upd_same (a := l5) (o := .lst (fs.map V.int ++ [V.int x])))
        have q6 := f70 _ _ (upd_same (a := l6) (o := .tup (fs.map V.int)))
        have q7 := f80 _ _ (upd_same (a := l7) (o := .lst [V.int (-1)]))
        have q8 := f90 _ _ (upd_same (a := l8) (o := .lst [V.bl false]))
        have q9 := f0 _ _ (upd_same (a := l9) (o := .lst [V.bl true]))
        have ti : ∀ {Hz : Hp} (zs : List Int), ∀ y ∈ zs.map V.int, Thg K Hz y := fun zs y hy => by
          obtain ⟨z, _, rfl⟩ := List.mem_map.mp hy
          exact thg_int
        have tb : ∀ {Hz : Hp} (b : Bool), ∀ y ∈ [V.bl b], Thg K Hz y := fun b y hy => by
          rw [List.mem_singleton.mp hy]
          exact .inr (.inl ⟨_, rfl⟩)
        have sn : ∀ y : Int, fs.map V.int ++ [V.int y] = (fs ++ [y]).map V.int := fun y => by rw [List.map_append]; rfl
        have pick : ∀ {Hf : Hp}, Hf l1 = some (.lst []) → Hf l3 = some (.lst (fs.map V.int ++ [V.int sz])) → Hf l5 = some (.lst (fs.map V.int ++ [V.int x])) → Hf l6 = some (.tup (fs.map V.int)) → Hf l7 = some (.lst [V.int (-1)]) → Hf l8 = some (.lst [V.bl false]) → Hf l9 = some (.lst [V.bl true]) →
            ∃ v, [V.ref l1, .ref l3, .ref l5, .ref l6, .non, .ref l7, .ref l8, .ref l9][q]? = some v ∧ LstIs K Hf v sz none := fun {Hf} q1 q3 q5 q6 q7 q8 q9 => by
          rw [sn] at q3 q5
          match q, hq with
          | 0, _ => exact ⟨_, rfl, .inl ⟨l1, _, rfl, q1, (fun _ h => nomatch h), rfl⟩⟩
          | 1, _ => exact ⟨_, rfl, .inl ⟨l3, _, rfl, q3, ti _, notB fun z => by have := (fl_false z).1; omega⟩⟩
          | 2, _ => exact ⟨_, rfl, .inl ⟨l5, _, rfl, q5, ti _, notB fun z => by have := (fl_false z).2 x (by rw [hfx]; simp); omega⟩⟩
          | 3, _ => exact ⟨_, rfl, .inr ⟨_, .base (.tup q6), by decide +kernel⟩⟩
          | 4, _ => exact ⟨_, rfl, .inr ⟨_, .base .non, by decide +kernel⟩⟩
          | 5, _ => exact ⟨_, rfl, .inl ⟨l7, _, rfl, q7, ti [-1], notB fun z => by have := (isListGo_up (ms := [-1]) z).1 (-1) (by simp); omega⟩⟩
          | 6, _ => exact ⟨_, rfl, .inl ⟨l8, _, rfl, q8, tb _, rfl⟩⟩
          | 7, _ => exact ⟨_, rfl, .inl ⟨l9, _, rfl, q9, tb _, rfl⟩⟩
        obtain ⟨v, hv, hvl⟩ := pick q1 q3 q5 q6 q7 q8 q9
        refine ⟨_, rfl, _, rfl, a, ns, 2, rfl, f10.seq hA5, _, _, rfl, rfl, ⟨by decide, by decide⟩, _, _, rfl, rfl, (by show (0 : Int) < 8; decide), lo, _, _, v, rfl, rfl, SqL.of upd_same, ?_, _, rfl, rfl, _, rfl, ?_⟩
        · try dsimp only
          rw [hqe]
          exact atI_nat hv
        · cases hg : good2 mv with
          | true => exact iteT ⟨v, none, _, rfl, f10, hvl, fun z => absurd rfl z⟩
          | false => exact iteF ⟨_, rfl, v, none, _, rfl, f10, hvl, fun z => absurd rfl z⟩
      · exact ⟨_, some fs, _, rfl, Same.refl _, ⟨qa, rfl, hqa5, hgl⟩, fun _ => ⟨rfl, rfl⟩⟩
    rintro σ H6 ⟨fv, ml, w5, rfl, e6, hlst, hmls⟩
    have hA6 := e6.seq hA5
    have hqa6 := e6 _ _ hqa5
    obtain ⟨dw, hdw⟩ : ∃ dw : Str, dw2 (good2 mv) ml = dw := ⟨_, rfl⟩
    rw [hdw]
    -- what is handed in
    refine ⟨fun σ H' => ∃ hv, σ = [some (.ref a), some mv, some (.int sz), some fv, some (.str dw), w5, some hv, none, none, none, none] ∧ Same H6 H' ∧ LstIs K H' hv sz ml ∧ (ml ≠ none → ∃ hb, hv = .ref hb ∧ H6 hb = none ∧ H' hb = some (.lst (fs.map V.int))), ?_, ?_⟩
    · cases hml : ml with
      | some ms =>
        obtain ⟨z1, z2⟩ := hmls (by rw [hml]; exact fun z => nomatch z)
        rw [hml] at z2
        cases z2
        subst z1
        refine ⟨_, rfl, _, _, _, _, true, rfl, .ty _, .base (.lst hqa6), kit_ty (by decide +kernel), _, rfl, iteT ⟨_, rfl, qa, _, rfl, .inl (SqL.of hqa6), fun l hl => ⟨.ref l, rfl, same_upd hl, ⟨l, rfl, upd_same, hgl⟩, fun _ => ⟨l, rfl, hl, upd_same⟩⟩⟩⟩
      | none =>
        rw [hml] at hlst
        rcases hlst with ⟨b, xs, rfl, h1, h2, h3⟩ | ⟨n, h1, h2⟩
        · exact ⟨_, rfl, _, _, _, _, true, rfl, .ty _, .base (.lst h1), kit_ty (by decide +kernel), _, rfl, iteT ⟨_, rfl, b, _, rfl, .inl (SqL.of h1), fun l hl => ⟨.ref l, rfl, same_upd hl, .inl ⟨l, xs, rfl, upd_same, fun y hy => thg_same (same_upd hl) (h2 y hy), h3⟩, fun z => absurd rfl z⟩⟩⟩
        · exact ⟨_, rfl, _, _, _, _, false, rfl, .ty _, h1, kit_ty h2, _, rfl, iteF ⟨_, rfl, fv, rfl, Same.refl _, .inr ⟨n, h1, h2⟩, fun z => absurd rfl z⟩⟩
    rintro σ H7 ⟨hv, rfl, e7, hlst7, hhb⟩
    have hA7 := e7.seq hA6
    have hqa7 := e7 _ _ hqa6
    have hmk : Flk.make mv ml = if good2 mv = true then firstIs sz ml else .error "BadHand" := by
      cases hg : good2 mv with
      | true =>
        have hm := hgs hg
        subst hm
        show (if 1 ≤ ((sz : Nat) : Int) ∧ ((sz : Nat) : Int) ≤ 9 then firstIs ((sz : Nat) : Int).toNat ml else .error "BadHand") = _
        rw [if_pos (by omega), if_pos rfl, Int.toNat_natCast]
      | false =>
        rw [if_neg (by decide)]
        cases mv with
        | int i =>
          have hi : ¬ (1 ≤ i ∧ i < 10) := of_decide_eq_false hg
          show (if 1 ≤ i ∧ i ≤ 9 then firstIs i.toNat ml else .error "BadHand") = _
          rw [if_neg (by omega)]
        | _ => rfl
    refine ⟨_, rfl, _, rfl, mv, hv, ml, rfl, hmv.thg, fun m em h1 h2 => ?_, fun e he H8 e8 => ?_, fun f hf p H0 g H8 L hp e0 kp r => ?_⟩
    · have hg : good2 mv = true := by rw [em]; exact decide_eq_true (by omega)
      have hm := hgs hg
      rw [em] at hm
      have : m = sz := V.int.inj hm
      rw [this]
      exact hlst7
    · have hdw2 : dw = word2 e ∧ word2 e ≠ "" := by
        rw [hmk] at he
        rw [← hdw]
        unfold dw2
        cases hg : good2 mv with
        | true =>
          rw [hg, if_pos rfl] at he
          rw [if_pos rfl]
          cases ml with
          | none =>
            cases he
            rw [if_pos rfl]
            decide +kernel
          | some ms => cases he
        | false =>
          rw [hg, if_neg (by decide)] at he
          rw [if_neg (by decide)]
          cases he
          decide +kernel
      refine ⟨_, rfl, rfl, _, rfl, ?_⟩
      rw [show (!decide (V.str dw = V.str "")) = true by rw [decide_eq_false (fun z => hdw2.2 (hdw2.1 ▸ V.str.inj z))]; rfl]
      refine iteT ⟨_, rfl, _, rfl, rfl, ?_⟩
      rw [hdw2.1, decide_eq_true rfl]
      exact k _
    rw [hmk] at hf
    have hg : good2 mv = true := by
      cases hg : good2 mv with
      | true => rfl
      | false => rw [hg, if_neg (by decide)] at hf; cases hf
    have hm := hgs hg
    subst hm
    rw [if_pos hg] at hf
    have hmln : ml ≠ none := fun z => by rw [z] at hf; cases hf
    obtain ⟨rfl, hml⟩ := hmls hmln
    obtain ⟨hb, rfl, hb6, hb7⟩ := hhb hmln
    rw [hml] at hf
    cases hf
    unfold dw2 at hdw
    rw [if_pos hg, if_neg hmln] at hdw
    subst hdw
    have c2 := c2_new hrg'
    have hbq : qa ≠ hb := fun z => by rw [z, hb6] at hqa6; cases hqa6
    have pne : ∀ {b o}, H7 b = some o → b ≠ p := fun {b o} h z => by rw [z, hp] at h; cases h
    obtain ⟨hb8, hbo, hbD⟩ := kp.old hb _ (pne hb7) (e0 _ _ hb7)
    obtain ⟨hq8, hqo, hqD⟩ := kp.old qa _ (pne hqa7) (e0 _ _ hqa7)
    have hA8 : Held K g H8 a (ns.map V.int) := by
      rcases hA7 with (h | ⟨o, h⟩) | h
      · obtain ⟨w1, w2, _⟩ := kp.old a _ (pne h) (e0 _ _ h)
        exact .inl ⟨.inl (.inl w1), ⟨_, w1⟩, w2⟩
      · obtain ⟨w1, w2, _⟩ := kp.old a _ (pne h) (e0 _ _ h)
        exact .inl ⟨.inl (.inr ⟨o, w1⟩), ⟨_, w1⟩, w2⟩
      · exact .inr fun _ => .inr h
    have ro8 := r.ok.sub _ _ r.obj
    have hpost : (Flk.new sz fs).post = [] := rfl
    have hlen : (Flk.new sz fs).hands.length = sz := seated_len sz fs fs
    refine ⟨_, rfl, rfl, _, rfl, ?_⟩
    rw [show (!decide (V.str "" = V.str "")) = false by simp]
    refine iteF ⟨_, rfl, _, _, _, _, false, rfl, .ty _, .base (.ins ro8 T.cl_Folk T.fk0_Folk T.ec5_BadHand T.ec6_BadHand T.fk1_Folk), T.fk2_Folk, _, rfl, iteF ⟨_, rfl, _, _, _, _, _, rfl, ro8, T.cl_Folk, T.na_Folk_many, zl folkK_nd (i := 0) rfl rfl, _, rfl, rfl, _, rfl, ?_⟩⟩
    rw [hlen, show (!decide (V.int (sz : Nat) = V.int (sz : Nat))) = false by simp]
    refine iteF ⟨_, rfl, _, _, _, rfl, ro8, zn (by decide +kernel), g, p, _, L, rfl, r, by rw [hpost]; exact Nat.zero_le _, fun l2 ys2 H9 hl2 e9 hys2 py2 => ⟨Nat.zero_le _, fun l3 hl3 => ?_⟩⟩
    rw [hpost] at py2
    cases py2
    have e10 := e9.trans (same_upd (o := .lst []) hl3)
    refine ⟨.list [], .list [], .lst (SqL.of (same_upd hl3 _ _ hys2)) .nil, .lst (SqL.of upd_same) .nil, (by decide +kernel), (by decide +kernel), _, rfl, ?_⟩
    rw [show (!PyData.eqv (.list []) (.list [])) = false by decide +kernel]
    generalize upd H9 l3 (.lst []) = H10 at *
    have hb10 := e10 _ _ hb8
    refine iteF ⟨_, rfl, .inl ⟨rfl, _, SqL.of hb10⟩, hb, _, _, rfl, rfl, hb10, ?_, ?_⟩
    · rw [List.length_map]
      exact Nat.lt_of_le_of_lt hfl (by decide)
    have r11 := (r.ext e10).mine (u := .lst (fs.map V.int ++ [V.int 3])) hbD hbo
    have hq11 : upd H10 hb (.lst (fs.map V.int ++ [V.int 3])) qa = some (.lst (fs.map V.int)) := by rw [upd_ne hbq]; exact e10 _ _ hq8
    have hA11 : SqL K (upd H10 hb (.lst (fs.map V.int ++ [V.int 3]))) a (ns.map V.int) := by
      have st : ∀ {o}, H6 a = some o → upd H10 hb (.lst (fs.map V.int ++ [V.int 3])) a = some o := fun {o} h => by
        rw [upd_ne (fun z => by rw [z, hb6] at h; cases h)]
        exact e10 _ _ (kp.old a _ (pne (e7 _ _ h)) (e0 _ _ (e7 _ _ h))).1
      rcases hA6 with (h | ⟨o, h⟩) | h
      · exact .inl (.inl (st h))
      · exact .inl (.inr ⟨o, st h⟩)
      · exact .inr h
    generalize upd H10 hb (.lst (fs.map V.int ++ [V.int 3])) = H11 at *
    refine ⟨_, rfl, (sz : Int), rfl, by omega, by omega, for_range (lo := 0) (n := sz) (fun i σ H' => ∃ w8, σ = [some (.ref a), some (.int sz), some (.int sz), some (.ref qa), some (.str ""), w5, some (.ref hb), some (.ref p), w8, none, none] ∧ Same H11 H') ⟨none, rfl, Same.refl _⟩ ?_ ?_⟩
    · rintro i σ H12 hi ⟨w8, rfl, e12⟩
      rw [Int.zero_add]
      exact ⟨_, rfl, _, rfl, _, rfl, g, p, _, L, sz, fs, qa, i, rfl, r11.ext e12, c2, hi, hfl, e12.seq (SqL.of hq11), fun H13 e13 => ⟨_, rfl, iteF ⟨_, rfl, e12.trans e13⟩⟩⟩
    rintro σ H12 ⟨w8, rfl, e12⟩
    have r12 := r11.ext e12
    obtain ⟨q, hq, hqe⟩ : ∃ q : Nat, q < 6 ∧ ns.getD 3 0 % 6 = (q : Nat) := by
      have h1 := Int.emod_nonneg (ns.getD 3 0) (show (6 : Int) ≠ 0 by decide)
      have h2 := Int.emod_lt_of_pos (ns.getD 3 0) (show (0 : Int) < 6 by decide)
      exact ⟨(ns.getD 3 0 % 6).toNat, by omega, by omega⟩
    refine ⟨_, rfl, _, rfl, (by show 6 ≤ sizeLine; decide), fun lo hlo => ?_⟩
    have eo := same_upd (o := .lst [V.int (-1), .int (sz : Nat), .bl true, .str "0", .non, .bl false]) hlo
    obtain ⟨v, hv, htv, hwv⟩ := odd2 K (upd H12 lo (.lst [V.int (-1), .int (sz : Nat), .bl true, .str "0", .non, .bl false])) hlen q hq
    refine ⟨_, rfl, a, ns, 3, rfl, (e12.trans eo).seq hA11, _, _, rfl, rfl, (by show (0 : Int) < 6; decide), lo, _, _, v, rfl, rfl, SqL.of upd_same, ?_, ?_⟩
    · try dsimp only
      rw [hqe]
      exact atI_nat hv
    have r13 := r12.ext eo
    generalize upd H12 lo (.lst [V.int (-1), .int (sz : Nat), .bl true, .str "0", .non, .bl false]) = H13 at *
    refine ⟨6, rfl, by decide, by decide, fun D hD => ?_⟩
    refine lc_range (lo := 0) (n := 6) (fun j H1 => H1 D = some (.lst (List.replicate j (V.str "hand"))) ∧ Same H13 H1) ⟨upd_same, same_upd hD⟩ ?_ ?_
    · rintro j H1 hj ⟨h1, e1'⟩
      rw [Int.zero_add]
      refine ⟨rfl, _, rfl, _, rfl, _, rfl, ?_⟩
      dsimp only [tNil]
      refine ⟨g, p, _, L, sz, fs, 2, j, v, rfl, r13.ext e1', c2, by omega, thg_same e1' htv, by decide, by rw [if_pos rfl]; exact hwv, fun v2 H2' e2' ans => ?_⟩
      unfold Ans2 at ans
      rw [if_pos rfl] at ans
      subst ans
      refine ⟨_, e2' _ _ h1, ?_, ?_, same_but hD (e1'.trans e2') (e2' _ _ h1) (Same.refl _)⟩
      · rw [List.length_replicate]
        exact Nat.lt_of_lt_of_le hj (by decide)
      · rw [upd_same, List.replicate_succ']
    rintro H14 ⟨h14, e14⟩
    refine ⟨(by show 1 ≤ sizeLine; decide), fun l5 h5 => ⟨l5, 6, _, rfl, rfl, upd_same, by decide, by decide, by decide, fun p6 h6 => ?_⟩⟩
    have e15 := (same_upd (o := .lst [V.str "hand"]) h5).trans (same_upd (o := .lst (List.replicate (6 : Int).toNat [V.str "hand"]).flatten) h6)
    refine ⟨.list (List.replicate 6 (.str "hand")), .list (List.replicate 6 (.str "hand")), .lst (SqL.of (e15 _ _ h14)) ?_, .lst (SqL.of upd_same) ?_, (by decide +kernel), (by decide +kernel), ?_⟩
    · exact .cons (.str _) (.cons (.str _) (.cons (.str _) (.cons (.str _) (.cons (.str _) (.cons (.str _) .nil)))))
    · exact .cons (.str _) (.cons (.str _) (.cons (.str _) (.cons (.str _) (.cons (.str _) (.cons (.str _) .nil)))))
    · rw [show PyData.eqv (.list (List.replicate 6 (.str "hand"))) (.list (List.replicate 6 (.str "hand"))) = true by decide +kernel]
      exact k _

end
end Fo
/-! ### the head -/
namespace Fo
open PySem PySem.Spec PyProof.Rows L2
def d__wall : He.DefD := ⟨("_wall", none), "_wall", "_wall", defArgs s__wall, defBody s__wall, defScope s__wall, [], []⟩
def d_Letter_init : He.DefD := ⟨("Letter", some "__init__"), "__init__", "Letter.__init__", defArgs s_Letter_init, defBody s_Letter_init, defScope s_Letter_init, [], []⟩
def d_Seat_init : He.DefD := ⟨("Seat", some "__init__"), "__init__", "Seat.__init__", defArgs s_Seat_init, defBody s_Seat_init, defScope s_Seat_init, [], []⟩
def d_Seat_leader : He.DefD := ⟨("Seat", some "leader"), "leader", "Seat.leader", defArgs s_Seat_leader, defBody s_Seat_leader, defScope s_Seat_leader, [], []⟩
def d_Seat_answered : He.DefD := ⟨("Seat", some "answered"), "answered", "Seat.answered", defArgs s_Seat_answered, defBody s_Seat_answered, defScope s_Seat_answered, [], []⟩
def d_Hand_init : He.DefD := ⟨("Hand", some "__init__"), "__init__", "Hand.__init__", defArgs s_Hand_init, defBody s_Hand_init, defScope s_Hand_init, [], []⟩
def d_Hand_sit : He.DefD := ⟨("Hand", some "sit"), "sit", "Hand.sit", defArgs s_Hand_sit, defBody s_Hand_sit, defScope s_Hand_sit, [], []⟩
def d_Hand_go_on : He.DefD := ⟨("Hand", some "go_on"), "go_on", "Hand.go_on", defArgs s_Hand_go_on, defBody s_Hand_go_on, defScope s_Hand_go_on, [], []⟩
def d_Hand_send : He.DefD := ⟨("Hand", some "send"), "send", "Hand.send", defArgs s_Hand_send, defBody s_Hand_send, defScope s_Hand_send, [], []⟩
def d_Hand_send_each : He.DefD := ⟨("Hand", some "send_each"), "send_each", "Hand.send_each", defArgs s_Hand_send_each, defBody s_Hand_send_each, defScope s_Hand_send_each, [], []⟩
def d_Hand_send_others : He.DefD := ⟨("Hand", some "send_others"), "send_others", "Hand.send_others", defArgs s_Hand_send_others, defBody s_Hand_send_others, defScope s_Hand_send_others, [], []⟩
def d_is_whole : He.DefD := ⟨("is_whole", none), "is_whole", "is_whole", defArgs s_is_whole, defBody s_is_whole, defScope s_is_whole, [], []⟩
def d_is_hand : He.DefD := ⟨("is_hand", none), "is_hand", "is_hand", defArgs s_is_hand, defBody s_is_hand, defScope s_is_hand, [], []⟩
def d_is_list : He.DefD := ⟨("is_list", none), "is_list", "is_list", defArgs s_is_list, defBody s_is_list, defScope s_is_list, [], []⟩
def d_Folk_init : He.DefD := ⟨("Folk", some "__init__"), "__init__", "Folk.__init__", defArgs s_Folk_init, defBody s_Folk_init, defScope s_Folk_init, [], []⟩
def d_Folk_say : He.DefD := ⟨("Folk", some "say"), "say", "Folk.say", defArgs s_Folk_say, defBody s_Folk_say, defScope s_Folk_say, [], []⟩
def d_Folk_press : He.DefD := ⟨("Folk", some "press"), "press", "Folk.press", defArgs s_Folk_press, defBody s_Folk_press, defScope s_Folk_press, [], []⟩
def d_Folk_propose : He.DefD := ⟨("Folk", some "propose"), "propose", "Folk.propose", defArgs s_Folk_propose, defBody s_Folk_propose, defScope s_Folk_propose, [], []⟩
def d_Folk_show : He.DefD := ⟨("Folk", some "show"), "show", "Folk.show", defArgs s_Folk_show, defBody s_Folk_show, defScope s_Folk_show, [], []⟩
def d_Folk_fall : He.DefD := ⟨("Folk", some "fall"), "fall", "Folk.fall", defArgs s_Folk_fall, defBody s_Folk_fall, defScope s_Folk_fall, [], []⟩
def d_Folk_come : He.DefD := ⟨("Folk", some "come"), "come", "Folk.come", defArgs s_Folk_come, defBody s_Folk_come, defScope s_Folk_come, [], []⟩
def d_Folk_lose : He.DefD := ⟨("Folk", some "lose"), "lose", "Folk.lose", defArgs s_Folk_lose, defBody s_Folk_lose, defScope s_Folk_lose, [], []⟩
def d_Folk_double : He.DefD := ⟨("Folk", some "double"), "double", "Folk.double", defArgs s_Folk_double, defBody s_Folk_double, defScope s_Folk_double, [], []⟩
def d_Folk_calm : He.DefD := ⟨("Folk", some "calm"), "calm", "Folk.calm", defArgs s_Folk_calm, defBody s_Folk_calm, defScope s_Folk_calm, [], []⟩
def d_Folk_letters : He.DefD := ⟨("Folk", some "letters"), "letters", "Folk.letters", defArgs s_Folk_letters, defBody s_Folk_letters, defScope s_Folk_letters, [], []⟩
def d_Folk_stands : He.DefD := ⟨("Folk", some "stands"), "stands", "Folk.stands", defArgs s_Folk_stands, defBody s_Folk_stands, defScope s_Folk_stands, [], []⟩
def d_Folk_list_of : He.DefD := ⟨("Folk", some "list_of"), "list_of", "Folk.list_of", defArgs s_Folk_list_of, defBody s_Folk_list_of, defScope s_Folk_list_of, [], []⟩
def d_Folk_taken : He.DefD := ⟨("Folk", some "taken"), "taken", "Folk.taken", defArgs s_Folk_taken, defBody s_Folk_taken, defScope s_Folk_taken, [], []⟩
def d_Folk_is_still : He.DefD := ⟨("Folk", some "is_still"), "is_still", "Folk.is_still", defArgs s_Folk_is_still, defBody s_Folk_is_still, defScope s_Folk_is_still, [], []⟩
def d_Folk_witness : He.DefD := ⟨("Folk", some "witness"), "witness", "Folk.witness", defArgs s_Folk_witness, defBody s_Folk_witness, defScope s_Folk_witness, [], []⟩
def d_Folk_past : He.DefD := ⟨("Folk", some "past"), "past", "Folk.past", defArgs s_Folk_past, defBody s_Folk_past, defScope s_Folk_past, [], []⟩
def d_Folk_who : He.DefD := ⟨("Folk", some "_who"), "_who", "Folk._who", defArgs s_Folk_who, defBody s_Folk_who, defScope s_Folk_who, [], []⟩
def d_Folk_who_acts : He.DefD := ⟨("Folk", some "_who_acts"), "_who_acts", "Folk._who_acts", defArgs s_Folk_who_acts, defBody s_Folk_who_acts, defScope s_Folk_who_acts, [], []⟩
def d_Folk_seat_of : He.DefD := ⟨("Folk", some "_seat_of"), "_seat_of", "Folk._seat_of", defArgs s_Folk_seat_of, defBody s_Folk_seat_of, defScope s_Folk_seat_of, [], []⟩
def d_Folk_check_place : He.DefD := ⟨("Folk", some "_check_place"), "_check_place", "Folk._check_place", defArgs s_Folk_check_place, defBody s_Folk_check_place, defScope s_Folk_check_place, [], []⟩
def d__law_draw : He.DefD := ⟨("_law_draw", none), "_law_draw", "_law_draw", defArgs s__law_draw, defBody s__law_draw, defScope s__law_draw, [], []⟩
def d__law_hands : He.DefD := ⟨("_law_hands", none), "_law_hands", "_law_hands", defArgs s__law_hands, defBody s__law_hands, defScope s__law_hands, [], []⟩
def d__law_words : He.DefD := ⟨("_law_words", none), "_law_words", "_law_words", defArgs s__law_words, defBody s__law_words, defScope s__law_words, [], []⟩
def d__law_made : He.DefD := ⟨("_law_made", none), "_law_made", "_law_made", defArgs s__law_made, defBody s__law_made, defScope s__law_made, [], []⟩
def d__law_asked : He.DefD := ⟨("_law_asked", none), "_law_asked", "_law_asked", defArgs s__law_asked, defBody s__law_asked, defScope s__law_asked, [], []⟩
def d__law_right : He.DefD := ⟨("_law_right", none), "_law_right", "_law_right", defArgs s__law_right, defBody s__law_right, defScope s__law_right, [], []⟩
def d_law : He.DefD := ⟨("law", none), "law", "law", defArgs s_law, defBody s_law, defScope s_law, [], []⟩
def fn : List He.DefD := ([d__wall, d_Letter_init, d_Seat_init, d_Seat_leader, d_Seat_answered, d_Hand_init, d_Hand_sit, d_Hand_go_on, d_Hand_send, d_Hand_send_each, d_Hand_send_others, d_is_whole] : List He.DefD) ++ (([d_is_hand, d_is_list, d_Folk_init, d_Folk_say, d_Folk_press, d_Folk_propose, d_Folk_show, d_Folk_fall, d_Folk_come, d_Folk_lose, d_Folk_double, d_Folk_calm] : List He.DefD) ++ (([d_Folk_letters, d_Folk_stands, d_Folk_list_of, d_Folk_taken, d_Folk_is_still, d_Folk_witness, d_Folk_past, d_Folk_who, d_Folk_who_acts, d_Folk_seat_of, d_Folk_check_place, d__law_draw] : List He.DefD) ++ (([d__law_hands, d__law_words, d__law_made, d__law_asked, d__law_right, d_law] : List He.DefD))))
def fa : List He.Fa := ([.glo "Letter", .cls "Letter", .mkr "Letter", .noat "Letter" "kind", .noat "Letter" "sender", .noat "Letter" "to", .noat "Letter" "number", .noat "Letter" "told", .glo "Seat", .cls "Seat", .mkr "Seat", .noat "Seat" "number"] : List He.Fa) ++ (([.noat "Seat" "members", .noat "Seat" "news", .noat "Seat" "row", .noat "Seat" "took", .noat "Seat" "holding", .noat "Seat" "ballot", .noat "Seat" "agreed", .noat "Seat" "offer", .meth "Seat" "leader", .meth "Seat" "answered", .glo "Hand", .cls "Hand"] : List He.Fa) ++ (([.mkr "Hand", .noat "Hand" "me", .noat "Hand" "post", .noat "Hand" "standing", .noat "Hand" "said", .noat "Hand" "highest", .noat "Hand" "behind", .noat "Hand" "seat", .meth "Hand" "sit", .meth "Hand" "go_on", .meth "Hand" "send", .meth "Hand" "send_each"] : List He.Fa) ++ (([.meth "Hand" "send_others", .glo "Folk", .cls "Folk", .mkr "Folk", .noat "Folk" "many", .noat "Folk" "_post", .noat "Folk" "_hands", .meth "Folk" "say", .meth "Folk" "press", .meth "Folk" "propose", .meth "Folk" "show", .meth "Folk" "fall"] : List He.Fa) ++ (([.meth "Folk" "come", .meth "Folk" "lose", .meth "Folk" "double", .meth "Folk" "calm", .meth "Folk" "letters", .meth "Folk" "stands", .meth "Folk" "list_of", .meth "Folk" "taken", .meth "Folk" "is_still", .meth "Folk" "witness", .meth "Folk" "past", .meth "Folk" "_who"] : List He.Fa) ++ (([.meth "Folk" "_who_acts", .meth "Folk" "_seat_of", .meth "Folk" "_check_place", .glo "FolkError", .keep "FolkError", .glo "BadHand", .keep "BadHand", .glo "BadList", .keep "BadList", .glo "NoLetter", .keep "NoLetter", .glo "Fallen"] : List He.Fa) ++ (([.keep "Fallen", .glo "Outside", .keep "Outside", .glo "NotFirst", .keep "NotFirst", .glo "NoNews", .keep "NoNews", .glo "_wall", .glo "is_whole", .glo "is_hand", .glo "is_list", .glo "_law_draw"] : List He.Fa) ++ (([.glo "_law_hands", .glo "_law_words", .glo "_law_made", .glo "_law_asked", .glo "_law_right", .glo "law", .free "isinstance", .free "len", .free "int", .free "bool", .free "list", .free "range"] : List He.Fa) ++ (([.free "tuple", .free "str", .free "ValueError", .glo "NO_BALLOT", .int "MOST_HANDS" 9] : List He.Fa)))))))))
def ex (K : PySem.W.Frag) : Bool := He.tupB K "NO_BALLOT" [.int (0), .int (-1)] && (PySem.W.excIn K (He.ga K "FolkError") [.type "ValueError", .type "Exception", .type "BaseException", .type "object"] "ValueError.__new__" && (decide (PySem.W.subIn K (.ref (He.ga K "FolkError")) (.type "BaseException") = some true) && (decide (PySem.W.typeIn K (.ref (He.ga K "FolkError")) = some (.type "type")) && (decide (PySem.W.exmOne K (.ref (He.ga K "FolkError")) (.ref (He.ga K "FolkError")) = some true) && (decide (PySem.W.exmOne K (.ref (He.ga K "FolkError")) (.ref (He.ga K "BadHand")) = some false) && (decide (PySem.W.exmOne K (.ref (He.ga K "FolkError")) (.ref (He.ga K "BadList")) = some false) && (decide (PySem.W.exmOne K (.ref (He.ga K "FolkError")) (.ref (He.ga K "NoLetter")) = some false) && (decide (PySem.W.exmOne K (.ref (He.ga K "FolkError")) (.ref (He.ga K "Fallen")) = some false) && (decide (PySem.W.exmOne K (.ref (He.ga K "FolkError")) (.ref (He.ga K "Outside")) = some false) && (decide (PySem.W.exmOne K (.ref (He.ga K "FolkError")) (.ref (He.ga K "NotFirst")) = some false) && (decide (PySem.W.exmOne K (.ref (He.ga K "FolkError")) (.ref (He.ga K "NoNews")) = some false) && (PySem.W.excIn K (He.ga K "BadHand") [.type "ValueError", .type "Exception", .type "BaseException", .type "object"] "ValueError.__new__" && (decide (PySem.W.subIn K (.ref (He.ga K "BadHand")) (.type "BaseException") = some true) && (decide (PySem.W.typeIn K (.ref (He.ga K "BadHand")) = some (.type "type")) && (decide (PySem.W.exmOne K (.ref (He.ga K "BadHand")) (.ref (He.ga K "FolkError")) = some true) && (decide (PySem.W.exmOne K (.ref (He.ga K "BadHand")) (.ref (He.ga K "BadHand")) = some true) && (decide (PySem.W.exmOne K (.ref (He.ga K "BadHand")) (.ref (He.ga K "BadList")) = some false) && (decide (PySem.W.exmOne K (.ref (He.ga K "BadHand")) (.ref (He.ga K "NoLetter")) = some false) && (decide (PySem.W.exmOne K (.ref (He.ga K "BadHand")) (.ref (He.ga K "Fallen")) = some false) && (decide (PySem.W.exmOne K (.ref (He.ga K "BadHand")) (.ref (He.ga K "Outside")) = some false) && (decide (PySem.W.exmOne K (.ref (He.ga K "BadHand")) (.ref (He.ga K "NotFirst")) = some false) && (decide (PySem.W.exmOne K (.ref (He.ga K "BadHand")) (.ref (He.ga K "NoNews")) = some false) && (PySem.W.excIn K (He.ga K "BadList") [.type "ValueError", .type "Exception", .type "BaseException", .type "object"] "ValueError.__new__" && (decide (PySem.W.subIn K (.ref (He.ga K "BadList")) (.type "BaseException") = some true) && (decide (PySem.W.typeIn K (.ref (He.ga K "BadList")) = some (.type "type")) && (decide (PySem.W.exmOne K (.ref (He.ga K "BadList")) (.ref (He.ga K "FolkError")) = some true) && (decide (PySem.W.exmOne K (.ref (He.ga K "BadList")) (.ref (He.ga K "BadHand")) = some false) && (decide (PySem.W.exmOne K (.ref (He.ga K "BadList")) (.ref (He.ga K "BadList")) = some true) && (decide (PySem.W.exmOne K (.ref (He.ga K "BadList")) (.ref (He.ga K "NoLetter")) = some false) && (decide (PySem.W.exmOne K (.ref (He.ga K "BadList")) (.ref (He.ga K "Fallen")) = some false) && (decide (PySem.W.exmOne K (.ref (He.ga K "BadList")) (.ref (He.ga K "Outside")) = some false) && (decide (PySem.W.exmOne K (.ref (He.ga K "BadList")) (.ref (He.ga K "NotFirst")) = some false) && (decide (PySem.W.exmOne K (.ref (He.ga K "BadList")) (.ref (He.ga K "NoNews")) = some false) && (PySem.W.excIn K (He.ga K "NoLetter") [.type "ValueError", .type "Exception", .type "BaseException", .type "object"] "ValueError.__new__" && (decide (PySem.W.subIn K (.ref (He.ga K "NoLetter")) (.type "BaseException") = some true) && (decide (PySem.W.typeIn K (.ref (He.ga K "NoLetter")) = some (.type "type")) && (decide (PySem.W.exmOne K (.ref (He.ga K "NoLetter")) (.ref (He.ga K "FolkError")) = some true) && (decide (PySem.W.exmOne K (.ref (He.ga K "NoLetter")) (.ref (He.ga K "BadHand")) = some false) && (decide (PySem.W.exmOne K (.ref (He.ga K "NoLetter")) (.ref (He.ga K "BadList")) = some false) && (decide (PySem.W.exmOne K (.ref (He.ga K "NoLetter")) (.ref (He.ga K "NoLetter")) = some true) && (decide (PySem.W.exmOne K (.ref (He.ga K "NoLetter")) (.ref (He.ga K "Fallen")) = some false) && (decide (PySem.W.exmOne K (.ref (He.ga K "NoLetter")) (.ref (He.ga K "Outside")) = some false) && (decide (PySem.W.exmOne K (.ref (He.ga K "NoLetter")) (.ref (He.ga K "NotFirst")) = some false) && (decide (PySem.W.exmOne K (.ref (He.ga K "NoLetter")) (.ref (He.ga K "NoNews")) = some false) && (PySem.W.excIn K (He.ga K "Fallen") [.type "ValueError", .type "Exception", .type "BaseException", .type "object"] "ValueError.__new__" && (decide (PySem.W.subIn K (.ref (He.ga K "Fallen")) (.type "BaseException") = some true) && (decide (PySem.W.typeIn K (.ref (He.ga K "Fallen")) = some (.type "type")) && (decide (PySem.W.exmOne K (.ref (He.ga K "Fallen")) (.ref (He.ga K "FolkError")) = some true) && (decide (PySem.W.exmOne K (.ref (He.ga K "Fallen")) (.ref (He.ga K "BadHand")) = some false) && (decide (PySem.W.exmOne K (.ref (He.ga K "Fallen")) (.ref (He.ga K "BadList")) = some false) && (decide (PySem.W.exmOne K (.ref (He.ga K "Fallen")) (.ref (He.ga K "NoLetter")) = some false) && (decide (PySem.W.exmOne K (.ref (He.ga K "Fallen")) (.ref (He.ga K "Fallen")) = some true) && (decide (PySem.W.exmOne K (.ref (He.ga K "Fallen")) (.ref (He.ga K "Outside")) = some false) && (decide (PySem.W.exmOne K (.ref (He.ga K "Fallen")) (.ref (He.ga K "NotFirst")) = some false) && (decide (PySem.W.exmOne K (.ref (He.ga K "Fallen")) (.ref (He.ga K "NoNews")) = some false) && (PySem.W.excIn K (He.ga K "Outside") [.type "ValueError", .type "Exception", .type "BaseException", .type "object"] "ValueError.__new__" && (decide (PySem.W.subIn K (.ref (He.ga K "Outside")) (.type "BaseException") = some true) && (decide (PySem.W.typeIn K (.ref (He.ga K "Outside")) = some (.type "type")) && (decide (PySem.W.exmOne K (.ref (He.ga K "Outside")) (.ref (He.ga K "FolkError")) = some true) && (decide (PySem.W.exmOne K (.ref (He.ga K "Outside")) (.ref (He.ga K "BadHand")) = some false) && (decide (PySem.W.exmOne K (.ref (He.ga K "Outside")) (.ref (He.ga K "BadList")) = some false) && (decide (PySem.W.exmOne K (.ref (He.ga K "Outside")) (.ref (He.ga K "NoLetter")) = some false) && (decide (PySem.W.exmOne K (.ref (He.ga K "Outside")) (.ref (He.ga K "Fallen")) = some false) && (decide (PySem.W.exmOne K (.ref (He.ga K "Outside")) (.ref (He.ga K "Outside")) = some true) && (decide (PySem.W.exmOne K (.ref (He.ga K "Outside")) (.ref (He.ga K "NotFirst")) = some false) && (decide (PySem.W.exmOne K (.ref (He.ga K "Outside")) (.ref (He.ga K "NoNews")) = some false) && (PySem.W.excIn K (He.ga K "NotFirst") [.type "ValueError", .type "Exception", .type "BaseException", .type "object"] "ValueError.__new__" && (decide (PySem.W.subIn K (.ref (He.ga K "NotFirst")) (.type "BaseException") = some true) && (decide (PySem.W.typeIn K (.ref (He.ga K "NotFirst")) = some (.type "type")) && (decide (PySem.W.exmOne K (.ref (He.ga K "NotFirst")) (.ref (He.ga K "FolkError")) = some true) && (decide (PySem.W.exmOne K (.ref (He.ga K "NotFirst")) (.ref (He.ga K "BadHand")) = some false) && (decide (PySem.W.exmOne K (.ref (He.ga K "NotFirst")) (.ref (He.ga K "BadList")) = some false) && (decide (PySem.W.exmOne K (.ref (He.ga K "NotFirst")) (.ref (He.ga K "NoLetter")) = some false) && (decide (PySem.W.exmOne K (.ref (He.ga K "NotFirst")) (.ref (He.ga K "Fallen")) = some false) && (decide (PySem.W.exmOne K (.ref (He.ga K "NotFirst")) (.ref (He.ga K "Outside")) = some false) && (decide (PySem.W.exmOne K (.ref (He.ga K "NotFirst")) (.ref (He.ga K "NotFirst")) = some true) && (decide (PySem.W.exmOne K (.ref (He.ga K "NotFirst")) (.ref (He.ga K "NoNews")) = some false) && (PySem.W.excIn K (He.ga K "NoNews") [.type "ValueError", .type "Exception", .type "BaseException", .type "object"] "ValueError.__new__" && (decide (PySem.W.subIn K (.ref (He.ga K "NoNews")) (.type "BaseException") = some true) && (decide (PySem.W.typeIn K (.ref (He.ga K "NoNews")) = some (.type "type")) && (decide (PySem.W.exmOne K (.ref (He.ga K "NoNews")) (.ref (He.ga K "FolkError")) = some true) && (decide (PySem.W.exmOne K (.ref (He.ga K "NoNews")) (.ref (He.ga K "BadHand")) = some false) && (decide (PySem.W.exmOne K (.ref (He.ga K "NoNews")) (.ref (He.ga K "BadList")) = some false) && (decide (PySem.W.exmOne K (.ref (He.ga K "NoNews")) (.ref (He.ga K "NoLetter")) = some false) && (decide (PySem.W.exmOne K (.ref (He.ga K "NoNews")) (.ref (He.ga K "Fallen")) = some false) && (decide (PySem.W.exmOne K (.ref (He.ga K "NoNews")) (.ref (He.ga K "Outside")) = some false) && (decide (PySem.W.exmOne K (.ref (He.ga K "NoNews")) (.ref (He.ga K "NotFirst")) = some false) && (decide (PySem.W.exmOne K (.ref (He.ga K "NoNews")) (.ref (He.ga K "NoNews")) = some true) && (decide (PySem.W.findIn K (.ref (He.ga K "BadHand")) "__getattribute__" = some (some (.builtin "BaseException.__getattribute__"))) && (decide (PySem.W.findIn K (.ref (He.ga K "BadHand")) "__getattr__" = some none) && (decide (PySem.W.subIn K (.ref (He.ga K "BadHand")) (.type "BaseException") = some true) && (decide (PySem.W.hasDictIn K (He.ga K "BadHand") = true) && (decide (PySem.W.findIn K (.ref (He.ga K "BadHand")) "__class__" = some (some (.builtin "object.__class__"))) && (decide (PySem.W.specialIn K (.builtin "object.__class__") "__get__" = some (some (.builtin "getset_descriptor.__get__"))) && (decide (PySem.W.takesIn K (.builtin "object.__class__") = some true) && (decide (PySem.W.mroIn K (He.ga K "BadHand") (.type "object") = some true) && (decide (PySem.W.kitOne K (.ref (He.ga K "BadHand")) (.ref (He.ga K "BadHand")) = some true) && (decide (PySem.W.kitOne K (.ref (He.ga K "BadHand")) (.ref (He.ga K "BadList")) = some false) && (decide (PySem.W.kitOne K (.ref (He.ga K "BadHand")) (.ref (He.ga K "NoLetter")) = some false) && (decide (PySem.W.kitOne K (.ref (He.ga K "BadHand")) (.ref (He.ga K "Fallen")) = some false) && (decide (PySem.W.kitOne K (.ref (He.ga K "BadHand")) (.ref (He.ga K "Outside")) = some false) && (decide (PySem.W.kitOne K (.ref (He.ga K "BadHand")) (.ref (He.ga K "NotFirst")) = some false) && (decide (PySem.W.kitOne K (.ref (He.ga K "BadHand")) (.ref (He.ga K "NoNews")) = some false) && (decide (PySem.W.kitOne K (.ref (He.ga K "BadHand")) (.type "ValueError") = some true) && (decide (PySem.W.kitAny K (.ref (He.ga K "BadHand")) [.ref (He.ga K "NoLetter"), .ref (He.ga K "Fallen"), .ref (He.ga K "NotFirst"), .ref (He.ga K "NoNews")] = some false) && (decide (PySem.W.kitAny K (.ref (He.ga K "BadHand")) [.ref (He.ga K "NoLetter")] = some false) && (decide (PySem.W.findIn K (.ref (He.ga K "BadList")) "__getattribute__" = some (some (.builtin "BaseException.__getattribute__"))) && (decide (PySem.W.findIn K (.ref (He.ga K "BadList")) "__getattr__" = some none) && (decide (PySem.W.subIn K (.ref (He.ga K "BadList")) (.type "BaseException") = some true) && (decide (PySem.W.hasDictIn K (He.ga K "BadList") = true) && (decide (PySem.W.findIn K (.ref (He.ga K "BadList")) "__class__" = some (some (.builtin "object.__class__"))) && (decide (PySem.W.specialIn K (.builtin "object.__class__") "__get__" = some (some (.builtin "getset_descriptor.__get__"))) && (decide (PySem.W.takesIn K (.builtin "object.__class__") = some true) && (decide (PySem.W.mroIn K (He.ga K "BadList") (.type "object") = some true) && (decide (PySem.W.kitOne K (.ref (He.ga K "BadList")) (.ref (He.ga K "BadHand")) = some false) && (decide (PySem.W.kitOne K (.ref (He.ga K "BadList")) (.ref (He.ga K "BadList")) = some true) && (decide (PySem.W.kitOne K (.ref (He.ga K "BadList")) (.ref (He.ga K "NoLetter")) = some false) && (decide (PySem.W.kitOne K (.ref (He.ga K "BadList")) (.ref (He.ga K "Fallen")) = some false) && (decide (PySem.W.kitOne K (.ref (He.ga K "BadList")) (.ref (He.ga K "Outside")) = some false) && (decide (PySem.W.kitOne K (.ref (He.ga K "BadList")) (.ref (He.ga K "NotFirst")) = some false) && (decide (PySem.W.kitOne K (.ref (He.ga K "BadList")) (.ref (He.ga K "NoNews")) = some false) && (decide (PySem.W.kitOne K (.ref (He.ga K "BadList")) (.type "ValueError") = some true) && (decide (PySem.W.kitAny K (.ref (He.ga K "BadList")) [.ref (He.ga K "NoLetter"), .ref (He.ga K "Fallen"), .ref (He.ga K "NotFirst"), .ref (He.ga K "NoNews")] = some false) && (decide (PySem.W.kitAny K (.ref (He.ga K "BadList")) [.ref (He.ga K "NoLetter")] = some false) && (decide (PySem.W.findIn K (.ref (He.ga K "Outside")) "__getattribute__" = some (some (.builtin "BaseException.__getattribute__"))) && (decide (PySem.W.findIn K (.ref (He.ga K "Outside")) "__getattr__" = some none) && (decide (PySem.W.subIn K (.ref (He.ga K "Outside")) (.type "BaseException") = some true) && (decide (PySem.W.hasDictIn K (He.ga K "Outside") = true) && (decide (PySem.W.findIn K (.ref (He.ga K "Outside")) "__class__" = some (some (.builtin "object.__class__"))) && (decide (PySem.W.specialIn K (.builtin "object.__class__") "__get__" = some (some (.builtin "getset_descriptor.__get__"))) && (decide (PySem.W.takesIn K (.builtin "object.__class__") = some true) && (decide (PySem.W.mroIn K (He.ga K "Outside") (.type "object") = some true) && (decide (PySem.W.kitOne K (.ref (He.ga K "Outside")) (.ref (He.ga K "BadHand")) = some false) && (decide (PySem.W.kitOne K (.ref (He.ga K "Outside")) (.ref (He.ga K "BadList")) = some false) && (decide (PySem.W.kitOne K (.ref (He.ga K "Outside")) (.ref (He.ga K "NoLetter")) = some false) && (decide (PySem.W.kitOne K (.ref (He.ga K "Outside")) (.ref (He.ga K "Fallen")) = some false) && (decide (PySem.W.kitOne K (.ref (He.ga K "Outside")) (.ref (He.ga K "Outside")) = some true) && (decide (PySem.W.kitOne K (.ref (He.ga K "Outside")) (.ref (He.ga K "NotFirst")) = some false) && (decide (PySem.W.kitOne K (.ref (He.ga K "Outside")) (.ref (He.ga K "NoNews")) = some false) && (decide (PySem.W.kitOne K (.ref (He.ga K "Outside")) (.type "ValueError") = some true) && (decide (PySem.W.kitAny K (.ref (He.ga K "Outside")) [.ref (He.ga K "NoLetter"), .ref (He.ga K "Fallen"), .ref (He.ga K "NotFirst"), .ref (He.ga K "NoNews")] = some false) && (decide (PySem.W.kitAny K (.ref (He.ga K "Outside")) [.ref (He.ga K "NoLetter")] = some false) && (decide (PySem.W.findIn K (.ref (He.ga K "Folk")) "__class__" = some (some (.builtin "object.__class__"))) && (decide (PySem.W.mroIn K (He.ga K "Folk") (.type "object") = some true) && (decide (PySem.W.kitOne K (.ref (He.ga K "Folk")) (.type "str") = some false))))))))))))))))))))))))))))))))))))))))))))))))))))))))))))))))))))))))))))))))))))))))))))))))))))))))))))))))))))))))))))))))))))))))))))))))))
abbrev R : PySem.W.OpenRow := PySem.W.OpenLaw.row PySem.Challenge.rw_folklist_k02_the_first_list
abbrev hk : PySem.W.Hook := He.hookX 5 fa fn [] [] ex
def ob (s : PySem.W.SharedT) : He.AlX := He.obsX 5 fa fn [] [] ex (HandSHeadRun.getT s)
theorem ob_eq (s : PySem.W.SharedT) : ob s = hk.obs s.abs := He.obsX_eq (HandSHeadRun.getT_eq s)
def names : List PySem.Str := (["_wall", "FolkError", "BadHand", "BadList", "NoLetter", "Fallen", "Outside", "NotFirst", "NoNews", "Letter", "NO_BALLOT", "Seat"] : List PySem.Str) ++ ((["Hand", "is_whole", "is_hand", "is_list", "MOST_HANDS", "Folk", "_law_draw", "_law_hands", "_law_words", "_law_made", "_law_asked", "_law_right"] : List PySem.Str))
theorem run (w : World) : HandSHeadRun.RunEq R (PySem.W.view R.prog [30]) hk ob 20000 names w := by
  intro os
  kernel_rfl
theorem txt_of {K : PySem.W.Frag} {h : Heap} {mg : Str → Option Value} {w : World} {h0 : Heap} (X : K.In h) (G : h.Ns mainGlobals mg) (c : He.SaysX fa fn [] [] ex w h0 K) : Txt K mg := by
  have c1 := c.t.d
  have e0 := He.ba c.more
  have e1 := He.ba e0.2
  have e2 := He.ba e1.2
  have e3 := He.ba e2.2
  have e4 := He.ba e3.2
  have e5 := He.ba e4.2
  have e6 := He.ba e5.2
  have e7 := He.ba e6.2
  have e8 := He.ba e7.2
  have e9 := He.ba e8.2
  have e10 := He.ba e9.2
  have e11 := He.ba e10.2
  have e12 := He.ba e11.2
  have e13 := He.ba e12.2
  have e14 := He.ba e13.2
  have e15 := He.ba e14.2
  have e16 := He.ba e15.2
  have e17 := He.ba e16.2
  have e18 := He.ba e17.2
  have e19 := He.ba e18.2
  have e20 := He.ba e19.2
  have e21 := He.ba e20.2
  have e22 := He.ba e21.2
  have e23 := He.ba e22.2
  have e24 := He.ba e23.2
  have e25 := He.ba e24.2
  have e26 := He.ba e25.2
  have e27 := He.ba e26.2
  have e28 := He.ba e27.2
  have e29 := He.ba e28.2
  have e30 := He.ba e29.2
  have e31 := He.ba e30.2
  have e32 := He.ba e31.2
  have e33 := He.ba e32.2
  have e34 := He.ba e33.2
  have e35 := He.ba e34.2
  have e36 := He.ba e35.2
  have e37 := He.ba e36.2
  have e38 := He.ba e37.2
  have e39 := He.ba e38.2
  have e40 := He.ba e39.2
  have e41 := He.ba e40.2
  have e42 := He.ba e41.2
  have e43 := He.ba e42.2
  have e44 := He.ba e43.2
  have e45 := He.ba e44.2
  have e46 := He.ba e45.2
  have e47 := He.ba e46.2
  have e48 := He.ba e47.2
  have e49 := He.ba e48.2
  have e50 := He.ba e49.2
  have e51 := He.ba e50.2
  have e52 := He.ba e51.2
  have e53 := He.ba e52.2
  have e54 := He.ba e53.2
  have e55 := He.ba e54.2
  have e56 := He.ba e55.2
  have e57 := He.ba e56.2
  have e58 := He.ba e57.2
  have e59 := He.ba e58.2
  have e60 := He.ba e59.2
  have e61 := He.ba e60.2
  have e62 := He.ba e61.2
  have e63 := He.ba e62.2
  have e64 := He.ba e63.2
  have e65 := He.ba e64.2
  have e66 := He.ba e65.2
  have e67 := He.ba e66.2
  have e68 := He.ba e67.2
  have e69 := He.ba e68.2
  have e70 := He.ba e69.2
  have e71 := He.ba e70.2
  have e72 := He.ba e71.2
  have e73 := He.ba e72.2
  have e74 := He.ba e73.2
  have e75 := He.ba e74.2
  have e76 := He.ba e75.2
  have e77 := He.ba e76.2
  have e78 := He.ba e77.2
  have e79 := He.ba e78.2
  have e80 := He.ba e79.2
  have e81 := He.ba e80.2
  have e82 := He.ba e81.2
  have e83 := He.ba e82.2
  have e84 := He.ba e83.2
  have e85 := He.ba e84.2
  have e86 := He.ba e85.2
  have e87 := He.ba e86.2
  have e88 := He.ba e87.2
  have e89 := He.ba e88.2
  have e90 := He.ba e89.2
  have e91 := He.ba e90.2
  have e92 := He.ba e91.2
  have e93 := He.ba e92.2
  have e94 := He.ba e93.2
  have e95 := He.ba e94.2
  have e96 := He.ba e95.2
  have e97 := He.ba e96.2
  have e98 := He.ba e97.2
  have e99 := He.ba e98.2
  have e100 := He.ba e99.2
  have e101 := He.ba e100.2
  have e102 := He.ba e101.2
  have e103 := He.ba e102.2
  have e104 := He.ba e103.2
  have e105 := He.ba e104.2
  have e106 := He.ba e105.2
  have e107 := He.ba e106.2
  have e108 := He.ba e107.2
  have e109 := He.ba e108.2
  have e110 := He.ba e109.2
  have e111 := He.ba e110.2
  have e112 := He.ba e111.2
  have e113 := He.ba e112.2
  have e114 := He.ba e113.2
  have e115 := He.ba e114.2
  have e116 := He.ba e115.2
  have e117 := He.ba e116.2
  have e118 := He.ba e117.2
  have e119 := He.ba e118.2
  have e120 := He.ba e119.2
  have e121 := He.ba e120.2
  have e122 := He.ba e121.2
  have e123 := He.ba e122.2
  have e124 := He.ba e123.2
  have e125 := He.ba e124.2
  have e126 := He.ba e125.2
  have e127 := He.ba e126.2
  have e128 := He.ba e127.2
  have e129 := He.ba e128.2
  have e130 := He.ba e129.2
  have e131 := He.ba e130.2
  have e132 := He.ba e131.2
  have e133 := He.ba e132.2
  have e134 := He.ba e133.2
  have e135 := He.ba e134.2
  have e136 := He.ba e135.2
  have e137 := He.ba e136.2
  have e138 := He.ba e137.2
  have e139 := He.ba e138.2
  have e140 := He.ba e139.2
  have e141 := He.ba e140.2
  have e142 := He.ba e141.2
  have e143 := He.ba e142.2
  have e144 := He.ba e143.2
  have e145 := e144.2
  exact {
    g_Letter := He.glo_ok X G (c1.fact 0 rfl)
    cl_Letter := He.cls_ok (c1.fact 1 rfl)
    mk_Letter := He.mkr_ok (c1.fact 2 rfl)
    na_Letter_kind := He.noat_ok (c1.fact 3 rfl)
    na_Letter_sender := He.noat_ok (c1.fact 4 rfl)
    na_Letter_to := He.noat_ok (c1.fact 5 rfl)
    na_Letter_number := He.noat_ok (c1.fact 6 rfl)
    na_Letter_told := He.noat_ok (c1.fact 7 rfl)
    g_Seat := He.glo_ok X G (c1.fact 8 rfl)
    cl_Seat := He.cls_ok (c1.fact 9 rfl)
    mk_Seat := He.mkr_ok (c1.fact 10 rfl)
    na_Seat_number := He.noat_ok (c1.fact 11 rfl)
    na_Seat_members := He.noat_ok (c1.fact 12 rfl)
    na_Seat_news := He.noat_ok (c1.fact 13 rfl)
    na_Seat_row := He.noat_ok (c1.fact 14 rfl)
    na_Seat_took := He.noat_ok (c1.fact 15 rfl)
    na_Seat_holding := He.noat_ok (c1.fact 16 rfl)
    na_Seat_ballot := He.noat_ok (c1.fact 17 rfl)
    na_Seat_agreed := He.noat_ok (c1.fact 18 rfl)
    na_Seat_offer := He.noat_ok (c1.fact 19 rfl)
    me_Seat_leader := He.meth_ok (c1.fact 20 rfl)
    me_Seat_answered := He.meth_ok (c1.fact 21 rfl)
    g_Hand := He.glo_ok X G (c1.fact 22 rfl)
    cl_Hand := He.cls_ok (c1.fact 23 rfl)
    mk_Hand := He.mkr_ok (c1.fact 24 rfl)
    na_Hand_me := He.noat_ok (c1.fact 25 rfl)
    na_Hand_post := He.noat_ok (c1.fact 26 rfl)
    na_Hand_standing := He.noat_ok (c1.fact 27 rfl)
    na_Hand_said := He.noat_ok (c1.fact 28 rfl)
    na_Hand_highest := He.noat_ok (c1.fact 29 rfl)
    na_Hand_behind := He.noat_ok (c1.fact 30 rfl)
    na_Hand_seat := He.noat_ok (c1.fact 31 rfl)
    me_Hand_sit := He.meth_ok (c1.fact 32 rfl)
    me_Hand_go_on := He.meth_ok (c1.fact 33 rfl)
    me_Hand_send := He.meth_ok (c1.fact 34 rfl)
    me_Hand_send_each := He.meth_ok (c1.fact 35 rfl)
    me_Hand_send_others := He.meth_ok (c1.fact 36 rfl)
    g_Folk := He.glo_ok X G (c1.fact 37 rfl)
    cl_Folk := He.cls_ok (c1.fact 38 rfl)
    mk_Folk := He.mkr_ok (c1.fact 39 rfl)
    na_Folk_many := He.noat_ok (c1.fact 40 rfl)
    na_Folk__post := He.noat_ok (c1.fact 41 rfl)
    na_Folk__hands := He.noat_ok (c1.fact 42 rfl)
    me_Folk_say := He.meth_ok (c1.fact 43 rfl)
    me_Folk_press := He.meth_ok (c1.fact 44 rfl)
    me_Folk_propose := He.meth_ok (c1.fact 45 rfl)
    me_Folk_show := He.meth_ok (c1.fact 46 rfl)
    me_Folk_fall := He.meth_ok (c1.fact 47 rfl)
    me_Folk_come := He.meth_ok (c1.fact 48 rfl)
    me_Folk_lose := He.meth_ok (c1.fact 49 rfl)
    me_Folk_double := He.meth_ok (c1.fact 50 rfl)
    me_Folk_calm := He.meth_ok (c1.fact 51 rfl)
    me_Folk_letters := He.meth_ok (c1.fact 52 rfl)
    me_Folk_stands := He.meth_ok (c1.fact 53 rfl)
    me_Folk_list_of := He.meth_ok (c1.fact 54 rfl)
    me_Folk_taken := He.meth_ok (c1.fact 55 rfl)
    me_Folk_is_still := He.meth_ok (c1.fact 56 rfl)
    me_Folk_witness := He.meth_ok (c1.fact 57 rfl)
    me_Folk_past := He.meth_ok (c1.fact 58 rfl)
    me_Folk_who := He.meth_ok (c1.fact 59 rfl)
    me_Folk_who_acts := He.meth_ok (c1.fact 60 rfl)
    me_Folk_seat_of := He.meth_ok (c1.fact 61 rfl)
    me_Folk_check_place := He.meth_ok (c1.fact 62 rfl)
    g_FolkError := He.glo_ok X G (c1.fact 63 rfl)
    kp_FolkError := He.keep_ok (c1.fact 64 rfl)
    g_BadHand := He.glo_ok X G (c1.fact 65 rfl)
    kp_BadHand := He.keep_ok (c1.fact 66 rfl)
    g_BadList := He.glo_ok X G (c1.fact 67 rfl)
    kp_BadList := He.keep_ok (c1.fact 68 rfl)
    g_NoLetter := He.glo_ok X G (c1.fact 69 rfl)
    kp_NoLetter := He.keep_ok (c1.fact 70 rfl)
    g_Fallen := He.glo_ok X G (c1.fact 71 rfl)
    kp_Fallen := He.keep_ok (c1.fact 72 rfl)
    g_Outside := He.glo_ok X G (c1.fact 73 rfl)
    kp_Outside := He.keep_ok (c1.fact 74 rfl)
    g_NotFirst := He.glo_ok X G (c1.fact 75 rfl)
    kp_NotFirst := He.keep_ok (c1.fact 76 rfl)
    g_NoNews := He.glo_ok X G (c1.fact 77 rfl)
    kp_NoNews := He.keep_ok (c1.fact 78 rfl)
    g__wall := He.glo_ok X G (c1.fact 79 rfl)
    g_is_whole := He.glo_ok X G (c1.fact 80 rfl)
    g_is_hand := He.glo_ok X G (c1.fact 81 rfl)
    g_is_list := He.glo_ok X G (c1.fact 82 rfl)
    g__law_draw := He.glo_ok X G (c1.fact 83 rfl)
    g__law_hands := He.glo_ok X G (c1.fact 84 rfl)
    g__law_words := He.glo_ok X G (c1.fact 85 rfl)
    g__law_made := He.glo_ok X G (c1.fact 86 rfl)
    g__law_asked := He.glo_ok X G (c1.fact 87 rfl)
    g__law_right := He.glo_ok X G (c1.fact 88 rfl)
    g_law := He.glo_ok X G (c1.fact 89 rfl)
    b_isinstance := He.free_ok X G (c1.fact 90 rfl)
    b_len := He.free_ok X G (c1.fact 91 rfl)
    b_int := He.free_ok X G (c1.fact 92 rfl)
    b_bool := He.free_ok X G (c1.fact 93 rfl)
    b_list := He.free_ok X G (c1.fact 94 rfl)
    b_range := He.free_ok X G (c1.fact 95 rfl)
    b_tuple := He.free_ok X G (c1.fact 96 rfl)
    b_str := He.free_ok X G (c1.fact 97 rfl)
    b_ValueError := He.free_ok X G (c1.fact 98 rfl)
    g_NO_BALLOT := He.glo_ok X G (c1.fact 99 rfl)
    i_MOST_HANDS := He.int_ok X G (c1.fact 100 rfl)
    tup_NO_BALLOT := e0.1
    xi_FolkError := e1.1
    xs_FolkError := of_decide_eq_true e2.1
    xt_FolkError := of_decide_eq_true e3.1
    xm_FolkError_FolkError := of_decide_eq_true e4.1
    xm_FolkError_BadHand := of_decide_eq_true e5.1
    xm_FolkError_BadList := of_decide_eq_true e6.1
    xm_FolkError_NoLetter := of_decide_eq_true e7.1
    xm_FolkError_Fallen := of_decide_eq_true e8.1
    xm_FolkError_Outside := of_decide_eq_true e9.1
    xm_FolkError_NotFirst := of_decide_eq_true e10.1
    xm_FolkError_NoNews := of_decide_eq_true e11.1
    xi_BadHand := e12.1
    xs_BadHand := of_decide_eq_true e13.1
    xt_BadHand := of_decide_eq_true e14.1
    xm_BadHand_FolkError := of_decide_eq_true e15.1
    xm_BadHand_BadHand := of_decide_eq_true e16.1
    xm_BadHand_BadList := of_decide_eq_true e17.1
    xm_BadHand_NoLetter := of_decide_eq_true e18.1
    xm_BadHand_Fallen := of_decide_eq_true e19.1
    xm_BadHand_Outside := of_decide_eq_true e20.1
    xm_BadHand_NotFirst := of_decide_eq_true e21.1
    xm_BadHand_NoNews := of_decide_eq_true e22.1
    xi_BadList := e23.1
    xs_BadList := of_decide_eq_true e24.1
    xt_BadList := of_decide_eq_true e25.1
    xm_BadList_FolkError := of_decide_eq_true e26.1
    xm_BadList_BadHand := of_decide_eq_true e27.1
    xm_BadList_BadList := of_decide_eq_true e28.1
    xm_BadList_NoLetter := of_decide_eq_true e29.1
    xm_BadList_Fallen := of_decide_eq_true e30.1
    xm_BadList_Outside := of_decide_eq_true e31.1
    xm_BadList_NotFirst := of_decide_eq_true e32.1
    xm_BadList_NoNews := of_decide_eq_true e33.1
    xi_NoLetter := e34.1
    xs_NoLetter := of_decide_eq_true e35.1
    xt_NoLetter := of_decide_eq_true e36.1
    xm_NoLetter_FolkError := of_decide_eq_true e37.1
    xm_NoLetter_BadHand := of_decide_eq_true e38.1
    xm_NoLetter_BadList := of_decide_eq_true e39.1
    xm_NoLetter_NoLetter := of_decide_eq_true e40.1
    xm_NoLetter_Fallen := of_decide_eq_true e41.1
    xm_NoLetter_Outside := of_decide_eq_true e42.1
    xm_NoLetter_NotFirst := of_decide_eq_true e43.1
    xm_NoLetter_NoNews := of_decide_eq_true e44.1
    xi_Fallen := e45.1
    xs_Fallen := of_decide_eq_true e46.1
    xt_Fallen := of_decide_eq_true e47.1
    xm_Fallen_FolkError := of_decide_eq_true e48.1
    xm_Fallen_BadHand := of_decide_eq_true e49.1
    xm_Fallen_BadList := of_decide_eq_true e50.1
    xm_Fallen_NoLetter := of_decide_eq_true e51.1
    xm_Fallen_Fallen := of_decide_eq_true e52.1
    xm_Fallen_Outside := of_decide_eq_true e53.1
    xm_Fallen_NotFirst := of_decide_eq_true e54.1
    xm_Fallen_NoNews := of_decide_eq_true e55.1
    xi_Outside := e56.1
    xs_Outside := of_decide_eq_true e57.1
    xt_Outside := of_decide_eq_true e58.1
    xm_Outside_FolkError := of_decide_eq_true e59.1
    xm_Outside_BadHand := of_decide_eq_true e60.1
    xm_Outside_BadList := of_decide_eq_true e61.1
    xm_Outside_NoLetter := of_decide_eq_true e62.1
    xm_Outside_Fallen := of_decide_eq_true e63.1
    xm_Outside_Outside := of_decide_eq_true e64.1
    xm_Outside_NotFirst := of_decide_eq_true e65.1
    xm_Outside_NoNews := of_decide_eq_true e66.1
    xi_NotFirst := e67.1
    xs_NotFirst := of_decide_eq_true e68.1
    xt_NotFirst := of_decide_eq_true e69.1
    xm_NotFirst_FolkError := of_decide_eq_true e70.1
    xm_NotFirst_BadHand := of_decide_eq_true e71.1
    xm_NotFirst_BadList := of_decide_eq_true e72.1
    xm_NotFirst_NoLetter := of_decide_eq_true e73.1
    xm_NotFirst_Fallen := of_decide_eq_true e74.1
    xm_NotFirst_Outside := of_decide_eq_true e75.1
    xm_NotFirst_NotFirst := of_decide_eq_true e76.1
    xm_NotFirst_NoNews := of_decide_eq_true e77.1
    xi_NoNews := e78.1
    xs_NoNews := of_decide_eq_true e79.1
    xt_NoNews := of_decide_eq_true e80.1
    xm_NoNews_FolkError := of_decide_eq_true e81.1
    xm_NoNews_BadHand := of_decide_eq_true e82.1
    xm_NoNews_BadList := of_decide_eq_true e83.1
    xm_NoNews_NoLetter := of_decide_eq_true e84.1
    xm_NoNews_Fallen := of_decide_eq_true e85.1
    xm_NoNews_Outside := of_decide_eq_true e86.1
    xm_NoNews_NotFirst := of_decide_eq_true e87.1
    xm_NoNews_NoNews := of_decide_eq_true e88.1
    ec0_BadHand := of_decide_eq_true e89.1
    ec1_BadHand := of_decide_eq_true e90.1
    ec2_BadHand := of_decide_eq_true e91.1
    ec3_BadHand := of_decide_eq_true e92.1
    ec4_BadHand := of_decide_eq_true e93.1
    ec5_BadHand := of_decide_eq_true e94.1
    ec6_BadHand := of_decide_eq_true e95.1
    ec7_BadHand := of_decide_eq_true e96.1
    ki_BadHand_BadHand := of_decide_eq_true e97.1
    ki_BadHand_BadList := of_decide_eq_true e98.1
    ki_BadHand_NoLetter := of_decide_eq_true e99.1
    ki_BadHand_Fallen := of_decide_eq_true e100.1
    ki_BadHand_Outside := of_decide_eq_true e101.1
    ki_BadHand_NotFirst := of_decide_eq_true e102.1
    ki_BadHand_NoNews := of_decide_eq_true e103.1
    ki_BadHand_ValueError := of_decide_eq_true e104.1
    kaB_BadHand := of_decide_eq_true e105.1
    kaC_BadHand := of_decide_eq_true e106.1
    ec0_BadList := of_decide_eq_true e107.1
    ec1_BadList := of_decide_eq_true e108.1
    ec2_BadList := of_decide_eq_true e109.1
    ec3_BadList := of_decide_eq_true e110.1
    ec4_BadList := of_decide_eq_true e111.1
    ec5_BadList := of_decide_eq_true e112.1
    ec6_BadList := of_decide_eq_true e113.1
    ec7_BadList := of_decide_eq_true e114.1
    ki_BadList_BadHand := of_decide_eq_true e115.1
    ki_BadList_BadList := of_decide_eq_true e116.1
    ki_BadList_NoLetter := of_decide_eq_true e117.1
    ki_BadList_Fallen := of_decide_eq_true e118.1
    ki_BadList_Outside := of_decide_eq_true e119.1
    ki_BadList_NotFirst := of_decide_eq_true e120.1
    ki_BadList_NoNews := of_decide_eq_true e121.1
    ki_BadList_ValueError := of_decide_eq_true e122.1
    kaB_BadList := of_decide_eq_true e123.1
    kaC_BadList := of_decide_eq_true e124.1
    ec0_Outside := of_decide_eq_true e125.1
    ec1_Outside := of_decide_eq_true e126.1
    ec2_Outside := of_decide_eq_true e127.1
    ec3_Outside := of_decide_eq_true e128.1
    ec4_Outside := of_decide_eq_true e129.1
    ec5_Outside := of_decide_eq_true e130.1
    ec6_Outside := of_decide_eq_true e131.1
    ec7_Outside := of_decide_eq_true e132.1
    ki_Outside_BadHand := of_decide_eq_true e133.1
    ki_Outside_BadList := of_decide_eq_true e134.1
    ki_Outside_NoLetter := of_decide_eq_true e135.1
    ki_Outside_Fallen := of_decide_eq_true e136.1
    ki_Outside_Outside := of_decide_eq_true e137.1
    ki_Outside_NotFirst := of_decide_eq_true e138.1
    ki_Outside_NoNews := of_decide_eq_true e139.1
    ki_Outside_ValueError := of_decide_eq_true e140.1
    kaB_Outside := of_decide_eq_true e141.1
    kaC_Outside := of_decide_eq_true e142.1
    fk0_Folk := of_decide_eq_true e143.1
    fk1_Folk := of_decide_eq_true e144.1
    fk2_Folk := of_decide_eq_true e145
    F__wall := c1.def_ 0 (d := d__wall) rfl
    F_Letter_init := c1.def_ 1 (d := d_Letter_init) rfl
    F_Seat_init := c1.def_ 2 (d := d_Seat_init) rfl
    F_Seat_leader := c1.def_ 3 (d := d_Seat_leader) rfl
    F_Seat_answered := c1.def_ 4 (d := d_Seat_answered) rfl
    F_Hand_init := c1.def_ 5 (d := d_Hand_init) rfl
    F_Hand_sit := c1.def_ 6 (d := d_Hand_sit) rfl
    F_Hand_go_on := c1.def_ 7 (d := d_Hand_go_on) rfl
    F_Hand_send := c1.def_ 8 (d := d_Hand_send) rfl
    F_Hand_send_each := c1.def_ 9 (d := d_Hand_send_each) rfl
    F_Hand_send_others := c1.def_ 10 (d := d_Hand_send_others) rfl
    F_is_whole := c1.def_ 11 (d := d_is_whole) rfl
    F_is_hand := c1.def_ 12 (d := d_is_hand) rfl
    F_is_list := c1.def_ 13 (d := d_is_list) rfl
    F_Folk_init := c1.def_ 14 (d := d_Folk_init) rfl
    F_Folk_say := c1.def_ 15 (d := d_Folk_say) rfl
    F_Folk_press := c1.def_ 16 (d := d_Folk_press) rfl
    F_Folk_propose := c1.def_ 17 (d := d_Folk_propose) rfl
    F_Folk_show := c1.def_ 18 (d := d_Folk_show) rfl
    F_Folk_fall := c1.def_ 19 (d := d_Folk_fall) rfl
    F_Folk_come := c1.def_ 20 (d := d_Folk_come) rfl
    F_Folk_lose := c1.def_ 21 (d := d_Folk_lose) rfl
    F_Folk_double := c1.def_ 22 (d := d_Folk_double) rfl
    F_Folk_calm := c1.def_ 23 (d := d_Folk_calm) rfl
    F_Folk_letters := c1.def_ 24 (d := d_Folk_letters) rfl
    F_Folk_stands := c1.def_ 25 (d := d_Folk_stands) rfl
    F_Folk_list_of := c1.def_ 26 (d := d_Folk_list_of) rfl
    F_Folk_taken := c1.def_ 27 (d := d_Folk_taken) rfl
    F_Folk_is_still := c1.def_ 28 (d := d_Folk_is_still) rfl
    F_Folk_witness := c1.def_ 29 (d := d_Folk_witness) rfl
    F_Folk_past := c1.def_ 30 (d := d_Folk_past) rfl
    F_Folk_who := c1.def_ 31 (d := d_Folk_who) rfl
    F_Folk_who_acts := c1.def_ 32 (d := d_Folk_who_acts) rfl
    F_Folk_seat_of := c1.def_ 33 (d := d_Folk_seat_of) rfl
    F_Folk_check_place := c1.def_ 34 (d := d_Folk_check_place) rfl
    F__law_draw := c1.def_ 35 (d := d__law_draw) rfl
    F__law_hands := c1.def_ 36 (d := d__law_hands) rfl
    F__law_words := c1.def_ 37 (d := d__law_words) rfl
    F__law_made := c1.def_ 38 (d := d__law_made) rfl
    F__law_asked := c1.def_ 39 (d := d__law_asked) rfl
    F__law_right := c1.def_ 40 (d := d__law_right) rfl
    F_law := c1.def_ 41 (d := d_law) rfl }
end Fo
open PySem PySem.W PySem.Calls PyProof.Rows
set_option maxHeartbeats 0 in
theorem PySem.Challenge.cw_folklist_k02_the_first_list_holds : PySem.Challenge.rw_folklist_k02_the_first_list.Holds := by
  w_on; o_law
  refine HandSHeadRun.head_any (r := OpenLaw.row PySem.Challenge.rw_folklist_k02_the_first_list) (q := view (OpenLaw.row PySem.Challenge.rw_folklist_k02_the_first_list).prog [30]) (H := Fo.hk) (ob := Fo.ob) (M := 20000) (loose := Fo.names) (d := HandSHeadRun.topDef (OpenLaw.row PySem.Challenge.rw_folklist_k02_the_first_list).prog 30) (kwd := []) Fo.ob_eq
    (by kernel_rfl) (fun s => by kernel_rfl) Fo.run (by kernel_rfl) (by kernel_rfl) (by kernel_rfl) (by rfl) (by first | assumption | decide +kernel) (by decide +kernel) ⟨rfl, rfl, rfl, rfl, rfl, by decide +kernel⟩ ?hw ?hc
  case hw => w_witness2
  case hc =>
    refine L2.walk_ofE (l := PySem.Challenge.rw_folklist_k02_the_first_list) (n := 63) (k := 8) (x := "_law_script") (CX := L2.CX0) rfl (by decide) (by kernel_rfl) ⟨rfl, by decide, by decide⟩ ?F (fun _ _ _ _ z => z)
    intro w mg fa h Y G hmg0
    obtain ⟨K, KX, c⟩ := Y
    have hmg : mg ("law" : PySem.Str) = some (.ref fa) := by
      have e : (HandSHeadRun.topDef (OpenLaw.row PySem.Challenge.rw_folklist_k02_the_first_list).prog 30).name = ("law" : PySem.Str) := by kernel_rfl
      rw [← e]
      exact hmg0
    have c1 := c.t.d
    obtain ⟨fd, FD⟩ := c1.def_ 41 (d := Fo.d_law) rfl
    have e := hmg.symm.trans (He.glo_ok KX G (c1.fact 89 (f := .glo "law") rfl))
    cases e
    have T := Fo.txt_of KX G c
    have b := FD.bindsA (ps := ["_law_script"]) fun _ _ _ _ _ _ us hl => match us, hl with | [_], _ => rfl
    refine ⟨K, fd, Fo.spLaw K, KX, fun s v => b s [v] rfl, fun H a ns hl _ hS => ⟨a, ns, rfl, hS, hl, fun _ => rfl⟩, fun base _ _ => ?_⟩
    exact Fo.law_final (P := (PySem.Challenge.rw_folklist_k02_the_first_list).prog) (w := w) (base := base) T FD
