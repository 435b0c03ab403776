import PyProof.Rows.All
import Wide.All
import OpenK.AllK
import Wide.FinOn
import PyProof.EqAt
import PyProof.EqKinds
import PyProof.TupleCall
import KE.BitLaws
import Open.SpecLaws
import KE.OsHead
import KE.OsGo
import TtAns
import TtBetSpec
import PyProof.StationsW
import PyProof.ExcInit
import PyProof.InstStore
import PyProof.InstStoreFacts
import PyProof.Rows.CatchOwn
import OpenK.KMake
import PyProof.ExcBaseAll.Exception
import PyProof.ExcAttrAll.Exception
import PyProof.ZipIter
import PyProof.WalksMore
import PyProof.Rows.SetFrom
import PyProof.FactsAll.subtypes_4
import PyWqaqcl
import PySem.Challenge.RW_betwords_s02_means
section
set_option Elab.async false
section
set_option autoImplicit false
open PySem PySem.Spec PyProof.Rows
abbrev Lm:=@wpAny_bind
abbrev Ln:=@List.length_map
abbrev Lo:=@if_neg
abbrev Lp:=@if_pos
abbrev Lq:=@Heap.get?_push_of_some
abbrev Lr:=@List.mem_cons
abbrev Ls:=@List.getElem?_map
abbrev Lu:=@wpAny_pure
abbrev Lv:=@Bool.and_eq_true
abbrev Lw:=@decide_eq_true_eq
abbrev Lx:=@Nat.le_refl
abbrev Ly:=@List.getElem?_eq_getElem
abbrev Lz:=@List.length_cons
abbrev LA:=@Heap.lt_size
abbrev LB:=@List.getElem?_eq_some_iff
abbrev LC:=@List.mem_singleton
abbrev LD:=@Heap.get?_push_size
abbrev LF:=@List.map_cons
abbrev LG:=@List.mem_cons_of_mem
abbrev LH:=@List.map_append
abbrev LI:=@of_decide_eq_true
abbrev LJ:=@List.size_toArray
abbrev LK:=@List.length_append
abbrev LM:=@List.length_take
abbrev LN:=@Bool.false_ne_true
abbrev LO:=@Heap.SameBut.update
abbrev LP:=@List.map_map
abbrev LQ:=@sizeLine_eq
abbrev LR:=@List.mem_of_getElem?
abbrev LU:=@List.all_eq_true
abbrev LV:=@Nat.zero_le
abbrev LW:=@beq_eq_false_iff_ne
abbrev LX:=@List.mem_map
abbrev LY:=@List.length_replicate
abbrev LZ:=@Option.map_eq_some_iff
abbrev L0:=@Nat.ne_of_lt
abbrev L1:=@Option.some.inj
abbrev L3:=@Bool.eq_iff_iff
abbrev L4:=@decide_eq_true
abbrev L5:=@Nat.lt_of_lt_of_le
abbrev L6:=@decide_eq_false_iff_not
abbrev L7:=@List.getD_eq_getElem?_getD
abbrev L8:=@of_decide_eq_false
abbrev L9:=@Int.toNat_natCast
abbrev L_:=@List.mem_cons_self
abbrev Ma:=@Nat.le_trans
abbrev Mb:=@decide_eq_false
abbrev Mc:=@List.mem_append
abbrev Md:=@beq_iff_eq
abbrev Me:=@Bool.not_eq_true'
abbrev Mf:=@List.length_drop
abbrev Mg:=@List.map_congr_left
abbrev Mh:=@Bool.not_eq_false'
abbrev Mi:=@List.nil_append
abbrev Mj:=@List.take_of_length_le
abbrev Ml:=@List.take_length
abbrev Mm:=@List.mem_append_right
abbrev Mn:=@Heap.get?_update_self
abbrev Mo:=@Bool.or_eq_true
abbrev Mp:=@List.eq_of_mem_replicate
abbrev Mq:=@List.append_nil
abbrev Mr:=@List.getElem?_eq_none
abbrev Ms:=@List.length_pos_iff
abbrev Mt:=@PassesOwn.never
abbrev Mu:=@congrArg
abbrev Mv:=@List.contains_eq_mem
abbrev Mw:=@Heap.size_push
abbrev Mx:=@List.mem_filter
abbrev My:=@Bool.or_eq_false_iff
abbrev Mz:=@List.nodup_cons
abbrev MA:=@List.filter_cons
abbrev MB:=@List.length_singleton
abbrev MC:=@wpAny_truthy_bool
abbrev MD:=@wpAny_callSpecial?_slot
abbrev ME:=@PyProof.Rows.slot_tuple_getitem
abbrev MF:=@wpAny_mono
abbrev MG:=@List.pairwise_cons
abbrev MH:=@wpAny_passesOwn
abbrev MI:=@Nat.lt_irrefl
abbrev MJ:=@wpAny_call_entry
abbrev MK:=@List.drop_eq_getElem_cons
abbrev ML:=@Bool.and_eq_false_iff
abbrev MM:=@List.map_nil
abbrev MN:=@Bool.false_eq_true
abbrev MO:=@PyProof.Rows.callWith_type1
abbrev MP:=@wpAny_newObj_type
abbrev MQ:=@List.append_assoc
abbrev MR:=@eq_of_beq
abbrev MS:=@List.foldl_cons
abbrev MT:=@decide_eq_true_iff
abbrev MU:=@List.sum_cons
abbrev MV:=@List.any_cons
abbrev MW:=@List.mem_of_mem_drop
abbrev MX:=@List.length_nil
abbrev MY:=@F.slot_dict_keyiterator_next
abbrev MZ:=@List.isEmpty_iff
abbrev M0:=@List.any_eq_true
abbrev M1:=@List.find?_cons
abbrev M3:=@List.pairwise_iff_forall_sublist
abbrev M4:=@List.nodup_append
abbrev M5:=@List.mem_of_mem_take
abbrev M6:=@List.length_erase_of_mem
abbrev M7:=@if_true
abbrev M8:=@List.getElem?_range
abbrev M9:=@Array.length_toList
abbrev M_:=@decide_eq_decide
abbrev Na:=@List.not_mem_nil
abbrev Nb:=@List.mem_range
abbrev Nc:=@List.lookup_cons
abbrev Nd:=@List.length_eq_zero_iff
abbrev Nf:=@List.getElem_mem
abbrev Ng:=@List.drop_length
abbrev Nh:=@wpAny_typeNameOfWhole_keyiter
abbrev Ni:=@List.filter_append
abbrev Nj:=@List.drop_eq_nil_of_le
abbrev Nk:=@Heap.get?_update_other
abbrev Nl:=@wpAny_execs_nil
abbrev Nm:=@if_false
abbrev Nn:=@Nat.min_eq_left
abbrev Np:=@wpAny_holding
abbrev Nq:=@Nat.pow_le_pow_right
abbrev Nr:=@F.slot_tuple_iterator_next
abbrev Nu:=@Nat.pow_succ
abbrev Nv:=@List.mem_flatMap
abbrev Nw:=@List.cons_append
abbrev Ny:=@List.all_map
abbrev Nz:=@List.takeWhile_cons
abbrev NA:=@wpAny_typeNameOf_keyiter
abbrev NB:=@Option.isSome_iff_exists
abbrev NC:=@List.all_cons
abbrev ND:=@Bool.or_false
abbrev NF:=@wpAny_Call_Name_kw
abbrev NG:=@List.findIdx?_eq_some_iff_getElem
abbrev NH:=@Nat.mul_comm
abbrev NI:=@List.length_range
abbrev NJ:=@List.length_pos_of_mem
abbrev NK:=@List.getElem?_set_self
abbrev NL:=@List.flatMap_cons
abbrev NM:=@List.ext_getElem?
abbrev NN:=@List.any_map
abbrev NO:=@F.called_set
abbrev NP:=@Calls.callWith_builtin
abbrev NQ:=@List.length_filter_le
abbrev NR:=@typeIs_str
abbrev NS:=@Nat.lt_succ_self
abbrev NT:=@Nat.le_add_right
abbrev NU:=@List.map_drop
abbrev NV:=@List.mem_erase_of_ne
abbrev NW:=@List.forall_mem_cons
abbrev NX:=@Bool.and_eq_true_iff
abbrev NY:=@List.replicate_succ
abbrev NZ:=@List.map_eq_nil_iff
abbrev N0:=@List.filterMap_cons
abbrev N2:=@List.dropWhile_cons
abbrev N3:=@codeAny_mono
abbrev N4:=@Ne.symm
abbrev N5:=@Nat.le_of_eq
abbrev N6:=@tupleKind_room_in1
abbrev N7:=@List.perm_ext_iff_of_nodup
abbrev N8:=@List.isPrefixOf_iff_prefix
abbrev N9:=@List.getElem?_append_right
abbrev N_:=@Calls.spliced_cons
abbrev Oa:=List (List Nat)
abbrev Ob:=List Nat
abbrev Oc:=PySem.W.Frag
abbrev Od:=Value->Shared->Prop
abbrev Oe:=Str->Option Value
abbrev Of:=List (Addr×Obj)
abbrev Og:=List Value
end
section
set_option autoImplicit false
set_option linter.all false
set_option maxRecDepth 100000
set_option maxHeartbeats 0
namespace L2
open PySem PySem.Spec PyProof.Rows
def inClass (s:Stmt)(j:Nat):Stmt:=match s with
 |.ClassDef _ _ _ body _ _ _ _ _ _ _=>body.getD j (.Pass ⟨0,0,0,0⟩)
 |_=>.Pass ⟨0,0,0,0⟩
def cU (s:Stmt):Arguments:=match s with
 |.FunctionDef _ a _ _ _ _ _ _ _ _=>a
 |_=>{posonlyargs:=[],args:=[],vararg:=none,kwonlyargs:=[],kw_defaults:=[],kwarg:=none,defaults:=[]}
def ck (s:Stmt):List Stmt:=match s with
 |.FunctionDef _ _ b _ _ _ _ _ _ _=>b
 |_=>[]
def ax (s:Stmt):Scope:=match s with
 |.FunctionDef _ _ _ _ _ _ sc _ _ _=>sc
 |_=>{kind:=.function,names:=[],isGenerator:=false,isCoroutine:=false}
end L2
end
section
set_option autoImplicit false
set_option linter.all false
set_option maxRecDepth 100000
set_option maxHeartbeats 0
namespace Bw
open PySem L2
def top (i:Nat):Stmt:=PySem.Challenge.pw_betwords_s02_means.main.body.getD i (.Pass ⟨0,0,0,0⟩)
abbrev D8:Stmt:=top 0
abbrev jZ:Stmt:=top 6
abbrev j0:Stmt:=top 7
abbrev j3:Stmt:=top 8
abbrev gP:Stmt:=top 9
abbrev gU:Stmt:=inClass (top 18) 0
abbrev gT:Stmt:=top 19
abbrev mq:Stmt:=top 20
abbrev fA:Stmt:=top 21
abbrev f7:Stmt:=top 22
abbrev gZ:Stmt:=top 23
abbrev dR:Stmt:=top 24
abbrev dz:Stmt:=top 25
abbrev gO:Stmt:=top 26
abbrev fZ:Stmt:=top 28
abbrev j_:Stmt:=top 29
abbrev fY:Stmt:=top 30
abbrev eJ:Stmt:=top 31
abbrev oy:Stmt:=top 32
abbrev cV:Stmt:=top 33
abbrev iO:Stmt:=top 34
abbrev eN:Stmt:=top 35
abbrev gJ:Stmt:=inClass (top 37) 0
abbrev dP:Stmt:=inClass (top 37) 1
abbrev qO:Stmt:=inClass (top 37) 2
abbrev qK:Stmt:=inClass (top 37) 3
abbrev kq:Stmt:=top 38
abbrev iV:Stmt:=top 39
abbrev iH:Stmt:=top 40
abbrev gy:Stmt:=top 41
abbrev fO:Stmt:=inClass (top 58) 0
abbrev je:Stmt:=inClass (top 59) 0
abbrev jb:Stmt:=inClass (top 59) 1
abbrev f_:Stmt:=inClass (top 60) 0
abbrev fN:Stmt:=inClass (top 60) 1
abbrev cv:Stmt:=inClass (top 60) 2
abbrev eQ:Stmt:=inClass (top 60) 3
abbrev i8:Stmt:=top 61
abbrev fT:Stmt:=top 62
abbrev fR:Stmt:=top 63
abbrev gY:Stmt:=top 64
abbrev fM:Stmt:=top 65
abbrev iY:Stmt:=top 66
abbrev gM:Stmt:=top 67
abbrev jY:Stmt:=top 68
abbrev ja:Stmt:=top 69
abbrev iP:Stmt:=top 70
abbrev iM:Stmt:=top 71
abbrev ke:Stmt:=top 72
abbrev gQ:Stmt:=top 79
abbrev j1:Stmt:=top 80
abbrev fj:Stmt:=top 81
end Bw
end
section
set_option autoImplicit false
set_option linter.all false
set_option maxRecDepth 100000
set_option maxHeartbeats 0
namespace Bw
open PySem L2
abbrev kS (s:String)(t:Nat):Value:=.str (Str.ofString s) t
abbrev kE (P:Params)(s:String)(t:Nat)(v:Value):DictEntry:=⟨PyData.keyHash P (Str.ofString s),.str (Str.ofString s) t,v⟩
abbrev kF (x q:String)(st:Stmt)(m:Value)(c:Nat):Obj:=⟨.type "function",none,.func (PySem.W.fnOf (Str.ofString x) (Str.ofString q) (cU st) (ck st) (ax st) .none .none .none m none (.ref c) .none),#[]⟩
abbrev kC (x q:String)(t l a g c:Nat)(b:Bool)(z d:Nat)(u v w y:Value)(k:Nat):Obj:=⟨.type "code",none,.fields #[kS x t,kS q (t+1),kS "/claim/cut.py" (t+2),.int l 0,.int a 0,.int 0 0,.int 0 0,.int g 0,.ref c,.bool b,.int z 0,.ref d,u,v,w,y,.int k 0,.int l 0,kS "/claim/cut.py" (k+1)],#[]⟩
abbrev kT (l:List Value)(n:Nat):Obj:=⟨.type "tuple",none,.seq l.toArray n,#[]⟩
abbrev kD (l:List DictEntry)(n:Nat):Obj:=⟨.type "dict",none,.dict l.toArray n,#[]⟩
noncomputable def nX (P:Params):PySem.W.Frag:=(nat_lit 3,kD [kE P "__name__" 165 (kS "betwords.desk" 814),kE P "__doc__" 166 .none,kE P "__package__" 167 .none,kE P "__loader__" 168 (.builtin "__main__.__loader__#opaque"),kE P "__spec__" 169 .none,kE P "__annotations__" 170 (.ref 6),kE P "__builtins__" 171 (.ref 4),kE P "__file__" 173 (kS "/claim/cut.py" 172),kE P "__cached__" 174 .none,kE P "_wall" 193 (.ref 21),kE P "LETTERS" 197 (kS "abcdefghijklmnopqrstuvwxyz" 196),kE P "DIGITS" 199 (kS "0123456789" 198),kE P "MOST_NAME" 201 (.int 12 200),kE P "MOST_DIGITS" 203 (.int 7 202),kE P "sign_of" 210 (.ref 28),kE P "text_of" 216 (.ref 33),kE P "is_name" 222 (.ref 38),kE P "number_of" 229 (.ref 45),kE P "MOST_RACES" 233 (.int 16 232),kE P "MOST_POOLS" 235 (.int 64 234),kE P "MOST_COUPLES" 237 (.int 8 236),kE P "MOST_RUNNERS" 239 (.int 24 238),kE P "SIZES" 256 (.ref 46),kE P "FIXED" 271 (.ref 58),kE P "POOL_WORDS" 273 (.int 16 272),kE P "Pool" 308 (.ref 75),kE P "read_card" 314 (.ref 84),kE P "is_day" 321 (.ref 91),kE P "read_race" 327 (.ref 96),kE P "read_pools" 339 (.ref 103),kE P "read_pool" 352 (.ref 110),kE P "has_pool_form" 358 (.ref 115),kE P "are_terms_good" 367 (.ref 122),kE P "fields_of" 373 (.ref 127),kE P "product_of" 384 (.ref 134),kE P "without" 390 (.ref 139),kE P "count_legs" 396 (.ref 144),kE P "count_orders" 402 (.ref 149),kE P "is_of" 408 (.ref 154),kE P "count_different" 414 (.ref 159),kE P "picks_of" 426 (.ref 166),kE P "count_starts" 437 (.ref 173),kE P "Rows" 492 (.ref 209),kE P "rows_on" 500 (.ref 220),kE P "rows_box" 506 (.ref 225),kE P "rows_key" 517 (.ref 232),kE P "seatings" 523 (.ref 237),kE P "NOT_ENDED" 527 (.int 1 526),kE P "BAD_BYTE" 529 (.int 2 528),kE P "BAD_WORD" 531 (.int 3 530),kE P "BAD_NUMBER" 533 (.int 4 532),kE P "NO_POOL" 535 (.int 5 534),kE P "NO_COMBINATION" 537 (.int 6 536),kE P "TOO_DEAR" 539 (.int 7 538),kE P "MORE_BYTES" 541 (.int 8 540),kE P "LINE_END" 543 (.int 10 542),kE P "BLANK" 545 (.int 32 544),kE P "MOST_STAKE" 547 (.int 1000000 546),kE P "MOST_COST" 549 (.int 2147483647 548),kE P "ON" 551 (.int 0 550),kE P "BOX" 553 (.int 1 552),kE P "WAYS" 557 (.ref 238),kE P "Fault" 588 (.ref 255),kE P "Bet" 635 (.ref 282),kE P "Words" 692 (.ref 324),kE P "read_bet" 703 (.ref 335),kE P "check_line" 712 (.ref 342),kE P "read_words" 728 (.ref 349),kE P "take_pool" 739 (.ref 356),kE P "take_stake" 748 (.ref 363),kE P "take_how" 756 (.ref 370),kE P "take_sets" 766 (.ref 377),kE P "take_on" 776 (.ref 384),kE P "take_box" 786 (.ref 391),kE P "take_key" 792 (.ref 396),kE P "take_set" 803 (.ref 403),kE P "rows_of" 813 (.ref 410),kE P "TOO_LONG" 818 (.int (-2) 817),kE P "FAULTY_BET" 821 (.int (-6) 820),kE P "NO_CARD" 824 (.int (-8) 823),kE P "MOST_CARD" 826 (.int 65536 825),kE P "MOST_BET" 828 (.int 4096 827),kE P "means" 840 (.ref 417),kE P "look_at" 850 (.ref 424),kE P "look_at_all" 856 (.ref 429)] 85) ::
 (nat_lit 6,kD [] 0) ::
 (nat_lit 20,kC "_wall" "_wall" 187 1 1 3 15 true 181 16 .none (.ref 17) (.ref 18) (.ref 19) 191) ::
 (nat_lit 21,kF "_wall" "_wall" D8 (kS "__main__" 164) 20) ::
 (nat_lit 27,kC "sign_of" "sign_of" 204 9 1 3 22 true 181 23 .none (.ref 24) (.ref 25) (.ref 26) 208) ::
 (nat_lit 28,kF "sign_of" "sign_of" jZ (kS "betwords.words" 194) 27) ::
 (nat_lit 32,kC "text_of" "text_of" 211 23 1 3 29 true 181 30 .none .none .none (.ref 31) 214) ::
 (nat_lit 33,kF "text_of" "text_of" j0 (kS "betwords.words" 194) 32) ::
 (nat_lit 37,kC "is_name" "is_name" 217 25 1 3 34 true 181 35 .none .none .none (.ref 36) 220) ::
 (nat_lit 38,kF "is_name" "is_name" j3 (kS "betwords.words" 194) 37) ::
 (nat_lit 44,kC "number_of" "number_of" 223 29 1 3 39 true 181 40 .none (.ref 41) (.ref 42) (.ref 43) 227) ::
 (nat_lit 45,kF "number_of" "number_of" gP (kS "betwords.words" 194) 44) ::
 (nat_lit 46,kD [kE P "place" 240 (.ref 47),kE P "order" 243 (.ref 48),kE P "any" 246 (.ref 49),kE P "legs" 249 (.ref 50)] 4) ::
 (nat_lit 47,kT [.int 1 241,.int 4 242] 0) ::
 (nat_lit 48,kT [.int 2 244,.int 4 245] 0) ::
 (nat_lit 49,kT [.int 2 247,.int 3 248] 0) ::
 (nat_lit 50,kT [.int 2 250,.int 6 251] 0) ::
 (nat_lit 51,kT [.int 0 257,kS "pool" 258] 0) ::
 (nat_lit 52,kT [.int 4 259,kS "from" 260] 0) ::
 (nat_lit 53,kT [.int 6 261,kS "take" 262] 0) ::
 (nat_lit 54,kT [.int 8 263,kS "break" 264] 0) ::
 (nat_lit 55,kT [.int 10 265,kS "least" 266] 0) ::
 (nat_lit 56,kT [.int 12 267,kS "unit" 268] 0) ::
 (nat_lit 57,kT [.int 14 269,kS "none" 270] 0) ::
 (nat_lit 58,kT [.ref 51,.ref 52,.ref 53,.ref 54,.ref 55,.ref 56,.ref 57] 0) ::
 (nat_lit 71,kC "__init__" "Pool.__init__" 286 45 5 3 66 true 181 67 .none (.ref 68) (.ref 69) (.ref 70) 294) ::
 (nat_lit 72,kF "__init__" "Pool.__init__" gU (kS "betwords.cards" 230) 71) ::
 (nat_lit 73,kT [kS "fields" 297,kS "kind" 298,kS "name" 299,kS "unit" 300] 0) ::
 (nat_lit 74,kD [kE P "__module__" 281 (kS "betwords.cards" 230),kE P "__firstlineno__" 285 (.int 43 284),kE P "__init__" 296 (.ref 72),kE P "__static_attributes__" 301 (.ref 73),kE P "__dict__" 303 (.ref 76),kE P "__weakref__" 305 (.ref 77),kE P "__doc__" 306 .none] 4) ::
 (nat_lit 75,⟨.type "type",none,.cls ⟨"Pool",[.type "object"],[.ref 75,.type "object"],74,"Pool",true,[],[],false,none,false⟩,#[none,none,some (kS "Pool" 274),some (kS "Pool" 282),some (.builtin "object.__new__"),some (.bool true)]⟩) ::
 (nat_lit 83,kC "read_card" "read_card" 309 50 1 3 80 true 181 81 .none .none .none (.ref 82) 312) ::
 (nat_lit 84,kF "read_card" "read_card" gT (kS "betwords.cards" 230) 83) ::
 (nat_lit 90,kC "is_day" "is_day" 315 64 1 3 85 true 181 86 .none (.ref 87) (.ref 88) (.ref 89) 319) ::
 (nat_lit 91,kF "is_day" "is_day" mq (kS "betwords.cards" 230) 90) ::
 (nat_lit 95,kC "read_race" "read_race" 322 66 1 3 92 true 181 93 .none .none .none (.ref 94) 325) ::
 (nat_lit 96,kF "read_race" "read_race" fA (kS "betwords.cards" 230) 95) ::
 (nat_lit 102,kC "read_pools" "read_pools" 328 85 2 3 97 true 181 98 .none (.ref 99) (.ref 100) (.ref 101) 337) ::
 (nat_lit 103,kF "read_pools" "read_pools" f7 (kS "betwords.cards" 230) 102) ::
 (nat_lit 109,kC "read_pool" "read_pool" 340 97 2 3 104 true 181 105 .none (.ref 106) (.ref 107) (.ref 108) 350) ::
 (nat_lit 110,kF "read_pool" "read_pool" gZ (kS "betwords.cards" 230) 109) ::
 (nat_lit 114,kC "has_pool_form" "has_pool_form" 353 110 1 3 111 true 181 112 .none .none .none (.ref 113) 356) ::
 (nat_lit 115,kF "has_pool_form" "has_pool_form" dR (kS "betwords.cards" 230) 114) ::
 (nat_lit 121,kC "are_terms_good" "are_terms_good" 359 116 1 3 116 true 181 117 .none (.ref 118) (.ref 119) (.ref 120) 365) ::
 (nat_lit 122,kF "are_terms_good" "are_terms_good" dz (kS "betwords.cards" 230) 121) ::
 (nat_lit 126,kC "fields_of" "fields_of" 368 126 4 3 123 true 181 124 .none .none .none (.ref 125) 371) ::
 (nat_lit 127,kF "fields_of" "fields_of" gO (kS "betwords.cards" 230) 126) ::
 (nat_lit 133,kC "product_of" "product_of" 376 138 1 3 128 true 181 129 .none (.ref 130) (.ref 131) (.ref 132) 382) ::
 (nat_lit 134,kF "product_of" "product_of" fZ (kS "betwords.counts" 374) 133) ::
 (nat_lit 138,kC "without" "without" 385 143 2 3 135 true 181 136 .none .none .none (.ref 137) 388) ::
 (nat_lit 139,kF "without" "without" j_ (kS "betwords.counts" 374) 138) ::
 (nat_lit 143,kC "count_legs" "count_legs" 391 145 2 3 140 true 181 141 .none .none .none (.ref 142) 394) ::
 (nat_lit 144,kF "count_legs" "count_legs" fY (kS "betwords.counts" 374) 143) ::
 (nat_lit 148,kC "count_orders" "count_orders" 397 149 2 3 145 true 181 146 .none .none .none (.ref 147) 400) ::
 (nat_lit 149,kF "count_orders" "count_orders" eJ (kS "betwords.counts" 374) 148) ::
 (nat_lit 153,kC "is_of" "is_of" 403 153 2 3 150 true 181 151 .none .none .none (.ref 152) 406) ::
 (nat_lit 154,kF "is_of" "is_of" oy (kS "betwords.counts" 374) 153) ::
 (nat_lit 158,kC "count_different" "count_different" 409 155 1 3 155 true 181 156 .none .none .none (.ref 157) 412) ::
 (nat_lit 159,kF "count_different" "count_different" cV (kS "betwords.counts" 374) 158) ::
 (nat_lit 165,kC "picks_of" "picks_of" 415 163 1 3 160 true 181 161 .none (.ref 162) (.ref 163) (.ref 164) 424) ::
 (nat_lit 166,kF "picks_of" "picks_of" iO (kS "betwords.counts" 374) 165) ::
 (nat_lit 172,kC "count_starts" "count_starts" 427 173 1 3 167 true 181 168 .none (.ref 169) (.ref 170) (.ref 171) 435) ::
 (nat_lit 173,kF "count_starts" "count_starts" eN (kS "betwords.counts" 374) 172) ::
 (nat_lit 186,kC "__init__" "Rows.__init__" 452 183 3 3 181 true 181 182 .none (.ref 183) (.ref 184) (.ref 185) 458) ::
 (nat_lit 187,kF "__init__" "Rows.__init__" gJ (kS "betwords.rows" 438) 186) ::
 (nat_lit 191,kC "starting" "Rows.starting" 461 188 2 3 188 true 181 189 .none .none .none (.ref 190) 464) ::
 (nat_lit 192,kF "starting" "Rows.starting" dP (kS "betwords.rows" 438) 191) ::
 (nat_lit 198,kC "row_at" "Rows.row_at" 467 195 2 3 193 true 181 194 .none (.ref 195) (.ref 196) (.ref 197) 472) ::
 (nat_lit 199,kF "row_at" "Rows.row_at" qO (kS "betwords.rows" 438) 198) ::
 (nat_lit 205,kC "listed" "Rows.listed" 475 198 1 3 200 true 181 201 .none (.ref 202) (.ref 203) (.ref 204) 479) ::
 (nat_lit 206,kF "listed" "Rows.listed" qK (kS "betwords.rows" 438) 205) ::
 (nat_lit 207,kT [kS "grids" 482,kS "kind" 483,kS "picks" 484] 0) ::
 (nat_lit 208,kD [kE P "__module__" 447 (kS "betwords.rows" 438),kE P "__firstlineno__" 451 (.int 181 450),kE P "__init__" 460 (.ref 187),kE P "starting" 466 (.ref 192),kE P "row_at" 474 (.ref 199),kE P "listed" 481 (.ref 206),kE P "__static_attributes__" 485 (.ref 207),kE P "__dict__" 487 (.ref 210),kE P "__weakref__" 489 (.ref 211),kE P "__doc__" 490 .none] 4) ::
 (nat_lit 209,⟨.type "type",none,.cls ⟨"Rows",[.type "object"],[.ref 209,.type "object"],208,"Rows",true,[],[],false,none,false⟩,#[none,none,some (kS "Rows" 440),some (kS "Rows" 448),some (.builtin "object.__new__"),some (.bool true)]⟩) ::
 (nat_lit 219,kC "rows_on" "rows_on" 493 200 2 3 214 true 181 215 .none (.ref 216) (.ref 217) (.ref 218) 498) ::
 (nat_lit 220,kF "rows_on" "rows_on" kq (kS "betwords.rows" 438) 219) ::
 (nat_lit 224,kC "rows_box" "rows_box" 501 202 3 3 221 true 181 222 .none .none .none (.ref 223) 504) ::
 (nat_lit 225,kF "rows_box" "rows_box" iV (kS "betwords.rows" 438) 224) ::
 (nat_lit 231,kC "rows_key" "rows_key" 507 204 4 3 226 true 181 227 .none (.ref 228) (.ref 229) (.ref 230) 515) ::
 (nat_lit 232,kF "rows_key" "rows_key" iH (kS "betwords.rows" 438) 231) ::
 (nat_lit 236,kC "seatings" "seatings" 518 209 3 3 233 true 181 234 .none .none .none (.ref 235) 521) ::
 (nat_lit 237,kF "seatings" "seatings" gy (kS "betwords.rows" 438) 236) ::
 (nat_lit 238,kT [kS "on" 554,kS "box" 555,kS "key" 556] 0) ::
 (nat_lit 251,kC "__init__" "Fault.__init__" 570 237 3 3 246 true 181 247 .none (.ref 248) (.ref 249) (.ref 250) 576) ::
 (nat_lit 252,kF "__init__" "Fault.__init__" fO (kS "betwords.bets" 524) 251) ::
 (nat_lit 253,kT [kS "kind" 579,kS "place" 580] 0) ::
 (nat_lit 254,kD [kE P "__module__" 565 (kS "betwords.bets" 524),kE P "__firstlineno__" 569 (.int 235 568),kE P "__init__" 578 (.ref 252),kE P "__static_attributes__" 581 (.ref 253),kE P "__weakref__" 583 (.ref 256),kE P "__doc__" 584 .none] 3) ::
 (nat_lit 255,⟨.type "type",none,.cls ⟨"Fault",[.type "Exception"],[.ref 255,.type "Exception",.type "BaseException",.type "object"],254,"Fault",true,[],[],false,none,false⟩,#[some (.ref 239),none,some (kS "Fault" 558),some (kS "Fault" 566),some (.builtin "Exception.__new__"),some (.bool true)]⟩) ::
 (nat_lit 271,kC "__init__" "Bet.__init__" 601 242 7 3 266 true 181 267 .none (.ref 268) (.ref 269) (.ref 270) 611) ::
 (nat_lit 272,kF "__init__" "Bet.__init__" je (kS "betwords.bets" 524) 271) ::
 (nat_lit 278,kC "cost" "Bet.cost" 614 251 1 3 273 true 181 274 .none (.ref 275) (.ref 276) (.ref 277) 618) ::
 (nat_lit 279,kF "cost" "Bet.cost" jb (kS "betwords.bets" 524) 278) ::
 (nat_lit 280,kT [kS "how" 621,kS "many" 622,kS "pool" 623,kS "pool_number" 624,kS "rows" 625,kS "sets" 626,kS "stake" 627] 0) ::
 (nat_lit 281,kD [kE P "__module__" 596 (kS "betwords.bets" 524),kE P "__firstlineno__" 600 (.int 240 599),kE P "__init__" 613 (.ref 272),kE P "cost" 620 (.ref 279),kE P "__static_attributes__" 628 (.ref 280),kE P "__dict__" 630 (.ref 283),kE P "__weakref__" 632 (.ref 284),kE P "__doc__" 633 .none] 4) ::
 (nat_lit 282,⟨.type "type",none,.cls ⟨"Bet",[.type "object"],[.ref 282,.type "object"],281,"Bet",true,[],[],false,none,false⟩,#[none,none,some (kS "Bet" 589),some (kS "Bet" 597),some (.builtin "object.__new__"),some (.bool true)]⟩) ::
 (nat_lit 299,kC "__init__" "Words.__init__" 648 255 2 3 294 true 181 295 .none (.ref 296) (.ref 297) (.ref 298) 653) ::
 (nat_lit 300,kF "__init__" "Words.__init__" f_ (kS "betwords.bets" 524) 299) ::
 (nat_lit 306,kC "take" "Words.take" 656 262 1 3 301 true 181 302 .none (.ref 303) (.ref 304) (.ref 305) 661) ::
 (nat_lit 307,kF "take" "Words.take" fN (kS "betwords.bets" 524) 306) ::
 (nat_lit 313,kC "take_one_of" "Words.take_one_of" 664 271 2 3 308 true 181 309 .none (.ref 310) (.ref 311) (.ref 312) 670) ::
 (nat_lit 314,kF "take_one_of" "Words.take_one_of" cv (kS "betwords.bets" 524) 313) ::
 (nat_lit 320,kC "finish" "Words.finish" 673 277 1 3 315 true 181 316 .none (.ref 317) (.ref 318) (.ref 319) 677) ::
 (nat_lit 321,kF "finish" "Words.finish" eQ (kS "betwords.bets" 524) 320) ::
 (nat_lit 322,kT [kS "line_end" 680,kS "met" 681,kS "next_place" 682,kS "place" 683,kS "words" 684] 0) ::
 (nat_lit 323,kD [kE P "__module__" 643 (kS "betwords.bets" 524),kE P "__firstlineno__" 647 (.int 253 646),kE P "__init__" 655 (.ref 300),kE P "take" 663 (.ref 307),kE P "take_one_of" 672 (.ref 314),kE P "finish" 679 (.ref 321),kE P "__static_attributes__" 685 (.ref 322),kE P "__dict__" 687 (.ref 325),kE P "__weakref__" 689 (.ref 326),kE P "__doc__" 690 .none] 4) ::
 (nat_lit 324,⟨.type "type",none,.cls ⟨"Words",[.type "object"],[.ref 324,.type "object"],323,"Words",true,[],[],false,none,false⟩,#[none,none,some (kS "Words" 636),some (kS "Words" 644),some (.builtin "object.__new__"),some (.bool true)]⟩) ::
 (nat_lit 334,kC "read_bet" "read_bet" 693 280 2 3 329 true 181 330 .none (.ref 331) (.ref 332) (.ref 333) 701) ::
 (nat_lit 335,kF "read_bet" "read_bet" i8 (kS "betwords.bets" 524) 334) ::
 (nat_lit 341,kC "check_line" "check_line" 704 290 1 3 336 true 181 337 .none (.ref 338) (.ref 339) (.ref 340) 710) ::
 (nat_lit 342,kF "check_line" "check_line" fT (kS "betwords.bets" 524) 341) ::
 (nat_lit 348,kC "read_words" "read_words" 713 298 2 3 343 true 181 344 .none (.ref 345) (.ref 346) (.ref 347) 726) ::
 (nat_lit 349,kF "read_words" "read_words" fR (kS "betwords.bets" 524) 348) ::
 (nat_lit 355,kC "take_pool" "take_pool" 729 315 2 3 350 true 181 351 .none (.ref 352) (.ref 353) (.ref 354) 737) ::
 (nat_lit 356,kF "take_pool" "take_pool" gY (kS "betwords.bets" 524) 355) ::
 (nat_lit 362,kC "take_stake" "take_stake" 740 321 2 3 357 true 181 358 .none (.ref 359) (.ref 360) (.ref 361) 746) ::
 (nat_lit 363,kF "take_stake" "take_stake" fM (kS "betwords.bets" 524) 362) ::
 (nat_lit 369,kC "take_how" "take_how" 749 326 2 3 364 true 181 365 .none (.ref 366) (.ref 367) (.ref 368) 754) ::
 (nat_lit 370,kF "take_how" "take_how" iY (kS "betwords.bets" 524) 369) ::
 (nat_lit 376,kC "take_sets" "take_sets" 757 331 3 3 371 true 181 372 .none (.ref 373) (.ref 374) (.ref 375) 764) ::
 (nat_lit 377,kF "take_sets" "take_sets" gM (kS "betwords.bets" 524) 376) ::
 (nat_lit 383,kC "take_on" "take_on" 767 338 2 3 378 true 181 379 .none (.ref 380) (.ref 381) (.ref 382) 774) ::
 (nat_lit 384,kF "take_on" "take_on" jY (kS "betwords.bets" 524) 383) ::
 (nat_lit 390,kC "take_box" "take_box" 777 345 3 3 385 true 181 386 .none (.ref 387) (.ref 388) (.ref 389) 784) ::
 (nat_lit 391,kF "take_box" "take_box" ja (kS "betwords.bets" 524) 390) ::
 (nat_lit 395,kC "take_key" "take_key" 787 350 3 3 392 true 181 393 .none .none .none (.ref 394) 790) ::
 (nat_lit 396,kF "take_key" "take_key" iP (kS "betwords.bets" 524) 395) ::
 (nat_lit 402,kC "take_set" "take_set" 793 359 2 3 397 true 181 398 .none (.ref 399) (.ref 400) (.ref 401) 801) ::
 (nat_lit 403,kF "take_set" "take_set" iM (kS "betwords.bets" 524) 402) ::
 (nat_lit 409,kC "rows_of" "rows_of" 804 367 3 3 404 true 181 405 .none (.ref 406) (.ref 407) (.ref 408) 811) ::
 (nat_lit 410,kF "rows_of" "rows_of" ke (kS "betwords.bets" 524) 409) ::
 (nat_lit 416,kC "means" "means" 829 380 2 3 411 true 181 412 .none (.ref 413) (.ref 414) (.ref 415) 838) ::
 (nat_lit 417,kF "means" "means" gQ (kS "betwords.desk" 814) 416) ::
 (nat_lit 423,kC "look_at" "look_at" 841 389 2 3 418 true 181 419 .none (.ref 420) (.ref 421) (.ref 422) 848) ::
 (nat_lit 424,kF "look_at" "look_at" j1 (kS "betwords.desk" 814) 423) ::
 (nat_lit 428,kC "look_at_all" "look_at_all" 851 394 2 3 425 true 181 426 .none .none .none (.ref 427) 854) ::
 (nat_lit 429,kF "look_at_all" "look_at_all" fj (kS "betwords.desk" 814) 428)::[]
def Aw:List Nat:=[3,6,20,21,27,28,32,33,37,38,44,45,46,47,48,49,50,51,52,53,54,55,56,57,58,71,72,73,74,75,83,84,90,91,95,96,102,103,109,110,114,115,121,122,126,127,133,134,138,139,143,144,148,149,153,154,158,159,165,166,172,173,186,187,191,192,198,199,205,206,207,208,209,219,220,224,225,231,232,236,237,238,251,252,253,254,255,271,272,278,279,280,281,282,299,300,306,307,313,314,320,321,322,323,324,334,335,341,342,348,349,355,356,362,363,369,370,376,377,383,384,390,391,395,396,402,403,409,410,416,417,423,424,428,429]
def JG:List Str:=List.map Str.ofString ["_wall","LETTERS","DIGITS","MOST_NAME","MOST_DIGITS","sign_of","text_of","is_name","number_of","MOST_RACES","MOST_POOLS","MOST_COUPLES","MOST_RUNNERS","SIZES","FIXED","POOL_WORDS","Pool","read_card","is_day","read_race","read_pools","read_pool","has_pool_form","are_terms_good","fields_of","product_of","without","count_legs","count_orders","is_of","count_different","picks_of","count_starts","Rows","rows_on","rows_box","rows_key","seatings","NOT_ENDED","BAD_BYTE","BAD_WORD","BAD_NUMBER","NO_POOL","NO_COMBINATION","TOO_DEAR","MORE_BYTES","LINE_END","BLANK","MOST_STAKE","MOST_COST","ON","BOX","WAYS","Fault","Bet","Words","read_bet","check_line","read_words","take_pool","take_stake","take_how","take_sets","take_on","take_box","take_key","take_set","rows_of","TOO_LONG","FAULTY_BET","NO_CARD","MOST_CARD","MOST_BET","means","look_at","look_at_all"]
end Bw
end
section
set_option autoImplicit false
set_option linter.all false
set_option maxRecDepth 100000
set_option maxHeartbeats 0
namespace Bw
open PySem PyProof.Rows L2
theorem By (P:Params):Aw=(nX P).map (·.1):=by kernel_rfl
def qV:Program:={PySem.Challenge.pw_betwords_s02_means with main:={PySem.Challenge.pw_betwords_s02_means.main with body:=[gQ]}}
def lV:List Str:=JG.filter λk=>k != "means"
def xV (s:Shared):Bool:=PySem.W.xlAt qV [] s&&PySem.W.recOk [] s
def dV:DefRec:=match gQ with
 |.FunctionDef n a b _ _ _ c _ _ p=>⟨n,a,b,c,p⟩
 |_=>⟨"",cU gQ,[],ax gQ,⟨0,0,0,0⟩⟩
theorem gA0 {a b c:Type}{o:Option a}{f:a->b}{g:a->c}{x:b}{y:c}(h:o.map f=some x)(k:o.map g=some y):o.map (fun s=>(f s,g s))=some (x,y):=by
 cases o with
 |none=>cases h
 |some z=>cases h;cases k;rfl
theorem gA1 {a b c:Type}{o:Option a}{f:a->b×c}{x:b×c}(h:o.map (fun s=>(f s).1)=some x.1)(k:o.map (fun s=>(f s).2)=some x.2):o.map f=some x:=by
 cases o with
 |none=>cases h
 |some z=>exact congrArg some (Prod.ext (Option.some.inj h) (Option.some.inj k))
theorem gA2 {a b:Type}{o:Option a}{f:a->List b}{x:List b}(n:Nat)(h:o.map (fun s=>List.take n (f s))=some (List.take n x))(k:o.map (fun s=>List.drop n (f s))=some (List.drop n x)):o.map f=some x:=by
 cases o with
 |none=>cases h
 |some z=>exact congrArg some ((List.take_append_drop n (f z)).symm.trans ((congr (congrArg _ (Option.some.inj h)) (Option.some.inj k)).trans (List.take_append_drop n x)))
theorem gB01 (w:World):(PySem.W.openEnds treeTable PySem.Challenge.pw_betwords_s02_means (w.withFollow "special-get-raises" false) 5200).map (fun s=>(PySem.W.openSeen qV lV (importedModules PySem.Challenge.pw_betwords_s02_means.main.body) xV true s).1)=some (PySem.W.openGood qV lV).1:=by kernel_rfl
theorem gB02 (w:World):(PySem.W.openEnds treeTable PySem.Challenge.pw_betwords_s02_means (w.withFollow "special-get-raises" false) 5200).map (fun s=>(PySem.W.openSeen qV lV (importedModules PySem.Challenge.pw_betwords_s02_means.main.body) xV true s).2)=some (PySem.W.openGood qV lV).2:=by kernel_rfl
theorem gB03 (w:World):(PySem.W.openEnds treeTable PySem.Challenge.pw_betwords_s02_means (w.withFollow "special-get-raises" false) 5200).map (fun s=>List.take 68 ((PySem.W.kHook Bw.nX Bw.Aw Bw.By).obs s))=some (List.take 68 ((PySem.W.kHook Bw.nX Bw.Aw Bw.By).val (w.withFollow "special-get-raises" false))):=by kernel_rfl
theorem gB04 (w:World):(PySem.W.openEnds treeTable PySem.Challenge.pw_betwords_s02_means (w.withFollow "special-get-raises" false) 5200).map (fun s=>List.drop 68 ((PySem.W.kHook Bw.nX Bw.Aw Bw.By).obs s))=some (List.drop 68 ((PySem.W.kHook Bw.nX Bw.Aw Bw.By).val (w.withFollow "special-get-raises" false))):=by kernel_rfl
theorem Lk (w:World):(PySem.W.openEnds treeTable PySem.Challenge.pw_betwords_s02_means (w.withFollow "special-get-raises" false) 5200).map (fun s=>(PySem.W.openSeen qV lV (importedModules PySem.Challenge.pw_betwords_s02_means.main.body) xV true s,(PySem.W.kHook Bw.nX Bw.Aw Bw.By).obs s))=some (PySem.W.openGood qV lV,(PySem.W.kHook Bw.nX Bw.Aw Bw.By).val (w.withFollow "special-get-raises" false)):=gA0 (gA1 (gB01 w) (gB02 w)) (gA2 68 (gB03 w) (gB04 w))
theorem gB11 (w:World):(PySem.W.openEnds treeTable PySem.Challenge.pw_betwords_s02_means (w.withFollow "special-get-raises" true) 5200).map (fun s=>(PySem.W.openSeen qV lV (importedModules PySem.Challenge.pw_betwords_s02_means.main.body) xV true s).1)=some (PySem.W.openGood qV lV).1:=by kernel_rfl
theorem gB12 (w:World):(PySem.W.openEnds treeTable PySem.Challenge.pw_betwords_s02_means (w.withFollow "special-get-raises" true) 5200).map (fun s=>(PySem.W.openSeen qV lV (importedModules PySem.Challenge.pw_betwords_s02_means.main.body) xV true s).2)=some (PySem.W.openGood qV lV).2:=by kernel_rfl
theorem gB13 (w:World):(PySem.W.openEnds treeTable PySem.Challenge.pw_betwords_s02_means (w.withFollow "special-get-raises" true) 5200).map (fun s=>List.take 68 ((PySem.W.kHook Bw.nX Bw.Aw Bw.By).obs s))=some (List.take 68 ((PySem.W.kHook Bw.nX Bw.Aw Bw.By).val (w.withFollow "special-get-raises" true))):=by kernel_rfl
theorem gB14 (w:World):(PySem.W.openEnds treeTable PySem.Challenge.pw_betwords_s02_means (w.withFollow "special-get-raises" true) 5200).map (fun s=>List.drop 68 ((PySem.W.kHook Bw.nX Bw.Aw Bw.By).obs s))=some (List.drop 68 ((PySem.W.kHook Bw.nX Bw.Aw Bw.By).val (w.withFollow "special-get-raises" true))):=by kernel_rfl
theorem Li (w:World):(PySem.W.openEnds treeTable PySem.Challenge.pw_betwords_s02_means (w.withFollow "special-get-raises" true) 5200).map (fun s=>(PySem.W.openSeen qV lV (importedModules PySem.Challenge.pw_betwords_s02_means.main.body) xV true s,(PySem.W.kHook Bw.nX Bw.Aw Bw.By).obs s))=some (PySem.W.openGood qV lV,(PySem.W.kHook Bw.nX Bw.Aw Bw.By).val (w.withFollow "special-get-raises" true)):=gA0 (gA1 (gB11 w) (gB12 w)) (gA2 68 (gB13 w) (gB14 w))
theorem hl:PySem.W.LeftO PySem.Challenge.pw_betwords_s02_means qV lV xV (PySem.W.kHook Bw.nX Bw.Aw Bw.By).obs (PySem.W.kHook Bw.nX Bw.Aw Bw.By).val 5200:=PySem.W.byRow2 "special-get-raises" Lk Li
end Bw
end
section
set_option autoImplicit false
set_option linter.all false
namespace Bw
open Tote
theorem sum_map_add {α:Type}(f g:α->Nat):∀l:List α,(l.map λx=>f x+g x).sum=(l.map f).sum+(l.map g).sum
 |[]=>rfl
 |x::l=>by
  simp only[LF,MU,sum_map_add f g l];omega
theorem sum_map_congr {α:Type}{f g:α->Nat}:∀{l:List α},(∀x∈l,f x=g x)->(l.map f).sum=(l.map g).sum
 |[],_=>rfl
 |x::l,h=>by
  simp only[LF,MU];rw[h x (by simp),sum_map_congr λy hy=>h y (by simp[hy])]
theorem sum_map_const {α:Type}(c:Nat):∀l:List α,(l.map λ_=>c).sum=l.length*c
 |[]=>by simp
 |x::l=>by
  simp only[LF,MU,sum_map_const c l,Lz,Nat.add_mul];omega
theorem fH {α β:Type}(f:α->List β):∀l:List α,(l.flatMap f).length=(l.map λx=>(f x).length).sum
 |[]=>rfl
 |x::l=>by simp[NL,fH f l]
theorem nj {α:Type}(p:α->Bool)(c d:Nat):∀l:List α,(l.map λx=>if p x=true then c else d).sum=(l.filter p).length*c+(l.filter λx=>!p x).length*d
 |[]=>by simp
 |x::l=>by
  have ih:=nj p c d l;simp only[LF,MU,MA];by_cases h:p x=true
  · simp only[h,M7,Bool.not_true,MN,Nm,Lz,Nat.add_mul,ih];omega
  · have h':p x=false:=by simpa using h
    simp only[h',MN,Nm,Bool.not_false,M7,Lz,Nat.add_mul,ih];omega
section
variable (A u:Ob)
end
theorem iS:∀(k:Nat) (l r:Ob),r∈risingRows k l->r.Sublist l
 |0,_,r,h=>by
  have:r=[]:=by simpa [risingRows] using h
  subst this;exact List.nil_sublist _
 |k+1,[],r,h=>by simp[risingRows] at h
 |k+1,x::l,r,h=>by
  rw[risingRows,Mc] at h;rcases h with h|h
  · obtain⟨q,hq,rfl⟩:=LX.mp h;exact (iS k l q hq).cons₂ x
  · exact (iS (k+1) l r h).cons x
def dg:Oa->(Nat->Bool)->Nat
 |[],_=>1
 |s::ss,p=>((s.filter p).map λy=>dg ss λz=>p z&&z != y).sum
theorem gp:∀(ss:Oa) {p q:Nat->Bool},(∀s∈ss,∀y∈s,p y=q y)->dg ss p=dg ss q
 |[],_,_,_=>rfl
 |s::ss,p,q,h=>by
  unfold dg;have e:s.filter p=s.filter q:=List.filter_congr λy hy=>h s (by simp) y hy;rw[e];refine sum_map_congr λy _=>gp ss λt ht z hz=>?_;rw[h t (by simp[ht]) z hz]
theorem rA:∀(ss:Oa) (had:Ob),(apartRows ss had).length=dg ss λz=>!had.contains z
 |[],_=>rfl
 |s::ss,had=>by
  unfold dg;rw[apartRows,fH];refine sum_map_congr λy _=>?_;rw[Ln,rA ss (y::had)];refine gp ss λt _ z _=>?_;simp only[Mv,Lr];by_cases c1:z∈had <;> by_cases c2:z=y <;> simp[c1,c2]
def outs (x:Nat):Oa->List (Oa)
 |[]=>[]
 |s::ss=>(if s.contains x=true then [ss] else [])++(outs x ss).map λr=>s::r
theorem kO {α β:Type}(f:α->β->Nat):∀(l:List α) (m:List β),(l.map λx=>(m.map λy=>f x y).sum).sum=(m.map λy=>(l.map λx=>f x y).sum).sum
 |[],m=>by
  simp only[MM,List.sum_nil];rw[sum_map_const 0 m];simp
 |x::l,m=>by
  simp only[LF,MU];rw[kO f l m,←sum_map_add]
theorem lB {x:Nat}:∀{s:Ob},s.Nodup->s.filter (λy=>y==x)=if s.contains x=true then [x] else []
 |[],_=>rfl
 |y::s,nd=>by
  obtain⟨h1,h2⟩:=Mz.mp nd;have ih:=lB (x:=x) h2;by_cases e:y=x
  · subst e;have:s.filter (λz=>z==y)=[]:=List.filter_eq_nil_iff.mpr λz hz c=>h1 ((Md.mp c) ▸ hz);simp[this]
  · have e':¬x=y:=λz=>e z.symm;rw[MA,Lo (by simp[e]),ih];simp[e']
theorem kQ {f:Nat->Nat}{p q:Nat->Bool}(hd:∀y,p y=true->q y=false):∀l:Ob,((l.filter λy=>p y||q y).map f).sum=((l.filter p).map f).sum+((l.filter q).map f).sum
 |[]=>rfl
 |y::l=>by
  have ih:=kQ (f:=f) hd l;rw[MA,MA,MA];by_cases c:p y=true
  · have:=hd y c;simp only[c,this,ND,M7,MN,Nm,LF,MU,ih];omega
  · have c':p y=false:=by simpa using c
    by_cases c2:q y=true
    · simp only[c',c2,Bool.or_true,M7,MN,Nm,LF,MU,ih];omega
    · have c2':q y=false:=by simpa using c2
      simp only[c',c2',ND,MN,Nm,ih]
theorem sq (x:Nat):∀(ss:Oa) (p:Nat->Bool),(∀s∈ss,s.Nodup)->p x=false ->
  dg ss (λz=>p z||z==x)=dg ss p+((outs x ss).map λr=>dg r p).sum
 |[],_,_,_=>rfl
 |s::ss,p,nd,hx=>by
  have nds:s.Nodup:=nd s (by simp);have ndr:∀t∈ss,t.Nodup:=λt ht=>nd t (by simp[ht]);have dis:∀y,p y=true->(y==x)=false:=λy hy=>by
   by_cases e:y=x
   · rw[e,hx] at hy;cases hy
   · simp[e]
  show ((s.filter λz=>p z||z==x).map λy=>dg ss λz=>(p z||z==x)&&z != y).sum=_;rw[kQ (q:=λy=>y==x) dis,lB nds];have e1:((s.filter p).map λy=>dg ss λz=>(p z||z==x)&&z != y).sum
    = ((s.filter p).map λy=>dg ss (λz=>p z&&z != y)+((outs x ss).map λr=>dg r λz=>p z&&z != y).sum).sum:=by
   refine sum_map_congr λy hy=>?_;have py:p y=true:=(Mx.mp hy).2;have ne:x≠y:=λe=>by rw[e,py] at hx;cases hx
   rw[←sq x ss (λz=>p z&&z != y) ndr (by simp[hx])];refine gp ss λt _ z _=>?_;show ((p z||z==x)&&z != y)=(p z&&z != y||z==x);cases hpz:p z <;> by_cases c:z=x <;> by_cases d:z=y <;> simp_all
  rw[e1,sum_map_add,kO (λy r=>dg r λz=>p z&&z != y)];have e2:(((if s.contains x=true then [x] else []:Ob)).map λy=>dg ss λz=>(p z||z==x)&&z != y).sum
    = (((if s.contains x=true then [ss] else []:List (Oa))).map λr=>dg r p).sum:=by
   by_cases c:s.contains x=true
   · rw[Lp c,Lp c];simp only[LF,MM,MU,List.sum_nil,Nat.add_zero];refine gp ss λt _ z _=>?_;show ((p z||z==x)&&z != x)=p z;cases hpz:p z <;> by_cases d:z=x <;> simp_all
   · rw[Lo c,Lo c];rfl
  rw[e2];show _=dg (s::ss) p+(((if s.contains x=true then [ss] else [])++(outs x ss).map λr=>s::r).map λr=>dg r p).sum;rw[LH,List.sum_append,LP];show ((s.filter p).map λy=>dg ss λz=>p z&&z != y).sum+((outs x ss).map λr=>((s.filter p).map λy=>dg r λz=>p z&&z != y).sum).sum+_
   = ((s.filter p).map λy=>dg ss λz=>p z&&z != y).sum+(_+((outs x ss).map λr=>((s.filter p).map λy=>dg r λz=>p z&&z != y).sum).sum)
  omega
def sel:Nat->Oa->Oa
 |_,[]=>[]
 |m,s::ss=>(if m % 2=1 then [s] else [])++sel (m / 2) ss
def bitsOf (x:Nat):Nat->Oa->Ob
 |_,[]=>[]
 |b,s::ss=>(if s.contains x=true then [b] else [])++bitsOf x (2*b) ss
theorem nW (x:Nat):∀(ss:Oa) (b:Nat),bitsOf x (2*b) ss=(bitsOf x b ss).map λc=>2*c
 |[],_=>rfl
 |s::ss,b=>by
  unfold bitsOf;rw[LH,nW x ss (2*b)];congr 1;by_cases c:s.contains x=true
  · simp only[Lp c];rfl
  · simp only[Lo c];rfl
def bD (m b:Nat):Bool:=m / b % 2==1
theorem qt (m:Nat)(s:Ob)(ss:Oa):sel m (s::ss)=(if m % 2=1 then [s] else [])++sel (m / 2) ss:=rfl
theorem uB:∀ss:Oa,sel 0 ss=[]
 |[]=>rfl
 |s::ss=>by
  unfold sel;rw[uB ss];rfl
theorem vn (x:Nat):∀(ss:Oa) (m:Nat),outs x (sel m ss)=((bitsOf x 1 ss).filter (bD m)).map λb=>sel (m - b) ss
 |[],_=>rfl
 |s::ss,m=>by
  have ih:=vn x ss (m / 2);have e1:bitsOf x 1 (s::ss)=(if s.contains x=true then [1] else [])++(bitsOf x 1 ss).map λc=>2*c:=by
   show (if s.contains x=true then [1] else [])++bitsOf x (2*1) ss=_;rw[nW]
  have f1:∀c,bD m (2*c)=bD (m / 2) c:=λc=>by
   unfold bD;rw[Nat.div_div_eq_div_mul]
  have e2:(((bitsOf x 1 ss).map λc=>2*c).filter (bD m))=((bitsOf x 1 ss).filter (bD (m / 2))).map λc=>2*c:=by
   rw[List.filter_map];congr 1;exact List.filter_congr λc _=>f1 c
  rw[e1,Ni,LH,e2,LP];have big:∀c∈(bitsOf x 1 ss).filter (bD (m / 2)),c<=m / 2:=λc hc=>by
   have h:=(Mx.mp hc).2;unfold bD at h;have h':m / 2 / c % 2=1:=by simpa using h
   by_cases z:c<=m / 2
   · exact z
   · rw[Nat.div_eq_of_lt (by omega)] at h';simp at h'
  have e3:((bitsOf x 1 ss).filter (bD (m / 2))).map ((λb=>sel (m - b) (s::ss)) ∘ λc=>2*c)
    = ((bitsOf x 1 ss).filter (bD (m / 2))).map λc=>(if m % 2=1 then [s] else [])++sel (m / 2 - c) ss:=by
   refine Mg λc hc=>?_;have:=big c hc;show (if (m - 2*c) % 2=1 then [s] else [])++sel ((m - 2*c) / 2) ss=_;have a1:(m - 2*c) % 2=m % 2:=by omega
   have a2:(m - 2*c) / 2=m / 2 - c:=by omega
   rw[a1,a2]
  rw[e3,qt];by_cases odd:m % 2=1
  · simp only[Lp odd,List.singleton_append];have hb1:bD m 1=true:=by unfold bD;simp[odd]
    rw[outs,ih,LP];congr 1;by_cases c:s.contains x=true
    · simp only[Lp c,MA,hb1,M7,List.filter_nil,LF,MM];have a1:¬(m - 1) % 2=1:=by omega
      have a2:(m - 1) / 2=m / 2:=by omega
      rw[qt,Lo a1,a2];rfl
    · simp only[Lo c];rfl
  · have hb1:bD m 1=false:=by unfold bD;simp[odd]
    simp only[Lo odd,Mi];rw[ih];by_cases c:s.contains x=true
    · simp only[Lp c,MA,hb1,MN,Nm,List.filter_nil,MM,Mi]
    · simp only[Lo c,List.filter_nil,MM,Mi]
theorem yb:∀{ss:Oa} {m:Nat} {s:Ob},s∈sel m ss->s∈ss
 |[],_,_,h=>by simp[sel] at h
 |t::ss,m,s,h=>by
  unfold sel at h;rcases Mc.mp h with h|h
  · by_cases c:m % 2=1
    · rw[Lp c] at h;simp at h;simp[h]
    · rw[Lo c] at h;simp at h
  · exact LG _ (yb h)
theorem vd:∀ss:Oa,sel (2 ^ ss.length - 1) ss=ss
 |[]=>rfl
 |s::ss=>by
  have hp:0 < 2 ^ ss.length:=Nat.two_pow_pos _;have e:2 ^ (s::ss).length - 1=2*(2 ^ ss.length - 1)+1:=by
   rw[Lz,Nu];omega
  unfold sel;rw[e];have a1:(2*(2 ^ ss.length - 1)+1) % 2=1:=by omega
  have a2:(2*(2 ^ ss.length - 1)+1) / 2=2 ^ ss.length - 1:=by omega
  rw[Lp a1,a2,vd ss];rfl
theorem zB (x m:Nat)(ss:Oa)(p:Nat->Bool)(nd:∀s∈ss,s.Nodup)(hx:p x=false) :
  dg (sel m ss) (λz=>p z||z==x)=dg (sel m ss) p+(((bitsOf x 1 ss).filter (bD m)).map λb=>dg (sel (m - b) ss) p).sum:=by
 rw[sq x (sel m ss) p (λs hs=>nd s (yb hs)) hx,vn,LP];rfl
abbrev cC (l:Ob):Prop:=l.Pairwise (· < ·)
theorem j4:∀l:Ob,risesN l=true↔cC l
 |[]=>by simp[risesN]
 |[x]=>by simp[risesN]
 |x::y::l=>by
  have ih:=j4 (y::l);rw[risesN,Lv,MT,ih];constructor
  · rintro⟨h1,h2⟩;refine MG.mpr ⟨λz hz=>?_,h2⟩;rcases Lr.mp hz with rfl|hz
    · exact h1
    · exact Nat.lt_trans h1 ((MG.mp h2).1 z hz)
  · intro h;obtain⟨h1,h2⟩:=MG.mp h;exact⟨h1 y (by simp),h2⟩
theorem cC.nodup {l:Ob}(h:cC l):l.Nodup:=List.Pairwise.imp (λh=>L0 h) h
theorem h_ {α:Type} [DecidableEq α]:∀{l m:List α},l.Nodup->(∀x∈l,x∈m)->l.length<=m.length
 |[],_,_,_=>LV _
 |x::l,m,nd,h=>by
  obtain⟨h1,h2⟩:=Mz.mp nd;have hx:x∈m:=h x (by simp);have ih:=h_ (l:=l) (m:=m.erase x) h2 λy hy=>by
   have:y≠x:=λe=>h1 (e ▸ hy);exact (NV this).mpr (h y (by simp[hy]))
  have e:=M6 hx;have:0 < m.length:=NJ hx;rw[Lz];omega
def fU (n:Nat):Ob->Ob
 |[]=>[n]
 |x::r=>if n < x then n::x::r else x::fU n r
theorem lW {n y:Nat}:∀{l:Ob},y∈fU n l↔y=n∨y∈l
 |[]=>by simp[fU]
 |x::r=>by
  unfold fU;by_cases c:n < x
  · rw[Lp c];simp
  · rw[Lo c,Lr,lW (l:=r),Lr];constructor
    · rintro (h|h|h) <;> simp[h]
    · rintro (h|h|h) <;> simp[h]
theorem lz {n:Nat}:∀{l:Ob},cC l->¬n∈l->cC (fU n l)
 |[],_,_=>by simp[fU]
 |x::r,h,hn=>by
  obtain⟨h1,h2⟩:=MG.mp h;unfold fU;by_cases c:n < x
  · rw[Lp c];refine MG.mpr ⟨λz hz=>?_,h⟩;rcases Lr.mp hz with rfl|hz
    · exact c
    · exact Nat.lt_trans c (h1 z hz)
  · rw[Lo c];have ne:n≠x:=λe=>hn (by simp[e]);refine MG.mpr ⟨λz hz=>?_,lz h2 λm=>hn (by simp[m])⟩;rcases lW.mp hz with rfl|hz
    · omega
    · exact h1 z hz
theorem pS {n:Nat}:∀{l:Ob},cC l->n∈l->fU n (l.erase n)=l
 |[],_,h=>by simp at h
 |x::r,h,hn=>by
  obtain⟨h1,h2⟩:=MG.mp h;by_cases e:x=n
  · subst e;rw[List.erase_cons_head];cases r with
    |nil=>rfl
    |cons y r=>unfold fU;rw[Lp (h1 y (by simp))]
  · have hn':n∈r:=by
     rcases Lr.mp hn with z|z
     · exact absurd z.symm e
     · exact z
    rw[List.erase_cons_tail (by simpa using e)];have:=h1 n hn';unfold fU;rw[Lo (by omega),pS h2 hn']
theorem pz {n:Nat}:∀{l:Ob},¬n∈l->(fU n l).erase n=l
 |[],_=>by simp[fU]
 |x::r,h=>by
  have ne:x≠n:=λe=>h (by simp[e]);unfold fU;by_cases c:n < x
  · rw[Lp c,List.erase_cons_head]
  · rw[Lo c,List.erase_cons_tail (by simpa using ne),pz λm=>h (by simp[m])]
def jG (K:Oa)(k:Ob):Oa:=if K.contains k=true then K else K++[k]
def cw (pick:Ob)(K:Oa)(n:Nat):Oa:=if pick.contains n=true then K else jG K (fU n pick)
def cP (s:Ob)(K:Oa)(pick:Ob):Oa:=s.foldl (cw pick) K
def eZ (picks:Oa)(s:Ob):Oa:=picks.foldl (cP s) []
def bz (ss:Oa):Oa:=ss.foldl eZ [[]]
theorem vY {K:Oa}{k r:Ob}:r∈jG K k↔r∈K∨r=k:=by
 unfold jG;by_cases c:K.contains k=true
 · rw[Lp c];have c':k∈K:=by simpa using c
   exact⟨.inl,λh=>h.elim id λe=>e ▸ c'⟩
 · rw[Lo c];simp
theorem my {K:Oa}{k:Ob}(h:K.Nodup):(jG K k).Nodup:=by
 unfold jG;by_cases c:K.contains k=true
 · rw[Lp c];exact h
 · rw[Lo c];have c':¬k∈K:=by simpa using c
   refine M4.mpr ⟨h,by simp,λa ha b hb=>?_⟩;have:b=k:=by simpa using hb
   subst this;exact λe=>c' (e ▸ ha)
theorem qz {pick r:Ob}:∀{s:Ob} {K:Oa},r∈cP s K pick↔r∈K∨∃n∈s,¬n∈pick/\r=fU n pick
 |[],K=>by simp[cP]
 |n::s,K=>by
  show r∈cP s (cw pick K n) pick↔_;rw[qz (s:=s)];unfold cw;by_cases c:pick.contains n=true
  · rw[Lp c];have c':n∈pick:=by simpa using c
    constructor
    · rintro (h|⟨m,hm,h1,h2⟩)
      · exact .inl h
      · exact .inr ⟨m,by simp[hm],h1,h2⟩
    · rintro (h|⟨m,hm,h1,h2⟩)
      · exact .inl h
      · rcases Lr.mp hm with rfl|hm
        · exact absurd c' h1
        · exact .inr ⟨m,hm,h1,h2⟩
  · rw[Lo c,vY];have c':¬n∈pick:=by simpa using c
    constructor
    · rintro ((h|h)|⟨m,hm,h1,h2⟩)
      · exact .inl h
      · exact .inr ⟨n,by simp,c',h⟩
      · exact .inr ⟨m,by simp[hm],h1,h2⟩
    · rintro (h|⟨m,hm,h1,h2⟩)
      · exact .inl (.inl h)
      · rcases Lr.mp hm with rfl|hm
        · exact .inl (.inr h2)
        · exact .inr ⟨m,hm,h1,h2⟩
theorem mI {pick:Ob}:∀{s:Ob} {K:Oa},K.Nodup->(cP s K pick).Nodup
 |[],_,h=>h
 |n::s,K,h=>by
  show (cP s (cw pick K n) pick).Nodup;refine mI (s:=s) ?_;unfold cw;by_cases c:pick.contains n=true
  · rw[Lp c];exact h
  · rw[Lo c];exact my h
theorem uK {s r:Ob}:∀{picks K:Oa},r∈picks.foldl (cP s) K↔r∈K∨∃pick∈picks,∃n∈s,¬n∈pick/\r=fU n pick
 |[],K=>by simp
 |p::ps,K=>by
  rw[MS,uK (picks:=ps),qz];constructor
  · rintro ((h|h)|⟨q,hq,h⟩)
    · exact .inl h
    · exact .inr ⟨p,by simp,h⟩
    · exact .inr ⟨q,by simp[hq],h⟩
  · rintro (h|⟨q,hq,h⟩)
    · exact .inl (.inl h)
    · rcases Lr.mp hq with rfl|hq
      · exact .inl (.inr h)
      · exact .inr ⟨q,hq,h⟩
theorem oJ {s:Ob}:∀{picks K:Oa},K.Nodup->(picks.foldl (cP s) K).Nodup
 |[],_,h=>h
 |p::ps,K,h=>by
  rw[MS];exact oJ (picks:=ps) (mI h)
theorem snoc_ind {α:Type}{P:List α->Prop}(h0:P [])(h1:∀l a,P l->P (l++[a]))(l:List α):P l:=by
 have:∀m:List α,P m.reverse:=λm=>by
  induction m with
  |nil=>exact h0
  |cons a m ih=>rw[List.reverse_cons];exact h1 _ a ih
 have h:=this l.reverse
 rwa [List.reverse_reverse] at h
theorem dU {row s:Ob}{t:Oa}:fillsSets row (s::t)=true↔∃x∈row,x∈s/\fillsSets (row.erase x) t=true:=by
 show (row.any λ(x:Nat)=>s.contains x&&fillsSets (row.erase x) t)=true↔_;rw[M0];constructor
 · rintro⟨x,hx,h⟩;rw[Lv] at h;exact⟨x,hx,by simpa using h.1,h.2⟩
 · rintro⟨x,hx,h1,h2⟩;exact⟨x,hx,by rw[Lv];exact⟨by simpa using h1,h2⟩⟩
theorem mP {row:Ob}:fillsSets row []=true↔row=[]:=by
 show row.isEmpty=true↔_;exact MZ
theorem jK {x y:Nat}{l:Ob}(hy:y∈l)(hx:x∈l.erase y):x∈l/\y∈l.erase x:=by
 refine⟨List.mem_of_mem_erase hx,?_⟩;by_cases e:y=x
 · subst e;exact hx
 · exact (NV e).mpr hy
theorem k_ {s:Ob}:∀{ss:Oa} {row:Ob},fillsSets row (ss++[s])=true↔∃x∈row,x∈s/\fillsSets (row.erase x) ss=true
 |[],row=>by rw[Mi,dU]
 |t::ss,row=>by
  rw[Nw,dU];constructor
  · rintro⟨y,hy,hyt,h⟩;obtain⟨x,hx,hxs,h⟩:=k_.mp h;obtain⟨a,b⟩:=jK hy hx;exact⟨x,a,hxs,dU.mpr ⟨y,b,hyt,by rw[List.erase_comm];exact h⟩⟩
  · rintro⟨x,hx,hxs,h⟩;obtain⟨y,hy,hyt,h⟩:=dU.mp h;obtain⟨a,b⟩:=jK hx hy;exact⟨y,a,hyt,k_.mpr ⟨x,b,hxs,by rw[List.erase_comm];exact h⟩⟩
theorem cC.erase {l:Ob}(n:Nat)(h:cC l):cC (l.erase n):=List.Pairwise.sublist List.erase_sublist h
theorem nY {n:Nat}{l:Ob}(h:l.Nodup):¬n∈l.erase n:=λm=>by
 have:=(h.mem_erase_iff).mp m;exact this.1 rfl
theorem iX (ss:Oa)(s:Ob):bz (ss++[s])=eZ (bz ss) s:=by
 unfold bz;rw[List.foldl_append];rfl
theorem jX (ss:Oa):∀r,r∈bz ss↔cC r/\fillsSets r ss=true:=by
 refine snoc_ind (P:=λss=>∀r,r∈bz ss↔cC r/\fillsSets r ss=true) ?_ ?_ ss
 · intro r;show r∈([[]]:Oa)↔_;rw[mP,LC];constructor
   · rintro rfl;exact⟨List.Pairwise.nil,rfl⟩
   · exact λh=>h.2
 · intro ss s ih r;rw[iX];unfold eZ;rw[uK,k_];constructor
   · rintro (h|⟨p,hp,n,hn,h1,rfl⟩)
     · simp at h
     · obtain⟨rp,fp⟩:=(ih p).mp hp;exact⟨lz rp h1,n,lW.mpr (.inl rfl),hn,by rw[pz h1];exact fp⟩
   · rintro⟨hr,n,hn,hs,h⟩;exact .inr ⟨r.erase n,(ih _).mpr ⟨hr.erase n,h⟩,n,hs,nY hr.nodup,(pS hr hn).symm⟩
theorem vc (ss:Oa):(bz ss).Nodup:=by
 refine snoc_ind (P:=λss=>(bz ss).Nodup) ?_ ?_ ss
 · show ([[]]:Oa).Nodup;simp
 · intro ss s _;rw[iX];exact oJ List.nodup_nil
theorem j7:∀{ss:Oa} {row:Ob},fillsSets row ss=true->row.length=ss.length/\∀x∈row,∃s∈ss,x∈s
 |[],row,h=>by
  have:=mP.mp h;subst this;exact⟨rfl,λx hx=>by simp at hx⟩
 |t::ss,row,h=>by
  obtain⟨y,hy,hyt,h⟩:=dU.mp h;obtain⟨h1,h2⟩:=j7 h;have e:=M6 hy;have:0 < row.length:=NJ hy;refine⟨by rw[Lz];omega,λx hx=>?_⟩;by_cases c:x=y
  · subst c;exact⟨t,by simp,hyt⟩
  · obtain⟨s,hs,hxs⟩:=h2 x ((NV c).mpr hx);exact⟨s,by simp[hs],hxs⟩
theorem iN:∀{k:Nat} {l r:Ob},r.Sublist l->r.length=k->r∈risingRows k l
 |0,l,r,_,h=>by
  have:r=[]:=Nd.mp h;subst this;simp[risingRows]
 |k+1,_,_,.slnil,h=>by simp at h
 |k+1,x::l,r,.cons _ h',h=>by
  rw[risingRows,Mc];exact .inr (iN h' h)
 |k+1,x::l,_::r,.cons_cons _ h',h=>by
  rw[risingRows,Mc];exact .inl (LX.mpr ⟨r,iN h' (by simpa using h),rfl⟩)
theorem lC:∀(k:Nat) (l r:Ob),r∈risingRows k l->r.length=k
 |0,_,r,h=>by
  have:r=[]:=by simpa [risingRows] using h
  subst this;rfl
 |k+1,[],r,h=>by simp[risingRows] at h
 |k+1,x::l,r,h=>by
  rw[risingRows,Mc] at h;rcases h with h|h
  · obtain⟨q,hq,rfl⟩:=LX.mp h;rw[Lz,lC k l q hq]
  · exact lC (k+1) l r h
theorem i5:∀(k:Nat) (l:Ob),l.Nodup->(risingRows k l).Nodup
 |0,_,_=>by simp[risingRows]
 |k+1,[],_=>by simp[risingRows]
 |k+1,x::l,nd=>by
  obtain⟨h1,h2⟩:=Mz.mp nd;rw[risingRows];refine M4.mpr ⟨?_,i5 (k+1) l h2,?_⟩
  · exact List.Pairwise.map _ (λa b (h:a≠b) e=>h (by injection e)) (i5 k l h2)
  · intro a ha b hb e;obtain⟨q,_,rfl⟩:=LX.mp ha;subst e;exact h1 ((iS _ _ _ hb).subset (by simp))
theorem fV:∀{u r:Ob},cC u->cC r->(∀x∈r,x∈u)->r.Sublist u
 |_,[],_,_,_=>List.nil_sublist _
 |[],x::r,_,_,h=>by simpa using h x (by simp)
 |y::u,x::r,hu,hr,h=>by
  obtain⟨u1,u2⟩:=MG.mp hu;obtain⟨r1,r2⟩:=MG.mp hr;by_cases e:x=y
  · subst e;refine (fV u2 r2 λz hz=>?_).cons_cons x;rcases Lr.mp (h z (by simp[hz])) with q|q
    · have:=r1 z hz;omega
    · exact q
  · have hx:x∈u:=by
     rcases Lr.mp (h x (by simp)) with q|q
     · exact absurd q e
     · exact q
    refine (fV u2 hr λz hz=>?_).cons y;have lt:=u1 x hx;rcases Lr.mp (h z hz) with q|q
    · subst q;rcases Lr.mp hz with q|q
      · exact absurd q.symm e
      · have:=r1 z q;omega
    · exact q
theorem fQ {l:Oa}{x:Nat}:x∈together l↔x < 32/\∃s∈l,x∈s:=by
 unfold together;rw[Mx,Nb,M0];constructor
 · rintro⟨h,s,hs,hx⟩;exact⟨h,s,hs,by simpa using hx⟩
 · rintro⟨h,s,hs,hx⟩;exact⟨h,s,hs,by simpa using hx⟩
theorem df (l:Oa):cC (together l):=List.Pairwise.filter _ List.pairwise_lt_range
structure bL (heads s:Ob):Prop where
 rise:cC s
 sub:∀x∈s,x∈heads
structure cO (heads:Ob):Prop where
 rise:cC heads
 lo:∀x∈heads,1<=x
 hi:∀x∈heads,x<=24
def k6 (z:Nat):Bool:=decide (1<=z)&&decide (z<=24)
def fits:Ob->Oa->Prop
 |[],[]=>True
 |x::r,s::g=>x∈s/\fits r g
 |_,_=>False
theorem vP:∀{r:Ob} {g:Oa},fits r g->r.length=g.length
 |[],[],_=>rfl
 |_::_,_::_,h=>by simp[vP h.2]
 |[],_::_,h=>h.elim
 |_::_,[],h=>h.elim
theorem e_:∀{g:Oa} {had r:Ob},r∈apartRows g had↔fits r g/\r.Nodup/\∀x∈r,¬x∈had
 |[],_,[]=>by simp[apartRows,fits]
 |[],_,_::_=>by simp[apartRows,fits]
 |s::g,_,[]=>by simp[apartRows,fits]
 |s::g,had,x::r=>by
  simp only[apartRows,Nv,Mx,LX,List.cons.injEq,fits,Mz,NW];constructor
  · rintro⟨y,⟨h1,h2⟩,q,hq,rfl,rfl⟩;obtain⟨a,b,c⟩:=e_.mp hq;exact⟨⟨h1,a⟩,⟨λm=>c y m (by simp),b⟩,by simpa using h2,λz hz m=>c z hz (by simp[m])⟩
  · rintro⟨⟨h1,a⟩,⟨n,b⟩,h2,c⟩;refine⟨x,⟨h1,by simpa using h2⟩,r,e_.mpr ⟨a,b,λz hz m=>?_⟩,rfl,rfl⟩;rcases Lr.mp m with rfl|m
    · exact n hz
    · exact c z hz m
theorem pH {x:Nat}{l:Oa}(h:l.Nodup):(l.map λr=>x::r).Nodup:=List.pairwise_map.mpr (List.Pairwise.imp (λn e=>n (List.cons.inj e).2) h)
theorem vi {f:Nat->Oa}{s:Ob}(hs:s.Nodup)(h:∀x∈s,(f x).Nodup):(s.flatMap λx=>(f x).map λr=>x::r).Nodup:=by
 refine List.pairwise_flatMap.mpr ⟨λx hx=>pH (h x hx),List.Pairwise.imp (λn a ha b hb e=>?_) hs⟩;obtain⟨p,_,rfl⟩:=LX.mp ha;obtain⟨q,_,rfl⟩:=LX.mp hb;exact n (List.cons.inj e).1
theorem jw:∀{g:Oa} {had:Ob},(∀s∈g,s.Nodup)->(apartRows g had).Nodup
 |[],_,_=>by simp[apartRows]
 |s::g,had,h=>vi ((h s (by simp)).filter _) λ_ _=>jw λt ht=>h t (by simp[ht])
theorem vq:∀{r:Ob} {g:Oa},fits r g->(∀x∈r,∃s∈g,x∈s)/\∀s∈g,∃x∈r,x∈s
 |[],[],_=>by simp
 |x::r,s::g,h=>by
  obtain⟨a,b⟩:=vq h.2;refine⟨λy hy=>?_,λt ht=>?_⟩
  · rcases Lr.mp hy with rfl|hy
    · exact⟨s,by simp,h.1⟩
    · obtain⟨t,ht,hyt⟩:=a y hy;exact⟨t,by simp[ht],hyt⟩
  · rcases Lr.mp ht with rfl|ht
    · exact⟨x,by simp,h.1⟩
    · obtain⟨y,hy,hyt⟩:=b t ht;exact⟨y,by simp[hy],hyt⟩
 |[],_::_,h=>h.elim
 |_::_,[],h=>h.elim
theorem uA {B:Ob}:∀{k:Nat} {r:Ob},fits r (List.replicate k B)↔r.length=k/\∀x∈r,x∈B
 |0,[]=>by simp[fits]
 |0,_::_=>by simp[fits]
 |k+1,[]=>by simp[fits,NY]
 |k+1,x::r=>by
  rw[NY];show x∈B/\fits r _↔_;rw[uA];simp only[Lz,NW,Nat.add_right_cancel_iff];exact⟨λ⟨a,b,c⟩=>⟨b,a,c⟩,λ⟨b,a,c⟩=>⟨a,b,c⟩⟩
def jq (a:Nat)(B:Ob):Oa->List (Oa)
 |[]=>[]
 |s::g=>(if s==B then [[a]::g] else [])++(jq a B g).map λr=>s::r
def bH (B:Ob)(A:Ob)(gs:List (Oa)):List (Oa):=A.foldl (λgs a=>gs.flatMap (jq a B)) gs
theorem ud {x:Nat}{B:Ob}(h:¬x∈B):[x]≠B:=λe=>h (e ▸ LC.mpr rfl)
theorem tm {a:Nat}{B s:Ob}{g t:Oa}:t∈jq a B (s::g)↔(s=B/\t=[a]::g)∨∃r∈jq a B g,t=s::r:=by
 show t∈(if s==B then [[a]::g] else [])++(jq a B g).map (λr=>s::r)↔_;rw[Mc,LX];have z:(∃r,r∈jq a B g/\s::r=t)↔∃r∈jq a B g,t=s::r:=⟨λ⟨r,h,e⟩=>⟨r,h,e.symm⟩,λ⟨r,h,e⟩=>⟨r,h,e.symm⟩⟩;rw[z];by_cases e:s=B <;> simp[e]
structure Good (B had:Ob)(k:Nat)(g:Oa):Prop where
 len:g.length=k
 are:∀s∈g,s=B∨∃a∈had,s=[a]
 all:∀a∈had,[a]∈g
theorem ou {a:Nat}{B:Ob}:∀{g t:Oa},t∈jq a B g->t.length=g.length/\(∀s∈t,s=[a]∨s∈g)/\[a]∈t/\∀s∈g,s=B∨s∈t
 |[],t,h=>by cases h
 |s::g,t,h=>by
  rcases tm.mp h with ⟨rfl,rfl⟩|⟨r,hr,rfl⟩
  · refine⟨rfl,λu hu=>?_,by simp,λu hu=>?_⟩
    · rcases Lr.mp hu with e|hu
      · exact .inl e
      · exact .inr (by simp[hu])
    · rcases Lr.mp hu with e|hu
      · exact .inl e
      · exact .inr (by simp[hu])
  · obtain⟨a1,a2,a3,a4⟩:=ou hr;refine⟨by simp[a1],λu hu=>?_,by simp[a3],λu hu=>?_⟩
    · rcases Lr.mp hu with e|hu
      · exact .inr (by simp[e])
      · exact (a2 u hu).imp id λm=>by simp[m]
    · rcases Lr.mp hu with e|hu
      · exact .inr (by simp[e])
      · exact (a4 u hu).imp id λm=>by simp[m]
theorem BP {a k:Nat}{B had:Ob}{g t:Oa}(hB:∀x∈had,¬x∈B)(G:Good B had k g)(h:t∈jq a B g):Good B (had++[a]) k t:=by
 obtain⟨a1,a2,a3,a4⟩:=ou h;refine⟨a1.trans G.len,λs hs=>?_,λx hx=>?_⟩
 · rcases a2 s hs with e|m
   · exact .inr ⟨a,by simp,e⟩
   · exact (G.are s m).imp id λ⟨x,hx,e⟩=>⟨x,by simp[hx],e⟩
 · rcases Mc.mp hx with hx|hx
   · exact (a4 _ (G.all x hx)).resolve_left (ud (hB x hx))
   · rw[LC] at hx;exact hx ▸ a3
def uO (a:Nat)(B:Ob)(g:Oa):Oa:=g.map λs=>if s=[a] then B else s
theorem wq {a:Nat}{B:Ob}{g:Oa}(h:¬[a]∈g):uO a B g=g:=by
 unfold uO
 conv=>rhs;rw[←List.map_id g]
 refine Mg λs hs=>?_;rw[Lo λe=>h (by rw[←e];exact hs)];rfl
theorem pb {a:Nat}{B:Ob}:∀{g t:Oa},¬[a]∈g->t∈jq a B g->uO a B t=g
 |[],t,_,h=>by cases h
 |s::g,t,n,h=>by
  have n2:¬[a]∈g:=λm=>n (by simp[m]);rcases tm.mp h with ⟨rfl,rfl⟩|⟨r,hr,rfl⟩
  · show (if [a]=[a] then s else [a])::uO a s g=_;rw[Lp rfl,wq n2]
  · show (if s=[a] then B else s)::uO a B r=_;rw[Lo λe=>n (by simp[e]),pb n2 hr]
theorem sy {a:Nat}{B:Ob}(hB:¬a∈B):∀g:Oa,(jq a B g).Nodup
 |[]=>by simp[jq]
 |s::g=>by
  have m:((jq a B g).map λr=>s::r).Nodup:=List.pairwise_map.mpr (List.Pairwise.imp (λn e=>n (List.cons.inj e).2) (sy hB g));unfold jq;by_cases e:s=B
  · rw[Lp (by simp[e])];refine Mz.mpr ⟨λh=>?_,m⟩;obtain⟨r,_,hr⟩:=LX.mp h;exact ud hB ((List.cons.inj hr).1 ▸ e)
  · rw[Lo (by simp[e])];exact m
theorem iQ {B:Ob}{k:Nat}:∀{A had:Ob} {gs:List (Oa)},(∀x∈had++A,¬x∈B)->(had++A).Nodup->gs.Nodup->(∀g∈gs,Good B had k g)->(bH B A gs).Nodup/\∀g∈bH B A gs,Good B (had++A) k g
 |[],had,gs,_,_,h2,h3=>by
  rw[Mq];exact⟨h2,h3⟩
 |a::A,had,gs,hB,nd,h2,h3=>by
  have e:had++a::A=(had++[a])++A:=by simp
  rw[e] at hB nd ⊢;have n1:=M4.mp (M4.mp nd).1;have ha:¬a∈had:=λm=>n1.2.2 a m a (by simp) rfl;have hb:∀x∈had,¬x∈B:=λx hx=>hB x (by simp[hx]);have no:∀g∈gs,¬[a]∈g:=λg hg m=>by
   rcases (h3 g hg).are _ m with e|⟨x,hx,e⟩
   · exact ud (hB a (by simp)) e
   · have:a=x:=by simpa using e
     exact ha (this ▸ hx)
  refine iQ hB nd ?_ λg hg=>?_
  · refine List.pairwise_flatMap.mpr ⟨λg _=>sy (hB a (by simp)) g,M3.mpr λ{g g'} hs x hx y hy e=>?_⟩;have m1:=hs.subset (show g∈[g,g'] by simp);have m2:=hs.subset (show g'∈[g,g'] by simp);have:=M3.mp h2 hs;exact this (by rw[←pb (no g m1) hx,e,pb (no g' m2) hy])
  · obtain⟨g0,h0,hr⟩:=Nv.mp hg;exact BP hb (h3 g0 h0) hr
def gq (A B:Ob)(r:Ob):Oa:=r.map λx=>if x∈A then [x] else B
theorem vK {a:Nat}{B had:Ob}(ha:¬a∈had):∀{r:Ob},r.Nodup->a∈r->gq (had++[a]) B r∈jq a B (gq had B r)
 |[],_,h=>by cases h
 |y::r,nd,h=>by
  obtain⟨n1,n2⟩:=Mz.mp nd;have step:∀z,z≠a->(if z∈had++[a] then [z] else B)=if z∈had then [z] else B:=λz hz=>by simp[hz]
  refine tm.mpr ?_;by_cases e:y=a
  · subst e;refine .inl ⟨Lo ha,?_⟩;show (if y∈had++[y] then [y] else B)::gq (had++[y]) B r=_;rw[Lp (by simp)];congr 1;exact Mg λz hz=>step z λe=>n1 (e ▸ hz)
  · refine .inr ⟨_,vK ha n2 ((Lr.mp h).resolve_left λz=>e z.symm),?_⟩;show (if y∈had++[a] then [y] else B)::_=_;rw[step y e];rfl
theorem oM {B r:Ob}(nr:r.Nodup):∀{A had:Ob} {gs:List (Oa)},(had++A).Nodup->(∀a∈A,a∈r)->gq had B r∈gs->gq (had++A) B r∈bH B A gs
 |[],had,gs,_,_,h=>by rwa [Mq]
 |a::A,had,gs,nd,h1,h=>by
  have e:had++a::A=(had++[a])++A:=by simp
  rw[e] at nd ⊢;have n1:=M4.mp (M4.mp nd).1;exact oM nr nd (λx hx=>h1 x (by simp[hx])) (Nv.mpr ⟨_,h,vK (λm=>n1.2.2 a m a (by simp) rfl) nr (h1 a (by simp))⟩)
theorem CJ {B r:Ob}:gq [] B r=List.replicate r.length B:=by
 unfold gq;rw[←List.map_const'];exact Mg λx _=>by simp
theorem sx {A B:Ob}:∀{r:Ob},(∀x∈r,x∈A∨x∈B)->fits r (gq A B r)
 |[],_=>trivial
 |x::r,h=>by
  refine⟨?_,sx λy hy=>h y (by simp[hy])⟩;by_cases e:x∈A
  · simp[e]
  · simpa [e] using (h x (by simp)).resolve_left e
theorem m_ {A B:Ob}(hB:∀x∈A,¬x∈B):∀{r:Ob} {g:Oa},(∀s∈g,s=B∨∃a∈A,s=[a])->fits r g->g=gq A B r
 |[],[],_,_=>rfl
 |x::r,s::g,h,f=>by
  show s::g=(if x∈A then [x] else B)::gq A B r;rw[←m_ hB (λt ht=>h t (by simp[ht])) f.2];congr 1;rcases h s (by simp) with rfl|⟨a,ha,rfl⟩
  · rw[Lo λm=>hB x m f.1]
  · have:x=a:=by simpa using f.1
    rw[this,Lp ha]
 |[],_::_,_,f=>f.elim
 |_::_,[],_,f=>f.elim
theorem xP {A B:Ob}{k:Nat}(nA:A.Nodup)(nB:B.Nodup)(dis:∀x∈A,¬x∈B) :
  ((bH B A [List.replicate k B]).flatMap λg=>apartRows g []).Nodup /\
  ∀r,r∈(bH B A [List.replicate k B]).flatMap (λg=>apartRows g [])↔r.length=k/\r.Nodup/\(∀a∈A,a∈r)/\∀x∈r,x∈A∨x∈B:=by
 obtain⟨h1,h2⟩:=iQ (B:=B) (k:=k) (A:=A) (had:=[]) (gs:=[List.replicate k B]) (by simpa using dis) (by simpa using nA) (by simp) (λg hg=>by
  rw[LC] at hg;subst hg;exact⟨by simp,λs hs=>.inl (Mp hs),by simp⟩)
 rw[Mi] at h2;refine⟨List.pairwise_flatMap.mpr ⟨λg hg=>jw λs hs=>?_,M3.mpr λ{g g'} hs x hx y hy e=>?_⟩,λr=>?_⟩
 · rcases (h2 g hg).are s hs with rfl|⟨a,_,rfl⟩
   · exact nB
   · simp
 · have m1:=hs.subset (show g∈[g,g'] by simp);have m2:=hs.subset (show g'∈[g,g'] by simp);refine M3.mp h1 hs ?_;rw[m_ dis (h2 g m1).are (e_.mp hx).1,e,←m_ dis (h2 g' m2).are (e_.mp hy).1]
 · rw[Nv];constructor
   · rintro⟨g,hg,hr⟩;obtain⟨f,nr,_⟩:=e_.mp hr;have G:=h2 g hg;obtain⟨f1,f2⟩:=vq f;refine⟨(vP f).trans G.len,nr,λa ha=>?_,λx hx=>?_⟩
     · obtain⟨x,hx,e⟩:=f2 _ (G.all a ha);have:x=a:=by simpa using e
       exact this ▸ hx
     · obtain⟨s,hs,hxs⟩:=f1 x hx;rcases G.are s hs with rfl|⟨a,ha,rfl⟩
       · exact .inr hxs
       · have:x=a:=by simpa using hxs
         exact .inl (this ▸ ha)
   · rintro⟨hl,nr,ha,hx⟩;refine⟨gq A B r,?_,e_.mpr ⟨sx hx,nr,by simp⟩⟩;have:=oM (B:=B) nr (A:=A) (had:=[]) (gs:=[List.replicate k B]) (by simpa using nA) ha (by rw[CJ,hl];simp);simpa using this
theorem k9 {B:Ob}:∀{A P:Ob} {j:Nat} {rest:List (Oa)},(∀x∈P++A,¬x∈B)->A.length<=j->∃q,bH B A ((P.map (λa=>[a])++List.replicate j B)::rest)=((P++A).map (λa=>[a])++List.replicate (j - A.length) B)::q
 |[],P,j,rest,_,_=>⟨rest,by simp[bH]⟩
 |a::A,P,j,rest,h,hj=>by
  obtain⟨j,rfl⟩:∃i,j=i+1:=⟨j - 1,by rw[Lz] at hj;omega⟩;have first:∀P:Ob,(∀x∈P,¬x∈B)->∃q,jq a B (P.map (λa=>[a])++List.replicate (j+1) B)=(P.map (λa=>[a])++[a]::List.replicate j B)::q:=by
   intro P
   induction P with
   |nil=>intro _;exact⟨_,by rw[MM,Mi,Mi,NY];unfold jq;rw[Lp (by simp)];rfl⟩
   |cons x P ih =>
    intro hP;obtain⟨q,e⟩:=ih λy hy=>hP y (by simp[hy]);refine⟨q.map λr=>[x]::r,?_⟩;rw[LF,Nw];unfold jq;rw[e,Lo (by simpa using ud (hP x (by simp)))];rfl
  obtain⟨q,e⟩:=first P λx hx=>h x (by simp[hx])
  obtain⟨q',e'⟩:=k9 (B:=B) (A:=A) (P:=P++[a]) (j:=j) (rest:=q++rest.flatMap (jq a B)) (by simpa using h) (by rw[Lz] at hj;omega);refine⟨q',?_⟩;show bH B A (((P.map (λa=>[a])++List.replicate (j+1) B)::rest).flatMap (jq a B))=_;rw[NL,e,Nw];have e1:P.map (λa=>[a])++[a]::List.replicate j B=(P++[a]).map (λa=>[a])++List.replicate j B:=by simp
  rw[e1,e'];simp
theorem k7 {B:Ob}:∀{j:Nat} {r:Ob},fillsSets r (List.replicate j B)=true↔r.length=j/\∀x∈r,x∈B
 |0,r=>by
  rw[List.replicate_zero,mP];exact⟨λh=>by subst h;simp,λh=>Nd.mp h.1⟩
 |j+1,r=>by
  rw[NY,dU];constructor
  · rintro⟨x,hx,hb,h⟩;obtain⟨h1,h2⟩:=k7.mp h;have:=M6 hx;have:=NJ hx;refine⟨by omega,λy hy=>?_⟩;by_cases e:y=x
    · exact e ▸ hb
    · exact h2 y ((NV e).mpr hy)
  · rintro⟨hl,h⟩
    match r,hl,h with
    |x::r,hl,h=>exact⟨x,by simp,h x (by simp),k7.mpr ⟨by simpa using hl,λy hy=>h y (by simp only[List.erase_cons_head] at hy;simp[hy])⟩⟩
theorem lA {B:Ob}{j:Nat}:∀{A r:Ob},A.Nodup->(∀x∈B,¬x∈A)->r.Nodup ->
  (fillsSets r (A.map (λa=>[a])++List.replicate j B)=true↔(∀a∈A,a∈r)/\r.length=A.length+j/\∀x∈r,x∈A∨x∈B)
 |[],r,_,_,_=>by
  rw[MM,Mi,k7];simp
 |a::A,r,nA,dis,nr=>by
  obtain⟨n1,n2⟩:=Mz.mp nA;rw[LF,Nw,dU];have ih:=lA (B:=B) (j:=j) n2 (λx hx m=>dis x hx (LG _ m)) (nr.erase a);have me:∀x,x∈r.erase a↔x≠a/\x∈r:=λx=>nr.mem_erase_iff;constructor
  · rintro⟨x,hx,ha,h⟩;have:x=a:=by simpa using ha
    subst this;obtain⟨h1,h2,h3⟩:=ih.mp h;have:=M6 hx;have:=NJ hx;refine⟨λy hy=>?_,by rw[Lz];omega,λy hy=>?_⟩
    · rcases Lr.mp hy with rfl|hy
      · exact hx
      · exact ((me y).mp (h1 y hy)).2
    · by_cases e:y=x
      · exact .inl (by simp[e])
      · exact (h3 y ((me y).mpr ⟨e,hy⟩)).imp (LG _) id
  · rintro⟨h1,h2,h3⟩;have ha:=h1 a (by simp);have:=M6 ha;rw[Lz] at h2;refine⟨a,ha,by simp,ih.mpr ⟨λy hy=>(me y).mpr ⟨λe=>n1 (e ▸ hy),h1 y (LG _ hy)⟩,by omega,λy hy=>?_⟩⟩;obtain⟨e,hy⟩:=(me y).mp hy;rcases h3 y hy with m|m
    · exact .inl ((Lr.mp m).resolve_left e)
    · exact .inr m
def jJ (kind:Kind)(how:How)(k:Nat)(sets:Oa):List (Oa):=match how with
 |.on=>[sets]
 |.box=>[List.replicate k (sets.headD [])]
 |.key=>if kind=.any then (bH (sets.getD 1 []) (sets.headD []) [List.replicate k (sets.getD 1 [])]).take 1 else bH (sets.getD 1 []) (sets.headD []) [List.replicate k (sets.getD 1 [])]
def rB (kind:Kind)(gs:List (Oa)):Oa:=match kind with
 |.order=>gs.flatMap λg=>apartRows g []
 |.any=>bz (gs.headD [])
 |_=>gs.flatMap rowsOf
def CG (kind:Kind)(how:How)(k:Nat)(sets:Oa):Oa:=rB kind (jJ kind how k sets)
def countM (kind:Kind)(how:How)(k:Nat)(sets:Oa):Nat:=(CG kind how k sets).length
section
variable {C:Card}{b:Bet}{p:Pool}
theorem vM (hl:p.kind≠.legs):(C.sets p).headD []=C.headsOf p.race:=by
 unfold Card.sets Pool.legs;rw[Lo hl];rfl
theorem vx {row:Ob}(hk:p.kind=.order):C.isCombo p row=(row.length==p.k&&(decide row.Nodup&&row.all λx=>(C.headsOf p.race).contains x)):=by
 unfold Card.isCombo;rw[hk];simp only[vM (C:=C) (p:=p) (by rw[hk];decide)]
theorem r_ {row:Ob}(hk:p.kind=.any):C.isCombo p row=(row.length==p.k&&(risesN row&&row.all λx=>(C.headsOf p.race).contains x)):=by
 unfold Card.isCombo;rw[hk];simp only[vM (C:=C) (p:=p) (by rw[hk];decide)]
structure yS (C:Card)(b:Bet)(p:Pool):Prop where
 pool:C.pool b.pool=p
 heads:p.kind≠.legs->cO (C.headsOf p.race)
 k:p.kind≠.legs->p.kind≠.place->2<=p.k/\p.k<=mostK p.kind
 good:p.kind≠.legs->∀s∈b.sets,bL (C.headsOf p.race) s
 place:p.kind=.place->b.how=.on/\b.sets.length=1
 legs:p.kind=.legs->b.how=.on
 on:p.kind≠.legs->p.kind≠.place->b.how=.on->b.sets.length=p.k
 box:b.how=.box->∃s,b.sets=[s]/\p.k<=s.length
 key:b.how=.key->∃s t,b.sets=[s,t]/\s.length < p.k/\(∀x∈t,¬x∈s)/\p.k<=s.length+t.length
theorem i9 {l:Oa}{heads:Ob}(h:∀s∈l,bL heads s):∀x∈together l,x∈heads:=λx hx=>by
 obtain⟨_,s,hs,hxs⟩:=fQ.mp hx;exact (h s hs).sub x hxs
theorem jg {l:Oa}{heads s:Ob}(gh:cO heads)(h:∀s∈l,bL heads s)(hs:s∈l):∀x∈s,x∈together l:=λx hx =>
 fQ.mpr ⟨Nat.lt_of_le_of_lt (gh.hi x ((h s hs).sub x hx)) (by decide),s,hs,hx⟩
theorem Ag (hk:p.kind=.order)(gh:cO (C.headsOf p.race))(hp:C.pool b.pool=p){A B:Ob}(good:∀s∈b.sets,bL (C.headsOf p.race) s)(hu:∀x,(∃s∈b.sets,x∈s)↔x∈A∨x∈B)(hf:∀r,(∀x∈r,x∈A∨x∈B)->(C.has b r=(C.isCombo p r&&A.all λx=>r.contains x)))(r:Ob) :
  r∈(apartRows (List.replicate p.k (together b.sets)) []).filter (C.has b)↔r.length=p.k/\r.Nodup/\(∀a∈A,a∈r)/\∀x∈r,x∈A∨x∈B:=by
 have inT:∀x,x∈together b.sets↔x∈A∨x∈B:=λx=>by
  rw[←hu];exact⟨λh=>(fQ.mp h).2,λ⟨s,hs,hx⟩=>jg gh good hs x hx⟩
 rw[Mx,e_,uA];constructor
 · rintro⟨⟨⟨h1,h2⟩,h3,_⟩,h4⟩;have sub:∀x∈r,x∈A∨x∈B:=λx hx=>(inT x).mp (h2 x hx);rw[hf r sub] at h4;simp only[Lv,LU] at h4;exact⟨h1,h3,λa ha=>by simpa using h4.2 a ha,sub⟩
 · rintro⟨h1,h2,h3,h4⟩;refine⟨⟨⟨h1,λx hx=>(inT x).mpr (h4 x hx)⟩,h2,by simp⟩,?_⟩;rw[hf r h4,vx hk];simp only[Lv,LU,Lw];exact⟨⟨by simpa using h1,h2,λx hx=>by simpa using i9 good x ((inT x).mpr (h4 x hx))⟩,λa ha=>by simpa using h3 a ha⟩
theorem EX (hk:p.kind=.any)(gh:cO (C.headsOf p.race))(hp:C.pool b.pool=p){A B:Ob}(good:∀s∈b.sets,bL (C.headsOf p.race) s)(hu:∀x,(∃s∈b.sets,x∈s)↔x∈A∨x∈B)(hf:∀r,(∀x∈r,x∈A∨x∈B)->(C.has b r=(C.isCombo p r&&A.all λx=>r.contains x)))(r:Ob) :
  r∈(risingRows p.k (together b.sets)).filter (C.has b)↔cC r/\(∀a∈A,a∈r)/\r.length=p.k/\∀x∈r,x∈A∨x∈B:=by
 have inT:∀x,x∈together b.sets↔x∈A∨x∈B:=λx=>by
  rw[←hu];exact⟨λh=>(fQ.mp h).2,λ⟨s,hs,hx⟩=>jg gh good hs x hx⟩
 rw[Mx];constructor
 · rintro⟨h1,h4⟩;have hs:=iS _ _ _ h1;have sub:∀x∈r,x∈A∨x∈B:=λx hx=>(inT x).mp (hs.subset hx);rw[hf r sub] at h4;simp only[Lv,LU] at h4;exact⟨List.Pairwise.sublist hs (df _),λa ha=>by simpa using h4.2 a ha,lC _ _ _ h1,sub⟩
 · rintro⟨h1,h2,h3,h4⟩;refine⟨iN (fV (df _) h1 λx hx=>(inT x).mpr (h4 x hx)) h3,?_⟩;rw[hf r h4,r_ hk];simp only[Lv,LU,Lw];exact⟨⟨by simpa using h3,(j4 r).mpr h1,λx hx=>by simpa using i9 good x ((inT x).mpr (h4 x hx))⟩,λa ha=>by simpa using h2 a ha⟩
theorem yU (v:yS C b p)(nl:p.kind≠.legs)(hn:b.how≠.on):∃A B,jJ p.kind b.how p.k b.sets=(if p.kind=.any then (bH B A [List.replicate p.k B]).take 1 else bH B A [List.replicate p.k B])/\A.Nodup/\B.Nodup/\(∀x∈B,¬x∈A)/\A.length<=p.k /\
  (∀x,(∃s∈b.sets,x∈s)↔x∈A∨x∈B)/\∀r,(∀x∈r,x∈A∨x∈B)->(C.has b r=(C.isCombo p r&&A.all λx=>r.contains x)):=by
 cases hh:b.how with
 |on=>exact absurd hh hn
 |box =>
  obtain⟨s,hs,hl⟩:=v.box hh;have g:bL (C.headsOf p.race) s:=v.good nl s (by rw[hs];simp);refine⟨[],s,?_,by simp,g.rise.nodup,by simp,by simp,λx=>by rw[hs];simp,λr hr=>?_⟩
  · rw[hs];unfold jJ bH;by_cases e:p.kind=.any <;> simp[e]
  · unfold Card.has;rw[v.pool,hh,hs];have:(r.all λx=>([s].headD []).contains x)=true:=by
     rw[LU];intro x hx;simpa using hr x hx
    simp only[this,List.all_nil]
 |key =>
  obtain⟨s,t,hs,hl,dis,hkl⟩:=v.key hh;have gs:bL (C.headsOf p.race) s:=v.good nl s (by rw[hs];simp);have gt:bL (C.headsOf p.race) t:=v.good nl t (by rw[hs];simp);refine⟨s,t,by rw[hs];rfl,gs.rise.nodup,gt.rise.nodup,dis,by omega,λx=>by rw[hs];simp,λr hr=>?_⟩;unfold Card.has;rw[v.pool,hh,hs];have:(r.all λx=>s.contains x||t.contains x)=true:=by
   rw[LU];intro x hx;simpa using hr x hx
  show (C.isCombo p r&&((s.all λx=>r.contains x)&&r.all λx=>s.contains x||t.contains x))=_;rw[this,Bool.and_true]
theorem xJ (hp:C.pool b.pool=p)(hk:p.kind=.order)(hh:b.how≠.on):C.rows b=(apartRows (List.replicate p.k (together b.sets)) []).filter (C.has b):=by
 unfold Card.rows;rw[hp];dsimp only;rw[hk];cases hb:b.how with
 |on=>exact absurd hb hh
 |box=>rfl
 |key=>rfl
theorem zV (v:yS C b p):(CG p.kind b.how p.k b.sets).Perm (C.rows b):=by
 have hp:=v.pool;unfold CG Card.rows;rw[hp];dsimp only;cases hk:p.kind with
 |legs =>
  rw[v.legs hk];show ([b.sets].flatMap rowsOf).Perm _;simp
 |place =>
  obtain⟨h1,h2⟩:=v.place hk;rw[h1]
  match hs:b.sets,h2 with
  |[s],_ =>
   show ([[s]].flatMap rowsOf).Perm (s.map λx=>[x]);simp[rowsOf,←List.map_eq_flatMap]
 |order =>
  have nl:p.kind≠.legs:=by rw[hk];decide
  have gh:=v.heads nl;by_cases hh:b.how=.on
  · rw[hh];show ([b.sets].flatMap λg=>apartRows g []).Perm (apartRows b.sets []);simp
  · have e:=xJ hp hk hh;unfold Card.rows at e;rw[hp] at e;dsimp only at e;rw[hk] at e;rw[e];obtain⟨A,B,e1,nA,nB,dis,_,hu,hf⟩:=yU v nl hh;rw[hk,Lo (by decide)] at e1;rw[e1];obtain⟨r1,r2⟩:=xP (k:=p.k) nA nB λx hx m=>dis x m hx;refine (N7 r1 ((jw λs hs=>?_).filter _)).mpr λr=>(r2 r).trans (Ag hk gh hp (v.good nl) hu hf r).symm;rw[Mp hs];exact (df _).nodup
 |any =>
  have nl:p.kind≠.legs:=by rw[hk];decide
  have np:p.kind≠.place:=by rw[hk];decide
  have gh:=v.heads nl;show (bz ((jJ .any b.how p.k b.sets).headD [])).Perm ((risingRows p.k (together b.sets)).filter (C.has b));refine (N7 (vc _) ((i5 _ _ (df _).nodup).filter _)).mpr λr=>?_;by_cases hh:b.how=.on
  · rw[hh];show r∈bz b.sets↔_;rw[Mx,jX];have hlen:=v.on nl np hh;have has_eq:C.has b r=(C.isCombo p r&&fillsSets r b.sets):=by
     unfold Card.has;rw[hp,hh];show (C.isCombo p r&&if p.kind=.any then _ else _)=_;rw[Lp hk]
    rw[has_eq,r_ hk];constructor
    · rintro⟨h1,h2⟩;obtain⟨l1,l2⟩:=j7 h2;have inu:∀x∈r,x∈together b.sets:=λx hx=>by
       obtain⟨s,hs,hxs⟩:=l2 x hx;exact jg gh (v.good nl) hs x hxs
      refine⟨iN (fV (df _) h1 inu) (by rw[l1,hlen]),?_⟩;simp only[Lv];refine⟨⟨by simp[l1,hlen],(j4 r).mpr h1,?_⟩,h2⟩;rw[LU];intro x hx;simpa using i9 (v.good nl) x (inu x hx)
    · rintro⟨h1,h2⟩;simp only[Lv] at h2;exact⟨(j4 r).mp h2.1.2.1,h2.2⟩
  · obtain⟨A,B,e1,nA,nB,dis,hA,hu,hf⟩:=yU v nl hh;rw[hk,Lp rfl] at e1;obtain⟨q,e2⟩:=k9 (B:=B) (A:=A) (P:=[]) (j:=p.k) (rest:=[]) (λx hx m=>dis x m (by simpa using hx)) hA;rw[MM,Mi,Mi] at e2;rw[e1,e2];show r∈bz (A.map (λa=>[a])++List.replicate (p.k - A.length) B)↔_;rw[jX,EX hk gh hp (v.good nl) hu hf r];constructor
    · rintro⟨h1,h2⟩;obtain⟨a1,a2,a3⟩:=(lA nA dis h1.nodup).mp h2;exact⟨h1,a1,by omega,a3⟩
    · rintro⟨h1,a1,a2,a3⟩;exact⟨h1,(lA nA dis h1.nodup).mpr ⟨a1,by omega,a3⟩⟩
theorem jt:∀(g:Oa),(rowsOf g).length=product (g.map List.length)
 |[]=>rfl
 |s::g=>by
  have fold:∀(l:Ob) (a:Nat),l.foldl (λa b=>a*b) a=a*product l:=by
   intro l
   induction l with
   |nil=>intro a;simp[product]
   |cons x l ih=>intro a;unfold product;rw[MS,MS,ih,ih (1*x)];simp[Nat.mul_assoc]
  unfold rowsOf;rw[fH,LF];show _=(g.map List.length).foldl (λa b=>a*b) (1*s.length);rw[fold,Nat.one_mul,←jt g];simp only[Ln];rw[sum_map_const]
theorem sN (v:yS C b p):C.manyOf b=countM p.kind b.how p.k b.sets:=by
 unfold countM;rw[(zV v).length_eq];unfold Card.manyOf;rw[v.pool];by_cases h:p.kind=.legs
 · rw[Lp h,←jt];unfold Card.rows;rw[v.pool];dsimp only;rw[h]
 · rw[Lo h]
end
abbrev W:=Ob
def isLet (c:Nat):Bool:=decide (97<=c)&&decide (c<=122)
def bX (c:Nat):Bool:=decide (48<=c)&&decide (c<=57)
def t9 (c:Nat):Bool:=isLet c||bX c||c==32||c==10||c==44||c==47
def sg (c:Nat):Nat:=if t9 c=true then c else 63
def tx (w:Bytes):W:=w.map λc=>sg c.toNat
def cd (s:String):W:=s.toList.map Char.toNat
theorem uR {c d:Nat}(h:t9 d=true):sg c=d↔c=d:=by
 unfold sg;by_cases e:t9 c=true
 · rw[Lp e]
 · rw[Lo e];constructor
   · intro q;subst q;exact absurd h (by decide)
   · rintro rfl;exact absurd h e
theorem pT (c:Nat):isLet (sg c)=isLet c:=by
 unfold sg;by_cases e:t9 c=true
 · rw[Lp e]
 · rw[Lo e];have:isLet c=false:=by
    cases h:isLet c with
    |false=>rfl
    |true=>exact absurd (by unfold t9;rw[h];simp) e
   rw[this];decide
theorem pL (c:Nat):bX (sg c)=bX c:=by
 unfold sg;by_cases e:t9 c=true
 · rw[Lp e]
 · rw[Lo e];have:bX c=false:=by
    cases h:bX c with
    |false=>rfl
    |true=>exact absurd (by unfold t9;rw[h];simp) e
   rw[this];decide
theorem zM {c:Nat}(h:bX c=true):sg c=c:=by
 unfold sg t9;rw[h];simp
theorem il (w:Bytes):(tx w).length=w.length:=by unfold tx;rw[Ln]
theorem rD (v w:Bytes):tx (v++w)=tx v++tx w:=by unfold tx;rw[LH]
theorem Bx:tx []=[]:=rfl
theorem sI (c:UInt8)(w:Bytes):tx (c::w)=sg c.toNat::tx w:=rfl
theorem ju {a b:UInt8}(h:a.toNat=b.toNat):a=b:=UInt8.toNat_inj.mp h
theorem qT {v:Bytes}:∀{w:Bytes},(∀c∈v,t9 c.toNat=true)->(tx w=v.map UInt8.toNat↔w=v):=by
 induction v with
 |nil =>
  intro w _;cases w with
  |nil=>simp[tx]
  |cons=>simp[tx]
 |cons d v ih =>
  intro w h;cases w with
  |nil=>simp[tx]
  |cons c w =>
   have h1:=h d (by simp);have h2:=ih (w:=w) λc hc=>h c (by simp[hc]);rw[sI,LF,List.cons.injEq,List.cons.injEq,uR h1,h2];exact and_congr_left' ⟨ju,λe=>e ▸ rfl⟩
def plainT (s:String):Bool:=s.toList.all λc=>t9 c.toNat&&decide (c.toNat < 256)
theorem uH {s:String}(h:plainT s=true):(ascii s).map UInt8.toNat=cd s:=by
 unfold ascii cd;rw[LP];refine Mg λc hc=>?_;have:=(LU.mp h) c hc;rw[Lv] at this;have lt:c.toNat < 256:=LI this.2;show (UInt8.ofNat c.toNat).toNat=c.toNat;rw[UInt8.toNat_ofNat'];exact Nat.mod_eq_of_lt lt
theorem bp {s:String}(w:Bytes)(h:plainT s=true):tx w=cd s↔w=ascii s:=by
 rw[←uH h];refine qT λc hc=>?_;unfold ascii at hc;obtain⟨d,hd,rfl⟩:=LX.mp hc;have:=(LU.mp h) d hd;rw[Lv] at this;have lt:d.toNat < 256:=LI this.2;rw[UInt8.toNat_ofNat',Nat.mod_eq_of_lt lt];exact this.1
def eD (w:W):Bool:=decide (1<=w.length)&&decide (w.length<=12)&&isLet (w.headD 0)&&w.all λc=>isLet c||bX c
theorem j2 (w:Bytes):eD (tx w)=isName w:=by
 unfold eD isName;rw[il];have e1:((tx w).all λc=>isLet c||bX c)=w.all λc=>isSmall c||isDigit c:=by
  unfold tx;rw[Ny];congr 1;funext c;show (isLet (sg c.toNat)||bX (sg c.toNat))=_;rw[pT,pL];rfl
 rw[e1];cases w with
 |nil=>rfl
 |cons c r =>
  have e2:isLet ((tx (c::r)).headD 0)=(((c::r).head?.map isSmall).getD false):=by
   show isLet (sg c.toNat)=isSmall c;rw[pT];rfl
  rw[e2];unfold NAME;generalize decide (1<=(c::r).length)=a;generalize decide ((c::r).length<=12)=b;generalize ((c::r).head?.map isSmall).getD false=d;generalize ((c::r).all λc=>isSmall c||isDigit c)=f;cases a <;> cases b <;> cases d <;> cases f <;> rfl
def wV (w:W):Nat:=w.foldl (λn c=>10*n+(c - 48)) 0
def ay (w:W):Int :=
 if 7 < w.length∨w=[]∨w.all bX=false then -1 else if w.headD 0=48/\w≠[48] then -1 else (wV w:Int)
theorem y4:∀(w:Bytes) (n m:Nat),m<=n->m*10 ^ w.length<=w.foldl (λ(n:Nat) (c:UInt8)=>10*n+(c.toNat - 48)) n
 |[],n,m,h=>by simpa using h
 |c::w,n,m,h=>by
  have:=y4 w (10*n+(c.toNat - 48)) (10*m) (by omega);rw[MS,Lz,Nu];have e:m*(10 ^ w.length*10)=10*m*10 ^ w.length:=by
   rw[NH (10 ^ w.length) 10,←Nat.mul_assoc,NH m 10]
  omega
theorem md {w:Bytes}{n:Nat}(h:numberOf w=some n)(hl:7 < w.length):10000000<=n:=by
 unfold numberOf at h;split at h
 · cases h
 · rename_i hc;have hc':¬(w.isEmpty=true)/\¬(w.all isDigit=false)/\¬(w.head?=some 48/\w≠[48]):=⟨λz=>hc (.inl z),λz=>hc (.inr (.inl z)),λz=>hc (.inr (.inr z))⟩;injection h with h;subst h
   match w,hl with
   |c::r,hl =>
    have hd:isDigit c=true:=by
     have:(c::r).all isDigit=true:=by simpa using hc'.2.1
     rw[NC,Lv] at this;exact this.1
    have c0:c≠48:=λe=>hc'.2.2 ⟨by rw[e];rfl,λq=>by rw[q] at hl;simp at hl⟩;unfold isDigit at hd;rw[Lv,MT,MT] at hd;have h1:48<=c.toNat:=hd.1;have h2:c.toNat≠48:=λe=>c0 (ju e);have:=y4 r (10*0+(c.toNat - 48)) 1 (by omega);rw[MS];have p:10 ^ 7<=10 ^ r.length:=Nq (by decide) (by simp at hl;omega);have p7:(10:Nat) ^ 7=10000000:=by decide
    omega
theorem yT:∀(w:Bytes) (n:Nat),w.all isDigit=true->(tx w).foldl (λn c=>10*n+(c - 48)) n=w.foldl (λ(n:Nat) (c:UInt8)=>10*n+(c.toNat - 48)) n
 |[],_,_=>rfl
 |c::w,n,h=>by
  rw[NC,Lv] at h;have:sg c.toNat=c.toNat:=zM h.1;rw[sI,MS,MS,this];exact yT w _ h.2
theorem xQ (w:Bytes):(tx w).all bX=w.all isDigit:=by
 unfold tx;rw[Ny];congr 1;funext c;exact pL c.toNat
theorem BL (w:Bytes):ay (tx w)=if 7 < w.length then -1 else match numberOf w with
  |none=>-1
  |some n=>(n:Int):=by
 unfold ay numberOf;rw[il,xQ];by_cases h7:7 < w.length
 · rw[Lp h7,Lp (.inl h7)]
 · rw[Lo h7];by_cases c1:w=[]
   · subst c1;rfl
   · have e1:¬tx w=[]:=λz=>c1 (by
      have:=Mu List.length z;rw[il] at this;exact Nd.mp this)
     have e1':¬w.isEmpty=true:=λz=>c1 (MZ.mp z);by_cases c2:w.all isDigit=false
     · rw[Lp (.inr (.inr c2)),Lp (.inr (.inl c2))]
     · rw[Lo (λz=>z.elim h7 λz=>z.elim e1 c2)];have c2':w.all isDigit=true:=by simpa using c2
       have k:((tx w).headD 0=48/\tx w≠[48])↔(w.head?=some 48/\w≠[48]):=by
        have a:tx w=[48]↔w=[48]:=qT (v:=[48]) (w:=w) (by decide)
        match w,c1 with
        |c::r,_ =>
         have b:(tx (c::r)).headD 0=48↔(c::r).head?=some 48:=by
          show sg c.toNat=48↔some c=some 48;rw[uR (by decide)];constructor
          · intro e;rw[ju (show c.toNat=(48:UInt8).toNat from e)]
          · intro e;injection e with e;rw[e];rfl
         rw[b];exact and_congr_right λ_=>not_congr a
       by_cases c3:w.head?=some 48/\w≠[48]
       · rw[Lp (k.mpr c3),Lp (.inr (.inr c3))]
       · rw[Lo (λz=>c3 (k.mp z)),Lo (λz=>z.elim e1' λz=>z.elim c2 c3)];show ((wV (tx w):Nat):Int)=_;unfold wV;rw[yT w 0 c2']
theorem eV {w:Bytes}{lo hi:Nat}(hh:hi < 10000000):((lo:Int)<=ay (tx w)/\ay (tx w)<=(hi:Int))↔∃n,numberOf w=some n/\lo<=n/\n<=hi/\ay (tx w)=(n:Int):=by
 rw[BL];by_cases h7:7 < w.length
 · rw[Lp h7];constructor
   · rintro⟨a,_⟩;omega
   · rintro⟨n,e,_,b,_⟩;have:=md e h7;omega
 · rw[Lo h7];cases e:numberOf w with
   |none =>
    constructor
    · rintro⟨a,_⟩;have a':(lo:Int)<=-1:=a;omega
    · rintro⟨n,e,_⟩;cases e
   |some n =>
    constructor
    · rintro⟨a,b⟩;have a':(lo:Int)<=n:=a;have b':(n:Int)<=hi:=b;exact⟨n,rfl,by omega,by omega,rfl⟩
    · rintro⟨m,e,a,b,_⟩;injection e with e;subst e;show (lo:Int)<=n/\(n:Int)<=hi;omega
theorem dZ {w:Bytes}{m:Nat}(hm:m < 10000000):ay (tx w)=(m:Int)↔numberOf w=some m:=by
 constructor
 · intro e;obtain⟨n,h1,h2,h3,_⟩:=(eV (w:=w) (lo:=m) (hi:=m) hm).mp ⟨by omega,by omega⟩;have:n=m:=by omega
   subst this;exact h1
 · intro e;obtain⟨a,b⟩:=(eV (w:=w) (lo:=m) (hi:=m) hm).mpr ⟨m,e,Lx _,Lx _,by
    rw[BL];by_cases h7:7 < w.length
    · have:=md e h7;omega
    · rw[Lo h7,e]⟩
   omega
def a8 (c:Nat):W->W->List W
 |w,[]=>[w]
 |w,x::r=>if x=c then w::a8 c [] r else a8 c (w++[x]) r
theorem ik {c:UInt8}(hc:t9 c.toNat=true):∀(l w:Bytes),a8 c.toNat (tx w) (tx l)=(splitOn c w l).map tx
 |[],w=>rfl
 |x::r,w=>by
  rw[sI];unfold a8 splitOn;by_cases e:x=c
  · rw[Lp ((uR hc).mpr (by rw[e])),Lp e,LF];have:=ik hc r [];rw[Bx] at this;rw[this]
  · rw[Lo (λz=>e (ju ((uR hc).mp z))),Lo e];have:=ik hc r (w++[x]);rw[rD] at this;exact this
def Placed:Nat->List Word->Prop
 |_,[]=>True
 |p,w::r=>w.at_=p/\Placed (p+w.w.length+1) r
theorem words_of:∀(l w:Bytes) (p q:Nat),w.length<=p->badByte w.isEmpty q l=none->(wordsFrom p w l).map (·.w)=splitOn 32 w l/\Placed (p - w.length) (wordsFrom p w l)
 |[],w,p,q,hl,h=>by
  unfold badByte at h;by_cases e:w.isEmpty=true
  · rw[Lp e] at h;cases h
  · unfold wordsFrom;rw[Lo e];exact⟨rfl,rfl,trivial⟩
 |c::r,w,p,q,hl,h=>by
  unfold badByte at h;by_cases c1:c < 32∨126 < c
  · rw[Lp c1] at h;cases h
  · rw[Lo c1] at h;unfold wordsFrom splitOn;by_cases c2:c=32
    · rw[Lp c2] at h;by_cases e:w.isEmpty=true
      · rw[Lp e] at h;cases h
      · rw[Lo e] at h;by_cases e2:r.isEmpty=true
        · rw[Lp e2] at h;cases h
        · rw[Lo e2] at h;obtain⟨a,b⟩:=words_of r [] (p+1) (q+1) (LV _) h;rw[Lp c2,Lp c2,LF,a];refine⟨rfl,rfl,?_⟩;have:p - w.length+w.length+1=p+1 - ([]:Bytes).length:=by simp;omega
          show Placed (p - w.length+w.length+1) _;rw[this];exact b
    · rw[Lo c2] at h;have e:(w++[c]).isEmpty=false:=by simp
      rw[←e] at h;obtain⟨a,b⟩:=words_of r (w++[c]) (p+1) (q+1) (by simp;omega) h;rw[Lo c2,Lo c2,a];refine⟨rfl,?_⟩;have:p - w.length=p+1 - (w++[c]).length:=by rw[LK,MB];omega
      rw[this];exact b
def BX (w:Bytes):Prop:=w≠[]/\∀c∈w,32 < c/\c<=126
theorem xc:∀(l w:Bytes) (q:Nat),(∀v∈splitOn 32 w l,BX v)->(∀c∈w,32 < c/\c<=126)->badByte w.isEmpty q l=none
 |[],w,q,h,_=>by
  have:=h w (by simp[splitOn]);unfold badByte;rw[Lo (λz=>this.1 (MZ.mp z))]
 |c::r,w,q,h,hw=>by
  unfold splitOn at h;unfold badByte;by_cases c2:c=32
  · rw[Lp c2] at h;have pw:=h w (by simp);have e:¬w.isEmpty=true:=λz=>pw.1 (MZ.mp z);rw[Lo (by rw[c2];decide),Lp c2,Lo e];have hr:¬r.isEmpty=true:=λz=>by
     have:r=[]:=MZ.mp z;subst this;have:=h [] (by simp[splitOn]);exact this.1 rfl
    rw[Lo hr];exact xc r [] (q+1) (λv hv=>h v (by simp[hv])) (by simp)
  · rw[Lo c2] at h;have hc:32 < c/\c<=126:=by
     have first:∀(l w:Bytes),∃v∈splitOn 32 w l,∃t,v=w++t:=λl=>by
      induction l with
      |nil=>exact λw=>⟨w,by simp[splitOn],[],by simp⟩
      |cons d l ih =>
       intro w;unfold splitOn;by_cases e:d=32
       · rw[Lp e];exact⟨w,by simp,[],by simp⟩
       · rw[Lo e];obtain⟨v,hv,t,rfl⟩:=ih (w++[d]);exact⟨_,hv,d::t,by simp⟩
     obtain⟨v,hv,t,e⟩:=first r (w++[c])
     exact (h v hv).2 c (by rw[e];simp)
    have n1:¬(c < 32∨126 < c):=by
     rintro (z|z)
     · exact absurd (Nat.lt_trans (show c.toNat < 32 from z) (show 32 < c.toNat from hc.1)) (MI _)
     · exact absurd (L5 (show 126 < c.toNat from z) (show c.toNat<=126 from hc.2)) (MI _)
    rw[Lo n1,Lo c2];have e:(w++[c]).isEmpty=false:=by simp
    rw[←e];exact xc r (w++[c]) (q+1) h λd hd=>by
     rcases Mc.mp hd with z|z
     · exact hw d z
     · have:d=c:=by simpa using z
       exact this ▸ hc
theorem aH {ε α β:Type}{x:Except ε α}{f:α->Except ε β}{y:β}:(x >>= f)=.ok y↔∃a,x=.ok a/\f a=.ok y:=by
 cases x with
 |error e=>exact⟨λh=>(nomatch h),λ⟨_,h,_⟩=>(nomatch h)⟩
 |ok a=>exact⟨λh=>⟨a,rfl,h⟩,λ⟨_,h,k⟩=>by cases h;exact k⟩
theorem oG {e:Nat}{l:List Word}{x:Word×List Word}:next e l=.ok x↔l=x.1::x.2:=by
 cases l with
 |nil=>exact⟨λh=>(nomatch h),λh=>(nomatch h)⟩
 |cons w r =>
  constructor
  · intro h;injection h with h;rw[←h]
  · intro h;injection h with h1 h2;subst h1;subst h2;rfl
theorem cX {e:Nat}{s:String}{l r:List Word}:must e s l=.ok r↔∃w,l=w::r/\w.w=ascii s:=by
 unfold must;rw[aH];constructor
 · rintro⟨x,h,k⟩;have h:=oG.mp h;split at k
   · rename_i c;injection k with k;exact⟨x.1,by rw[h,k],c⟩
   · cases k
 · rintro⟨w,rfl,c⟩;exact⟨(w,r),rfl,by rw[Lp c];rfl⟩
theorem bx {e lo hi:Nat}{l:List Word}{x:(Nat×Nat)×List Word}:number e lo hi l=.ok x↔∃w,l=w::x.2/\numberOf w.w=some x.1.1/\lo<=x.1.1/\x.1.1<=hi/\x.1.2=w.at_:=by
 unfold number;rw[aH];constructor
 · rintro⟨y,h,k⟩;have h:=oG.mp h;cases c:numberOf y.1.w with
   |none=>rw[c] at k;cases k
   |some n =>
    rw[c] at k;dsimp only at k;split at k
    · cases k
    · rename_i b;injection k with k;subst k;exact⟨y.1,h,c,by dsimp only;omega,by dsimp only;omega,rfl⟩
 · rintro⟨w,rfl,c,h1,h2,h3⟩;refine⟨(w,x.2),rfl,?_⟩;dsimp only;rw[c];dsimp only;rw[Lo (by omega)];show Except.ok ((x.1.1,w.at_),x.2)=Except.ok x;rw[←h3]
theorem dM {b:Bool}{k p:Nat}{u:Unit}:holds b k p=.ok u↔b=true:=by
 unfold holds;by_cases c:b=true
 · rw[Lp c];exact⟨λ_=>c,λ_=>rfl⟩
 · rw[Lo c];exact⟨λh=>(nomatch h),λh=>absurd h c⟩
theorem j6 {l:List Word}{u:Unit}:closed l=.ok u↔l=[]:=by
 cases l with
 |nil=>exact⟨λ_=>rfl,λ_=>rfl⟩
 |cons=>exact⟨λh=>(nomatch h),λh=>(nomatch h)⟩
theorem iZ {e:Nat}{had:List Bytes}{l:List Word}{x:Bytes×List Word}:newName e had l=.ok x↔∃w,l=w::x.2/\isName w.w=true/\had.contains w.w=false/\x.1=w.w:=by
 unfold newName;rw[aH];constructor
 · rintro⟨y,h,k⟩;have h:=oG.mp h;split at k
   · cases k
   · rename_i c1;split at k
     · cases k
     · rename_i c2;injection k with k;subst k;exact⟨y.1,h,by simpa using c1,by simpa using c2,rfl⟩
 · rintro⟨w,rfl,c1,c2,c3⟩;refine⟨(w,x.2),rfl,?_⟩;dsimp only;rw[Lo (by rw[c1];decide),Lo (by rw[c2];decide),←c3];rfl
theorem mj {α:Type}{e:Nat}{t:List (α×String)}{l:List Word}{x:(α×Nat)×List Word} :
  oneOf e t l=.ok x↔∃w y,l=w::x.2/\(t.find? λ(y:α×String)=>ascii y.2==w.w)=some y/\x.1=(y.1,w.at_):=by
 unfold oneOf;rw[aH];constructor
 · rintro⟨y,h,k⟩;have h:=oG.mp h;cases c:(t.find? λ(z:α×String)=>ascii z.2==y.1.w) with
   |none=>rw[c] at k;cases k
   |some z =>
    rw[c] at k;injection k with k;subst k;exact⟨y.1,z,h,c,rfl⟩
 · rintro⟨w,y,rfl,c,h3⟩;refine⟨(w,x.2),rfl,?_⟩;dsimp only;rw[c];show Except.ok ((y.1,w.at_),x.2)=Except.ok x;rw[←h3]
def dq (runners:Nat):List W->Ob->Ob->Option (Ob)
 |[],_,ss=>some ss
 |c::a::b::r,fs,ss =>
  if c=cd "couple"/\1<=ay a/\ay a < ay b/\ay b<=(runners:Int)/\¬(ay a).toNat∈ss/\¬(ay b).toNat∈fs/\¬(ay b).toNat∈ss
  then dq runners r (fs++[(ay a).toNat]) (ss++[(ay b).toNat]) else none
 |_,_,_=>none
def dC (runners:Nat)(ss:Ob):Ob:=((List.range runners).map λi=>i+1).filter λn=>!ss.contains n
def bF (ws:List W):Option (Ob) :=
 match ws with
 |_::n::r=>if r.length % 3=0/\r.length<=24/\2<=ay n/\ay n<=24 then (dq (ay n).toNat r [] []).map (dC (ay n).toNat) else none
 |_=>none
structure CM (had:List (Nat×Nat))(fs ss:Ob):Prop where
 f:∀x,(∃y,(x,y)∈had)↔x∈fs
 s:∀y,(∃x,(x,y)∈had)↔y∈ss
 lt:∀x y,(x,y)∈had->x < y
theorem fB {c x:Nat×Nat}:∀{l:List (Nat×Nat)},x∈putB c l↔x=c∨x∈l
 |[]=>by simp[putB]
 |y::l=>by
  unfold putB;by_cases h:c.2 < y.2
  · rw[Lp h];simp
  · rw[Lo h,Lr,fB (l:=l),Lr];constructor
    · rintro (h|h|h) <;> simp[h]
    · rintro (h|h|h) <;> simp[h]
theorem CM.put {had:List (Nat×Nat)}{fs ss:Ob}(h:CM had fs ss){a b:Nat}(lt:a < b):CM (putB (a,b) had) (fs++[a]) (ss++[b]) where
 f:=λx=>by
  rw[Mc,←h.f x];constructor
  · rintro⟨y,hy⟩;rcases fB.mp hy with e|e
    · injection e with e1 e2;subst e1;exact .inr (by simp)
    · exact .inl ⟨y,e⟩
  · rintro (⟨y,hy⟩|e)
    · exact⟨y,fB.mpr (.inr hy)⟩
    · have:x=a:=by simpa using e
      subst this;exact⟨b,fB.mpr (.inl rfl)⟩
 s:=λy=>by
  rw[Mc,←h.s y];constructor
  · rintro⟨x,hx⟩;rcases fB.mp hx with e|e
    · injection e with e1 e2;subst e2;exact .inr (by simp)
    · exact .inl ⟨x,e⟩
  · rintro (⟨x,hx⟩|e)
    · exact⟨x,fB.mpr (.inr hx)⟩
    · have:y=b:=by simpa using e
      subst this;exact⟨a,fB.mpr (.inl rfl)⟩
 lt:=λx y hxy=>by
  rcases fB.mp hxy with e|e
  · injection e with e1 e2;subst e1;subst e2;exact lt
  · exact h.lt x y e
theorem CM.Iw {had:List (Nat×Nat)}{fs ss:Ob}(h:CM had fs ss)(a:Nat):(had.any λx=>x.2==a)=true↔a∈ss:=by
 rw[M0,←h.s a];constructor
 · rintro⟨⟨x,y⟩,hx,e⟩;have:y=a:=by simpa using e
   subst this;exact⟨x,hx⟩
 · rintro⟨x,hx⟩;exact⟨(x,a),hx,by simp⟩
theorem CM.IJ {had:List (Nat×Nat)}{fs ss:Ob}(h:CM had fs ss)(b:Nat):(had.any λx=>x.1==b||x.2==b)=true↔b∈fs∨b∈ss:=by
 rw[M0,←h.s b,←h.f b];constructor
 · rintro⟨⟨x,y⟩,hx,e⟩;have:x=b∨y=b:=by simpa using e
   rcases this with rfl|rfl
   · exact .inl ⟨y,hx⟩
   · exact .inr ⟨x,hx⟩
 · rintro (⟨y,hx⟩|⟨x,hx⟩)
   · exact⟨(b,y),hx,by simp⟩
   · exact⟨(x,b),hx,by simp⟩
def oH (l:List Word):List W:=l.map λw=>tx w.w
theorem nv {e runners k:Nat}{had had':List (Nat×Nat)}{l:List Word}:l≠[]->(couplesIn e runners (k+1) had l=.ok had' ↔
  ∃c a b r na nb,l=c::a::b::r/\c.w=ascii "couple"/\numberOf a.w=some na/\1<=na/\na<=runners/\(had.any λx=>x.2==na)=false /\
   numberOf b.w=some nb/\1<=nb/\nb<=runners/\na < nb/\(had.any λx=>x.1==nb||x.2==nb)=false/\couplesIn e runners k (putB (na,nb) had) r=.ok had'):=by
 intro hl;have he:¬l.isEmpty=true:=λz=>hl (MZ.mp z);have step:couplesIn e runners (k+1) had l=(do
  let m ←must e "couple" l
  let a ←number e 1 runners m
  let _ ←holds (!(had.any λ(x:Nat×Nat)=>x.2==a.1.1)) 4 a.1.2
  let b ←number e 1 runners a.2
  let _ ←holds (decide (a.1.1 < b.1.1)&&!(had.any λ(x:Nat×Nat)=>x.1==b.1.1||x.2==b.1.1)) 4 b.1.2
  couplesIn e runners k (putB (a.1.1,b.1.1) had) b.2):=Lo he
 rw[step,aH];constructor
 · rintro⟨m,hm,h0⟩;obtain⟨c,hc0,hc⟩:=cX.mp hm;obtain⟨a,ha,h1⟩:=aH.mp h0;obtain⟨wa,ha0,a1,a2,a3,a4⟩:=bx.mp ha;obtain⟨_,g1,h2⟩:=aH.mp h1;have g1:=dM.mp g1;obtain⟨b,hb,h3⟩:=aH.mp h2;obtain⟨wb,hb0,b1,b2,b3,b4⟩:=bx.mp hb;obtain⟨_,g2,h4⟩:=aH.mp h3;have g2:=dM.mp g2;rw[Lv,MT] at g2;exact⟨c,wa,wb,b.2,a.1.1,b.1.1,by rw[hc0,ha0,hb0],hc,a1,a2,a3,by simpa using g1,b1,b2,b3,g2.1,by simpa using g2.2,h4⟩
 · rintro⟨c,a,b,r,na,nb,rfl,hc,a1,a2,a3,a4,b1,b2,b3,b4,b5,h⟩;refine⟨_,cX.mpr ⟨c,rfl,hc⟩,?_⟩;refine aH.mpr ⟨((na,a.at_),b::r),bx.mpr ⟨a,rfl,a1,a2,a3,rfl⟩,?_⟩;refine aH.mpr ⟨(),dM.mpr (by rw[a4];rfl),?_⟩;refine aH.mpr ⟨((nb,b.at_),r),bx.mpr ⟨b,rfl,b1,b2,b3,rfl⟩,?_⟩;exact aH.mpr ⟨(),dM.mpr (by rw[b5,L4 b4];rfl),h⟩
theorem fD {e runners:Nat}(hr:runners<=24):∀(k:Nat) (had:List (Nat×Nat)) (fs ss:Ob) (l:List Word),CM had fs ss ->
  (∀had',couplesIn e runners k had l=.ok had'->l.length<=3*k/\∃fs' ss',dq runners (oH l) fs ss=some ss'/\CM had' fs' ss') /\
  (∀ss',l.length<=3*k->dq runners (oH l) fs ss=some ss'->∃had',couplesIn e runners k had l=.ok had')
 |0,had,fs,ss,l,hd=>by
  cases l with
  |nil=>exact⟨λhad' h=>by injection h with h;subst h;exact⟨Lx _,fs,ss,rfl,hd⟩,λ_ _ _=>⟨had,rfl⟩⟩
  |cons w r =>
   constructor
   · intro had' h;have h:(if w.w=ascii "couple" then Except.error ⟨6,w.at_⟩ else Except.error ⟨3,w.at_⟩:Except Fault (List (Nat×Nat)))=.ok had':=h;by_cases c:w.w=ascii "couple"
     · rw[Lp c] at h;cases h
     · rw[Lo c] at h;cases h
   · intro _ h;simp at h
 |k+1,had,fs,ss,[],hd=>⟨λhad' h=>by
   have h:Except.ok had=Except.ok had':=h;injection h with h;subst h;exact⟨LV _,fs,ss,rfl,hd⟩,λ_ _ _=>⟨had,rfl⟩⟩
 |k+1,had,fs,ss,w::l,hd=>by
  constructor
  · intro had' h;obtain⟨c,a,b,r,na,nb,el,hc,a1,a2,a3,a4,b1,b2,b3,b4,b5,h⟩:=(nv (by simp)).mp h;have hd2:=hd.put b4;obtain⟨hl,fs',ss',h1,h2⟩:=(fD hr k _ _ _ r hd2).1 had' h;rw[el];refine⟨by simp only[Lz];omega,fs',ss',?_,h2⟩;show dq runners (tx c.w::tx a.w::tx b.w::oH r) fs ss=_;have ea:ay (tx a.w)=(na:Int):=(dZ (by omega)).mpr a1;have eb:ay (tx b.w)=(nb:Int):=(dZ (by omega)).mpr b1;unfold dq;rw[ea,eb,L9,L9];have n1:¬na∈ss:=λz=>by rw[(hd.Iw na).mpr z] at a4;cases a4
    have n2:¬(nb∈fs∨nb∈ss):=λz=>by rw[(hd.IJ nb).mpr z] at b5;cases b5
    rw[Lp ⟨(bp _ (by decide)).mpr hc,by omega,by omega,by omega,n1,λz=>n2 (.inl z),λz=>n2 (.inr z)⟩];exact h1
  · intro ss' hl h
    match l,hl,h with
    |[],_,h=>cases h
    |[_],_,h=>cases h
    |a::b::r,hl,h =>
     have h:dq runners (tx w.w::tx a.w::tx b.w::oH r) fs ss=some ss':=h;unfold dq at h;split at h
     · rename_i q;obtain⟨q1,q2,q3,q4,q5,q6,q7⟩:=q;obtain⟨na,a1,a2,a3,a4⟩:=(eV (w:=a.w) (lo:=1) (hi:=24) (by decide)).mp ⟨q2,by omega⟩;obtain⟨nb,b1,b2,b3,b4⟩:=(eV (w:=b.w) (lo:=1) (hi:=24) (by decide)).mp ⟨by omega,by omega⟩;rw[a4,b4,L9,L9] at h;rw[a4,L9] at q5;rw[b4,L9] at q6 q7;have lt:na < nb:=by omega
       obtain⟨had',h'⟩:=(fD hr k _ _ _ r (hd.put lt)).2 ss' (by simp only[Lz] at hl;omega) h;refine⟨had',(nv (by simp)).mpr ⟨w,a,b,r,na,nb,rfl,(bp _ (by decide)).mp q1,a1,a2,by omega,?_,b1,b2,by omega,lt,?_,h'⟩⟩
       · cases c:(had.any λx=>x.2==na) with
         |false=>rfl
         |true=>exact absurd ((hd.Iw na).mp c) q5
       · cases c:(had.any λx=>x.1==nb||x.2==nb) with
         |false=>rfl
         |true=>exact absurd ((hd.IJ nb).mp c) λz=>z.elim q6 q7
     · cases h
theorem vA:∀{runners:Nat} (l:List W) (fs ss ss':Ob),dq runners l fs ss=some ss'->l.length % 3=0
 |_,[],_,_,_,_=>rfl
 |_,[_],_,_,_,h=>by cases h
 |_,[_,_],_,_,_,h=>by cases h
 |runners,c::a::b::r,fs,ss,ss',h=>by
  unfold dq at h;split at h
  · have:=vA r _ _ _ h;simp only[Lz];omega
  · cases h
theorem vm {n:Nat}{had:List (Nat×Nat)}{fs ss:Ob}(hd:CM had fs ss):Race.heads ⟨n,had⟩=dC n ss:=by
 unfold Race.heads dC;refine List.filter_congr λx _=>?_;unfold Race.head;cases c:had.find? (λc=>c.2==x) with
 |none =>
  have:¬x∈ss:=λz=>by
   obtain⟨y,hy⟩:=(hd.s x).mpr z;have:=List.find?_eq_none.mp c (y,x) hy;simp at this
  simp[this]
 |some z =>
  obtain⟨a,b⟩:=z;have h1:=List.mem_of_find?_eq_some c;have h2:=List.find?_some c;have h2:b=x:=by simpa using h2
  subst h2;have:=hd.lt a b h1;have hb:b∈ss:=(hd.s b).mp ⟨a,h1⟩;have e1:(a==b)=false:=by
   rw[LW];omega
  simp[hb,e1]
theorem uP {e:Nat}{w:Word}{l:List Word}:(∀r,raceIn e l=.ok r->bF (oH (w::l))=some r.heads)/\(∀hs,bF (oH (w::l))=some hs->∃r,raceIn e l=.ok r/\r.heads=hs):=by
 have nil:CM [] [] []:=⟨by simp,by simp,by simp⟩;constructor
 · intro r h;unfold raceIn at h;obtain⟨n,hn,h0⟩:=aH.mp h;obtain⟨wn,hl0,a1,a2,a3,a4⟩:=bx.mp hn;obtain⟨c,hc,h1⟩:=aH.mp h0;injection h1 with h1;subst h1;rw[hl0];have a3:n.1.1<=24:=a3;obtain⟨hl,fs',ss',h1,h2⟩:=(fD a3 8 [] [] [] n.2 nil).1 c hc;have en:ay (tx wn.w)=(n.1.1:Int):=(dZ (by omega)).mpr a1;show bF (tx w.w::tx wn.w::oH n.2)=_;unfold bF;dsimp only;rw[en,L9,h1];have:=vA _ _ _ _ h1;have len:(oH n.2).length=n.2.length:=Ln ..;rw[Lp ⟨this,by omega,by omega,by omega⟩,vm h2];rfl
 · intro hs h
   match l,h with
   |wn::l,h =>
    have h:bF (tx w.w::tx wn.w::oH l)=some hs:=h;unfold bF at h;dsimp only at h;split at h
    · rename_i q;obtain⟨q1,q2,q3,q4⟩:=q;obtain⟨n,a1,a2,a3,a4⟩:=(eV (w:=wn.w) (lo:=2) (hi:=24) (by decide)).mp ⟨q3,q4⟩;rw[a4,L9] at h;cases c:dq n (oH l) [] [] with
      |none=>rw[c] at h;cases h
      |some ss =>
       rw[c] at h;injection h with h;have len:(oH l).length=l.length:=Ln ..;obtain⟨had,hh⟩:=(fD (e:=e) (runners:=n) a3 8 [] [] [] l nil).2 ss (by omega) c;obtain⟨_,fs',ss',h1,h2⟩:=(fD (e:=e) (runners:=n) a3 8 [] [] [] l nil).1 had hh;rw[c] at h1;injection h1 with h1;subst h1;refine⟨⟨n,had⟩,?_,by rw[vm h2];exact h⟩;unfold raceIn;refine aH.mpr ⟨((n,wn.at_),l),bx.mpr ⟨wn,rfl,a1,a2,a3,rfl⟩,?_⟩;exact aH.mpr ⟨had,hh,rfl⟩
    · cases h
theorem pC {n:Nat}(hn:n<=24)(ss:Ob):cO (dC n ss) where
 rise:=by
  refine List.Pairwise.filter _ (List.Pairwise.map _ (λa b (h:a < b)=>?_) List.pairwise_lt_range);show a+1 < b+1;omega
 lo:=λx hx=>by
  obtain⟨h,_⟩:=Mx.mp hx;obtain⟨i,_,rfl⟩:=LX.mp h;omega
 hi:=λx hx=>by
  obtain⟨h,_⟩:=Mx.mp hx;obtain⟨i,hi,rfl⟩:=LX.mp h;have:=Nb.mp hi;omega
theorem zg {ws:List W}{hs:Ob}(h:bF ws=some hs):cO hs:=by
 unfold bF at h;split at h
 · rename_i w0 n r;split at h
   · rename_i q;cases c:dq (ay n).toNat r [] [] with
     |none=>rw[c] at h;cases h
     |some ss =>
      rw[c] at h;injection h with h;subst h;exact pC (by omega) _
   · cases h
 · cases h
structure aO where
 name:W
 kind:Kind
 fields:Oa
 unit:Nat
def kindS:Kind->String
 |.place=>"place"
 |.order=>"order"
 |.any=>"any"
 |.legs=>"legs"
def dD (w:W):Option Kind :=
 if w=cd "place" then some .place else if w=cd "order" then some .order else if w=cd "any" then some .any else if w=cd "legs" then some .legs else none
def fu (kind:Kind)(k rc:Nat)(races:Oa):Oa :=
 match kind with
 |.legs=>(races.drop (rc - 1)).take k
 |.place=>[races.getD (rc - 1) []]
 |_=>List.replicate k (races.getD (rc - 1) [])
def dA (races:Oa)(kind:Kind)(p nm k fr rc tk t br b le m un u no z:W):Prop :=
 p=cd "pool"/\fr=cd "from"/\tk=cd "take"/\br=cd "break"/\le=cd "least"/\un=cd "unit"/\no=cd "none"/\eD nm=true /\
 (0<=ay t/\ay t<=400)/\(1<=ay b/\ay b<=1000)/\(1<=ay u/\ay u<=10000)/\(ay m=0∨(ay u<=ay m/\ay m<=2*ay u)) /\
 ((z=cd "fewer"/\kind≠.place)∨z=cd "refund"∨z=cd "carry")/\((leastK kind:Int)<=ay k/\ay k<=(mostK kind:Int))/\(1<=ay rc/\ay rc<=(races.length:Int)) /\
 ((kind=.legs/\ay rc+ay k - 1<=(races.length:Int))∨(kind≠.legs/\ay k<=((races.getD (ay rc - 1).toNat []).length:Int)))
instance (races:Oa)(kind:Kind)(p nm k fr rc tk t br b le m un u no z:W):Decidable (dA races kind p nm k fr rc tk t br b le m un u no z):=by
 unfold dA;infer_instance
def eU (ws:List W)(races:Oa):Option aO :=
 match ws with
 |[p,nm,kd,k,fr,rc,tk,t,br,b,le,m,un,u,no,z] =>
  match dD kd with
  |none=>none
  |some kind=>if dA races kind p nm k fr rc tk t br b le m un u no z then some ⟨nm,kind,fu kind (ay k).toNat (ay rc).toNat races,(ay u).toNat⟩ else none
 |_=>none
def fieldsOf (C:Card)(p:Pool):Oa:=if p.kind=.legs then C.sets p else List.replicate p.places (C.headsOf p.race)
def aD (C:Card)(p:Pool):aO:=⟨tx p.name,p.kind,fieldsOf C p,p.unit⟩
def rh (C:Card):Oa:=C.races.map Race.heads
structure dX (C:Card)(p:Pool):Prop where
 name:isName p.name=true
 Jk:leastK p.kind<=p.k
 GQ:p.k<=mostK p.kind
 DV:1<=p.race
 Kt:p.race<=C.races.length
 legs:p.kind=.legs->p.race+p.k<=C.races.length+1
 vw:p.kind≠.legs->p.k<=(C.headsOf p.race).length
 unit:1<=p.unit
 K7:p.unit<=10000
theorem oW {w:Bytes}{y:Kind×String}:(KINDS.find? λ(x:Kind×String)=>ascii x.2==w)=some y↔dD (tx w)=some y.1/\y.2=kindS y.1:=by
 have a1:=bp (s:="place") w (by decide);have a2:=bp (s:="order") w (by decide);have a3:=bp (s:="any") w (by decide);have a4:=bp (s:="legs") w (by decide);unfold dD KINDS;obtain⟨yk,ys⟩:=y;simp only[M1,List.find?_nil];by_cases c1:w=ascii "place"
 · have:(ascii "place"==w)=true:=by rw[c1];simp
   rw[this,Lp (a1.mpr c1)];constructor
   · intro h;injection h with h;injection h with h1 h2;subst h1;subst h2;exact⟨rfl,rfl⟩
   · rintro⟨h1,h2⟩;injection h1 with h1;have h1:Kind.place=yk:=h1;subst h1;have h2:ys="place":=h2;subst h2;rfl
 · have e1:(ascii "place"==w)=false:=by rw[LW];exact λz=>c1 z.symm
   rw[e1,Lo (λz=>c1 (a1.mp z))];by_cases c2:w=ascii "order"
   · have:(ascii "order"==w)=true:=by rw[c2];simp
     rw[this,Lp (a2.mpr c2)];constructor
     · intro h;injection h with h;injection h with h1 h2;subst h1;subst h2;exact⟨rfl,rfl⟩
     · rintro⟨h1,h2⟩;injection h1 with h1;have h1:Kind.order=yk:=h1;subst h1;have h2:ys="order":=h2;subst h2;rfl
   · have e2:(ascii "order"==w)=false:=by rw[LW];exact λz=>c2 z.symm
     rw[e2,Lo (λz=>c2 (a2.mp z))];by_cases c3:w=ascii "any"
     · have:(ascii "any"==w)=true:=by rw[c3];simp
       rw[this,Lp (a3.mpr c3)];constructor
       · intro h;injection h with h;injection h with h1 h2;subst h1;subst h2;exact⟨rfl,rfl⟩
       · rintro⟨h1,h2⟩;injection h1 with h1;have h1:Kind.any=yk:=h1;subst h1;have h2:ys="any":=h2;subst h2;rfl
     · have e3:(ascii "any"==w)=false:=by rw[LW];exact λz=>c3 z.symm
       rw[e3,Lo (λz=>c3 (a3.mp z))];by_cases c4:w=ascii "legs"
       · have:(ascii "legs"==w)=true:=by rw[c4];simp
         rw[this,Lp (a4.mpr c4)];constructor
         · intro h;injection h with h;injection h with h1 h2;subst h1;subst h2;exact⟨rfl,rfl⟩
         · rintro⟨h1,h2⟩;injection h1 with h1;have h1:Kind.legs=yk:=h1;subst h1;have h2:ys="legs":=h2;subst h2;rfl
       · have e4:(ascii "legs"==w)=false:=by rw[LW];exact λz=>c4 z.symm
         rw[e4,Lo (λz=>c4 (a4.mp z))];exact⟨λh=>(nomatch h),λh=>(nomatch h.1)⟩
theorem pW {w:Bytes}{kind:Kind}:(∃y,((if kind=.place then NONES.take 2 else NONES).find? λ(x:None_×String)=>ascii x.2==w)=some y) ↔
  ((tx w=cd "fewer"/\kind≠.place)∨tx w=cd "refund"∨tx w=cd "carry"):=by
 have a1:=bp (s:="fewer") w (by decide);have a2:=bp (s:="refund") w (by decide);have a3:=bp (s:="carry") w (by decide);rw[a1,a2,a3,←NB,List.find?_isSome];constructor
 · rintro⟨x,hx,e⟩;have e:ascii x.2=w:=by simpa using e
   by_cases c:kind=.place
   · rw[Lp c] at hx;have hx:x=(.refund,"refund")∨x=(.carry,"carry"):=by simpa [NONES] using hx
     rcases hx with rfl|rfl
     · exact .inr (.inl e.symm)
     · exact .inr (.inr e.symm)
   · rw[Lo c] at hx;have hx:x=(.refund,"refund")∨x=(.carry,"carry")∨x=(.fewer,"fewer"):=by simpa [NONES] using hx
     rcases hx with rfl|rfl|rfl
     · exact .inr (.inl e.symm)
     · exact .inr (.inr e.symm)
     · exact .inl ⟨e.symm,c⟩
 · rintro (⟨e,c⟩|e|e)
   · exact⟨(.fewer,"fewer"),by rw[Lo c];simp[NONES],by simp[e]⟩
   · refine⟨(.refund,"refund"),?_,by simp[e]⟩;split <;> simp[NONES]
   · refine⟨(.carry,"carry"),?_,by simp[e]⟩;split <;> simp[NONES]
theorem jH (C:Card)(r:Nat)(_:1<=r):C.headsOf r=(rh C).getD (r - 1) []:=by
 unfold Card.headsOf rh;rw[L7,Ls]
theorem rR (C:Card)(p:Pool)(hk:p.kind=.legs)(h1:1<=p.race)(h2:p.race+p.k<=C.races.length+1):C.sets p=((rh C).drop (p.race - 1)).take p.k:=by
 unfold Card.sets Pool.legs;rw[Lp hk];have len:(rh C).length=C.races.length:=Ln ..
 apply NM
 intro i;rw[Ls,List.getElem?_take,List.getElem?_drop];by_cases c:i < p.k
 · rw[M8 c,Lp c];show some (C.headsOf (p.race+i))=_;rw[jH C _ (by omega),L7];have e:p.race+i - 1=p.race - 1+i:=by omega
   rw[e];have lt:p.race - 1+i < (rh C).length:=by omega
   rw[Ly lt];rfl
 · rw[Lo c,Mr (by simp;omega)];rfl
theorem zq {C:Card}{p:Pool}(h:dX C p):fieldsOf C p=fu p.kind p.k p.race (rh C):=by
 unfold fieldsOf fu;cases hk:p.kind with
 |legs=>rw[Lp rfl];exact rR C p hk h.DV (h.legs hk)
 |place =>
  rw[Lo (by decide)];unfold Pool.places;rw[Lp hk,jH C _ h.DV];rfl
 |order =>
  rw[Lo (by decide)];unfold Pool.places;rw[Lo (by rw[hk];decide),jH C _ h.DV]
 |any =>
  rw[Lo (by decide)];unfold Pool.places;rw[Lo (by rw[hk];decide),jH C _ h.DV]
theorem Cb {e:Nat}{C:Card}{w:Word}{l:List Word}{p:Pool}(hC:C.races.length<=16)(hw:w.w=ascii "pool")(h:poolIn e C l=.ok p) :
  dX C p/\(C.pools.map λ(p:Pool)=>p.name).contains p.name=false/\eU (oH (w::l)) (rh C)=some (aD C p):=by
 unfold poolIn at h;obtain⟨n,x1,h1⟩:=aH.mp h;obtain⟨wn,e1,nm1,nm2,nm3⟩:=iZ.mp x1;obtain⟨kd,x2,h2⟩:=aH.mp h1;obtain⟨wk,yk,e2,kf,kx⟩:=mj.mp x2;obtain⟨k,x3,h3⟩:=aH.mp h2;obtain⟨wkk,e3,k1,k2,k3,k4⟩:=bx.mp x3;obtain⟨l4,x4,h4⟩:=aH.mp h3;obtain⟨wfr,e4,f1⟩:=cX.mp x4;obtain⟨r,x5,h5⟩:=aH.mp h4;obtain⟨wr,e5,r1,r2,r3,r4⟩:=bx.mp x5;obtain⟨_,x6,h6⟩:=aH.mp h5;have y6:=dM.mp x6;obtain⟨_,x7,h7⟩:=aH.mp h6;have y7:=dM.mp x7;obtain⟨l8,x8,h8⟩:=aH.mp h7;obtain⟨wtk,e8,f8⟩:=cX.mp x8;obtain⟨t,x9,h9⟩:=aH.mp h8;obtain⟨wt,e9,t1,t2,t3,t4⟩:=bx.mp x9;obtain⟨l10,x10,h10⟩:=aH.mp h9;obtain⟨wbr,e10,f10⟩:=cX.mp x10;obtain⟨b,x11,h11⟩:=aH.mp h10;obtain⟨wb,e11,b1,b2,b3,b4⟩:=bx.mp x11;obtain⟨l12,x12,h12⟩:=aH.mp h11;obtain⟨wle,e12,f12⟩:=cX.mp x12;obtain⟨m,x13,h13⟩:=aH.mp h12;obtain⟨wm,e13,m1,m2,m3,m4⟩:=bx.mp x13;obtain⟨l14,x14,h14⟩:=aH.mp h13;obtain⟨wun,e14,f14⟩:=cX.mp x14;obtain⟨u,x15,h15⟩:=aH.mp h14;obtain⟨wu,e15,u1,u2,u3,u4⟩:=bx.mp x15;obtain⟨_,x16,h16⟩:=aH.mp h15;have y16:=dM.mp x16;obtain⟨l17,x17,h17⟩:=aH.mp h16;obtain⟨wno,e17,f17⟩:=cX.mp x17;obtain⟨z,x18,h18⟩:=aH.mp h17;obtain⟨wz,yz,e18,z1,z2⟩:=mj.mp x18;obtain⟨_,x19,h19⟩:=aH.mp h18;have y19:=j6.mp x19;injection h19 with h19;have kk:kd.1.1=yk.1:=by rw[kx]
 obtain⟨km,_⟩:=oW.mp kf;rw[←kk] at km;have hm6:mostK kd.1.1<=6:=by cases kd.1.1 <;> decide
 have ek:ay (tx wkk.w)=(k.1.1:Int):=(dZ (by omega)).mpr k1;have er:ay (tx wr.w)=(r.1.1:Int):=(dZ (by omega)).mpr r1;have et:ay (tx wt.w)=(t.1.1:Int):=(dZ (by omega)).mpr t1;have eb:ay (tx wb.w)=(b.1.1:Int):=(dZ (by omega)).mpr b1;have em:ay (tx wm.w)=(m.1.1:Int):=(dZ (by omega)).mpr m1;have eu:ay (tx wu.w)=(u.1.1:Int):=(dZ (by omega)).mpr u1;have lenr:(rh C).length=C.races.length:=Ln ..;have d6:kd.1.1=.legs->r.1.1+k.1.1<=C.races.length+1:=λq=>by
  rw[q] at y6;simpa using y6
 have d7:kd.1.1≠.legs->k.1.1<=(C.headsOf r.1.1).length:=λq=>by
  have q':(kd.1.1==Kind.legs)=false:=by rw[LW];exact q
  rw[q',Bool.false_or] at y7;unfold Card.headsOf;cases c:C.races[r.1.1 - 1]? with
  |none=>rw[c] at y7;cases y7
  |some x =>
   rw[c] at y7;simpa using y7
 have ok:dX C p:=by
  subst h19;exact⟨by rw[nm3];exact nm1,k2,k3,r2,r3,d6,d7,u2,u3⟩
 refine⟨ok,by subst h19;show List.contains _ n.1=false;rw[nm3];exact nm2,?_⟩;have hl:oH (w::l)=[tx w.w,tx wn.w,tx wk.w,tx wkk.w,tx wfr.w,tx wr.w,tx wtk.w,tx wt.w,tx wbr.w,tx wb.w,tx wle.w,tx wm.w,tx wun.w,tx wu.w,tx wno.w,tx wz.w]:=by
  rw[e1,e2,e3,e4,e5,e8,e9,e10,e11,e12,e13,e14,e15,e17,e18,y19];rfl
 have hf:=zq ok;rw[hl];show (match dD (tx wk.w) with
  |none=>none
  |some kind=>_)=_
 rw[km];dsimp only;rw[Lp ?_,ek,er,eu,L9,L9,L9]
 · unfold aD;rw[hf];subst h19;dsimp only;rw[nm3]
 · refine⟨(bp _ (by decide)).mpr hw,(bp _ (by decide)).mpr f1,(bp _ (by decide)).mpr f8,(bp _ (by decide)).mpr f10,(bp _ (by decide)).mpr f12,(bp _ (by decide)).mpr f14,(bp _ (by decide)).mpr f17,
    by rw[j2];exact nm1,by rw[et];omega,by rw[eb];omega,by rw[eu];omega,?_,?_,by rw[ek];omega,by rw[er,lenr];omega,?_⟩
   · rw[em,eu];rw[Mo] at y16;rcases y16 with q|q
     · left;have:m.1.1=0:=by simpa using q
       omega
     · right;unfold inside at q;rw[Lv,MT,MT] at q;omega
   · exact pW.mp ⟨yz,z1⟩
   · rw[er,ek,lenr];by_cases q:kd.1.1=.legs
     · left;exact⟨q,by have:=d6 q;omega⟩
     · right;refine⟨q,?_⟩;have:=d7 q;rw[jH C _ r2] at this;have e:((r.1.1:Int) - 1).toNat=r.1.1 - 1:=by omega
       rw[e];omega
theorem A0 {e:Nat}{C:Card}{w:Word}{l:List Word}{q:aO}(hC:C.races.length<=16)(h:eU (oH (w::l)) (rh C)=some q)(hn:(C.pools.map λ(p:Pool)=>tx p.name).contains q.name=false)
  (ok:∀p∈C.pools,isName p.name=true) :
  ∃p,poolIn e C l=.ok p:=by
 unfold eU at h;split at h
 · rename_i p nm kd k fr rc tk t br b le m un u no z hl;have hl:tx w.w::oH l=_:=hl;injection hl with hw0 hl
   match l,hl with
   |[wn,wk,wkk,wfr,wr,wtk,wt,wbr,wb,wle,wm,wun,wu,wno,wz],hl =>
    have hl:[tx wn.w,tx wk.w,tx wkk.w,tx wfr.w,tx wr.w,tx wtk.w,tx wt.w,tx wbr.w,tx wb.w,tx wle.w,tx wm.w,tx wun.w,tx wu.w,tx wno.w,tx wz.w]=[nm,kd,k,fr,rc,tk,t,br,b,le,m,un,u,no,z]:=hl;simp only[List.cons.injEq,and_true] at hl;obtain⟨l1,l2,l3,l4,l5,l6,l7,l8,l9,l10,l11,l12,l13,l14,l15⟩:=hl;subst l1;subst l2;subst l3;subst l4;subst l5;subst l6;subst l7;subst l8;subst l9;subst l10;subst l11;subst l12;subst l13;subst l14;subst l15;cases km:dD (tx wk.w) with
    |none=>rw[km] at h;cases h
    |some kind =>
     rw[km] at h;dsimp only at h;split at h
     · rename_i cs;injection h with h;obtain⟨c1,c2,c3,c4,c5,c6,c7,c8,c9,c10,c11,c12,c13,c14,c15,c16⟩:=cs;have hm6:mostK kind<=6:=by cases kind <;> decide
       have lenr:(rh C).length=C.races.length:=Ln ..;obtain⟨nt,t1,t2,t3,t4⟩:=(eV (w:=wt.w) (lo:=0) (hi:=400) (by decide)).mp c9;obtain⟨nb,b1,b2,b3,b4⟩:=(eV (w:=wb.w) (lo:=1) (hi:=1000) (by decide)).mp c10;obtain⟨nu,u1,u2,u3,u4⟩:=(eV (w:=wu.w) (lo:=1) (hi:=10000) (by decide)).mp c11;obtain⟨nk,k1,k2,k3,k4⟩:=(eV (w:=wkk.w) (lo:=leastK kind) (hi:=mostK kind) (by omega)).mp c14;obtain⟨nr,r1,r2,r3,r4⟩:=(eV (w:=wr.w) (lo:=1) (hi:=(rh C).length) (by omega)).mp c15;rw[u4] at c12;obtain⟨nmm,m1,m2,m3,m4⟩:=(eV (w:=wm.w) (lo:=0) (hi:=20000) (by decide)).mp (by
        rcases c12 with z|⟨z1,z2⟩
        · rw[z];omega
        · omega)
       rw[m4] at c12;rw[r4,k4,lenr] at c16;obtain⟨yz,hz⟩:=pW.mpr c13;have hkf:(KINDS.find? λ(x:Kind×String)=>ascii x.2==wk.w)=some (kind,kindS kind):=oW.mpr ⟨km,rfl⟩;have nmn:(C.pools.map λ(p:Pool)=>p.name).contains wn.w=false:=by
        subst h;cases c:(C.pools.map λ(p:Pool)=>p.name).contains wn.w with
        |false=>rfl
        |true =>
         exfalso;have c:wn.w∈C.pools.map λ(p:Pool)=>p.name:=by simpa using c
         obtain⟨p0,hp0,ep⟩:=LX.mp c;have:tx wn.w∈C.pools.map λ(p:Pool)=>tx p.name:=LX.mpr ⟨p0,hp0,by rw[ep]⟩;have hn':¬tx wn.w∈C.pools.map λ(p:Pool)=>tx p.name:=by simpa using hn
         exact hn' this
       refine⟨⟨wn.w,kind,nk,nr,yz.1,nt,nb,nmm,nu⟩,?_⟩;unfold poolIn;refine aH.mpr ⟨(wn.w,_),iZ.mpr ⟨wn,rfl,by rw[←j2];exact c8,nmn,rfl⟩,?_⟩;refine aH.mpr ⟨((kind,wk.at_),_),mj.mpr ⟨wk,_,rfl,hkf,rfl⟩,?_⟩;refine aH.mpr ⟨((nk,wkk.at_),_),bx.mpr ⟨wkk,rfl,k1,k2,k3,rfl⟩,?_⟩;refine aH.mpr ⟨_,cX.mpr ⟨wfr,rfl,(bp _ (by decide)).mp c2⟩,?_⟩;refine aH.mpr ⟨((nr,wr.at_),_),bx.mpr ⟨wr,rfl,r1,r2,lenr ▸ r3,rfl⟩,?_⟩;refine aH.mpr ⟨(),dM.mpr ?_,?_⟩
       · show (kind != Kind.legs||decide (nr+nk<=C.races.length+1))=true;rcases c16 with ⟨z1,z2⟩|⟨z1,z2⟩
         · rw[Mo];right;exact L4 (by omega)
         · rw[Mo];left;simpa using z1
       refine aH.mpr ⟨(),dM.mpr ?_,?_⟩
       · show (kind==Kind.legs||((C.races[nr - 1]?).map λ(x:Race)=>decide (nk<=x.heads.length)).getD false)=true;rw[Mo];rcases c16 with ⟨z1,z2⟩|⟨z1,z2⟩
         · left;rw[z1];rfl
         · right;have lt:nr - 1 < C.races.length:=by omega
           rw[Ly lt];show decide _=true;refine L4 ?_;have e:((nr:Int) - 1).toNat=nr - 1:=by omega
           rw[e] at z2;unfold rh at z2;rw[L7,Ls,Ly lt] at z2;have z2:(nk:Int)<=((C.races[nr - 1]).heads.length:Int):=z2;omega
       refine aH.mpr ⟨_,cX.mpr ⟨wtk,rfl,(bp _ (by decide)).mp c3⟩,?_⟩;refine aH.mpr ⟨((nt,wt.at_),_),bx.mpr ⟨wt,rfl,t1,t2,t3,rfl⟩,?_⟩;refine aH.mpr ⟨_,cX.mpr ⟨wbr,rfl,(bp _ (by decide)).mp c4⟩,?_⟩;refine aH.mpr ⟨((nb,wb.at_),_),bx.mpr ⟨wb,rfl,b1,b2,b3,rfl⟩,?_⟩;refine aH.mpr ⟨_,cX.mpr ⟨wle,rfl,(bp _ (by decide)).mp c5⟩,?_⟩;refine aH.mpr ⟨((nmm,wm.at_),_),bx.mpr ⟨wm,rfl,m1,m2,m3,rfl⟩,?_⟩;refine aH.mpr ⟨_,cX.mpr ⟨wun,rfl,(bp _ (by decide)).mp c6⟩,?_⟩;refine aH.mpr ⟨((nu,wu.at_),_),bx.mpr ⟨wu,rfl,u1,u2,u3,rfl⟩,?_⟩;refine aH.mpr ⟨(),dM.mpr ?_,?_⟩
       · show (nmm==0||inside nu (2*nu) nmm)=true;rw[Mo];rcases c12 with z|⟨z1,z2⟩
         · left;have:nmm=0:=by omega
           rw[this];rfl
         · right;unfold inside;rw[Lv,MT,MT];omega
       refine aH.mpr ⟨_,cX.mpr ⟨wno,rfl,(bp _ (by decide)).mp c7⟩,?_⟩;refine aH.mpr ⟨((yz.1,wz.at_),[]),mj.mpr ⟨wz,yz,rfl,hz,rfl⟩,?_⟩;exact aH.mpr ⟨(),j6.mpr rfl,rfl⟩
     · cases h
 · cases h
def iu (ws:List W):Bool:=ws.length==2&&ws.getD 0 []==cd "day"&&eD (ws.getD 1 [])
def bY (races:Oa):List aO->List (List W)->Option (List aO)
 |acc,[]=>some acc
 |acc,ws::ls=>match eU ws races with
  |none=>none
  |some p=>if (acc.map (·.name)).contains p.name=true then none else bY races (acc++[p]) ls
def jh (lines:List (List W))(races:Oa):Option (List aO):=if 64 < lines.length then none else bY races [] lines
def aV (ws:List W):Bool:=ws.headD []==cd "race"
def eT:Oa->List (List W)->Option (List aO)
 |acc,[]=>if acc=[] then none else some []
 |acc,ws::ls=>if aV ws=true then (if 16<=acc.length then none else match bF ws with
  |none=>none
  |some h=>eT (acc++[h]) ls) else if acc=[] then none else jh (ws::ls) acc
def p9 (t:W):List (List W):=(a8 10 [] t.dropLast).map (a8 32 [])
def dE (t:W):Option (List aO) :=
 if t.getLast?=some 10 then match p9 t with
  |[]=>none
  |d::ls=>if iu d=true then eT [] ls else none
 else none
theorem pV:∀(ls:List (List W)) (acc:Oa),acc.length<=16 ->
  eT acc ls=if 1<=acc.length+(ls.takeWhile aV).length/\acc.length+(ls.takeWhile aV).length<=16/\¬none∈(ls.takeWhile aV).map bF then jh (ls.dropWhile aV) (acc++((ls.takeWhile aV).map bF).filterMap id) else none
 |[],acc,h=>by
  show (if acc=[] then none else some [])=_;by_cases c:acc=[]
  · subst c;rfl
  · rw[Lo c,Lp]
    · rfl
    · have:0 < acc.length:=Ms.mpr c;exact⟨by simp;omega,by simpa using h,by simp⟩
 |ws::ls,acc,h=>by
  show (if aV ws=true then _ else _)=_;by_cases c:aV ws=true
  · rw[Lp c,Nz,N2,Lp c,Lp c];by_cases c2:16<=acc.length
    · rw[Lp c2,Lo];rintro⟨_,z,_⟩;rw[Lz] at z;omega
    · rw[Lo c2];cases hr:bF ws with
      |none =>
       dsimp only;rw[Lo];rintro⟨_,_,z⟩;exact z (by rw[LF,hr];simp)
      |some hs =>
       dsimp only;rw[pV ls (acc++[hs]) (by rw[LK,MB];omega)];have e1:(acc++[hs]).length=acc.length+1:=by simp
       rw[e1,LF,hr,N0,Lz,MQ];have k:(1<=acc.length+1+(ls.takeWhile aV).length/\acc.length+1+(ls.takeWhile aV).length<=16/\¬none∈(ls.takeWhile aV).map bF) ↔
         (1<=acc.length+((ls.takeWhile aV).length+1)/\acc.length+((ls.takeWhile aV).length+1)<=16/\¬none∈some hs::(ls.takeWhile aV).map bF):=by
        have:(¬none∈some hs::(ls.takeWhile aV).map bF)↔¬none∈(ls.takeWhile aV).map bF:=by simp
        rw[this];constructor
        · rintro⟨a,b,d⟩;exact⟨by omega,by omega,d⟩
        · rintro⟨a,b,d⟩;exact⟨by omega,by omega,d⟩
       by_cases q:(1<=acc.length+1+(ls.takeWhile aV).length/\acc.length+1+(ls.takeWhile aV).length<=16/\¬none∈(ls.takeWhile aV).map bF)
       · rw[Lp q,Lp (k.mp q)];rfl
       · rw[Lo q,Lo (λz=>q (k.mpr z))]
  · rw[Lo c,Nz,N2,Lo c,Lo c];by_cases d:acc=[]
    · subst d;rfl
    · rw[Lo d,Lp]
      · simp
      · have:0 < acc.length:=Ms.mpr d;exact⟨by simp;omega,by simpa using h,by simp⟩
def jl (w:W):Prop:=w≠[]/\∀c∈w,(isLet c||bX c)=true
theorem xy {v:Bytes}(h:jl (tx v)):BX v:=by
 refine⟨λe=>h.1 (by rw[e];rfl),λc hc=>?_⟩;have:=h.2 (sg c.toNat) (LX.mpr ⟨c,hc,rfl⟩);rw[pT,pL] at this;unfold isLet bX at this;simp only[Mo,Lv,Lw] at this;constructor
 · show 32 < c.toNat;omega
 · show c.toNat<=126;omega
theorem kj {w:W}(h:eD w=true):jl w:=by
 unfold eD at h;simp only[Lv,Lw] at h;refine⟨λe=>?_,λc hc=>(LU.mp h.2) c hc⟩;rw[e] at h;simp at h
theorem eh {w:W}(h:0<=ay w):jl w:=by
 unfold ay at h;split at h
 · omega
 · rename_i q;have q1:¬w=[]:=λz=>q (.inr (.inl z));have q2:¬w.all bX=false:=λz=>q (.inr (.inr z));refine⟨q1,λc hc=>?_⟩;have q2:w.all bX=true:=by simpa using q2
   rw[(LU.mp q2) c hc,Bool.or_true]
def CN (w:W):Bool:=!w.isEmpty&&w.all λc=>isLet c||bX c
theorem DW {w:W}(h:CN w=true):jl w:=by
 unfold CN at h;rw[Lv] at h;exact⟨λe=>by rw[e] at h;simp at h,λc hc=>(LU.mp h.2) c hc⟩
theorem bQ {w:W}{s:String}(e:w=cd s)(h:CN (cd s)=true):jl w:=e ▸ DW h
theorem Cd {ws:List W}(h:iu ws=true):∀w∈ws,jl w:=by
 unfold iu at h;simp only[Lv,Md] at h
 match ws,h with
 |[a,b],h =>
  intro w hw;rcases Lr.mp hw with rfl|hw
  · exact bQ h.1.2 (by decide)
  · have:w=b:=by simpa using hw
    subst this;exact kj h.2
theorem qW:∀{n:Nat} (l:List W) (fs ss ss':Ob),dq n l fs ss=some ss'->∀w∈l,jl w
 |_,[],_,_,_,_=>by simp
 |_,[_],_,_,_,h=>by cases h
 |_,[_,_],_,_,_,h=>by cases h
 |n,c::a::b::r,fs,ss,ss',h=>by
  unfold dq at h;split at h
  · rename_i q;intro w hw;rcases Lr.mp hw with rfl|hw
    · exact bQ q.1 (by decide)
    · rcases Lr.mp hw with rfl|hw
      · exact eh (by omega)
      · rcases Lr.mp hw with rfl|hw
        · exact eh (by omega)
        · exact qW r _ _ _ h w hw
  · cases h
theorem zF {ws:List W}{hs:Ob}(h0:aV ws=true)(h:bF ws=some hs):∀w∈ws,jl w:=by
 unfold bF at h;split at h
 · rename_i w0 n r;split at h
   · rename_i q;cases c:dq (ay n).toNat r [] [] with
     |none=>rw[c] at h;cases h
     |some ss =>
      intro w hw;rcases Lr.mp hw with rfl|hw
      · unfold aV at h0;exact bQ (Md.mp h0) (by decide)
      · rcases Lr.mp hw with rfl|hw
        · exact eh (by omega)
        · exact qW r _ _ _ c w hw
   · cases h
 · cases h
theorem Ad {w:W}{k:Kind}(h:dD w=some k):jl w:=by
 unfold dD at h;split at h
 · rename_i e;exact bQ e (by decide)
 · split at h
   · rename_i e;exact bQ e (by decide)
   · split at h
     · rename_i e;exact bQ e (by decide)
     · split at h
       · rename_i e;exact bQ e (by decide)
       · cases h
theorem rm {ws:List W}{races:Oa}{q:aO}(h:eU ws races=some q):(∀w∈ws,jl w)/\ws.headD []=cd "pool":=by
 unfold eU at h;split at h
 · rename_i p nm kd k fr rc tk t br b le m un u no z;cases km:dD kd with
   |none=>rw[km] at h;cases h
   |some kind =>
    rw[km] at h;dsimp only at h;split at h
    · rename_i cs;obtain⟨c1,c2,c3,c4,c5,c6,c7,c8,c9,c10,c11,c12,c13,c14,c15,c16⟩:=cs;have hm:0<=ay m:=by omega
      have gz:jl z:=by
       rcases c13 with ⟨e,_⟩|e|e
       · exact bQ e (by decide)
       · exact bQ e (by decide)
       · exact bQ e (by decide)
      refine⟨λw hw=>?_,c1⟩;simp only[Lr,Na,or_false] at hw;rcases hw with rfl|rfl|rfl|rfl|rfl|rfl|rfl|rfl|rfl|rfl|rfl|rfl|rfl|rfl|rfl|rfl
      · exact bQ c1 (by decide)
      · exact kj c8
      · exact Ad km
      · exact eh (by omega)
      · exact bQ c2 (by decide)
      · exact eh (by omega)
      · exact bQ c3 (by decide)
      · exact eh (by omega)
      · exact bQ c4 (by decide)
      · exact eh (by omega)
      · exact bQ c5 (by decide)
      · exact eh hm
      · exact bQ c6 (by decide)
      · exact eh (by omega)
      · exact bQ c7 (by decide)
      · exact gz
    · cases h
 · cases h
def lw (l:Bytes):List W:=a8 32 [] (tx l)
theorem AS (l:Bytes):lw l=(splitOn 32 [] l).map tx:=ik (c:=32) (by decide) l []
theorem lr {l:Bytes}(h:∀w∈lw l,jl w):badByte true 0 l=none:=by
 refine xc l [] 0 (λv hv=>xy (h (tx v) ?_)) (by simp);rw[AS];exact LX.mpr ⟨v,hv,rfl⟩
theorem pM {l:Bytes}(p:Nat)(h:badByte true 0 l=none):oH (wordsFrom p [] l)=lw l:=by
 obtain⟨a,_⟩:=words_of l [] p 0 (LV _) h;rw[AS,←a,LP];rfl
def bR:Nat->Option Card->List Bytes->Except Fault (Option Card)
 |_,h,[]=>.ok h
 |p,h,l::ls=>match badByte true 0 l with
  |some i=>.error ⟨2,p+i⟩
  |none=>match lineIn h ⟨wordsFrom p [] l,p+l.length⟩ with
   |.error e=>.error e
   |.ok t=>bR (p+l.length+1) t ls
def dJ (ls:List Bytes):Bytes:=ls.flatMap λl=>l++[10]
theorem qf {r:Bytes}:∀{l:Bytes},¬10∈l->upTo (l++10::r)=some (l,r)
 |[],_=>by simp[upTo]
 |c::l,h=>by
  have hc:¬c=10:=λe=>h (by simp[e]);show (if c=10 then some ([],l++10::r) else (upTo (l++10::r)).map λ(x:Bytes×Bytes)=>(c::x.1,x.2))=_;rw[Lo hc,qf λm=>h (by simp[m])];rfl
theorem jW:∀{b l r:Bytes},upTo b=some (l,r)->b=l++10::r/\¬10∈l
 |[],_,_,h=>by cases h
 |c::b,l,r,h=>by
  have h:(if c=10 then some ([],b) else (upTo b).map λ(x:Bytes×Bytes)=>(c::x.1,x.2))=some (l,r):=h;by_cases e:c=10
  · rw[Lp e] at h;injection h with h;injection h with h1 h2;subst h1;subst h2;subst e;exact⟨rfl,by simp⟩
  · rw[Lo e] at h;cases q:upTo b with
    |none=>rw[q] at h;cases h
    |some x =>
     rw[q] at h;injection h with h;injection h with h1 h2;obtain⟨a1,a2⟩:=jW (b:=b) (l:=x.1) (r:=x.2) q;subst h1;subst h2;exact⟨by rw[Nw,←a1],λm=>by
      rcases Lr.mp m with z|z
      · exact e z.symm
      · exact a2 z⟩
theorem su:∀{b:Bytes},upTo b=none->¬10∈b
 |[],_=>by simp
 |c::b,h=>by
  have h:(if c=10 then some ([],b) else (upTo b).map λ(x:Bytes×Bytes)=>(c::x.1,x.2))=none:=h;by_cases e:c=10
  · rw[Lp e] at h;cases h
  · rw[Lo e] at h;cases q:upTo b with
    |none =>
     have:=su q;intro m;rcases Lr.mp m with z|z
     · exact e z.symm
     · exact this z
    |some x=>rw[q] at h;cases h
theorem pf:∀(ls:List Bytes) (k p:Nat) (h:Option Card),(∀l∈ls,¬10∈l)->(dJ ls).length < k->linesIn lineIn k p h (dJ ls)=bR p h ls
 |[],0,_,_,_,hk=>by simp at hk
 |[],k+1,p,h,_,_=>rfl
 |l::ls,0,_,_,_,hk=>by simp at hk
 |l::ls,k+1,p,h,hn,hk=>by
  have e:dJ (l::ls)=l++10::dJ ls:=by
   unfold dJ;rw[NL,MQ];rfl
  rw[e] at hk ⊢;have ne:¬(l++10::dJ ls).isEmpty=true:=by simp
  show (if (l++10::dJ ls).isEmpty=true then Except.ok h else match upTo (l++10::dJ ls) with
   |none=>_
   |some (l,r)=>_)=_
  rw[Lo ne,qf (hn l (by simp))];dsimp only;unfold bR;cases hb:badByte true 0 l with
  |some i=>rfl
  |none =>
   dsimp only;cases hl:lineIn h ⟨wordsFrom p [] l,p+l.length⟩ with
   |error e=>rfl
   |ok t =>
    dsimp only;exact pf ls k (p+l.length+1) t (λm hm=>hn m (by simp[hm])) (by simp only[LK,Lz] at hk;omega)
theorem oQ:∀(k p:Nat) (h h':Option Card) (b:Bytes),b.length < k->linesIn lineIn k p h b=.ok h'->b=[]∨b.getLast?=some 10
 |0,_,_,_,_,hk,_=>by omega
 |k+1,p,h,h',b,hk,q=>by
  by_cases e:b=[]
  · exact .inl e
  · right;have ne:¬b.isEmpty=true:=λz=>e (MZ.mp z);rw[linesIn,Lo ne] at q;cases hu:upTo b with
    |none=>rw[hu] at q;cases q
    |some x =>
     obtain⟨l,r⟩:=x;rw[hu] at q;dsimp only at q;obtain⟨hb,_⟩:=jW hu;cases hbad:badByte true 0 l with
     |some i=>rw[hbad] at q;cases q
     |none =>
      rw[hbad] at q;dsimp only at q;cases hl:lineIn h ⟨wordsFrom p [] l,p+l.length⟩ with
      |error e=>rw[hl] at q;cases q
      |ok t =>
       rw[hl] at q;dsimp only at q;have:=oQ k _ t h' r (by rw[hb] at hk;simp only[LK,Lz] at hk;omega) q;rw[hb];rcases this with z|z
       · subst z;simp
       · rw[List.getLast?_append];cases r with
         |nil=>simp at z
         |cons c r =>
          rw[List.getLast?_cons_cons,z];rfl
theorem join_split:∀(b w:Bytes),dJ (splitOn 10 w b)=w++b++[10]
 |[],w=>by
  show dJ [w]=_;unfold dJ;simp
 |c::b,w=>by
  show dJ (if c=10 then w::splitOn 10 [] b else splitOn 10 (w++[c]) b)=_;by_cases e:c=10
  · rw[Lp e];have:=join_split b [];unfold dJ at this ⊢;rw[NL,this,e];simp
  · rw[Lo e,join_split b (w++[c])];simp
theorem kW:∀(b w:Bytes),¬10∈w->∀l∈splitOn 10 w b,¬10∈l
 |[],w,hw,l,hl=>by
  have:l=w:=by simpa [splitOn] using hl
  exact this ▸ hw
 |c::b,w,hw,l,hl=>by
  have hl:l∈(if c=10 then w::splitOn 10 [] b else splitOn 10 (w++[c]) b):=hl;by_cases e:c=10
  · rw[Lp e] at hl;rcases Lr.mp hl with rfl|hl
    · exact hw
    · exact kW b [] (by simp) l hl
  · rw[Lo e] at hl;refine kW b (w++[c]) (λm=>?_) l hl;rcases Mc.mp m with z|z
    · exact hw z
    · exact e (by simpa using (LC.mp z).symm)
structure cB (C:Card):Prop where
 vw:C.races.length<=16
 heads:∀r∈C.races,cO r.heads
 pools:∀p∈C.pools,dX C p
 np:C.pools.length<=64
theorem lh (c:UInt8):∀(l w:Bytes),splitOn c w l≠[]
 |[],_=>by simp[splitOn]
 |x::l,w=>by
  unfold splitOn;by_cases e:x=c
  · rw[Lp e];simp
  · rw[Lo e];exact lh c l _
theorem iW {l:Bytes}(p:Nat)(h:badByte true 0 l=none):∃w r,wordsFrom p [] l=w::r/\lw l=tx w.w::oH r:=by
 have e:=pM p h;cases hw:wordsFrom p [] l with
 |nil =>
  exfalso;rw[hw] at e;have e:[]=lw l:=e;rw[AS] at e;exact lh 32 l [] (NZ.mp e.symm)
 |cons w r=>exact⟨w,r,rfl,by rw[←e,hw];rfl⟩
theorem rN {C D:Card}{p:Pool}(h:dX C p)(e:D.races=C.races):dX D p:=by
 have hh:D.headsOf=C.headsOf:=by
  funext r;unfold Card.headsOf;rw[e]
 exact⟨h.name,h.Jk,h.GQ,h.DV,by rw[e];exact h.Kt,by rw[e];exact h.legs,by rw[hh];exact h.vw,h.unit,h.K7⟩
theorem oT:∀(ls:List Bytes) (p:Nat) (C:Card),cB C->C.races≠[]->(C.pools=[]->∀l∈ls.head?,aV (lw l)=false) ->
  (∀C',bR p (some C) ls=.ok C'->∃D,C'=some D/\cB D/\D.races=C.races/\C.pools.length+ls.length<=64/\bY (rh C) (C.pools.map (aD C)) (ls.map lw)=some (D.pools.map (aD D))) /\
  (∀e,bR p (some C) ls=.error e->64 < C.pools.length+ls.length∨bY (rh C) (C.pools.map (aD C)) (ls.map lw)=none)
 |[],p,C,ok,_,_=>⟨λC' h=>by
   have h:Except.ok (some C)=Except.ok C':=h;injection h with h;subst h;exact⟨C,rfl,ok,rfl,ok.np,rfl⟩,λe h=>nomatch h⟩
 |l::ls,p,C,ok,hr,hf=>by
  have none_of:eU (lw l) (rh C)=none->bY (rh C) (C.pools.map (aD C)) ((l::ls).map lw)=none:=λq=>by
   rw[LF];unfold bY;rw[q]
  cases hb:badByte true 0 l with
  |some i =>
   have q:eU (lw l) (rh C)=none:=by
    cases c:eU (lw l) (rh C) with
    |none=>rfl
    |some z =>
     have:=lr (rm c).1;rw[hb] at this;cases this
   have e0:bR p (some C) (l::ls)=.error ⟨2,p+i⟩:=by
    unfold bR;rw[hb]
   rw[e0];exact⟨λ_ h=>(nomatch h),λ_ _=>.inr (none_of q)⟩
  |none =>
   obtain⟨w,r,hw,hlw⟩:=iW p hb;have e0:bR p (some C) (l::ls)=match lineIn (some C) ⟨w::r,p+l.length⟩ with
     |.error e=>.error e
     |.ok t=>bR (p+l.length+1) t ls:=by
    conv=>lhs;unfold bR
    rw[hb,hw]
    all_goals rfl
   have nr:¬(w.w=ascii "race"/\C.pools=[]):=λ⟨z1,z2⟩=>by
    have:=hf z2 l (by simp);unfold aV at this;rw[hlw] at this;have:(tx w.w==cd "race")=false:=this;rw[LW] at this;exact this ((bp _ (by decide)).mpr z1)
   have e1:lineIn (some C) ⟨w::r,p+l.length⟩=if w.w=ascii "pool"/\C.races≠[] then (if POOLS<=C.pools.length then .error ⟨6,w.at_⟩ else withPool (p+l.length) C r) else .error ⟨3,w.at_⟩:=by
    show (if w.w=ascii "race"/\C.pools=[] then _ else _)=_;rw[Lo nr]
   rw[e1] at e0;by_cases hp:w.w=ascii "pool"
   · rw[Lp ⟨hp,hr⟩] at e0;by_cases h64:POOLS<=C.pools.length
     · rw[Lp h64] at e0;rw[e0];have h64:64<=C.pools.length:=h64;exact⟨λ_ h=>(nomatch h),λ_ _=>.inl (by rw[Lz];omega)⟩
     · rw[Lo h64] at e0;have h64:¬64<=C.pools.length:=h64;unfold withPool at e0;cases hi:poolIn (p+l.length) C r with
       |error e =>
        rw[hi] at e0;have e0:bR p (some C) (l::ls)=.error e:=e0;rw[e0];refine⟨λ_ h=>(nomatch h),λ_ _=>.inr ?_⟩;cases c:eU (lw l) (rh C) with
        |none=>exact none_of c
        |some q =>
         rw[LF];unfold bY;rw[c];dsimp only;cases d:((C.pools.map (aD C)).map (·.name)).contains q.name with
         |true=>rfl
         |false =>
          exfalso;rw[hlw] at c;have d':(C.pools.map λ(p:Pool)=>tx p.name).contains q.name=false:=by
           rw[LP] at d;exact d
          obtain⟨z,hz⟩:=A0 (e:=p+l.length) ok.vw c d' (λp hp=>(ok.pools p hp).name);rw[hi] at hz;cases hz
       |ok q =>
        rw[hi] at e0;have e0:bR p (some C) (l::ls)=bR (p+l.length+1) (some {C with pools:=C.pools++[q]}) ls:=e0;obtain⟨okq,hn,hm⟩:=Cb (w:=w) ok.vw hp hi;rw[e0];have okD:cB {C with pools:=C.pools++[q]}:=⟨ok.vw,ok.heads,λx hx=>by
          have hx:x∈C.pools++[q]:=hx;rcases Mc.mp hx with z|z
          · exact rN (ok.pools x z) rfl
          · have:x=q:=by simpa using z
            subst this;exact rN okq rfl,by show (C.pools++[q]).length<=64;rw[LK,MB];omega⟩
        have ih:=oT ls (p+l.length+1) {C with pools:=C.pools++[q]} okD hr (λz=>by
         have z:C.pools++[q]=[]:=z;simp at z)
        have step:bY (rh C) (C.pools.map (aD C)) ((l::ls).map lw)=bY (rh C) ((C.pools++[q]).map (aD C)) (ls.map lw):=by
         rw[LF]
         conv=>lhs;unfold bY
         have hm':eU (lw l) (rh C)=some (aD C q):=by rw[hlw];exact hm
         rw[hm'];dsimp only;have:((C.pools.map (aD C)).map (·.name)).contains (aD C q).name=false:=by
          rw[LP];cases d:(C.pools.map ((λ(x:aO)=>x.name) ∘ aD C)).contains (aD C q).name with
          |false=>rfl
          |true =>
           exfalso;have d:(aD C q).name∈C.pools.map ((λ(x:aO)=>x.name) ∘ aD C):=by simpa using d
           obtain⟨x,hx,ex⟩:=LX.mp d;have ex:tx x.name=tx q.name:=ex;have nx:=(ok.pools x hx).name;have:q.name=x.name:=by
            have key:∀c∈x.name,t9 c.toNat=true:=λc hc=>by
             have gx:=kj (by rw[j2];exact nx);have:=gx.2 (sg c.toNat) (LX.mpr ⟨c,hc,rfl⟩);rw[pT,pL] at this;unfold t9;rw[this];rfl
            have own:tx x.name=x.name.map UInt8.toNat:=(qT key).mpr rfl;exact (qT key).mp (by rw[←ex,own])
           have hn':¬q.name∈C.pools.map λ(p:Pool)=>p.name:=by simpa using hn
           exact hn' (LX.mpr ⟨x,hx,this.symm⟩)
         rw[Lo (by rw[this];decide),LH];rfl
        have len:(C.pools++[q]).length=C.pools.length+1:=by simp
        rw[step];constructor
        · intro C' h;obtain⟨D,h1,h2,h3,h4,h5⟩:=ih.1 C' h;refine⟨D,h1,h2,h3,?_,h5⟩;have h4:(C.pools++[q]).length+ls.length<=64:=h4;rw[Lz];omega
        · intro e h;rcases ih.2 e h with z|z
          · left;have z:64 < (C.pools++[q]).length+ls.length:=z;rw[Lz];omega
          · exact .inr z
   · rw[Lo (λz=>hp z.1)] at e0;rw[e0];refine⟨λ_ h=>(nomatch h),λ_ _=>.inr (none_of ?_)⟩;cases c:eU (lw l) (rh C) with
     |none=>rfl
     |some q =>
      exfalso;have:=(rm c).2;rw[hlw] at this;exact hp ((bp _ (by decide)).mp this)
theorem oO:∀(ls:List Bytes) (p:Nat) (C:Card),cB C->C.pools=[] ->
  (∀C',bR p (some C) ls=.ok C'->∃D,C'=some D/\((D.races=[]/\eT (rh C) (ls.map lw)=none)∨(D.races≠[]/\cB D/\eT (rh C) (ls.map lw)=some (D.pools.map (aD D))))) /\
  (∀e,bR p (some C) ls=.error e->eT (rh C) (ls.map lw)=none)
 |[],p,C,ok,hp=>⟨λC' h=>by
   have h:Except.ok (some C)=Except.ok C':=h;injection h with h;subst h;refine⟨C,rfl,?_⟩;by_cases c:C.races=[]
   · left;refine⟨c,?_⟩;show (if rh C=[] then none else some [])=none;rw[Lp (by unfold rh;rw[c];rfl)]
   · right;refine⟨c,ok,?_⟩;show (if rh C=[] then none else some [])=_;rw[Lo (λ(z:rh C=[])=>c (NZ.mp z)),hp];rfl,λe h=>nomatch h⟩
 |l::ls,p,C,ok,hp=>by
  have lenr:(rh C).length=C.races.length:=Ln ..;by_cases isr:aV (lw l)=true
  · have step:eT (rh C) ((l::ls).map lw)=if 16<=C.races.length then none else match bF (lw l) with
      |none=>none
      |some h=>eT (rh C++[h]) (ls.map lw):=by
     rw[LF];show (if aV (lw l)=true then (if 16<=(rh C).length then none else _) else _)=_;rw[Lp isr,lenr]
     all_goals rfl
    rw[step];cases hb:badByte true 0 l with
    |some i =>
     have q:bF (lw l)=none:=by
      cases c:bF (lw l) with
      |none=>rfl
      |some z =>
       have:=lr (zF isr c);rw[hb] at this;cases this
     have e0:bR p (some C) (l::ls)=.error ⟨2,p+i⟩:=by
      unfold bR;rw[hb]
     rw[e0,q];refine⟨λ_ h=>(nomatch h),λ_ _=>?_⟩;split <;> rfl
    |none =>
     obtain⟨w,r,hw,hlw⟩:=iW p hb;have wr:w.w=ascii "race":=by
      unfold aV at isr;rw[hlw] at isr;exact (bp _ (by decide)).mp (Md.mp isr)
     have e0:bR p (some C) (l::ls)=match lineIn (some C) ⟨w::r,p+l.length⟩ with
       |.error e=>.error e
       |.ok t=>bR (p+l.length+1) t ls:=by
      conv=>lhs;unfold bR
      rw[hb,hw]
      all_goals rfl
     have e1:lineIn (some C) ⟨w::r,p+l.length⟩=if RACES<=C.races.length then .error ⟨6,w.at_⟩ else withRace (p+l.length) C r:=by
      show (if w.w=ascii "race"/\C.pools=[] then _ else _)=_;rw[Lp ⟨wr,hp⟩]
     rw[e1] at e0;by_cases h16:RACES<=C.races.length
     · rw[Lp h16] at e0;rw[e0,Lp (show 16<=C.races.length from h16)];exact⟨λ_ h=>(nomatch h),λ_ _=>rfl⟩
     · rw[Lo h16] at e0;have h16:¬16<=C.races.length:=h16;rw[Lo h16];unfold withRace at e0;cases hi:raceIn (p+l.length) r with
       |error e =>
        rw[hi] at e0;have e0:bR p (some C) (l::ls)=.error e:=e0;rw[e0];refine⟨λ_ h=>(nomatch h),λ_ _=>?_⟩;cases c:bF (lw l) with
        |none=>rfl
        |some hs =>
         exfalso;rw[hlw] at c;obtain⟨q,hq,_⟩:=(uP (e:=p+l.length) (w:=w) (l:=r)).2 hs c;rw[hi] at hq;cases hq
       |ok q =>
        rw[hi] at e0;have e0:bR p (some C) (l::ls)=bR (p+l.length+1) (some {C with races:=C.races++[q]}) ls:=e0;have hm:=(uP (e:=p+l.length) (w:=w) (l:=r)).1 q hi;have hm':bF (lw l)=some q.heads:=by rw[hlw];exact hm
        rw[e0,hm'];dsimp only;have okD:cB {C with races:=C.races++[q]}:=⟨by show (C.races++[q]).length<=16;rw[LK,MB];omega,λx hx=>by
          have hx:x∈C.races++[q]:=hx;rcases Mc.mp hx with z|z
          · exact ok.heads x z
          · have:x=q:=by simpa using z
            subst this;exact zg hm',λx hx=>by
          have hx:x∈C.pools:=hx;rw[hp] at hx;simp at hx,ok.np⟩
        have ih:=oO ls (p+l.length+1) {C with races:=C.races++[q]} okD hp;have e2:rh {C with races:=C.races++[q]}=rh C++[q.heads]:=by
         unfold rh;rw[LH];rfl
        rw[e2] at ih;exact ih
  · have isr':aV (lw l)=false:=by simpa using isr
    have step:eT (rh C) ((l::ls).map lw)=if rh C=[] then none else jh ((l::ls).map lw) (rh C):=by
     rw[LF];show (if aV (lw l)=true then _ else _)=_;rw[Lo isr]
    rw[step];by_cases hr:C.races=[]
    · rw[Lp (by unfold rh;rw[hr];rfl)];have e0:∃e,bR p (some C) (l::ls)=.error e:=by
       unfold bR;cases hb:badByte true 0 l with
       |some i=>exact⟨_,rfl⟩
       |none =>
        obtain⟨w,r,hw,hlw⟩:=iW p hb;dsimp only;rw[hw];have wr:¬w.w=ascii "race":=λz=>by
         apply isr
         unfold aV;rw[hlw];exact Md.mpr ((bp _ (by decide)).mpr z)
        have e1:lineIn (some C) ⟨w::r,p+l.length⟩=.error ⟨3,w.at_⟩:=by
         show (if w.w=ascii "race"/\C.pools=[] then _ else if w.w=ascii "pool"/\C.races≠[] then _ else _)=_;rw[Lo (λz=>wr z.1),Lo (λz=>z.2 hr)]
        rw[e1];exact⟨_,rfl⟩
      obtain⟨e,e0⟩:=e0;rw[e0];exact⟨λ_ h=>(nomatch h),λ_ _=>rfl⟩
    · rw[Lo (λ(z:rh C=[])=>hr (NZ.mp z))];have ih:=oT (l::ls) p C ok hr (λ_ l' hl'=>by
       have:l'=l:=by simpa using hl'.symm
       subst this;exact isr')
      rw[hp] at ih;have len:((l::ls).map lw).length=(l::ls).length:=Ln ..;unfold jh;rw[len];constructor
      · intro C' h;obtain⟨D,h1,h2,h3,h4,h5⟩:=ih.1 C' h;refine⟨D,h1,.inr ⟨by rw[h3];exact hr,h2,?_⟩⟩;rw[Lo (by simp only[MX] at h4;omega)];exact h5
      · intro e h;by_cases c:64 < (l::ls).length
        · rw[Lp c]
        · rw[Lo c];rcases ih.2 e h with z|z
          · simp only[MX] at z;omega
          · exact z
theorem ya:∀(b:Bytes),(tx b).getLast?=some 10↔b.getLast?=some 10:=λb=>by
 unfold tx;rw[List.getLast?_map];cases b.getLast? with
 |none=>simp
 |some c =>
  show some (sg c.toNat)=some 10↔some c=some 10;constructor
  · intro h;injection h with h;rw[ju (show c.toNat=(10:UInt8).toNat from (uR (by decide)).mp h)]
  · intro h;injection h with h;rw[h];rfl
theorem lL (b:Bytes):(∀C,readCard b=.ok C->cB C/\C.races≠[]/\dE (tx b)=some (C.pools.map (aD C)))/\(∀e,readCard b=.error e->dE (tx b)=none):=by
 by_cases hl:b.getLast?=some 10
 · obtain⟨b',rfl⟩:∃b',b=b'++[10]:=by
    have ne:b≠[]:=λe=>by rw[e] at hl;simp at hl
    refine⟨b.dropLast,?_⟩;have:=List.dropLast_concat_getLast ne;rw[List.getLast?_eq_some_getLast ne] at hl;injection hl with hl;rw[hl] at this;exact this.symm
   have hj:dJ (splitOn 10 [] b')=b'++[10]:=by rw[join_split];simp
   have hfold:linesIn lineIn ((b'++[10]).length+1) 0 none (b'++[10])=bR 0 none (splitOn 10 [] b'):=by
    rw[←hj];exact pf _ _ _ _ (kW b' [] (by simp)) (NS _)
   have hlm:p9 (tx (b'++[10]))=(splitOn 10 [] b').map lw:=by
    unfold p9;have e:(tx (b'++[10])).dropLast=tx b':=by
     rw[rD];show (tx b'++[sg 10]).dropLast=_;rw[List.dropLast_concat]
    have:=ik (c:=10) (by decide) b' [];rw[Bx] at this;rw[e];show (a8 (10:UInt8).toNat [] (tx b')).map _=_;rw[this,LP];rfl
   have hc:dE (tx (b'++[10]))=match (splitOn 10 [] b').map lw with
     |[]=>none
     |d::ls=>if iu d=true then eT [] ls else none:=by
    unfold dE;rw[Lp ((ya _).mpr hl),hlm]
    all_goals rfl
   rw[hc];unfold readCard;rw[hfold];cases hs:splitOn 10 [] b' with
   |nil=>exact absurd hs (lh 10 b' [])
   |cons l ls =>
    rw[LF];dsimp only;have day:(iu (lw l)=false/\∃e,bR 0 none (l::ls)=.error e)∨(iu (lw l)=true/\∃n,bR 0 none (l::ls)=bR (0+l.length+1) (some {noCard with name:=n}) ls):=by
     cases hb:badByte true 0 l with
     |some i =>
      left;refine⟨?_,⟨2,0+i⟩,by unfold bR;rw[hb]⟩;cases c:iu (lw l) with
      |false=>rfl
      |true =>
       have:=lr (Cd c);rw[hb] at this;cases this
     |none =>
      obtain⟨w,r,hw,hlw⟩:=iW 0 hb;have e0:bR 0 none (l::ls)=match lineIn none ⟨w::r,0+l.length⟩ with
        |.error e=>.error e
        |.ok t=>bR (0+l.length+1) t ls:=by
       conv=>lhs;unfold bR
       rw[hb,hw]
       all_goals rfl
      have e1:lineIn none ⟨w::r,0+l.length⟩=if w.w=ascii "day" then dayIn (0+l.length) r else .error ⟨3,w.at_⟩:=rfl;rw[e1] at e0;by_cases hd:w.w=ascii "day"
      · rw[Lp hd] at e0;cases hi:dayIn (0+l.length) r with
        |error e =>
         left;rw[hi] at e0;refine⟨?_,e,e0⟩;cases c:iu (lw l) with
         |false=>rfl
         |true =>
          exfalso;unfold iu at c;rw[hlw] at c;simp only[Lv,Md] at c
          match r,c,hi with
          |[wn],c,hi =>
           have nm:isName wn.w=true:=by rw[←j2];exact c.2
           have:dayIn (0+l.length) [wn]=.ok (some {noCard with name:=wn.w}):=by
            unfold dayIn;refine aH.mpr ⟨(wn.w,[]),iZ.mpr ⟨wn,rfl,nm,rfl,rfl⟩,?_⟩;exact aH.mpr ⟨(),j6.mpr rfl,rfl⟩
           rw[this] at hi;cases hi
          |[],c,_=>have:=c.1.1;simp[oH] at this
          |_::_::_,c,_=>have:=c.1.1;simp[oH] at this
        |ok t =>
         right;rw[hi] at e0;unfold dayIn at hi;obtain⟨n,x1,h1⟩:=aH.mp hi;obtain⟨wn,er,n1,n2,n3⟩:=iZ.mp x1;obtain⟨_,x2,h2⟩:=aH.mp h1;have y2:=j6.mp x2;injection h2 with h2;subst h2;refine⟨?_,n.1,e0⟩;unfold iu;rw[hlw,er,y2];have a1:(tx w.w==cd "day")=true:=Md.mpr ((bp _ (by decide)).mpr hd);show ((2==2)&&(tx w.w==cd "day")&&eD (tx wn.w))=true;rw[a1,j2,n1];rfl
      · rw[Lo hd] at e0;left;refine⟨?_,_,e0⟩;cases c:iu (lw l) with
        |false=>rfl
        |true =>
         exfalso;unfold iu at c;rw[hlw] at c;simp only[Lv,Md] at c;exact hd ((bp _ (by decide)).mp c.1.2)
    rcases day with ⟨d,e,h⟩|⟨d,n,h⟩
    · rw[d,h];exact⟨λ_ q=>(nomatch q),λ_ _=>rfl⟩
    · rw[Lp d,h];have J3:cB {noCard with name:=n}:=⟨LV _,λr hr=>by
        have hr:r∈([]:List Race):=hr;simp at hr,λp hp=>by
        have hp:p∈([]:List Pool):=hp;simp at hp,LV _⟩
      have ih:=oO ls (0+l.length+1) {noCard with name:=n} J3 rfl;have e2:rh {noCard with name:=n}=[]:=rfl;rw[e2] at ih;cases hf:bR (0+l.length+1) (some {noCard with name:=n}) ls with
      |error e =>
       dsimp only;exact⟨λ_ q=>(nomatch q),λ_ _=>ih.2 e hf⟩
      |ok C' =>
       obtain⟨D,rfl,q⟩:=ih.1 C' hf;dsimp only;rcases q with ⟨q1,q2⟩|⟨q1,q2,q3⟩
       · rw[Lp q1];exact⟨λ_ q=>(nomatch q),λ_ _=>q2⟩
       · rw[Lo q1];exact⟨λC q=>by injection q with q;subst q;exact⟨q2,q1,q3⟩,λ_ q=>nomatch q⟩
 · have hn:dE (tx b)=none:=by
    unfold dE;rw[Lo (λz=>hl ((ya b).mp z))]
   rw[hn];refine⟨λC h=>?_,λ_ _=>rfl⟩;exfalso;unfold readCard at h;cases q:linesIn lineIn (b.length+1) 0 none b with
   |error e=>rw[q] at h;cases h
   |ok h' =>
    rcases oQ _ _ _ _ _ (NS _) q with z|z
    · subst z;have q':linesIn lineIn 1 0 none []=.ok h':=q;have q':(Except.ok none:Except Fault (Option Card))=.ok h':=q';injection q' with q';subst q';rw[q] at h;cases h
    · exact hl z
def Fits (fd acc:Ob)(p:W):Prop:=∃n:Nat,ay p=(n:Int)/\n∈fd/\∀x,acc.getLast?=some x->x < n
theorem CD {fd acc:Ob}{p:W}:Fits fd acc p↔0<=ay p/\(ay p).toNat∈fd/\∀x∈acc.getLast?,x < (ay p).toNat:=by
 constructor
 · rintro⟨n,e,h1,h2⟩;have en:(ay p).toNat=n:=by omega
   rw[en];exact⟨by omega,h1,λx hx=>h2 x hx⟩
 · rintro⟨h0,h1,h2⟩;exact⟨_,by omega,h1,λx hx=>h2 x hx⟩
instance {fd acc:Ob}{p:W}:Decidable (Fits fd acc p):=decidable_of_iff _ CD.symm
def jn (fd:Ob):List W->Ob->Option (Ob)
 |[],acc=>some acc
 |p::r,acc=>if Fits fd acc p then jn fd r (acc++[(ay p).toNat]) else none
def setM (fd:Ob)(w:W):Option (Ob):=jn fd (a8 44 [] w) []
theorem lq {x:Nat}{l:Ob}:risesN (x::l)=true↔(∀y,l.head?=some y->x < y)/\risesN l=true:=by
 cases l with
 |nil=>exact⟨λ_=>⟨λ_ z=>(by cases z),rfl⟩,λ_=>rfl⟩
 |cons y r =>
  show (decide (x < y)&&risesN (y::r))=true↔_;rw[Lv,Lw];exact⟨λ⟨a,b⟩=>⟨λz e=>by injection e with e;omega,b⟩,λ⟨a,b⟩=>⟨a y rfl,b⟩⟩
theorem mapM_some {α β:Type}{f:α->Option β}{x:α}{r:List α}{t:List β}:(x::r).mapM f=some t↔∃b s,f x=some b/\r.mapM f=some s/\t=b::s:=by
 rw[List.mapM_cons];cases h:f x with
 |none =>
  constructor
  · intro z;cases z
  · rintro⟨b,s,e,_⟩;cases e
 |some b =>
  cases h2:r.mapM f with
  |none =>
   constructor
   · intro z;rw[show ((some b:Option β) >>= λb=>(none:Option (List β)) >>= λs=>pure (b::s))=none from rfl] at z;cases z
   · rintro⟨b,s,_,e,_⟩;cases e
  |some s =>
   constructor
   · intro z;have z:some (b::s)=some t:=z;injection z with z;exact⟨b,s,rfl,rfl,z.symm⟩
   · rintro⟨b',s',e1,e2,rfl⟩;injection e1 with e1;injection e2 with e2;subst e1 e2;rfl
theorem iF {fd:Ob}(hf:∀x∈fd,x<=24):∀(ps:List Bytes) (acc s:Ob),jn fd (ps.map tx) acc=some s↔∃t,ps.mapM numberOf=some t/\s=acc++t/\(∀x y,acc.getLast?=some x->t.head?=some y->x < y)/\risesN t=true/\∀x∈t,x∈fd
 |[],acc,s=>by
  show some acc=some s↔_;constructor
  · intro e;injection e with e;exact⟨[],rfl,by simp[e],λ_ _ _ z=>(by cases z),rfl,λ_ z=>(by cases z)⟩
  · rintro⟨t,e,rfl,_⟩;have e:some []=some t:=e;injection e with e;subst e;simp
 |p::r,acc,s=>by
  show (if Fits fd acc (tx p) then jn fd (r.map tx) (acc++[(ay (tx p)).toNat]) else none)=some s↔_;constructor
  · intro h;split at h
    · rename_i hn;obtain⟨n,e1,e2,e3⟩:=hn;have hn24:=hf n e2;have e4:=(dZ (w:=p) (m:=n) (by omega)).mp e1;obtain⟨t,a1,a2,a3,a4,a5⟩:=(iF hf r _ s).mp h;have en:(ay (tx p)).toNat=n:=by omega
      rw[en] at a2 a3;refine⟨n::t,mapM_some.mpr ⟨n,t,e4,a1,rfl⟩,by rw[a2,MQ];rfl,λx y hx hy=>?_,lq.mpr ⟨λy hy=>a3 n y (by rw[List.getLast?_append];rfl) hy,a4⟩,λx hx=>?_⟩
      · injection hy with hy;subst hy;exact e3 x hx
      · rcases Lr.mp hx with rfl|hx
        · exact e2
        · exact a5 x hx
    · cases h
  · rintro⟨t,a1,a2,a3,a4,a5⟩;obtain⟨n,t',e4,a1',rfl⟩:=mapM_some.mp a1;have e2:=a5 n (by simp);have hn24:=hf n e2;have e1:=(dZ (w:=p) (m:=n) (by omega)).mpr e4;rw[Lp ⟨n,e1,e2,λx hx=>a3 x n hx rfl⟩];have en:(ay (tx p)).toNat=n:=by omega
    rw[en];obtain⟨r1,r2⟩:=lq.mp a4;refine (iF hf r _ s).mpr ⟨t',a1',by rw[a2,MQ];rfl,λx y hx hy=>?_,r2,λx hx=>a5 x (by simp[hx])⟩;rw[List.getLast?_append] at hx;have hx:some n=some x:=hx;injection hx with hx;subst hx;exact r1 y hy
theorem Kv {fd t:Ob}(h:∀x∈t,x∈fd):t.all fd.contains=true:=by
 rw[LU];intro x hx;rw[Mv];exact L4 (h x hx)
theorem Lf {fd t:Ob}(h:t.all fd.contains=true):∀x∈t,x∈fd:=λx hx=>by
 have:=(LU.mp h) x hx;rw[Mv] at this;exact LI this
theorem zL {e:Nat}{fd:Ob}:setIn e fd []=.error ⟨3,e⟩:=rfl
theorem pI {e:Nat}{fd:Ob}(hf:∀x∈fd,x<=24){w:Word}{r:List Word}:setIn e fd (w::r)=match setM fd (tx w.w) with
  |none=>.error ⟨4,w.at_⟩
  |some s=>.ok ((s,w.at_),r):=by
 have sp:a8 44 [] (tx w.w)=(splitOn 44 [] w.w).map tx:=ik (c:=44) (by decide) w.w [];show (match (splitOn 44 [] w.w).mapM numberOf with
 |none=>(Except.error ⟨4,w.at_⟩:Except Fault ((Ob×Nat)×List Word))
 |some s=>if risesN s=true/\s.all fd.contains=true then (pure ((s,w.at_),r):Except Fault _) else .error ⟨4,w.at_⟩)=_
 unfold setM;rw[sp];generalize splitOn 44 [] w.w=ps;cases h:jn fd (ps.map tx) [] with
 |some s =>
  obtain⟨t,a1,a2,_,a4,a5⟩:=(iF hf ps [] s).mp h;rw[Mi] at a2;subst a2;rw[a1];show (if risesN s=true/\s.all fd.contains=true then (pure ((s,w.at_),r):Except Fault _) else .error ⟨4,w.at_⟩)=_;rw[Lp ⟨a4,Kv a5⟩];rfl
 |none =>
  cases h1:ps.mapM numberOf with
  |none=>rfl
  |some t =>
   show (if risesN t=true/\t.all fd.contains=true then (pure ((t,w.at_),r):Except Fault _) else .error ⟨4,w.at_⟩)=_;rw[Lo];rintro⟨b1,b2⟩;have:=(iF hf ps [] t).mpr ⟨t,h1,by simp,λ_ _ z=>(by cases z),b1,Lf b2⟩;rw[this] at h;cases h
theorem oN {fd:Ob}:∀(ps:List W) (acc s:Ob),jn fd ps acc=some s->ps≠[]∨acc≠[]->s≠[]
 |[],acc,s,h,hn=>by
  have h:some acc=some s:=h;injection h with h;subst h;simpa using hn
 |p::r,acc,s,h,_=>by
  have h:(if Fits fd acc p then jn fd r (acc++[(ay p).toNat]) else none)=some s:=h;split at h
  · exact oN r _ s h (.inr (by simp))
  · cases h
theorem vb {c:Nat}:∀(l w:W),a8 c w l≠[]
 |[],w=>by show [w]≠[];simp
 |x::r,w=>by
  unfold a8;split
  · simp
  · exact vb r _
theorem AD {l:Ob}(h:risesN l=true):cC l:=by
 induction l with
 |nil=>exact List.Pairwise.nil
 |cons x r ih =>
  obtain⟨h1,h2⟩:=lq.mp h;have ih:=ih h2;refine List.Pairwise.cons (λy hy=>?_) ih;cases r with
  |nil=>cases hy
  |cons z r =>
   have h1:=h1 z rfl;rcases Lr.mp hy with rfl|hy
   · exact h1
   · have:=(MG.mp ih).1 y hy;omega
theorem di {e:Nat}{fd:Ob}(hf:∀x∈fd,x<=24){l:List Word}{x:(Ob×Nat)×List Word}(h:setIn e fd l=.ok x):bL fd x.1.1/\x.1.1≠[]/\∃w,l=w::x.2/\x.1.2=w.at_/\setM fd (tx w.w)=some x.1.1:=by
 cases l with
 |nil=>cases h
 |cons w r =>
  rw[pI hf] at h;cases hs:setM fd (tx w.w) with
  |none=>rw[hs] at h;cases h
  |some s =>
   rw[hs] at h;injection h with h;subst h;have sp:a8 44 [] (tx w.w)=(splitOn 44 [] w.w).map tx:=ik (c:=44) (by decide) w.w [];have hs':=hs;unfold setM at hs';have ne:s≠[]:=oN _ _ _ hs' (.inl (vb _ _));rw[sp] at hs';obtain⟨t,_,a2,_,a4,a5⟩:=(iF hf _ _ s).mp hs';rw[Mi] at a2;subst a2;exact⟨⟨AD a4,a5⟩,ne,w,rfl,rfl,hs⟩
theorem Cn {e:Nat}{s:String}:must e s []=.error ⟨3,e⟩:=rfl
theorem sf {e:Nat}{s:String}{w:Word}{r:List Word}:must e s (w::r)=if w.w=ascii s then .ok r else .error ⟨3,w.at_⟩:=rfl
abbrev Got:=Except Fault (Oa×List Word)
def jo (e:Nat):Oa->Oa->List Word->Got
 |[],acc,l=>.ok (acc,l)
 |h::t,acc,l=>match (if 0 < acc.length then must e "/" l else .ok l) with
  |.error x=>.error x
  |.ok m=>match setIn e h m with
   |.error x=>.error x
   |.ok s=>jo e t (acc++[s.1.1]) s.2
def wM (e k:Nat)(heads:Ob)(l:List Word):Got:=match setIn e heads l with
 |.error x=>.error x
 |.ok s=>if k<=s.1.1.length then .ok ([s.1.1],s.2) else .error ⟨4,s.1.2⟩
def sA (e k:Nat)(heads sa:Ob)(m:List Word):Got:=match setIn e heads m with
 |.error x=>.error x
 |.ok b=>if (∀x∈b.1.1,¬x∈sa)/\k<=sa.length+b.1.1.length then .ok ([sa,b.1.1],b.2) else .error ⟨4,b.1.2⟩
def rZ (e k:Nat)(heads sa:Ob)(p:Nat)(r:List Word):Got:=if sa.length < k then (match must e "with" r with
  |.error x=>.error x
  |.ok m=>sA e k heads sa m) else .error ⟨4,p⟩
def wR (e k:Nat)(heads:Ob)(l:List Word):Got:=match setIn e heads l with
 |.error x=>.error x
 |.ok a=>rZ e k heads a.1.1 a.1.2 a.2
def iR (x:Got):Except Fault (Oa):=match x with
 |.error t=>.error t
 |.ok y=>match y.2 with
  |[]=>.ok y.1
  |w::_=>.error ⟨3,w.at_⟩
theorem Ha {e:Nat}{p:Pool}{heads:Ob}{l:List Word}:boxIn e p heads l=iR (wM e p.k heads l):=by
 unfold boxIn wM;cases h:setIn e heads l with
 |error x=>rfl
 |ok s =>
  by_cases hk:p.k<=s.1.1.length
  · show (holds (decide (p.k<=s.1.1.length)) 4 s.1.2 >>= λ_=>closed s.2 >>= λ_=>pure [s.1.1])=iR (if p.k<=s.1.1.length then .ok ([s.1.1],s.2) else .error ⟨4,s.1.2⟩);rw[Lp hk];unfold holds;rw[Lp (L4 hk)];show (closed s.2 >>= λ_=>pure [s.1.1])=iR (.ok ([s.1.1],s.2));unfold iR;show _=(match s.2 with
     |[]=>(Except.ok [s.1.1]:Except Fault _)
     |w::_=>.error ⟨3,w.at_⟩)
    cases s.2 <;> rfl
  · show (holds (decide (p.k<=s.1.1.length)) 4 s.1.2 >>= λ_=>closed s.2 >>= λ_=>pure [s.1.1])=iR (if p.k<=s.1.1.length then .ok ([s.1.1],s.2) else .error ⟨4,s.1.2⟩);rw[Lo hk];unfold holds;rw[Lo (by simpa using hk)];rfl
theorem E1 {a b:Ob}{k:Nat}:(!(b.any λ(x:Nat)=>a.contains x)&&decide (k<=a.length+b.length))=decide ((∀x∈b,¬x∈a)/\k<=a.length+b.length):=by
 rw[L3];simp
theorem GL {e:Nat}{p:Pool}{heads:Ob}{l:List Word}:keyIn e p heads l=iR (wR e p.k heads l):=by
 unfold keyIn wR;cases h:setIn e heads l with
 |error x=>rfl
 |ok a =>
  show (holds (decide (a.1.1.length < p.k)) 4 a.1.2 >>= λ_=>must e "with" a.2 >>= λm=>setIn e heads m >>= λb=>holds (!(b.1.1.any λ(x:Nat)=>a.1.1.contains x)&&decide (p.k<=a.1.1.length+b.1.1.length)) 4 b.1.2 >>= λ_=>closed b.2 >>= λ_=>pure [a.1.1,b.1.1])
   = iR (if a.1.1.length < p.k then (match must e "with" a.2 with
    |.error x=>.error x
    |.ok m=>match setIn e heads m with
     |.error x=>.error x
     |.ok b=>if (∀x∈b.1.1,¬x∈a.1.1)/\p.k<=a.1.1.length+b.1.1.length then .ok ([a.1.1,b.1.1],b.2) else .error ⟨4,b.1.2⟩) else .error ⟨4,a.1.2⟩)
  by_cases hk:a.1.1.length < p.k
  · rw[Lp hk];unfold holds;rw[Lp (L4 hk)];cases hm:must e "with" a.2 with
    |error x=>rfl
    |ok m =>
     show (setIn e heads m >>= λb=>(if (!(b.1.1.any λ(x:Nat)=>a.1.1.contains x)&&decide (p.k<=a.1.1.length+b.1.1.length))=true then Except.ok () else .error ⟨4,b.1.2⟩) >>= λ_=>closed b.2 >>= λ_=>pure [a.1.1,b.1.1])=iR (match setIn e heads m with
      |.error x=>.error x
      |.ok b=>if (∀x∈b.1.1,¬x∈a.1.1)/\p.k<=a.1.1.length+b.1.1.length then .ok ([a.1.1,b.1.1],b.2) else .error ⟨4,b.1.2⟩)
     cases hb:setIn e heads m with
     |error x=>rfl
     |ok b =>
      show ((if (!(b.1.1.any λ(x:Nat)=>a.1.1.contains x)&&decide (p.k<=a.1.1.length+b.1.1.length))=true then Except.ok () else .error ⟨4,b.1.2⟩) >>= λ_=>closed b.2 >>= λ_=>pure [a.1.1,b.1.1])=iR (if (∀x∈b.1.1,¬x∈a.1.1)/\p.k<=a.1.1.length+b.1.1.length then .ok ([a.1.1,b.1.1],b.2) else .error ⟨4,b.1.2⟩);rw[E1];by_cases hq:(∀x∈b.1.1,¬x∈a.1.1)/\p.k<=a.1.1.length+b.1.1.length
      · rw[Lp hq,Lp (L4 hq)];show (closed b.2 >>= λ_=>pure [a.1.1,b.1.1])=(match b.2 with
         |[]=>Except.ok [a.1.1,b.1.1]
         |w::_=>.error ⟨3,w.at_⟩)
        cases b.2 <;> rfl
      · rw[Lo hq,Lo (by rw[Lw];exact hq)];rfl
  · rw[Lo hk];unfold holds;rw[Lo (by simpa using hk)];rfl
def lU (acc:Oa)(x:Except Fault (Oa)):Except Fault (Oa):=match x with
 |.error t=>.error t
 |.ok y=>.ok (acc++y)
theorem CL {e:Nat}:∀(fs acc:Oa) (l:List Word),acc≠[]->fs≠[]->iR (jo e fs acc l)=lU acc (must e "/" l >>= λm=>setsIn e fs m)
 |[],_,_,_,h=>absurd rfl h
 |h::t,acc,l,ha,_=>by
  have hl:0 < acc.length:=Ms.mpr ha;unfold jo;rw[Lp hl];cases hm:must e "/" l with
  |error x=>rfl
  |ok m =>
   show iR (match setIn e h m with
    |.error x=>.error x
    |.ok s=>jo e t (acc++[s.1.1]) s.2)=lU acc (setsIn e (h::t) m)
   cases t with
   |nil =>
    show _=lU acc (setIn e h m >>= λs=>closed s.2 >>= λ_=>pure [s.1.1]);cases hs:setIn e h m with
    |error x=>rfl
    |ok s =>
     show iR (.ok (acc++[s.1.1],s.2))=lU acc (closed s.2 >>= λ_=>pure [s.1.1]);unfold iR;show (match s.2 with
      |[]=>(Except.ok (acc++[s.1.1]):Except Fault _)
      |w::_=>.error ⟨3,w.at_⟩)=_
     cases s.2 <;> rfl
   |cons h2 t2 =>
    show _=lU acc (setIn e h m >>= λs=>must e "/" s.2 >>= λm=>setsIn e (h2::t2) m >>= λr=>pure (s.1.1::r));cases hs:setIn e h m with
    |error x=>rfl
    |ok s =>
     show iR (jo e (h2::t2) (acc++[s.1.1]) s.2)=lU acc (must e "/" s.2 >>= λm=>setsIn e (h2::t2) m >>= λr=>pure (s.1.1::r));rw[CL (h2::t2) (acc++[s.1.1]) s.2 (by simp) (by simp)];cases must e "/" s.2 with
     |error x=>rfl
     |ok m2 =>
      show lU _ (setsIn e (h2::t2) m2)=lU acc (setsIn e (h2::t2) m2 >>= λr=>pure (s.1.1::r));cases setsIn e (h2::t2) m2 with
      |error x=>rfl
      |ok r =>
       show Except.ok (acc++[s.1.1]++r)=Except.ok (acc++(s.1.1::r));rw[MQ];rfl
theorem Ik {e:Nat}{fs:Oa}{l:List Word}:setsIn e fs l=iR (jo e fs [] l):=by
 cases fs with
 |nil =>
  show (closed l).map (λ(_:Unit)=>[])=(match l with
   |[]=>Except.ok []
   |w::_=>.error ⟨3,w.at_⟩)
  cases l <;> rfl
 |cons h t =>
  show _=iR (match setIn e h l with
   |.error x=>.error x
   |.ok s=>jo e t ([]++[s.1.1]) s.2)
  cases t with
  |nil =>
   show (setIn e h l >>= λs=>closed s.2 >>= λ_=>pure [s.1.1])=_;cases hs:setIn e h l with
   |error x=>rfl
   |ok s =>
    show (closed s.2 >>= λ_=>pure [s.1.1])=(match s.2 with
     |[]=>Except.ok ([]++[s.1.1])
     |w::_=>.error ⟨3,w.at_⟩)
    cases s.2 <;> rfl
  |cons h2 t2 =>
   show (setIn e h l >>= λs=>must e "/" s.2 >>= λm=>setsIn e (h2::t2) m >>= λr=>pure (s.1.1::r))=_;cases hs:setIn e h l with
   |error x=>rfl
   |ok s =>
    show (must e "/" s.2 >>= λm=>setsIn e (h2::t2) m >>= λr=>pure (s.1.1::r))=iR (jo e (h2::t2) ([]++[s.1.1]) s.2);rw[CL (h2::t2) ([]++[s.1.1]) s.2 (by simp) (by simp)];cases must e "/" s.2 with
    |error x=>rfl
    |ok m2 =>
     show (setsIn e (h2::t2) m2 >>= λr=>pure (s.1.1::r))=lU _ (setsIn e (h2::t2) m2);cases setsIn e (h2::t2) m2 with
     |error x=>rfl
     |ok r=>rfl
structure Dg (p:aO):Prop where
 ne:p.fields≠[]
 len:p.fields.length<=24
 hi:∀fd∈p.fields,∀x∈fd,x<=24
 unit:1<=p.unit
 six:p.fields.length<=6
 Dv:p.kind=.any->p.fields.length<=3
 lo:∀fd∈p.fields,∀x∈fd,1<=x
 J9:p.kind=.order->p.fields.length<=4
 JV:p.kind≠.legs->∀fd∈p.fields,fd≠[]
def fz (e:Nat)(p:aO)(how:Nat)(l:List Word):Got:=if how=0 then jo e p.fields [] l else if how=1 then wM e p.fields.length (p.fields.getD 0 []) l else wR e p.fields.length (p.fields.getD 0 []) l
def cQ (p:aO):Bool:=p.kind==.order||p.kind==.any
def ji (p:aO)(w:Bytes):Option Nat:=if w=ascii "on" then some 0 else if w=ascii "box"/\cQ p=true then some 1 else if w=ascii "key"/\cQ p=true then some 2 else none
def dQ (ps:List aO)(w:W):Option Nat:=ps.findIdx? λp=>p.name==w
def cI (n:Nat):How:=if n=0 then .on else if n=1 then .box else .key
structure bM where
 pool:Nat
 how:Nat
 stake:Nat
 sets:Oa
structure sv (p:aO)(how:Nat)(sets:Oa):Prop where
 ok:Dg p
 way:how=0∨cQ p=true
 read:∃e l r,fz e p how l=.ok (sets,r)
def eG (u:Nat)(w:W):Prop:=1<=ay w/\ay w<=1000000/\ay w % (u:Int)=0
instance {u:Nat}{w:W}:Decidable (eG u w):=by unfold eG;exact inferInstance
def HU (i how stake hp sp:Nat)(p:aO)(sets:Oa):Except Fault bM :=
 if countM p.kind (cI how) p.fields.length sets=0 then .error ⟨6,hp⟩ else if 2147483647 < stake*countM p.kind (cI how) p.fields.length sets then .error ⟨7,sp⟩ else .ok ⟨i,how,stake,sets⟩
def xX (e i how stake hp sp:Nat)(p:aO)(x:Got):Except Fault bM:=match iR x with
 |.error t=>.error t
 |.ok sets=>HU i how stake hp sp p sets
def JH (e i:Nat)(p:aO)(stake sp:Nat):List Word->Except Fault bM
 |[]=>.error ⟨3,e⟩
 |hw::r=>match ji p hw.w with
  |none=>.error ⟨3,hw.at_⟩
  |some how=>xX e i how stake hw.at_ sp p (fz e p how r)
def IE (e i:Nat)(p:aO):List Word->Except Fault bM
 |[]=>.error ⟨3,e⟩
 |sw::r=>if eG p.unit (tx sw.w) then JH e i p (ay (tx sw.w)).toNat sw.at_ r else .error ⟨4,sw.at_⟩
def Cw (e i:Nat)(p:aO)(l:List Word):Except Fault bM:=match must e "for" l with
 |.error t=>.error t
 |.ok m=>IE e i p m
def Jd (e:Nat)(ps:List aO):List Word->Except Fault bM
 |[]=>.error ⟨3,e⟩
 |n::r=>match dQ ps (tx n.w) with
  |none=>.error ⟨5,n.at_⟩
  |some i=>match ps[i]? with
   |none=>.error ⟨5,n.at_⟩
   |some p=>Cw e i p r
def CI (e:Nat)(ps:List aO)(l:List Word):Except Fault bM:=match must e "bet" l with
 |.error t=>.error t
 |.ok m=>Jd e ps m
theorem xt {ps:List aO}{w:W}{i:Nat}(h:dQ ps w=some i):i < ps.length:=by
 unfold dQ at h;rw[NG] at h;exact h.1
theorem uz {v:Bytes}(h:isName v=true):∀c∈v,t9 c.toNat=true:=λc hc=>by
 rw[←j2] at h;have h2:=kj h;have:sg c.toNat∈tx v:=LX.mpr ⟨c,hc,rfl⟩;have h3:=h2.2 _ this;rw[pT,pL] at h3;unfold t9;rw[h3];rfl
theorem E4 {C:Card}(o:cB C)(v:Bytes):dQ (C.pools.map (aD C)) (tx v)=C.pools.findIdx? λp=>p.name==v:=by
 unfold dQ;rw[List.findIdx?_map];have:∀(l:List Pool),(∀p∈l,isName p.name=true)->List.findIdx? ((λp=>p.name==tx v) ∘ aD C) l=l.findIdx? λp=>p.name==v:=λl=>by
  induction l with
  |nil=>intro _;rfl
  |cons p r ih =>
   intro hn;rw[List.findIdx?_cons,List.findIdx?_cons,ih λq hq=>hn q (by simp[hq])];have e:((λp=>p.name==tx v) ∘ aD C) p=(p.name==v):=by
    show (tx p.name==tx v)=_;rw[L3,Md,Md];constructor
    · intro z;have:=(qT (v:=p.name) (w:=v) (uz (hn p (by simp)))).mp;have e2:tx p.name=p.name.map UInt8.toNat:=(qT (v:=p.name) (w:=p.name) (uz (hn p (by simp)))).mpr rfl;exact (this (by rw[←z,e2])).symm
    · intro z;rw[z]
   rw[e]
 exact this C.pools λp hp=>(o.pools p hp).name
theorem oX {C:Card}(o:cB C){r:Nat}(h1:1<=r)(h2:r<=C.races.length):cO (C.headsOf r):=by
 unfold Card.headsOf;rw[Ly (by omega)];exact o.heads _ (Nf _)
theorem iq {p:Pool}(h:p.kind=.order∨p.kind=.any):p.places=p.k:=by
 unfold Pool.places;rw[Lo];rcases h with h|h <;> rw[h] <;> decide
theorem gW {C:Card}{p:Pool}(h:dX C p)(hk:p.kind≠.legs):fieldsOf C p=List.replicate p.places (C.headsOf p.race):=by
 unfold fieldsOf;rw[Lo hk]
theorem sU {k:Kind}:mostK k<=6:=by cases k <;> decide
theorem kZ {C:Card}{p:Pool}(h:dX C p):1<=p.places:=by
 unfold Pool.places;split
 · exact Lx _
 · have:=h.Jk;have:1<=leastK p.kind:=by cases p.kind <;> decide
   omega
theorem Av {C:Card}{p:Pool}(h:dX C p):p.places<=6:=by
 unfold Pool.places;split
 · decide
 · have:=h.GQ;have:=sU (k:=p.kind);omega
theorem Lc {C:Card}(o:cB C){p:Pool}(h:dX C p):Dg (aD C p):=by
 have hu:=h.unit;by_cases hk:p.kind=.legs
 · have e:(aD C p).fields=((rh C).drop (p.race - 1)).take p.k:=by
    show fieldsOf C p=_;unfold fieldsOf;rw[Lp hk];exact rR C p hk h.DV (h.legs hk)
   have hl:=h.legs hk;have hr:=h.DV;have hlo:=h.Jk;have hm:2<=p.k:=by rw[hk] at hlo;exact hlo
   have hn:(rh C).length=C.races.length:=by unfold rh;rw[Ln]
   have hlen:(aD C p).fields.length=p.k:=by
    rw[e,LM,Mf];omega
   have of:∀fd∈(aD C p).fields,cO fd:=λfd hf=>by
    rw[e] at hf;have:fd∈rh C:=MW (M5 hf);unfold rh at this;obtain⟨r,hr,rfl⟩:=LX.mp this;exact o.heads r hr
   refine⟨λz=>by rw[z] at hlen;simp at hlen;omega,by have:=h.GQ;have:=sU (k:=p.kind);omega,λfd hf x hx=>?_,hu,by have:=h.GQ;have:=sU (k:=p.kind);omega,λz=>(by have z:p.kind=.any:=z;rw[hk] at z;cases z),λfd hf x hx=>(of fd hf).lo x hx,λz=>(by have z:p.kind=.order:=z;rw[hk] at z;cases z),λz=>absurd hk z⟩;exact (of fd hf).hi x hx
 · have e:(aD C p).fields=List.replicate p.places (C.headsOf p.race):=gW h hk;have p1:=kZ h;have p2:=Av h;have of:∀fd∈(aD C p).fields,cO fd:=λfd hf=>by
    rw[e] at hf;rw[Mp hf];exact oX o h.DV h.Kt
   refine⟨λz=>by rw[z] at e;have:=Mu List.length e;simp at this;omega,by rw[e,LY];omega,λfd hf x hx=>?_,hu,by rw[e,LY];omega,λz=>by
    have z:p.kind=.any:=z;rw[e,LY,iq (.inr z)];have:=h.GQ;rw[z] at this;exact this,λfd hf x hx=>(of fd hf).lo x hx,λz=>by
    have z:p.kind=.order:=z;rw[e,LY,iq (.inl z)];have:=h.GQ;rw[z] at this;exact this,λ_ fd hf z=>by
    rw[e] at hf;rw[Mp hf] at z;have f:=h.vw hk;rw[z] at f;have l:=h.Jk;have:1<=leastK p.kind:=by cases p.kind <;> decide
    have f:p.k<=0:=f;omega⟩
   exact (of fd hf).hi x hx
theorem pF {e:Nat}:∀(fs acc:Oa) (l:List Word) (s:Oa) (r:List Word),(∀fd∈fs,∀x∈fd,x<=24)->jo e fs acc l=.ok (s,r)->s.length=acc.length+fs.length/\(∀x∈s,x∈acc∨∃fd∈fs,bL fd x/\x≠[])/\(∀x∈acc,x∈s)/\∀fd∈fs,∃x∈s,bL fd x/\x≠[]
 |[],acc,l,s,r,_,h=>by
  have h:(Except.ok (acc,l):Got)=.ok (s,r):=h;injection h with h;injection h with h1 h2;subst h1;exact⟨rfl,λx hx=>.inl hx,λx hx=>hx,λfd hf=>by cases hf⟩
 |f::fs,acc,l,s,r,hf,h=>by
  have h:(match (if 0 < acc.length then must e "/" l else .ok l) with
   |.error x=>(Except.error x:Got)
   |.ok m=>match setIn e f m with
    |.error x=>.error x
    |.ok s=>jo e fs (acc++[s.1.1]) s.2)=.ok (s,r):=h
  cases hm:(if 0 < acc.length then must e "/" l else .ok l) with
  |error x=>rw[hm] at h;cases h
  |ok m =>
   rw[hm] at h;have h:(match setIn e f m with
    |.error x=>(Except.error x:Got)
    |.ok s=>jo e fs (acc++[s.1.1]) s.2)=.ok (s,r):=h
   have ef:=hf f (by simp);cases hs:setIn e f m with
   |error x=>rw[hs] at h;cases h
   |ok y =>
    rw[hs] at h;obtain⟨g,ne,_⟩:=di ef hs;obtain⟨i1,i2,i3,i4⟩:=pF fs (acc++[y.1.1]) y.2 s r (λfd hfd=>hf fd (by simp[hfd])) h;refine⟨by rw[i1];simp;omega,λx hx=>?_,λx hx=>i3 x (by simp[hx]),λfd hfd=>?_⟩
    · rcases i2 x hx with z|⟨fd,hfd,z⟩
      · rcases Mc.mp z with z|z
        · exact .inl z
        · rw[LC] at z;subst z;exact .inr ⟨f,by simp,g,ne⟩
      · exact .inr ⟨fd,by simp[hfd],z⟩
    · rcases Lr.mp hfd with rfl|hfd
      · exact⟨y.1.1,i3 _ (by simp),g,ne⟩
      · exact i4 fd hfd
theorem Ep {e:Nat}{heads:Ob}(h24:∀x∈heads,x<=24)(fs acc:Oa)(l:List Word)(s:Oa)(r:List Word)(hf:∀fd∈fs,fd=heads)(h:jo e fs acc l=.ok (s,r)):s.length=acc.length+fs.length/\∀x∈s,x∈acc∨bL heads x:=by
 obtain⟨h1,h2,_⟩:=pF fs acc l s r (λfd hfd=>by rw[hf fd hfd];exact h24) h;exact⟨h1,λx hx=>(h2 x hx).imp id λ⟨fd,hfd,g,_⟩=>by rwa [hf fd hfd] at g⟩
theorem yd {e k:Nat}{heads:Ob}(h24:∀x∈heads,x<=24){l r:List Word}{s:Oa}(h:wM e k heads l=.ok (s,r)):∃t,s=[t]/\k<=t.length/\bL heads t:=by
 unfold wM at h;cases hs:setIn e heads l with
 |error x=>rw[hs] at h;cases h
 |ok y =>
  rw[hs] at h;have h:(if k<=y.1.1.length then (Except.ok ([y.1.1],y.2):Got) else .error ⟨4,y.1.2⟩)=.ok (s,r):=h;split at h
  · rename_i hk;injection h with h;injection h with h1 h2;exact⟨_,h1.symm,hk,(di h24 hs).1⟩
  · cases h
theorem yP {e k:Nat}{heads:Ob}(h24:∀x∈heads,x<=24){l r:List Word}{s:Oa}(h:wR e k heads l=.ok (s,r)):∃a b,s=[a,b]/\a.length < k/\(∀x∈b,¬x∈a)/\k<=a.length+b.length/\bL heads a/\bL heads b/\a≠[]:=by
 unfold wR at h;cases hs:setIn e heads l with
 |error x=>rw[hs] at h;cases h
 |ok y =>
  rw[hs] at h;have h:rZ e k heads y.1.1 y.1.2 y.2=.ok (s,r):=h;unfold rZ at h;split at h
  · rename_i hk;cases hm:must e "with" y.2 with
    |error x=>rw[hm] at h;cases h
    |ok m =>
     rw[hm] at h;have h:sA e k heads y.1.1 m=.ok (s,r):=h;unfold sA at h;cases hb:setIn e heads m with
     |error x=>rw[hb] at h;cases h
     |ok z =>
      rw[hb] at h;have h:(if (∀x∈z.1.1,¬x∈y.1.1)/\k<=y.1.1.length+z.1.1.length then (Except.ok ([y.1.1,z.1.1],z.2):Got) else .error ⟨4,z.1.2⟩)=.ok (s,r):=h;split at h
      · rename_i hq;injection h with h;injection h with h1 h2;exact⟨_,_,h1.symm,hk,hq.1,hq.2,(di h24 hs).1,(di h24 hb).1,(di h24 hs).2.1⟩
      · cases h
  · cases h
theorem jE {s:Ob}(h:cC s)(h24:∀x∈s,x<=24):s.length<=25:=by
 have:=h_ (m:=List.range 25) h.nodup λx hx=>Nb.mpr (by have:=h24 x hx;omega);simpa using this
structure C3 (ss:Oa):Prop where
 len:ss.length<=6
 good:∀s∈ss,cC s/\∀x∈s,x<=24
 lo:∀s∈ss,∀x∈s,1<=x
structure ux (kd:Kind)(gs:List (Oa)):Prop where
 ne:gs≠[]
 vw:gs.length<=4096
 ok:∀g∈gs,C3 g
 any:kd=.any->∀g∈gs,g.length<=3
theorem uh {p:aO}(o:Dg p):p.fields.getD 0 []∈p.fields:=by
 have hl:0 < p.fields.length:=Ms.mpr o.ne;have eg:p.fields.getD 0 []=p.fields[0]:=by rw[L7,Ly hl];rfl
 rw[eg];exact Nf hl
theorem sv.all {p:aO}{how:Nat}{sets:Oa}(m:sv p how sets):(∀s∈sets,s≠[]/\∃fd∈p.fields,bL fd s)/\(how=0->sets.length=p.fields.length/\∀fd∈p.fields,fd≠[])/\(how=1->∃t,sets=[t]/\p.fields.length<=t.length)/\(how≠0->how≠1->∃a b,sets=[a,b]/\a.length < p.fields.length/\(∀x∈b,¬x∈a)/\p.fields.length<=a.length+b.length):=by
 obtain⟨e,l,r,hr⟩:=m.read;unfold fz at hr;by_cases h0:how=0
 · rw[Lp h0] at hr;obtain⟨h1,h2,_,h4⟩:=pF _ [] l sets r m.ok.hi hr;refine⟨λs hs=>?_,λ_=>⟨by simpa using h1,λfd hf z=>?_⟩,λz=>by omega,λz=>absurd h0 z⟩
   · obtain⟨fd,hf,g,ne⟩:=(h2 s hs).resolve_left (by simp);exact⟨ne,fd,hf,g⟩
   · obtain⟨s,_,g,ne⟩:=h4 fd hf;obtain⟨x,hx⟩:=List.exists_mem_of_ne_nil s ne;have:=g.sub x hx;rw[z] at this;cases this
 · rw[Lo h0] at hr;have f:=m.ok.hi _ (uh m.ok);by_cases h1:how=1
   · rw[Lp h1] at hr;obtain⟨t,rfl,h2,g⟩:=yd f hr;have pos:0 < p.fields.length:=Ms.mpr m.ok.ne;exact⟨λs hs=>by rw[LC.mp hs];exact⟨λz=>by rw[z] at h2;have h2:p.fields.length<=0:=h2;omega,_,uh m.ok,g⟩,λz=>absurd z h0,λ_=>⟨t,rfl,h2⟩,λ_ z=>absurd h1 z⟩
   · rw[Lo h1] at hr;obtain⟨a,b,rfl,z2,z3,z4,g1,g2,g3⟩:=yP f hr;refine⟨λs hs=>?_,λz=>absurd z h0,λz=>absurd z h1,λ_ _=>⟨a,b,rfl,z2,z3,z4⟩⟩;rcases Lr.mp hs with e|e
     · rw[e];exact⟨g3,_,uh m.ok,g1⟩
     · rw[LC.mp e];exact⟨λz=>by rw[z] at z4;simp at z4;omega,_,uh m.ok,g2⟩
theorem sv.good {p:aO}{how:Nat}{sets:Oa}(m:sv p how sets):∀s∈sets,cC s/\(∀x∈s,x<=24)/\∀x∈s,1<=x:=λs hs=>by
 obtain⟨_,fd,hf,g⟩:=m.all.1 s hs;exact⟨g.rise,λx hx=>m.ok.hi fd hf x (g.sub x hx),λx hx=>m.ok.lo fd hf x (g.sub x hx)⟩
theorem sv.small {p:aO}{how:Nat}{sets:Oa}(m:sv p how sets):sets.length<=6/\∀s∈sets,s.length<=25:=by
 refine⟨?_,λs hs=>jE (m.good s hs).1 (m.good s hs).2.1⟩;have h6:=m.ok.six;obtain⟨_,h0,h1,h2⟩:=m.all;by_cases z0:how=0
 · rw[(h0 z0).1];exact h6
 · by_cases z1:how=1
   · obtain⟨t,rfl,_⟩:=h1 z1;show 1<=6;decide
   · obtain⟨a,b,rfl,_⟩:=h2 z0 z1;show 2<=6;decide
theorem uf {a:Nat}{B:Ob}:∀g:Oa,(jq a B g).length<=g.length
 |[]=>Lx _
 |s::g=>by
  have:=uf (a:=a) (B:=B) g;show ((if s==B then [[a]::g] else [])++(jq a B g).map λr=>s::r).length<=_;rw[LK,Ln,Lz];split
  · show 1+_<=_;omega
  · show 0+_<=_;omega
theorem qj {α β:Type}{f:α->List β}{c:Nat}:∀{l:List α},(∀x∈l,(f x).length<=c)->(l.flatMap f).length<=l.length*c
 |[],_=>LV _
 |x::l,h=>by
  rw[NL,LK,Lz,Nat.succ_mul];have:=h x (by simp);have:=qj (l:=l) λy hy=>h y (by simp[hy]);omega
theorem ni {B:Ob}{k:Nat}:∀{A:Ob} {gs:List (Oa)},(∀g∈gs,g.length=k)->(bH B A gs).length<=gs.length*k ^ A.length
 |[],gs,_=>by simp[bH]
 |a::A,gs,h=>by
  have ih:=ni (B:=B) (A:=A) (gs:=gs.flatMap (jq a B)) (k:=k) λg hg=>by
   obtain⟨g0,h0,hr⟩:=Nv.mp hg;rw[(ou hr).1,h g0 h0]
  have l1:(gs.flatMap (jq a B)).length<=gs.length*k:=qj λg hg=>by rw[←h g hg];exact uf g
  show (bH B A (gs.flatMap (jq a B))).length<=_;rw[Lz,Nu,NH (k ^ A.length) k,←Nat.mul_assoc];exact Ma ih (Nat.mul_le_mul_right _ l1)
theorem DG {t:Ob}{k:Nat}(h6:k<=6)(g:cC t/\(∀x∈t,x<=24)/\∀x∈t,1<=x):C3 (List.replicate k t) :=
 ⟨by rw[LY];exact h6,λs hs=>by rw[Mp hs];exact⟨g.1,g.2.1⟩,λs hs=>by rw[Mp hs];exact g.2.2⟩
theorem ux.bH {kd:Kind}{A B:Ob}{k:Nat}(gA:cC A/\(∀x∈A,x<=24)/\∀x∈A,1<=x)(gB:cC B/\(∀x∈B,x<=24)/\∀x∈B,1<=x)(dis:∀x∈B,¬x∈A)(hA:A.length < k)(h4:k<=4)(h3:kd=.any->k<=3):ux kd (bH B A [List.replicate k B]):=by
 obtain⟨h1,h2⟩:=iQ (B:=B) (k:=k) (A:=A) (had:=[]) (gs:=[List.replicate k B]) (λx hx m=>dis x m (by simpa using hx)) (by simpa using gA.1.nodup) (by simp) (λg hg=>by
  rw[LC] at hg;subst hg;exact⟨by simp,λs hs=>.inl (Mp hs),by simp⟩)
 obtain⟨q,e⟩:=k9 (B:=B) (A:=A) (P:=[]) (j:=k) (rest:=[]) (λx hx m=>dis x m (by simpa using hx)) (by omega);rw[MM,Mi,Mi] at e;rw[Mi] at h2;have len:=ni (B:=B) (A:=A) (k:=k) (gs:=[List.replicate k B]) (λg hg=>by rw[LC.mp hg,LY]);have pw:k ^ A.length<=4 ^ 3:=Ma (Nat.pow_le_pow_left h4 _) (Nq (by decide) (by omega));have is:∀g∈Bw.bH B A [List.replicate k B],∀s∈g,cC s/\(∀x∈s,x<=24)/\∀x∈s,1<=x:=λg hg s hs=>by
  rcases (h2 g hg).are s hs with rfl|⟨a,ha,rfl⟩
  · exact gB
  · exact⟨by simp,λx hx=>by rw[LC.mp hx];exact gA.2.1 a ha,λx hx=>by rw[LC.mp hx];exact gA.2.2 a ha⟩
 refine⟨by rw[e];simp,by rw[MB,Nat.one_mul] at len;omega,λg hg=>⟨by rw[(h2 g hg).len];omega,λs hs=>⟨(is g hg s hs).1,(is g hg s hs).2.1⟩,λs hs=>(is g hg s hs).2.2⟩,λz g hg=>by rw[(h2 g hg).len];exact h3 z⟩
theorem sv.k4 {p:aO}{how:Nat}{sets:Oa}(m:sv p how sets)(h0:how≠0):p.fields.length<=4:=by
 have w:=m.way.resolve_left h0;unfold cQ at w;rw[Mo] at w;rcases w with w|w
 · exact m.ok.J9 (MR w)
 · exact Nat.le_succ_of_le (m.ok.Dv (MR w))
theorem ux.cut {kd:Kind}{gs:List (Oa)}(o:ux kd gs):ux kd (gs.take 1) :=
 ⟨λz=>o.ne (by simpa using z),by have:=o.vw;rw[LM];omega,λg hg=>o.ok g (M5 hg),λz g hg=>o.any z g (M5 hg)⟩
theorem sv.Jx {p:aO}{how:Nat}{sets:Oa}(m:sv p how sets):ux p.kind (jJ p.kind (cI how) p.fields.length sets):=by
 obtain⟨_,h0,h1,h2⟩:=m.all;have good:=m.good;have one:∀{ss:Oa},C3 ss->(p.kind=.any->ss.length<=3)->ux p.kind [ss]:=λo h=>⟨by simp,by show 1<=4096;decide,λg hg=>by rw[LC.mp hg];exact o,λz g hg=>by rw[LC.mp hg];exact h z⟩;unfold cI;by_cases z0:how=0
 · rw[Lp z0];have hl:=(h0 z0).1;exact one ⟨by rw[hl];exact m.ok.six,λs hs=>⟨(good s hs).1,(good s hs).2.1⟩,λs hs=>(good s hs).2.2⟩ λz=>by rw[hl];exact m.ok.Dv z
 · rw[Lo z0];have k4:=m.k4 z0;by_cases z1:how=1
   · rw[Lp z1];obtain⟨t,rfl,_⟩:=h1 z1;exact one (DG m.ok.six (good t (by simp))) λz=>by rw[LY];exact m.ok.Dv z
   · rw[Lo z1];obtain⟨a,b,rfl,q1,q2,q3⟩:=h2 z0 z1;have G:ux p.kind (Bw.bH b a [List.replicate p.fields.length b]):=ux.bH (good a (by simp)) (good b (by simp)) q2 q1 k4 m.ok.Dv;show ux p.kind (if p.kind=.any then (Bw.bH b a [List.replicate p.fields.length b]).take 1 else Bw.bH b a [List.replicate p.fields.length b]);split
     · exact G.cut
     · exact G
theorem sv.JV {p:aO}{how:Nat}{sets:Oa}(m:sv p how sets):∀fd∈p.fields,fd≠[]:=by
 by_cases hk:p.kind=.legs
 · refine (m.all.2.1 (m.way.resolve_right λw=>?_)).2;unfold cQ at w;rw[hk] at w;cases w
 · exact m.ok.JV hk
theorem sv.Lb {p:aO}{how:Nat}{sets:Oa}(m:sv p how sets):∀g∈jJ p.kind (cI how) p.fields.length sets,g≠[]/\∀s∈g,s≠[]:=by
 obtain⟨ha,h0,h1,h2⟩:=m.all;have pos:0 < p.fields.length:=Ms.mpr m.ok.ne;unfold cI;intro g hg;by_cases z0:how=0
 · rw[Lp z0] at hg;have e:g=sets:=LC.mp hg;subst e;exact⟨λz=>by have:=(h0 z0).1;rw[z] at this;simp at this;omega,λs hs=>(ha s hs).1⟩
 · rw[Lo z0] at hg;by_cases z1:how=1
   · rw[Lp z1] at hg;obtain⟨t,rfl,_⟩:=h1 z1;have e:g=List.replicate p.fields.length t:=LC.mp hg;subst e;exact⟨λz=>by have:=Mu List.length z;rw[LY] at this;have:p.fields.length=0:=this;omega,λs hs=>by rw[Mp hs];exact (ha t (by simp)).1⟩
   · rw[Lo z1] at hg;obtain⟨a,b,rfl,q1,q2,q3⟩:=h2 z0 z1;have hg:g∈Bw.bH b a [List.replicate p.fields.length b]:=by
      have hg:g∈(if p.kind=.any then (Bw.bH b a [List.replicate p.fields.length b]).take 1 else Bw.bH b a [List.replicate p.fields.length b]):=hg;split at hg
      · exact M5 hg
      · exact hg
     have G:=(iQ (B:=b) (k:=p.fields.length) (A:=a) (had:=[]) (gs:=[List.replicate p.fields.length b]) (λx hx m=>q2 x m (by simpa using hx)) (by simpa using (m.good a (by simp)).1.nodup) (by simp) (λg hg=>by
      rw[LC] at hg;subst hg;exact⟨by simp,λs hs=>.inl (Mp hs),by simp⟩)).2 g hg
     refine⟨λz=>by have:=G.len;rw[z] at this;simp at this;omega,λs hs=>?_⟩;rcases G.are s hs with rfl|⟨x,_,rfl⟩
     · exact (ha s (by simp)).1
     · simp
theorem BR {h:Nat}:cI h=.box↔h=1:=by
 unfold cI;by_cases h0:h=0
 · rw[Lp h0];constructor
   · intro z;cases z
   · intro z;omega
 · rw[Lo h0];by_cases h1:h=1
   · rw[Lp h1];simp[h1]
   · rw[Lo h1];constructor
     · intro z;cases z
     · intro z;exact absurd z h1
theorem vk {h:Nat}:cI h=.on↔h=0:=by
 unfold cI;by_cases h0:h=0
 · rw[Lp h0];simp[h0]
 · rw[Lo h0];by_cases h1:h=1
   · rw[Lp h1];constructor
     · intro z;cases z
     · intro z;omega
   · rw[Lo h1];constructor
     · intro z;cases z
     · intro z;exact absurd z h0
theorem AB {h:Nat}:cI h=.key↔h≠0/\h≠1:=by
 unfold cI;by_cases h0:h=0
 · rw[Lp h0];constructor
   · intro z;cases z
   · intro z;exact absurd h0 z.1
 · rw[Lo h0];by_cases h1:h=1
   · rw[Lp h1];constructor
     · intro z;cases z
     · intro z;exact absurd h1 z.2
   · rw[Lo h1];simp[h0,h1]
theorem j8 {C:Card}{p:Pool}:cQ (aD C p)=true↔p.kind=.order∨p.kind=.any:=by
 show (p.kind==.order||p.kind==.any)=true↔_;cases p.kind <;> decide
theorem uX {α:Type}{n:Nat}{x d:α}(h:1<=n):(List.replicate n x).getD 0 d=x:=by
 cases n with
 |zero=>omega
 |succ n=>rfl
theorem Co {C:Card}(o:cB C){i:Nat}{p:Pool}(hi:C.pool i=p)(hP:dX C p){how stake e:Nat}{l r:List Word}{sets:Oa}(way:how=0∨cQ (aD C p)=true)(h:fz e (aD C p) how l=.ok (sets,r)):yS C ⟨i,cI how,sets,stake⟩ p:=by
 have nm:p.kind≠.legs->fieldsOf C p=List.replicate p.places (C.headsOf p.race):=gW hP;have gh:=oX o hP.DV hP.Kt;unfold fz at h;have hk0:p.kind=.place∨p.kind=.legs->how=0:=λz=>by
  rcases way with w|w
  · exact w
  · rw[j8] at w;rcases z with z|z <;> rcases w with w|w <;> rw[z] at w <;> cases w
 have fld0:how≠0->(aD C p).fields.getD 0 []=C.headsOf p.race/\(aD C p).fields.length=p.k:=λhn=>by
  have w:p.kind=.order∨p.kind=.any:=by
   rcases way with w|w
   · exact absurd w hn
   · exact j8.mp w
  have hl:p.kind≠.legs:=by rcases w with w|w <;> rw[w] <;> decide
  have e:(aD C p).fields=List.replicate p.places (C.headsOf p.race):=nm hl;rw[e,LY];exact⟨uX (kZ hP),iq w⟩
 have onOk:how=0->p.kind≠.legs->sets.length=p.places/\∀s∈sets,bL (C.headsOf p.race) s:=λhz hl=>by
  rw[Lp hz] at h;have e:(aD C p).fields=List.replicate p.places (C.headsOf p.race):=nm hl;rw[e] at h;obtain⟨h1,h2⟩:=Ep gh.hi _ [] l sets r (λfd hf=>Mp hf) h;rw[LY] at h1;exact⟨by simpa using h1,λs hs=>(h2 s hs).resolve_left (by simp)⟩
 have boxOk:how=1->∃t,sets=[t]/\p.k<=t.length/\bL (C.headsOf p.race) t:=λhz=>by
  obtain⟨f1,f2⟩:=fld0 (by omega);rw[Lo (by omega),Lp hz,f1,f2] at h;exact yd gh.hi h
 have keyOk:how≠0->how≠1->∃a b,sets=[a,b]/\a.length < p.k/\(∀x∈b,¬x∈a)/\p.k<=a.length+b.length/\bL (C.headsOf p.race) a/\bL (C.headsOf p.race) b:=λh0 h1=>by
  obtain⟨f1,f2⟩:=fld0 h0;rw[Lo h0,Lo h1,f1,f2] at h;obtain⟨a,b,z1,z2,z3,z4,z5,z6,_⟩:=yP gh.hi h;exact⟨a,b,z1,z2,z3,z4,z5,z6⟩
 refine⟨hi,λ_=>gh,λh1 h2=>?_,λh1 s hs=>?_,λh1=>?_,λh1=>vk.mpr (hk0 (.inr h1)),λh1 h2 h3=>?_,λh1=>?_,λh1=>?_⟩
 · refine⟨?_,hP.GQ⟩;have:=hP.Jk;have e2:leastK p.kind=2:=by
    cases hk:p.kind with
    |place=>exact absurd hk h2
    |order=>rfl
    |any=>rfl
    |legs=>exact absurd hk h1
   omega
 · by_cases z0:how=0
   · exact (onOk z0 h1).2 s hs
   · by_cases z1:how=1
     · obtain⟨t,e,_,g⟩:=boxOk z1;have hs:s∈sets:=hs;rw[e,LC] at hs;subst hs;exact g
     · obtain⟨a,b,e,_,_,_,g1,g2⟩:=keyOk z0 z1;have hs:s∈sets:=hs;rw[e] at hs;rcases Lr.mp hs with rfl|hs
       · exact g1
       · rw[LC] at hs;subst hs;exact g2
 · have z0:=hk0 (.inl h1);refine⟨vk.mpr z0,?_⟩;have:=(onOk z0 (by rw[h1];decide)).1;rw[show p.places=1 by unfold Pool.places;rw[Lp h1]] at this;exact this
 · have z0:=vk.mp h3;have:=(onOk z0 h1).1;rw[show p.places=p.k by unfold Pool.places;rw[Lo h2]] at this;exact this
 · obtain⟨t,e,hk,_⟩:=boxOk (BR.mp h1);exact⟨t,e,hk⟩
 · obtain⟨z0,z1⟩:=AB.mp h1;obtain⟨a,b,e,h2,h3,h4,_⟩:=keyOk z0 z1;exact⟨a,b,e,h2,h3,h4⟩
theorem E3 {C:Card}(o:cB C){i:Nat}{p:Pool}(hi:C.pool i=p)(hP:dX C p){how stake e:Nat}{l r:List Word}{sets:Oa}(way:how=0∨cQ (aD C p)=true)(h:fz e (aD C p) how l=.ok (sets,r)) :
  countM p.kind (cI how) (aD C p).fields.length sets=C.manyOf ⟨i,cI how,sets,stake⟩:=by
 rw[sN (Co o hi hP way h)];show _=countM p.kind (cI how) p.k sets;by_cases h0:how=0
 · rw[vk.mpr h0];rfl
 · have w:p.kind=.order∨p.kind=.any:=by
    rcases way with w|w
    · exact absurd w h0
    · exact j8.mp w
   have hl:p.kind≠.legs:=by rcases w with w|w <;> rw[w] <;> decide
   have e:(aD C p).fields=List.replicate p.places (C.headsOf p.race):=gW hP hl;rw[e,LY,iq w]
def xh (h:How):Nat:=match h with
 |.on=>0
 |.box=>1
 |.key=>2
theorem DQ {h:Nat}(h2:h<=2):xh (cI h)=h:=by
 have:h=0∨h=1∨h=2:=by omega
 rcases this with rfl|rfl|rfl <;> rfl
def tf (x:Except Fault Bet):Except Fault bM:=match x with
 |.error t=>.error t
 |.ok b=>.ok ⟨b.pool,xh b.how,b.stake,b.sets⟩
def jk (C:Card)(hp sp:Nat)(b:Bet):Except Fault Bet:=holds (decide (0 < C.manyOf b)) 6 hp >>= λ_=>holds (decide (b.stake*C.manyOf b<=COST)) 7 sp >>= λ_=>pure b
theorem Ej {C:Card}{i how stake hp sp:Nat}{p:Pool}{sets:Oa}(h2:how<=2)(hm:countM p.kind (cI how) (aD C p).fields.length sets=C.manyOf ⟨i,cI how,sets,stake⟩) :
  HU i how stake hp sp (aD C p) sets=tf (jk C hp sp ⟨i,cI how,sets,stake⟩):=by
 have hm:countM (aD C p).kind (cI how) (aD C p).fields.length sets=C.manyOf ⟨i,cI how,sets,stake⟩:=hm;unfold HU jk;rw[hm];generalize C.manyOf ⟨i,cI how,sets,stake⟩=m;by_cases h0:m=0
 · rw[Lp h0];unfold holds;rw[Lo (by simp[h0])];rfl
 · rw[Lo h0];unfold holds;rw[Lp (show decide (0 < m)=true from L4 (by omega))];by_cases h1:2147483647 < stake*m
   · rw[Lp h1];show _=tf ((if decide (stake*m<=COST)=true then Except.ok () else .error ⟨7,sp⟩) >>= λ_=>pure _);rw[Lo (by rw[Lw];unfold COST;omega)];rfl
   · rw[Lo h1];show _=tf ((if decide (stake*m<=COST)=true then Except.ok () else .error ⟨7,sp⟩) >>= λ_=>pure _);rw[Lp (by rw[Lw];unfold COST;omega)];show _=Except.ok (⟨i,xh (cI how),stake,sets⟩:bM);rw[DQ h2]
def rf (C:Card)(e i:Nat)(p:Pool)(stake sp:Nat)(l:List Word):Except Fault Bet:=next e l >>= λw =>
 if w.1.w=ascii "on" then (setsIn e (if p.kind=.legs then C.sets p else List.replicate p.places (C.headsOf p.race)) w.2).map (λ(q:Oa)=>(⟨i,.on,q,stake⟩:Bet)) >>= λb=>jk C w.1.at_ sp b
 else if w.1.w=ascii "box"/\(p.kind==.order||p.kind==.any)=true then (boxIn e p (C.headsOf p.race) w.2).map (λ(q:Oa)=>(⟨i,.box,q,stake⟩:Bet)) >>= λb=>jk C w.1.at_ sp b
 else if w.1.w=ascii "key"/\(p.kind==.order||p.kind==.any)=true then (keyIn e p (C.headsOf p.race) w.2).map (λ(q:Oa)=>(⟨i,.key,q,stake⟩:Bet)) >>= λb=>jk C w.1.at_ sp b
 else (.error ⟨3,w.1.at_⟩:Except Fault Bet) >>= λb=>jk C w.1.at_ sp b
theorem pY {C:Card}(o:cB C){i:Nat}{p:Pool}(hi:C.pool i=p)(hP:dX C p){e how stake hp sp:Nat}(h2:how<=2)(way:how=0∨cQ (aD C p)=true){r:List Word}{x:Except Fault (Oa)}(hx:x=iR (fz e (aD C p) how r)) :
  xX e i how stake hp sp (aD C p) (fz e (aD C p) how r)=tf ((x.map λ(q:Oa)=>(⟨i,cI how,q,stake⟩:Bet)) >>= λb=>jk C hp sp b):=by
 subst hx;unfold xX;cases hs:fz e (aD C p) how r with
 |error t=>rfl
 |ok y =>
  obtain⟨sets,r'⟩:=y;cases r' with
  |nil =>
   show HU i how stake hp sp (aD C p) sets=tf (jk C hp sp ⟨i,cI how,sets,stake⟩);exact Ej h2 (E3 o hi hP way hs)
  |cons w r'=>rfl
theorem CA {C:Card}(o:cB C){i:Nat}{p:Pool}(hi:C.pool i=p)(hP:dX C p){e stake sp:Nat}{l:List Word}:JH e i (aD C p) stake sp l=tf (rf C e i p stake sp l):=by
 cases l with
 |nil=>rfl
 |cons w r =>
  show (match ji (aD C p) w.w with
   |none=>(Except.error ⟨3,w.at_⟩:Except Fault bM)
   |some how=>xX e i how stake w.at_ sp (aD C p) (fz e (aD C p) how r))=tf (if w.w=ascii "on" then (setsIn e (if p.kind=.legs then C.sets p else List.replicate p.places (C.headsOf p.race)) r).map (λ(q:Oa)=>(⟨i,.on,q,stake⟩:Bet)) >>= λb=>jk C w.at_ sp b
   else if w.w=ascii "box"/\cQ (aD C p)=true then (boxIn e p (C.headsOf p.race) r).map (λ(q:Oa)=>(⟨i,.box,q,stake⟩:Bet)) >>= λb=>jk C w.at_ sp b
   else if w.w=ascii "key"/\cQ (aD C p)=true then (keyIn e p (C.headsOf p.race) r).map (λ(q:Oa)=>(⟨i,.key,q,stake⟩:Bet)) >>= λb=>jk C w.at_ sp b
   else (.error ⟨3,w.at_⟩:Except Fault Bet) >>= λb=>jk C w.at_ sp b)
  have fld:cQ (aD C p)=true->(aD C p).fields.getD 0 []=C.headsOf p.race/\(aD C p).fields.length=p.k:=λhw=>by
   have w:=j8.mp hw;have hl:p.kind≠.legs:=by rcases w with w|w <;> rw[w] <;> decide
   have e:(aD C p).fields=List.replicate p.places (C.headsOf p.race):=gW hP hl;rw[e,LY];exact⟨uX (kZ hP),iq w⟩
  unfold ji;by_cases c0:w.w=ascii "on"
  · rw[Lp c0,Lp c0];refine pY o hi hP (by decide) (.inl rfl) ?_;rw[Ik];rfl
  · rw[Lo c0,Lo c0];by_cases c1:w.w=ascii "box"/\cQ (aD C p)=true
    · rw[Lp c1,Lp c1];refine pY (how:=1) o hi hP (by decide) (.inr c1.2) ?_;obtain⟨f1,f2⟩:=fld c1.2;rw[Ha];unfold fz;rw[Lo (by decide),Lp rfl,f1,f2]
    · rw[Lo c1,Lo c1];by_cases c2:w.w=ascii "key"/\cQ (aD C p)=true
      · rw[Lp c2,Lp c2];refine pY (how:=2) o hi hP (by decide) (.inr c2.2) ?_;obtain⟨f1,f2⟩:=fld c2.2;rw[GL];unfold fz;rw[Lo (by decide),Lo (by decide),f1,f2]
      · rw[Lo c2,Lo c2];rfl
def tail3 (C:Card)(e i:Nat)(p:Pool)(l:List Word):Except Fault Bet:=must e "for" l >>= λm=>number e 1 STAKE m >>= λs=>holds (s.1.1 % p.unit==0) 4 s.1.2 >>= λ_=>rf C e i p s.1.1 s.1.2 s.2
theorem zo {u:Nat}(hu:1<=u){v:Bytes}:eG u (tx v)↔∃n,numberOf v=some n/\1<=n/\n<=1000000/\n % u=0/\(ay (tx v)).toNat=n:=by
 unfold eG;constructor
 · rintro⟨h1,h2,h3⟩;obtain⟨n,e,a,b,c⟩:=(eV (w:=v) (lo:=1) (hi:=1000000) (by decide)).mp ⟨h1,h2⟩;refine⟨n,e,a,b,?_,by omega⟩;rw[c] at h3;have:((n % u:Nat):Int)=0:=by rw[Int.natCast_emod];exact h3
   omega
 · rintro⟨n,e,a,b,c,d⟩;obtain⟨h1,h2⟩:=(eV (w:=v) (lo:=1) (hi:=1000000) (by decide)).mpr ⟨n,e,a,b,by rw[(dZ (w:=v) (m:=n) (by omega)).mpr e]⟩;refine⟨h1,h2,?_⟩;rw[(dZ (w:=v) (m:=n) (by omega)).mpr e,←Int.natCast_emod,c];rfl
theorem Ce {C:Card}(o:cB C){i:Nat}{p:Pool}(hi:C.pool i=p)(hP:dX C p){e:Nat}{l:List Word}:Cw e i (aD C p) l=tf (tail3 C e i p l):=by
 unfold Cw tail3;cases hm:must e "for" l with
 |error t=>rfl
 |ok m =>
  show IE e i (aD C p) m=tf (number e 1 STAKE m >>= λs=>holds (s.1.1 % p.unit==0) 4 s.1.2 >>= λ_=>rf C e i p s.1.1 s.1.2 s.2);cases m with
  |nil=>rfl
  |cons w r =>
   show (if eG p.unit (tx w.w) then JH e i (aD C p) (ay (tx w.w)).toNat w.at_ r else .error ⟨4,w.at_⟩)=tf ((match numberOf w.w with
    |none=>.error ⟨4,w.at_⟩
    |some n=>if n < 1∨STAKE < n then .error ⟨4,w.at_⟩ else pure ((n,w.at_),r)) >>= λs=>holds (s.1.1 % p.unit==0) 4 s.1.2 >>= λ_=>rf C e i p s.1.1 s.1.2 s.2)
   have key:=zo hP.unit (v:=w.w);cases hn:numberOf w.w with
   |none =>
    rw[Lo (λz=>by obtain⟨n,e,_⟩:=key.mp z;rw[hn] at e;cases e)];rfl
   |some n =>
    show _=tf ((if n < 1∨STAKE < n then .error ⟨4,w.at_⟩ else pure ((n,w.at_),r)) >>= λs=>holds (s.1.1 % p.unit==0) 4 s.1.2 >>= λ_=>rf C e i p s.1.1 s.1.2 s.2);by_cases c:n < 1∨STAKE < n
    · rw[Lp c,Lo (λz=>by
       obtain⟨n',e,a,b,_⟩:=key.mp z;rw[hn] at e;injection e with e;unfold STAKE at c;omega)]
      rfl
    · rw[Lo c];show _=tf (holds (n % p.unit==0) 4 w.at_ >>= λ_=>rf C e i p n w.at_ r);unfold holds;by_cases d:n % p.unit=0
      · have hs:eG p.unit (tx w.w):=key.mpr ⟨n,hn,by omega,by unfold STAKE at c;omega,d,by
         rw[(dZ (w:=w.w) (m:=n) (by unfold STAKE at c;omega)).mpr hn];rfl⟩
        rw[Lp hs,Lp (by rw[d];rfl)];have en:(ay (tx w.w)).toNat=n:=by rw[(dZ (w:=w.w) (m:=n) (by unfold STAKE at c;omega)).mpr hn];rfl
        rw[en];exact CA o hi hP
      · rw[Lo (λz=>by
         obtain⟨n',e,_,_,h,_⟩:=key.mp z;rw[hn] at e;injection e with e;subst e;exact d h),Lo (by simpa using d)]
        rfl
theorem A6 {C:Card}(o:cB C){e:Nat}{l:List Word}:CI e (C.pools.map (aD C)) l=tf (C.betIn ⟨l,e⟩):=by
 have eb:C.betIn ⟨l,e⟩=(must e "bet" l >>= λm=>next e m >>= λn=>match C.pools.findIdx? λ(p:Pool)=>p.name==n.1.w with
  |none=>.error ⟨5,n.1.at_⟩
  |some i=>tail3 C e i (C.pool i) n.2):=rfl
 rw[eb];unfold CI;cases hm:must e "bet" l with
 |error t=>rfl
 |ok m =>
  show Jd e (C.pools.map (aD C)) m=tf (next e m >>= λn=>match C.pools.findIdx? λ(p:Pool)=>p.name==n.1.w with
   |none=>.error ⟨5,n.1.at_⟩
   |some i=>tail3 C e i (C.pool i) n.2)
  cases m with
  |nil=>rfl
  |cons n r =>
   show (match dQ (C.pools.map (aD C)) (tx n.w) with
    |none=>(Except.error ⟨5,n.at_⟩:Except Fault bM)
    |some i=>match (C.pools.map (aD C))[i]? with
     |none=>.error ⟨5,n.at_⟩
     |some p=>Cw e i p r)=tf (match C.pools.findIdx? λ(p:Pool)=>p.name==n.w with
    |none=>.error ⟨5,n.at_⟩
    |some i=>tail3 C e i (C.pool i) r)
   rw[E4 o];cases hf:C.pools.findIdx? λ(p:Pool)=>p.name==n.w with
   |none=>rfl
   |some i =>
    have hil:i < C.pools.length:=by
     rw[NG] at hf;exact hf.1
    have hg:(C.pools.map (aD C))[i]?=some (aD C C.pools[i]):=by rw[Ls,Ly hil];rfl
    have hp:C.pool i=C.pools[i]:=by unfold Card.pool;rw[Ly hil];rfl
    show (match (C.pools.map (aD C))[i]? with
     |none=>(Except.error ⟨5,n.at_⟩:Except Fault bM)
     |some p=>Cw e i p r)=tf (tail3 C e i (C.pool i) r)
    rw[hg];show Cw e i (aD C C.pools[i]) r=_;rw[Ce o hp (o.pools _ (Nf hil)),hp]
def de (ps:List aO)(b:Bytes):Except Fault bM:=match upTo b with
 |none=>.error ⟨1,b.length⟩
 |some (l,r)=>match badByte true 0 l with
  |some i=>.error ⟨2,i⟩
  |none=>match CI l.length ps (wordsFrom 0 [] l) with
   |.error t=>.error t
   |.ok x=>if r=[] then .ok x else .error ⟨8,l.length+1⟩
def Ft (ps:List aO)(l r:Bytes):Except Fault bM:=match badByte true 0 l with
  |some i=>.error ⟨2,i⟩
  |none=>match CI l.length ps (wordsFrom 0 [] l) with
   |.error t=>.error t
   |.ok x=>if r=[] then .ok x else .error ⟨8,l.length+1⟩
theorem wQ {ps:List aO}{b:Bytes}(h:upTo b=none):de ps b=.error ⟨1,b.length⟩:=by
 unfold de;rw[h]
theorem xE {ps:List aO}{b l r:Bytes}(h:upTo b=some (l,r)):de ps b=Ft ps l r:=by
 unfold de;rw[h];rfl
def fL (t b:Bytes):Except (List Int) bM:=if 65536 < t.length∨4096 < b.length then .error [-2] else match dE (tx t) with
 |none=>.error [-8]
 |some ps=>match de ps b with
  |.error f=>.error [-6,(f.kind:Nat),(f.place:Nat)]
  |.ok y=>.ok y
theorem DO {C:Card}(o:cB C)(b:Bytes):de (C.pools.map (aD C)) b=tf (C.readBet b):=by
 unfold de Card.readBet;cases upTo b with
 |none=>rfl
 |some x =>
  obtain⟨l,r⟩:=x;show (match badByte true 0 l with
   |some i=>(Except.error ⟨2,i⟩:Except Fault bM)
   |none=>match CI l.length (C.pools.map (aD C)) (wordsFrom 0 [] l) with
    |.error t=>.error t
    |.ok x=>if r=[] then .ok x else .error ⟨8,l.length+1⟩)=tf (match badByte true 0 l with
   |some i=>.error ⟨2,i⟩
   |none=>match C.betIn ⟨wordsFrom 0 [] l,l.length⟩ with
    |.error e=>.error e
    |.ok x=>if r.isEmpty=true then .ok x else .error ⟨8,l.length+1⟩)
  cases badByte true 0 l with
  |some i=>rfl
  |none =>
   show (match CI l.length (C.pools.map (aD C)) (wordsFrom 0 [] l) with
    |.error t=>(Except.error t:Except Fault bM)
    |.ok x=>if r=[] then .ok x else .error ⟨8,l.length+1⟩)=tf (match C.betIn ⟨wordsFrom 0 [] l,l.length⟩ with
    |.error e=>.error e
    |.ok x=>if r.isEmpty=true then .ok x else .error ⟨8,l.length+1⟩)
   rw[A6 o];cases C.betIn ⟨wordsFrom 0 [] l,l.length⟩ with
   |error t=>rfl
   |ok x =>
    cases r with
    |nil=>rfl
    |cons c r=>rfl
theorem A9 (t:Bytes)(ps:List aO)(h:dE (tx t)=some ps):∀p∈ps,Dg p:=by
 cases hc:readCard t with
 |error e=>rw[(lL t).2 e hc] at h;cases h
 |ok C =>
  obtain⟨o,_,h2⟩:=(lL t).1 C hc;rw[h2] at h;injection h with h;subst h;intro p hp;obtain⟨q,hq,rfl⟩:=LX.mp hp;exact Lc o (o.pools q hq)
def DU (a:Ans):List Int:=a.code::a.nums
theorem Dq (t b:Bytes):(∃z:Int,fL t b=.error [z]/\∀G,ToteBetCalls.ofBet t b G=says z)∨(∃k p:Int,fL t b=.error [-6,k,p]/\∀G,ToteBetCalls.ofBet t b G=says (-6)) ∨
  ∃(C:Card) (x:Bet),cB C/\dE (tx t)=some (C.pools.map (aD C))/\fL t b=.ok ⟨x.pool,xh x.how,x.stake,x.sets⟩/\∀G,ToteBetCalls.ofBet t b G=G C x:=by
 by_cases hb:4096 < b.length
 · left;refine⟨-2,?_,λG=>Lp (show ToteBetCalls.LOOKED < b.length from hb)⟩;unfold fL;exact Lp (.inr hb)
 have eO:∀G,ToteBetCalls.ofBet t b G=ofCard t λC=>match C.readBet b with
  |.error _=>says (-6)
  |.ok x=>G C x:=λG=>Lo (show ¬ToteBetCalls.LOOKED < b.length from hb)
 by_cases ht:65536 < t.length
 · left;refine⟨-2,?_,λG=>(eO G).trans (Lp (show TEXT < t.length from ht))⟩;unfold fL;exact Lp (.inl ht)
 have eL:fL t b=match dE (tx t) with
  |none=>.error [-8]
  |some ps=>match de ps b with
   |.error f=>.error [-6,(f.kind:Nat),(f.place:Nat)]
   |.ok y=>.ok y:=by
  unfold fL;exact Lo (by omega)
 have eC:∀G,ToteBetCalls.ofBet t b G=match readCard t with
  |.error _=>says (-8)
  |.ok C=>match C.readBet b with
   |.error _=>says (-6)
   |.ok x=>G C x:=λG=>(eO G).trans (Lo (show ¬TEXT < t.length from ht))
 cases hc:readCard t with
 |error e =>
  left;refine⟨-8,?_,λG=>?_⟩
  · rw[eL,(lL t).2 e hc]
  · rw[eC,hc]
 |ok C =>
  right;obtain⟨o,_,h2⟩:=(lL t).1 C hc;have eR:fL t b=match de (C.pools.map (aD C)) b with
   |.error f=>.error [-6,(f.kind:Nat),(f.place:Nat)]
   |.ok y=>.ok y:=by rw[eL,h2]
  rw[DO o] at eR;cases hr:C.readBet b with
  |error e =>
   left;rw[hr] at eR;exact⟨(e.kind:Nat),(e.place:Nat),eR,λG=>by rw[eC,hc];show (match C.readBet b with|.error _=>_|.ok x=>_)=_;rw[hr]⟩
  |ok x =>
   right;rw[hr] at eR;exact⟨C,x,o,h2,eR,λG=>by rw[eC,hc];show (match C.readBet b with|.error _=>_|.ok x=>_)=_;rw[hr]⟩
def Rs (t b:Bytes)(g:bM->aO->List Int)(zs:List Int):Prop :=
 (∃xs,fL t b=.error xs/\zs=xs.take 1)∨∃y ps p,fL t b=.ok y/\dE (tx t)=some ps/\ps[y.pool]?=some p/\sv p y.how y.sets/\zs=g y p
theorem Cf {t b:Bytes}{g:bM->aO->List Int}{G:Card->Bet->Ans}{zs:List Int}(h:Rs t b g zs)
  (hg:∀(C:Card) (x:Bet),cB C->∀p∈C.pools,C.pool x.pool=p->sv (aD C p) (xh x.how) x.sets->g ⟨x.pool,xh x.how,x.stake,x.sets⟩ (aD C p)=DU (G C x)):zs=DU (ToteBetCalls.ofBet t b G):=by
 rcases Dq t b with ⟨z,h1,h2⟩|⟨k,p,h1,h2⟩|⟨C,x,o,h0,h1,h2⟩
 · rw[h2];rcases h with ⟨xs,e,rfl⟩|⟨y,ps,p,e,_⟩
   · rw[h1] at e;cases e;rfl
   · rw[h1] at e;cases e
 · rw[h2];rcases h with ⟨xs,e,rfl⟩|⟨y,ps,p,e,_⟩
   · rw[h1] at e;cases e;rfl
   · rw[h1] at e;cases e
 · rw[h2];rcases h with ⟨xs,e,rfl⟩|⟨y,ps,p,e,e1,e2,m,rfl⟩
   · rw[h1] at e;cases e
   · rw[h1] at e;cases e;rw[h0] at e1;cases e1;rw[Ls] at e2;obtain⟨q,hq,rfl⟩:=LZ.mp e2;exact hg C x o q (LR hq) (by unfold Card.pool;rw[hq];rfl) m
def qr (y:bM)(_:aO):List Int:=([0,((y.pool:Nat):Int),((y.how:Nat):Int),((y.stake:Nat):Int),((y.sets.length:Nat):Int)]:List Int)++y.sets.flatMap λs=>((s.length:Nat):Int)::s.map λ(n:Nat)=>(n:Int)
theorem zh {t b:Bytes}{zs:List Int}(h:Rs t b qr zs):zs=DU (ToteBetCalls.answer (.means t b)):=by
 refine Cf h λC x o p hp hi m=>?_;unfold qr DU tells ToteBetCalls.betNums;have e:xh x.how=ToteBetCalls.howNo x.how:=by cases x.how <;> rfl
 simp only[e,LH,List.map_flatMap,LF,MM,Nw,Mi]
theorem q_ (x:Nat):∀(ss:Oa) (b:Nat) (s:Ob),bitsOf x b (ss++[s])=bitsOf x b ss++(if s.contains x=true then [b*2 ^ ss.length] else [])
 |[],b,s=>by
  show (if s.contains x=true then [b] else [])++[]=[]++(if s.contains x=true then [b*2 ^ 0] else []);simp
 |t::ss,b,s=>by
  show (if t.contains x=true then [b] else [])++bitsOf x (2*b) (ss++[s])=((if t.contains x=true then [b] else [])++bitsOf x (2*b) ss)++_;rw[q_ x ss (2*b) s,MQ];have e:2*b*2 ^ ss.length=b*2 ^ (t::ss).length:=by
   rw[Lz,Nu,NH 2 b,Nat.mul_assoc,NH 2]
  rw[e]
theorem vE (x:Nat):∀(ss:Oa) (b:Nat),∀c∈bitsOf x b ss,∃p,p < ss.length/\c=b*2 ^ p
 |[],b,c,h=>by cases h
 |t::ss,b,c,h=>by
  have h:c∈(if t.contains x=true then [b] else [])++bitsOf x (2*b) ss:=h;rcases Mc.mp h with h|h
  · split at h
    · rw[LC] at h;exact⟨0,by simp,by simp[h]⟩
    · cases h
  · obtain⟨p,h1,h2⟩:=vE x ss (2*b) c h;exact⟨p+1,by simp;omega,by rw[h2,Nu,NH 2 b,Nat.mul_assoc,NH 2]⟩
theorem oP (x:Nat):∀(ss:Oa) (b:Nat),(bitsOf x b ss).length<=ss.length
 |[],b=>Lx _
 |t::ss,b=>by
  show ((if t.contains x=true then [b] else [])++bitsOf x (2*b) ss).length<=_;rw[LK,Lz];have:=oP x ss (2*b);split
  · simp;omega
  · simp;omega
theorem DD {m p:Nat}:(m &&& 2 ^ p≠0)↔bD m (2 ^ p)=true:=by
 unfold bD;have e:(m / 2 ^ p % 2==1)=m.testBit p:=by
  rw[Nat.testBit_eq_decide_div_mod_eq,L3,Md,Lw]
 rw[e];constructor
 · intro h;cases ht:m.testBit p with
   |true=>rfl
   |false =>
    refine absurd (Nat.eq_of_testBit_eq λi=>?_) h;rw[Nat.testBit_and,Nat.testBit_two_pow,Nat.zero_testBit];by_cases c:p=i
    · subst c;rw[ht];rfl
    · rw[Mb c,Bool.and_false]
 · intro h z;have:=Mu (λn=>Nat.testBit n p) z;simp only[Nat.testBit_and,Nat.testBit_two_pow,Nat.zero_testBit,h] at this;simp at this
theorem GX {m b:Nat}(h:bD m b=true)(hb:0 < b):b<=m:=by
 unfold bD at h;rw[Md] at h;by_cases z:b<=m
 · exact z
 · rw[Nat.div_eq_of_lt (by omega)] at h;cases h
theorem AR:∀(ss:Oa) (m:Nat),1<=m->m < 2 ^ ss.length->sel m ss≠[]
 |[],m,h1,h2=>by simp at h2;omega
 |s::ss,m,h1,h2=>by
  rw[qt];by_cases h:m % 2=1
  · rw[Lp h];simp
  · rw[Lo h];have:=AR ss (m / 2) (by omega) (by rw[Lz,Nu] at h2;omega);simpa using this
def pB (x:Nat)(z:Nat):Bool:=decide (1<=z)&&decide (z < x)
theorem El {x:Nat}(hx:1<=x):(λz=>pB x z||z==x)=pB (x+1):=by
 funext z;unfold pB;rw[L3];simp;omega
theorem JO (x:Nat):pB x x=false:=by unfold pB;simp
theorem Gg:pB 1=λ_=>false:=by
 funext z;unfold pB;rw[Bool.eq_false_iff];simp;omega
theorem Hl:pB 25=k6:=by
 funext z;unfold pB k6;rw[L3];simp;omega
def cE (ss:Oa)(x m:Nat):Nat:=dg (sel m ss) (pB x)
theorem o_ (ss:Oa)(x:Nat):cE ss x 0=1:=by
 unfold cE;rw[uB];rfl
theorem Dc {ss:Oa}{m:Nat}(h1:1<=m)(h2:m < 2 ^ ss.length):cE ss 1 m=0:=by
 unfold cE;rw[Gg];have:=AR ss m h1 h2;cases hs:sel m ss with
 |nil=>exact absurd hs this
 |cons s r =>
  unfold dg;have e:s.filter (λ_=>false)=[]:=by
   rw[List.filter_eq_nil_iff];intro _ _ z;cases z
  rw[e];rfl
theorem CT {ss:Oa}(nd:∀s∈ss,s.Nodup){x m:Nat}(hx:1<=x):cE ss (x+1) m=cE ss x m+(((bitsOf x 1 ss).filter (bD m)).map λb=>cE ss x (m - b)).sum:=by
 unfold cE;rw[←El hx];exact zB x m ss (pB x) nd (JO x)
theorem Cc {ss:Oa}:cE ss 25 (2 ^ ss.length - 1)=dg ss k6:=by
 unfold cE;rw[vd,Hl]
def jT (ss:Oa)(x f i:Nat):Ob:=(List.range (f+1)).map λm=>if f - i < m then cE ss (x+1) m else cE ss x m
def tab (ss:Oa)(x f:Nat):Ob:=(List.range (f+1)).map λm=>cE ss x m
theorem Bq (ss:Oa)(x f:Nat):jT ss x f 0=tab ss x f:=by
 unfold jT tab;refine Mg λm hm=>?_;have:=Nb.mp hm;rw[Lo (by omega)]
theorem AJ (ss:Oa)(x f:Nat):jT ss x f f=tab ss (x+1) f:=by
 unfold jT tab;refine Mg λm hm=>?_;by_cases h:m=0
 · subst h;rw[Lo (by omega),o_,o_]
 · rw[Lp (by omega)]
theorem uu {ss:Oa}{x f i m:Nat}(h:m<=f):(jT ss x f i)[m]?=some (if f - i < m then cE ss (x+1) m else cE ss x m):=by
 unfold jT;rw[Ls,M8 (by omega)];rfl
theorem Bl {ss:Oa}{x f m:Nat}(h:m<=f):(tab ss x f)[m]?=some (cE ss x m):=by
 unfold tab;rw[Ls,M8 (by omega)];rfl
theorem Bs {ss:Oa}{x f i:Nat}(hi:i < f):(jT ss x f i).set (f - i) (cE ss (x+1) (f - i))=jT ss x f (i+1):=by
 refine NM λm=>?_;rw[List.getElem?_set];have hl:(jT ss x f i).length=f+1:=by unfold jT;rw[Ln,NI]
 by_cases hm:m<=f
 · rw[uu (i:=i+1) hm];by_cases e:f - i=m
   · rw[Lp e,Lp (by omega),Lp (by omega),e]
   · rw[Lo e,uu hm];congr 1;by_cases h2:f - i < m
     · rw[Lp h2,Lp (by omega)]
     · rw[Lo h2,Lo (by omega)]
 · have hl2:(jT ss x f (i+1)).length=f+1:=by unfold jT;rw[Ln,NI]
   rw[Lo (by omega),Mr (by omega),Mr (by omega)]
theorem Aa {ss:Oa}:[1]++List.replicate (2 ^ ss.length - 1) 0=tab ss 1 (2 ^ ss.length - 1):=by
 have hp:0 < 2 ^ ss.length:=Nat.pow_pos (by decide);refine NM λm=>?_;by_cases hm:m<=2 ^ ss.length - 1
 · rw[Bl hm];cases m with
   |zero=>rw[o_];rfl
   |succ m =>
    rw[Dc (by omega) (by omega)];show (List.replicate (2 ^ ss.length - 1) 0)[m]?=some 0;rw[List.getElem?_replicate,Lp (by omega)]
 · unfold tab;rw[Mr (by simp;omega),Mr (by simp;omega)]
def ie (g:Oa)(s:Ob):Bool:=(s.zip g).all λz=>z.2.contains z.1
def kP (g:Oa)(s:Ob):Nat:=if ie g s=true then product ((g.drop s.length).map List.length) else 0
def gG (s t:Ob):Ob:=t.filter λx=>!s.contains x
def tR (g:Oa)(s:Ob):Nat:=if ie g s=true/\s.Nodup then dg ((g.drop s.length).map (gG s)) k6 else 0
def pre (R:Oa)(s:Ob):Nat:=R.countP λr=>s.isPrefixOf r
theorem kh {α:Type}{p q:Prop} [Decidable p] [Decidable q] {a b:α}(h:p↔q):(if p then a else b)=if q then a else b:=by
 by_cases z:p
 · rw[Lp z,Lp (h.mp z)]
 · rw[Lo z,Lo λy=>z (h.mpr y)]
theorem mB (R:Oa):pre R []=R.length:=by
 unfold pre;rw[List.countP_eq_length];intro r _;simp
theorem AU {x y:Nat}{s:Ob}(R:Oa):pre (R.map λr=>y::r) (x::s)=if (y==x)=true then pre R s else 0:=by
 unfold pre;rw[List.countP_map];by_cases e:y=x
 · rw[Lp (by simpa using e)];congr 1;funext r;simp[e]
 · rw[Lo (by simpa using e),List.countP_eq_zero];intro r _;have:¬x=y:=λz=>e z.symm;simp[this]
theorem uQ {x:Nat}{s t:Ob}(nd:t.Nodup)(f:Nat->Oa):pre (t.flatMap λy=>(f y).map λr=>y::r) (x::s)=if t.contains x=true then pre (f x) s else 0:=by
 have e:pre (t.flatMap λy=>(f y).map λr=>y::r) (x::s)=(t.map λy=>if (y==x)=true then pre (f x) s else 0).sum:=by
  unfold pre;rw[List.countP_flatMap];refine Mu List.sum (Mg λy _=>?_);show pre ((f y).map λr=>y::r) (x::s)=_;rw[AU];by_cases z:y=x
  · subst z;rfl
  · rw[Lo (by simpa using z),Lo (by simpa using z)]
 rw[e,nj,lB nd];split <;> simp
theorem ve:∀(g:Oa) (s:Ob),(∀t∈g,t.Nodup)->s.length<=g.length->kP g s=pre (rowsOf g) s
 |g,[],_,_=>by
  rw[mB,jt];unfold kP ie;simp
 |[],x::s,_,h=>by simp at h
 |t::g,x::s,nd,h=>by
  have ih:=ve g s (λu hu=>nd u (by simp[hu])) (by simpa using h);unfold rowsOf;rw[uQ (nd t (by simp)) λ_=>rowsOf g,←ih];unfold kP ie;simp only[List.zip_cons_cons,NC,Lz,List.drop_succ_cons,Lv];by_cases c:t.contains x=true
  · rw[Lp c];by_cases d:((s.zip g).all λz=>z.2.contains z.1)=true
    · rw[Lp d,Lp ⟨c,d⟩]
    · rw[Lo d,Lo λz=>d z.2]
  · rw[Lo c,Lo λz=>c z.1]
theorem uS:∀(g:Oa) (s had:Ob),(∀t∈g,t.Nodup)->s.length<=g.length->pre (apartRows g had) s=if ie g s=true/\s.Nodup/\∀x∈s,¬x∈had then dg (g.drop s.length) (λz=>!had.contains z&&!s.contains z) else 0
 |g,[],had,_,_=>by
  rw[mB,rA,Lp ⟨by simp[ie],by simp,by simp⟩];simp
 |[],x::s,_,_,h=>by simp at h
 |t::g,x::s,had,nd,h=>by
  have ih:=uS g s (x::had) (λu hu=>nd u (by simp[hu])) (by simpa using h);unfold apartRows;rw[uQ ((nd t (by simp)).filter _) λy=>apartRows g (y::had),ih];have ep:(λz=>!(x::had).contains z&&!s.contains z)=λz=>!had.contains z&&!(x::s).contains z:=by
   funext z;simp only[List.contains_cons];cases (z==x) <;> cases had.contains z <;> cases s.contains z <;> rfl
  rw[ep];have eC:(ie (t::g) (x::s)=true/\(x::s).Nodup/\∀y∈x::s,¬y∈had)↔(t.filter λy=>!had.contains y).contains x=true/\(ie g s=true/\s.Nodup/\∀y∈s,¬y∈x::had):=by
   have ei:ie (t::g) (x::s)=true↔x∈t/\ie g s=true:=by unfold ie;simp
   rw[ei,Mz,NW,Mv,Lw,Mx];simp only[Lr,not_or,Me,Mv,L6];constructor
   · rintro⟨⟨a,b⟩,⟨n,c⟩,d,e⟩;exact⟨⟨a,d⟩,b,c,λy hy=>⟨λz=>n (z ▸ hy),e y hy⟩⟩
   · rintro⟨⟨a,d⟩,b,c,e⟩;exact⟨⟨a,b⟩,⟨λm=>(e x m).1 rfl,c⟩,d,λy hy=>(e y hy).2⟩
  rw[kh eC];by_cases c:(t.filter λy=>!had.contains y).contains x=true
  · rw[Lp c];exact kh ⟨λz=>⟨c,z⟩,λz=>z.2⟩
  · rw[Lo c,Lo λz=>c z.1]
theorem vo {s:Ob}:∀(ss:Oa) (p:Nat->Bool),dg (ss.map (gG s)) p=dg ss λz=>p z&&!s.contains z
 |[],_=>rfl
 |t::ss,p=>by
  rw[LF];unfold dg gG;rw[List.filter_filter];refine Mu List.sum (Mg λy _=>?_);have:=vo (s:=s) ss λz=>p z&&z != y;unfold gG at this;rw[this];congr 1;funext z;dsimp only;cases p z <;> cases s.contains z <;> cases (z != y) <;> rfl
theorem Dt {g:Oa}{s:Ob}(o:C3 g)(h:s.length<=g.length):tR g s=pre (apartRows g []) s:=by
 rw[uS g s [] (λt ht=>(o.good t ht).1.nodup) h];unfold tR;rw[kh (p:=ie g s=true/\s.Nodup) (q:=ie g s=true/\s.Nodup/\∀x∈s,¬x∈[]) ⟨λ⟨a,b⟩=>⟨a,b,by simp⟩,λ⟨a,b,_⟩=>⟨a,b⟩⟩,vo];congr 1;refine gp _ λt ht y hy=>?_;have m:=MW ht;have:=(o.good t m).2 y hy;have:=o.lo t m y hy;unfold k6;simp[*]
theorem zm {gs:List (Oa)}{s:Ob}(o:ux .order gs)(h:∀g∈gs,s.length<=g.length):(gs.map λg=>tR g s).sum=pre (rB .order gs) s:=by
 show _=pre (gs.flatMap λg=>apartRows g []) s;unfold pre;rw[List.countP_flatMap];exact Mu List.sum (Mg λg hg=>Dt (o.ok g hg) (h g hg))
theorem B9 {kd:Kind}{gs:List (Oa)}{s:Ob}(h1:kd≠.order)(h2:kd≠.any)(o:ux kd gs)(h:∀g∈gs,s.length<=g.length):(gs.map λg=>kP g s).sum=pre (rB kd gs) s:=by
 have e:rB kd gs=gs.flatMap rowsOf:=by
  cases kd with
  |order=>exact absurd rfl h1
  |any=>exact absurd rfl h2
  |place=>rfl
  |legs=>rfl
 rw[e];unfold pre;rw[List.countP_flatMap];exact Mu List.sum (Mg λg hg=>ve g s (λt ht=>((o.ok g hg).good t ht).1.nodup) (h g hg))
def kU (a:Nat)(B:Ob)(g:Oa)(j:Nat):List (Oa):=((List.range j).filter λi=>g.getD i []==B).map λi=>g.take i++[[a]]++g.drop (i+1)
theorem wO (a:Nat)(B:Ob)(g:Oa)(j:Nat):kU a B g (j+1)=kU a B g j++if (g.getD j []==B)=true then [g.take j++[[a]]++g.drop (j+1)] else []:=by
 unfold kU;rw[List.range_succ,Ni,LH];congr 1;by_cases h:(g.getD j []==B)=true
 · rw[Lp h,MA,Lp h];rfl
 · rw[Lo h,MA,Lo h];rfl
theorem rK (a:Nat)(B:Ob):∀g:Oa,kU a B g g.length=jq a B g
 |[]=>rfl
 |s::g=>by
  have ih:=rK a B g;unfold kU at ih ⊢;unfold jq;rw[Lz,List.range_succ_eq_map,←ih,LP];have e:((List.range g.length).map Nat.succ).filter (λi=>(s::g).getD i []==B)=((List.range g.length).filter λi=>g.getD i []==B).map Nat.succ:=by
   rw[List.filter_map];rfl
  by_cases h:(s==B)=true
  · rw[List.filter_cons_of_pos (by simpa using h),Lp h,e,LF,LP];rfl
  · rw[List.filter_cons_of_neg (by simpa using h),Lo h,e,LP];rfl
theorem wU {B A:Ob}{a:Nat}{gs:List (Oa)}:bH B (A++[a]) gs=(bH B A gs).flatMap (jq a B):=by
 unfold bH;rw[List.foldl_append];rfl
theorem yC {B:Ob}{k:Nat}:∀{A:Ob} {gs:List (Oa)},(∀g∈gs,g.length=k)->∀g∈bH B A gs,g.length=k
 |[],_,h=>h
 |a::A,gs,h=>yC (A:=A) (gs:=gs.flatMap (jq a B)) λg hg=>by
  obtain⟨g0,h0,hr⟩:=Nv.mp hg;rw[(ou hr).1,h g0 h0]
theorem zA {a:Nat}{B:Ob}{g:Oa}{j:Nat}:(kU a B g j).length<=j:=by
 unfold kU;rw[Ln];exact Ma (NQ ..) (by rw[NI];exact Lx _)
end Bw
end
section
set_option Elab.async false
set_option linter.all false
set_option maxRecDepth 100000
namespace L2
open PySem PySem.Spec PyProof.Rows
abbrev Key:=Sum Int Str
def qh:Key->Value->Bool
 |.inl k,v=>Value.isInt k v
 |.inr x,v=>Value.isStrOf x v
def Iv (w:World):Key->Int
 |.inl k=>hashInt k
 |.inr x=>hashStr w x
theorem cb:∀{k:Key} {v:Value},qh k v=true->(∃i t,k=Sum.inl i/\v=Value.int i t)∨(∃x t,k=Sum.inr x/\v=Value.str x t)
 |.inl i,v,h=>by
  obtain⟨t,e⟩:=Value.isInt_shape (k:=i) (v:=v) h;exact .inl ⟨i,t,rfl,e⟩
 |.inr x,v,h=>by
  obtain⟨t,e⟩:=Value.isStrOf_shape (x:=x) (v:=v) h;exact .inr ⟨x,t,rfl,e⟩
theorem zG (i:Int)(t:Tok):qh (.inl i) (.int i t)=true:=by simp[qh,Value.isInt]
theorem rP (x:Str)(t:Tok):qh (.inr x) (.str x t)=true:=by simp[qh,Value.isStrOf]
theorem F9 (a b:Int):decide ((Sum.inl a:Key)=Sum.inl b)=(a==b):=by
 by_cases e:a=b
 · subst e;simp
 · have h:¬(Sum.inl a:Key)=Sum.inl b:=λq=>e (Sum.inl.inj q);rw[Mb h];exact (LW.mpr e).symm
theorem Gd (a b:Str):decide ((Sum.inr a:Key)=Sum.inr b)=decide (a=b):=by
 by_cases e:a=b
 · subst e;simp
 · have h:¬(Sum.inr a:Key)=Sum.inr b:=λq=>e (Sum.inr.inj q);rw[Mb h,Mb e]
theorem Ht (a:Int)(b:Str):decide ((Sum.inl a:Key)=Sum.inr b)=false:=Mb (λq=>nomatch q)
theorem Hj (a:Str)(b:Int):decide ((Sum.inr a:Key)=Sum.inl b)=false:=Mb (λq=>nomatch q)
def cp (prog:Program)(w:World):PySem.KeyKind prog w Key where
 is:=qh
 hash:=Iv w
 inj:=λv a b ha hb=>by
  rcases cb ha with ⟨i,t,rfl,rfl⟩|⟨x,t,rfl,rfl⟩
  · rcases cb hb with ⟨j,u,rfl,e⟩|⟨y,u,rfl,e⟩
    · injection e with e1 _;rw[e1]
    · exact nomatch e
  · rcases cb hb with ⟨j,u,rfl,e⟩|⟨y,u,rfl,e⟩
    · exact nomatch e
    · injection e with e1 _;rw[e1]
 byValue:=λk v h=>by
  rcases cb h with ⟨i,t,rfl,rfl⟩|⟨x,t,rfl,rfl⟩ <;> rfl
 pyHash:=λhv h=>by
  rcases cb hv with ⟨i,t,rfl,rfl⟩|⟨x,t,rfl,rfl⟩
  · exact wpAny_pyHash_int h
  · exact wpAny_pyHash_str h
 eqBool:=λhu hv h=>by
  rcases cb hu with ⟨i,t,rfl,rfl⟩|⟨x,t,rfl,rfl⟩
  · rcases cb hv with ⟨j,u,rfl,rfl⟩|⟨y,u,rfl,rfl⟩
    · rw[F9] at h;exact wpAny_eqBool_int h
    · rw[Ht] at h;exact SeqAt.EqAt.int_str i t y u _ _ _ _ h
  · rcases cb hv with ⟨j,u,rfl,rfl⟩|⟨y,u,rfl,rfl⟩
    · rw[Hj] at h;exact SeqAt.EqAt.str_int x t j u _ _ _ _ h
    · rw[Gd] at h;exact wpAny_eqBool_str h
 «strs»:=λk x t v h=>by
  rcases cb h with ⟨i,u,rfl,e⟩|⟨y,u,rfl,e⟩
  · exact nomatch e
  · injection e with e1 _;subst e1;cases v <;> rfl
theorem uW (prog:Program)(w:World)(i:Int)(t:Tok):(cp prog w).is (.inl i) (.int i t)=true:=zG i t
theorem uM (prog:Program)(w:World)(x:Str)(t:Tok):(cp prog w).is (.inr x) (.str x t)=true:=rP x t
inductive V where
 |b8|bl (b:Bool)|int (i:Int)|str (x:Str)|vV (b:Array UInt8)|flt (b:UInt64)|ref (a:Addr)|ty (n:String)
 deriving DecidableEq
def RelV:V->Value->Prop
 |.b8,u=>u=Value.none
 |.bl b,u=>u=Value.bool b
 |.int i,u=>∃t,u=Value.int i t
 |.str x,u=>∃t,u=Value.str x t
 |.vV b,u=>∃t,u=Value.bytes b t
 |.flt b,u=>∃t,u=Value.float b t
 |.ref a,u=>u=Value.ref a
 |.ty n,u=>u=Value.type n
abbrev Vals:List V->Og->Prop:=Paired RelV
theorem Vals.length {xs:List V}{us:Og}(r:Vals xs us):xs.length=us.length:=Paired.length r
theorem Vals.get:∀{xs:List V} {us:Og} {i:Nat} {x:V},Vals xs us->xs[i]?=some x->∃u,us[i]?=some u/\RelV x u
 |_,_,_,_,.nil,e=>by simp at e
 |_,_,0,_,.cons r _,e=>by simp at e;subst e;exact⟨_,rfl,r⟩
 |_,_,i+1,x,.cons _ t,e=>by
  obtain⟨u,h1,h2⟩:=Vals.get (i:=i) (x:=x) t (by simpa using e);exact⟨u,by simpa using h1,h2⟩
theorem Vals.set {x:V}{u:Value}(r:RelV x u):∀{xs:List V} {us:Og} (i:Nat),Vals xs us->Vals (xs.set i x) (us.set i u)
 |_,_,_,.nil=>.nil
 |_,_,0,.cons _ t=>.cons r t
 |_,_,i+1,.cons q t=>.cons q (Vals.set r i t)
theorem Vals.append:∀{xs ys:List V} {us ws:Og},Vals xs us->Vals ys ws->Vals (xs++ys) (us++ws)
 |_,_,_,_,.nil,s=>s
 |_,_,_,_,.cons r t,s=>.cons r (Vals.append t s)
theorem Vals.take:∀{xs:List V} {us:Og} (n:Nat),Vals xs us->Vals (xs.take n) (us.take n)
 |_,_,0,_=>.nil
 |_,_,_+1,.nil=>.nil
 |_,_,n+1,.cons r t=>.cons r (Vals.take n t)
theorem Vals.drop:∀{xs:List V} {us:Og} (n:Nat),Vals xs us->Vals (xs.drop n) (us.drop n)
 |_,_,0,r=>r
 |_,_,_+1,.nil=>.nil
 |_,_,n+1,.cons _ t=>Vals.drop n t
def iK:Option V->Option Value->Prop
 |some v,some u=>RelV v u
 |none,none=>True
 |_,_=>False
def KV {κ:Type}:List (κ×V)->List (κ×Value)->Prop:=Paired λ(p:κ×V) (q:κ×Value)=>p.1=q.1/\RelV p.2 q.2
def kV:Key->V
 |.inl i=>.int i
 |.inr x=>.str x
inductive HO where
 |lst (xs:List V)
 |tup (xs:List V)
 |dK (kvs:List (Key×V))|dT (kvs:List (List Key×V))
 |set (S:Int->Bool) (n:Nat)
 |ins (C dx:Addr) (fs:List (Str×V))
 |own (x:Addr)
 |xd (fs:List (Str×V))
 |met (f x:Addr)
 |rng (lo hi:Int)
 |frz (o:Obj) (u:HO)
 |tbl (ps:Array Value)
 |ext (φ:Heap->Prop)
abbrev Hp:=Addr->Option HO
def upd (H:Hp)(a:Addr)(o:HO):Hp:=λb=>if b=a then some o else H b
theorem ae {H:Hp}{a:Addr}{o:HO}:upd H a o a=some o:=by unfold upd;rw[Lp rfl]
theorem aq {H:Hp}{a b:Addr}{o:HO}(h:b≠a):upd H a o b=H b:=by unfold upd;rw[Lo h]
theorem cu {H:Hp}{a:Addr}{o u:HO}:upd (upd H a o) a u=upd H a u:=by
 funext b;unfold upd;split <;> rfl
theorem dF {H:Hp}{a b:Addr}{o u:HO}(h:H a=some o)(h':H b=some u)(d:o≠u):a≠b:=by
 intro e;subst e;rw[h] at h';exact d (L1 h')
theorem ao {H:Hp}{a b:Addr}{o:HO}(h:H a=some o)(h':H b=none):a≠b:=by
 intro e;subst e;rw[h] at h';cases h'
section
variable (P:Program)(w:World)
def bN (H:Hp) (h:Heap) (a:Addr):HO->Prop
 |.lst xs=>xs.length<=sizeLine/\∃(its:Og) (n:Nat),Vals xs its/\h.get? a=some {cls:=.type "list",data:=.seq its.toArray n}
 |.tup xs=>xs.length<=sizeLine/\∃its:Og,Vals xs its/\IsTup h a its.toArray
 |.dK kvs=>kvs.length<=sizeLine/\(a==sysModules)=false/\∃vs,KV kvs vs/\h.DictOf (cp P w) a vs
 |.dT kvs=>kvs.length<=sizeLine/\(a==sysModules)=false/\∃xs:List (List Key×Addr×Value),
   Paired (λ(p:List Key×V) (q:List Key×Addr×Value)=>p.1=q.1/\H q.2.1=some (.tup (p.1.map kV))/\RelV p.2 q.2.2) kvs xs /\
   ∃o es ep,h.get? a=some o/\o.ExactDict/\o.data=.dict es ep/\es.toList=xs.map (entryOfKey (tupleKind (cp P w)))/\(xs.map (·.1)).Nodup
 |.set S n=>h.SetOf (intKind P w) a S n
 |.ins C dx fs=>H dx=some (.own a)/\fs.length<=1000/\dx≠a/\h.get? a=some (PySem.W.instObj C dx) /\
   ∃mA,h.Ns1 dx mA/\(∀f,iK (fs.lookup f) (mA f))/\PySem.Within mA (fs.map (·.1))
 |.own _=>∃o,h.get? a=some o
 |.xd fs=>∃mA,h.Ns1 a mA/\∀f,iK (fs.lookup f) (mA f)
 |.rng lo hi=>∃t u v,h.get? a=some {cls:=.type "range",data:=.fields #[.int lo t,.int hi u,.int 1 v]}
 |.frz o u=>h.get? a=some o/\bN H h a u
 |.tbl ps=>h.get? a=some {cls:=.none,data:=.fields ps}
 |.met f x=>h.get? a=some (PySem.W.methodObj (.ref f) (.ref x))
 |.ext φ=>φ h/\(∃o,h.get? a=some o)/\∀h1 h2:Heap,φ h1->(∀o,h1.get? a=some o->h2.get? a=some o)->φ h2
def ir (H:Hp)(h:Heap):Prop:=∀a o,H a=some o->bN P w H h a o
end
section
variable {P:Program}{w:World}{H H':Hp}{h h':Heap}{a:Addr}{o:HO}
theorem bN.lt (x:bN P w H h a o):a < h.objs.size:=by
 cases o with
 |lst xs=>obtain⟨_,_,_,_,e⟩:=x;exact LA e
 |tup xs=>obtain⟨_,_,_,p⟩:=x;exact p.lt
 |dK kvs=>obtain⟨_,_,_,_,o,_,_,e,_⟩:=x;exact LA e
 |dT kvs=>obtain⟨_,_,_,_,o,_,_,e,_⟩:=x;exact LA e
 |set S n=>obtain⟨o,_,_,_,e,_⟩:=x;exact LA e
 |ins C dx fs=>obtain⟨_,_,_,e,_⟩:=x;exact LA e
 |own y=>obtain⟨_,e⟩:=x;exact LA e
 |xd fs=>obtain⟨_,⟨_,_,_,e,_⟩,_⟩:=x;exact LA e
 |rng lo hi=>obtain⟨_,_,_,e⟩:=x;exact LA e
 |frz ob u=>obtain⟨e,_⟩:=x;exact LA e
 |tbl ps=>exact LA (show h.get? a=some _ from x)
 |met f y=>exact LA (show h.get? a=some _ from x)
 |ext φ=>obtain⟨_,⟨_,e⟩,_⟩:=x;exact LA e
theorem Paired.d8 {α β:Type}{F G:α->β->Prop}:∀{l₁:List α} {l₂:List β},Paired F l₁ l₂->(∀a b,F a b->G a b)->Paired G l₁ l₂
 |_,_,.nil,_=>.nil
 |_,_,.cons r t,f=>.cons (f _ _ r) (Paired.d8 t f)
theorem bN.kH (x:bN P w H h a o)(k:∀b u,(b=a∨H b=some (.own a))->h.get? b=some u->h'.get? b=some u)
  (ho:∀b,H b=some (.own a)->H' b=some (.own a))(ht:∀b xs,H b=some (.tup xs)->H' b=some (.tup xs)):bN P w H' h' a o:=by
 induction o with
 |lst xs=>obtain⟨z,its,n,r,e⟩:=x;exact⟨z,its,n,r,k _ _ (.inl rfl) e⟩
 |tup xs=>obtain⟨z,its,r,ob,e,c⟩:=x;exact⟨z,its,r,ob,k _ _ (.inl rfl) e,c⟩
 |dK kvs=>obtain⟨z,y,vs,r,ob,es,ep,e,c⟩:=x;exact⟨z,y,vs,r,ob,es,ep,k _ _ (.inl rfl) e,c⟩
 |dT kvs =>
  obtain⟨z,y,xs,r,ob,es,ep,e,c⟩:=x;exact⟨z,y,xs,Paired.d8 r λp q z=>⟨z.1,ht _ _ z.2.1,z.2.2⟩,ob,es,ep,k _ _ (.inl rfl) e,c⟩
 |set S n=>obtain⟨ob,es,ep,t,e,c⟩:=x;exact⟨ob,es,ep,t,k _ _ (.inl rfl) e,c⟩
 |ins C dx fs =>
  obtain⟨d,z,ne,e,mA,⟨od,es,ep,e2,c⟩,r⟩:=x;exact⟨ho _ d,z,ne,k _ _ (.inl rfl) e,mA,⟨od,es,ep,k _ _ (.inr d) e2,c⟩,r⟩
 |own y=>obtain⟨ob,e⟩:=x;exact⟨ob,k _ _ (.inl rfl) e⟩
 |xd fs=>obtain⟨mA,⟨od,es,ep,e,c⟩,r⟩:=x;exact⟨mA,⟨od,es,ep,k _ _ (.inl rfl) e,c⟩,r⟩
 |rng lo hi=>obtain⟨t,u,v,e⟩:=x;exact⟨t,u,v,k _ _ (.inl rfl) e⟩
 |frz ob u ih=>obtain⟨e,q⟩:=x;exact⟨k _ _ (.inl rfl) e,ih q⟩
 |tbl ps =>
  have e:h.get? a=some {cls:=.none,data:=.fields ps}:=x;show h'.get? a=some {cls:=.none,data:=.fields ps};exact k a _ (.inl rfl) e
 |met f y =>
  have e:h.get? a=some (PySem.W.methodObj (.ref f) (.ref y)):=x;show h'.get? a=some (PySem.W.methodObj (.ref f) (.ref y));exact k a _ (.inl rfl) e
 |ext φ=>obtain⟨p,⟨o,e⟩,st⟩:=x;exact⟨st _ _ p λo q=>k _ _ (.inl rfl) q,⟨o,k _ _ (.inl rfl) e⟩,st⟩
theorem ir.lt (x:ir P w H h)(e:H a=some o):a < h.objs.size:=(x a o e).lt
theorem ir.fresh (x:ir P w H h)(e:h.objs.size<=a):H a=none:=by
 cases q:H a with
 |none=>rfl
 |some u=>exact absurd (L5 (x.lt q) e) (MI _)
theorem ir.kept (x:ir P w H h)(k:∀b u,h.get? b=some u->h'.get? b=some u):ir P w H h':=λa o e =>
 (x a o e).kH (λb u _ q=>k b u q) (λ_ q=>q) λ_ _ q=>q
theorem ir.laid (x:ir P w H h)(k:∀b u,h.get? b=some u->h'.get? b=some u)(hp:h.objs.size<=a)(new:bN P w (upd H a o) h' a o):ir P w (upd H a o) h':=λb u e=>by
 have hn:=x.fresh hp;by_cases hb:b=a
 · subst hb;rw[ae] at e;cases e;exact new
 · rw[aq hb] at e;exact (x b u e).kH (λc v _ q=>k c v q) (λc q=>by rw[aq (ao q hn)];exact q) λc xs q=>by rw[aq (ao q hn)];exact q
end
def Rd (H:Hp)(a:Addr)(u:HO):Prop:=H a=some u∨∃o,H a=some (.frz o u)
theorem Rd.ok {P:Program}{w:World}{H:Hp}{h:Heap}{a:Addr}{u:HO}(r:Rd H a u)(x:ir P w H h):bN P w H h a u:=by
 rcases r with r|⟨o,r⟩
 · exact x a u r
 · obtain⟨_,q⟩:=x a _ r;exact q
def Ih:Option HO->Prop
 |some (.lst _)=>True
 |some (.dK _)=>True
 |some (.dT _)=>True
 |some (.set _ _)=>True
 |some (.ins _ _ _)=>True
 |some (.ext _)=>True
 |_=>False
section
variable {P:Program}{w:World}{H:Hp}{h h':Heap}{x e:Addr}{o':HO}
theorem ir.write (ok:ir P w H h) (mu:Ih (H x)) (he:e=x∨H e=some (.own x)) (k:∀b u,b≠e->h.get? b=some u->h'.get? b=some u) (heo:∃u,h'.get? e=some u)
  (new:bN P w (upd H x o') h' x o'):ir P w (upd H x o') h':=λb u q=>by
 have nown:∀c y,H c=some (.own y)->c≠x:=λc y r z=>by subst z;rw[r] at mu;exact mu
 have ntup:∀c xs,H c=some (.tup xs)->c≠x:=λc xs r z=>by subst z;rw[r] at mu;exact mu
 by_cases hb:b=x
 · subst hb;rw[ae] at q;cases q;exact new
 · rw[aq hb] at q;by_cases hbe:b=e
   · have q':H b=some (.own x):=by
      rcases he with z|z
      · exact absurd (hbe.trans z) hb
      · rw[hbe];exact z
     rw[q] at q';cases q';obtain⟨v,hv⟩:=heo;exact⟨v,by rw[hbe];exact hv⟩
   · refine (ok b u q).kH (λc v hc r=>k c v ?_ r) (λc r=>by rw[aq (nown c b r)];exact r) λc xs r=>by rw[aq (ntup c xs r)];exact r
     rcases hc with rfl|hc
     · exact hbe
     · rintro rfl;rcases he with z|z
       · exact nown c b hc z
       · rw[hc] at z;cases z;exact hb rfl
end
structure Un (fs ex:List Addr)(H H':Hp)(h h':Heap):Prop where
 keep:∀b o,h.get? b=some o->H b=none->b∉fs->b∉ex->h'.get? b=some o
 slot:∀b o,h.get? b=some o->H b=none->b∈fs->b∉ex->∃sl,h'.get? b=some {o with slots:=sl}
 free:∀b o,h.get? b=some o->H b=none->b∉ex->H' b=none
 there:∀b o,h.get? b=some o->b∉ex->∃o',h'.get? b=some o'
 n9:∀b xs,H b=some (.tup xs)->H' b=some (.tup xs)
 m8:∀b o u,H b=some (.frz o u)->H' b=some (.frz o u)
 og:∀b ps,H b=some (.tbl ps)->∃more,H' b=some (.tbl (ps++more))
section
variable {fs fs' ex ex':List Addr}{H H1 H2:Hp}{h h1 h2 h':Heap}{a x e:Addr}{o:HO}
theorem Un.any (u:Un fs ex H H1 h h1) {b:Addr} {ob:Obj} (q:h.get? b=some ob) (n:H b=none) (hx:b∉ex):∃sl,h1.get? b=some {ob with slots:=sl}:=by
 by_cases hb:b∈fs
 · exact u.slot b ob q n hb hx
 · exact⟨ob.slots,u.keep b ob q n hb hx⟩
theorem Un.kept (k:∀b u,h.get? b=some u->h'.get? b=some u):Un fs ex H H h h' :=
 ⟨λb ob q _ _ _=>k b ob q,λb ob q _ _ _=>⟨ob.slots,k b ob q⟩,λ_ _ _ n _=>n,λb ob q _=>⟨ob,k b ob q⟩,λ_ _ q=>q,λ_ _ _ q=>q,λ_ ps q=>⟨#[],by rw[q];simp⟩⟩
theorem Un.refl:Un fs ex H H h h:=Un.kept λ_ _ q=>q
theorem Un.laid (k:∀b u,h.get? b=some u->h'.get? b=some u)(hp:h.objs.size<=a)(hn:H a=none):Un fs ex H (upd H a o) h h' where
 keep:=λb u q _ _ _=>k b u q
 slot:=λb u q _ _ _=>⟨u.slots,k b u q⟩
 free:=λb u q n _=>by rw[aq (L0 (L5 (LA q) hp))];exact n
 there:=λb u q _=>⟨u,k b u q⟩
 n9:=λb xs q=>by rw[aq (ao q hn)];exact q
 m8:=λb u xs q=>by rw[aq (ao q hn)];exact q
 og:=λb ps q=>⟨#[],by rw[aq (ao q hn),q];simp⟩
theorem Un.write (mu:Ih (H x))(he:e=x∨H e=some (.own x))(k:∀b u,b≠e->h.get? b=some u->h'.get? b=some u)(heo:∃u,h'.get? e=some u):Un fs ex H (upd H x o) h h':=by
 have hx:∀b,H b=none->b≠x:=λb n z=>by subst z;rw[n] at mu;exact mu
 have hb:∀b,H b=none->b≠e:=λb n z=>by
  subst z;rcases he with r|r
  · exact hx b n r
  · rw[n] at r;cases r
 have hm:∀b u,H b=some u->¬Ih (some u)->b≠x:=λb u q nm z=>by subst z;rw[q] at mu;exact nm mu
 refine⟨λb u q n _ _=>k b u (hb b n) q,λb u q n _ _=>⟨u.slots,k b u (hb b n) q⟩,λb u q n _=>by rw[aq (hx b n)];exact n,λb u q _=>?_,
  λb xs q=>by rw[aq (hm b _ q λz=>z)];exact q,λb u xs q=>by rw[aq (hm b _ q λz=>z)];exact q,λb ps q=>⟨#[],by rw[aq (hm b _ q λz=>z),q];simp⟩⟩
 by_cases hbe:b=e
 · subst hbe;exact heo
 · exact⟨u,k b u hbe q⟩
end
def JP (h:Heap)(H:Hp):List Addr:=(List.range h.objs.size).filter λa=>(H a).isSome
def tZ (h:Heap)(H:Hp):Heap:=PySem.W.hideAll h (JP h H)
theorem zX (h:Heap)(H:Hp):(tZ h H).objs.size=h.objs.size:=PySem.W.hideAll_size _ _
theorem Cq {h:Heap}{H:Hp}{b:Addr}{o:Obj}(e:h.get? b=some o)(n:H b=none):(tZ h H).get? b=some o :=
 PySem.W.hideAll_get _ e λhm=>by
  have q:(H b).isSome=true:=(Mx.mp hm).2;rw[n] at q;simp at q
theorem EM {h:Heap}{H:Hp}{b:Addr}{o:Obj}(e:(tZ h H).get? b=some o):h.get? b=some o/\H b=none:=by
 have e':h.get? b=some o:=PySem.W.of_hideAll (JP h H) e;refine⟨e',?_⟩;cases q:H b with
 |none=>rfl
 |some x =>
  have hm:b∈JP h H:=Mx.mpr ⟨Nb.mpr (LA e'),by simp[q]⟩;have z:(tZ h H).get? b=none:=PySem.W.hideAll_none (JP h H) hm;rw[z] at e;cases e
structure Mod (K:Oc)(mg:Oe)(base:Heap):Prop where
 FE:K.In base
 glob:base.Ns mainGlobals mg
 blt:∃mb,base.Ns builtinsNs mb/\∀x:Str,x≠"__name__"->mb x=bootBuiltins x
 nolimit:base.NoLimit
structure Cx where
 prog:Program
 w:World
 K:Oc
 mg:Str->Option Value
 base:Heap
 A:Around
 N:List Str
 kJ:Shared
 HY:Hp
 env:Env
 outer:List Env
 stack:List Env
 ex:List Addr
 fn:Str->Bool
 calm:Bool
 pn:Of
 xe:Value->Shared->Prop
def vT (l:List Env):List Addr:=l.filterMap (·.frame)
abbrev Cx.fs (X:Cx):List Addr:=vT X.outer
def Ib (sc:Scope)(x:Str):Prop:=sc.names.lookup x=some .local∨sc.names.lookup x=some .cell∨sc.names.lookup x=some .free
def Loc (sc:Scope)(x:Str):Prop:=sc.names.lookup x=some .local∨sc.names.lookup x=some .cell
def Look (env:Env)(h:Heap)(m:Oe)(x:Str)(u:Value):Prop :=
 (env.kindOf x=some .local/\m x=some u)∨((env.kindOf x=some .cell∨env.kindOf x=some .free)/\∃c,env.cells.lookup x=some c/\h.IsCell c (some u))
structure Cx.Ok (X:Cx):Prop where
 mod:Mod X.K X.mg X.base
 kind:X.env.scope.kind=.function
 glob:X.env.globals=mainGlobals
 blt:X.env.builtins=builtinsNs
 above:X.kJ.heap.objs.size<=X.env.locals
 inj:∀x y c,X.env.cells.lookup x=some c->X.env.cells.lookup y=some c->x=y
 has:∀x,(X.env.kindOf x=some .cell∨X.env.kindOf x=some .free)->∃c,X.env.cells.lookup x=some c
 Ic:∀x c,X.fn x=true->X.env.cells.lookup x=some c->X.kJ.heap.objs.size<=c
 hd:X.calm=true->X.A.handled=none
 frames:X.A.frames=some X.stack
 FY:X.stack=X.outer∨(X.stack=X.env::X.outer/\X.env.frame=some X.env.locals)
 Jw:∀b∈X.ex,b≠X.env.locals/\∀x c,X.env.cells.lookup x=some c->c≠b
 bs:∀b o,X.base.get? b=some o->X.kJ.heap.get? b=some o/\X.HY b=none
 C2:X.base.objs.size<=X.kJ.heap.objs.size
 Ak:∀b o,X.base.get? b=some o->b∉X.ex
 zC:∀b∈X.ex,b∉X.fs
 mi:X.kJ.heap.FunFrames X.base X.outer
 F7:∀b∈X.fs,X.HY b=none
structure Inv (X:Cx)(pins:Of)(σ:List (Option V))(H:Hp)(s:Shared):Prop where
 ok:X.Ok
 os:s.os=X.kJ.os
 bare:AllBare s.gens
 base:Un X.fs X.ex X.HY H X.kJ.heap s.heap
 loc:∃m,s.heap.Ns X.env.locals m/\∀(i:Nat) (x:Str) (v:V),X.N[i]?=some x->σ[i]?=some (some v)->Ib X.env.scope x->∃u,RelV v u/\Look X.env s.heap m x u
 cell:∀x c,X.env.cells.lookup x=some c->∃v,s.heap.IsCell c v
 free:H X.env.locals=none
 gE:∀x c,X.env.cells.lookup x=some c->H c=none
 pin:∀p∈X.pn++pins,s.heap.get? p.1=some p.2/\H p.1=none/\p.1≠X.env.locals/\p.1∉X.fs/\∀v,p.2.data≠.cell v
 bw:ir X.prog X.w H s.heap
 len:σ.length=X.N.length
section
variable {X:Cx}{pins:Of}{σ:List (Option V)}{H H':Hp}{s:Shared}{h':Heap}
theorem Cx.Ok.KI (ok:X.Ok) {b:Addr} {o:Obj} (e:X.base.get? b=some o):b∉X.fs:=λhb=>by
 have:=(ok.mi.mem hb).1;rw[e] at this;cases this
theorem Inv.bs (I:Inv X pins σ H s):∀b o,X.base.get? b=some o->s.heap.get? b=some o/\H b=none:=λb o e =>
 ⟨I.base.keep b o (I.ok.bs b o e).1 (I.ok.bs b o e).2 (I.ok.KI e) (I.ok.Ak b o e),I.base.free b o (I.ok.bs b o e).1 (I.ok.bs b o e).2 (I.ok.Ak b o e)⟩
theorem Inv.bk (I:Inv X pins σ H s):∀b o,X.base.get? b=some o->s.heap.get? b=some o:=λb o e=>(I.bs b o e).1
theorem Inv.mod (I:Inv X pins σ H s):Mod X.K X.mg X.base:=I.ok.mod
theorem Inv.mQ (I:Inv X pins σ H s):X.K.In s.heap:=I.ok.mod.FE.keeps I.bk
theorem Inv.lt (I:Inv X pins σ H s):X.env.locals < s.heap.objs.size:=let ⟨_,hn,_⟩:=I.loc;hn.lt
theorem Inv.sz (I:Inv X pins σ H s):X.kJ.heap.objs.size<=s.heap.objs.size:=Ma I.ok.above (Nat.le_of_lt I.lt)
theorem Inv.J_ (I:Inv X pins σ H s){a:Addr}(h:s.heap.objs.size<=a):a∉X.fs:=λhb=>by
 obtain⟨_,o,ho,_⟩:=I.ok.mi.mem hb;exact absurd (L5 (LA ho) (Ma I.sz h)) (MI _)
theorem Inv.FJ (I:Inv X pins σ H s):∀x c,X.env.cells.lookup x=some c->c≠X.env.locals:=λx c e z=>by
 obtain⟨v,o,ho,hd⟩:=I.cell x c e;obtain⟨m,⟨o',es,ep,ho',hd',_⟩,_⟩:=I.loc;rw[z,ho'] at ho;cases ho;rw[hd'] at hd;cases hd
theorem Inv.mi (I:Inv X pins σ H s):s.heap.FunFrames X.base X.outer:=by
 have all:∀(l:List Env),(∀b∈vT l,b∈X.fs)->X.kJ.heap.FunFrames X.base l->s.heap.FunFrames X.base l:=by
  intro l
  induction l with
  |nil=>intro _ _;trivial
  |cons env r ih =>
   intro hs hl;obtain⟨hk,⟨L,o,hf,hn,ho,hd⟩,hr⟩:=hl;have hL:L∈X.fs:=hs L (by unfold vT;rw[N0,hf];exact L_);obtain⟨sl,e⟩:=I.base.slot L o ho (I.ok.F7 L hL) hL λz=>I.ok.zC L z hL;exact⟨hk,⟨L,_,hf,hn,e,hd⟩,ih (λb hb=>hs b (by unfold vT;rw[N0,hf];exact LG _ hb)) hr⟩
 exact all X.outer (λ_ hb=>hb) I.ok.mi
theorem Inv.stack (I:Inv X pins σ H s):s.heap.FunFrames X.base X.stack:=by
 rcases I.ok.FY with e|⟨e,hf⟩
 · rw[e];exact I.mi
 · rw[e];obtain⟨m,hn,_⟩:=I.loc;refine .cons (by rw[I.ok.kind];decide) hf hn ?_ I.mi;exact Heap.get?_none_of_le (Ma I.ok.C2 I.ok.above)
theorem Inv.xM (I:Inv X pins σ H s):∀b∈vT X.stack,b∈X.env.locals::X.fs:=λb hb=>by
 rcases I.ok.FY with e|⟨e,hf⟩
 · rw[e] at hb;exact LG _ hb
 · rw[e] at hb;unfold vT at hb;rw[N0,hf] at hb;exact hb
theorem Inv.sM (I:Inv X pins σ H s):∀b∈vT X.stack,H b=none:=λb hb=>by
 rcases Lr.mp (I.xM b hb) with e|hb
 · rw[e];exact I.free
 · obtain⟨_,o,ho,_⟩:=I.ok.mi.mem hb;exact I.base.free b o ho (I.ok.F7 b hb) λz=>I.ok.zC b z hb
theorem xF {h:Heap}{b:Addr}(z:h.objs.size<=b):h.get? b=none:=by
 cases e:h.get? b with
 |none=>rfl
 |some o=>exact absurd (L5 (LA e) z) (MI _)
theorem Inv.Fw {g':Array GenState}{t':Nat}{d':Drawn}{ch:List Addr}(I:Inv X pins σ H s)
  (hch:∀b∈ch,(b∈X.ex∨X.kJ.heap.get? b=none)/\b≠X.env.locals/\(∀x c,X.env.cells.lookup x=some c->c≠b)/\∀p∈X.pn++pins,p.1≠b)
  (keep:∀b o,b≠X.env.locals->b∉X.fs->b∉ch->s.heap.get? b=some o->H b=none->h'.get? b=some o)
  (slot:∀b o,b≠X.env.locals->b∈X.fs->b∉ch->s.heap.get? b=some o->H b=none->∃sl,h'.get? b=some {o with slots:=sl})(free:∀b o,b∉ch->s.heap.get? b=some o->H b=none->H' b=none)
  (there:∀b o,b∉ch->s.heap.get? b=some o->∃o',h'.get? b=some o')
  (n9:∀b xs,H b=some (.tup xs)->H' b=some (.tup xs))(m8:∀b o u,H b=some (.frz o u)->H' b=some (.frz o u))(og:∀b ps,H b=some (.tbl ps)->∃more,H' b=some (.tbl (ps++more)))
  (ns:∀m,s.heap.Ns X.env.locals m->h'.Ns X.env.locals m)(bw:ir X.prog X.w H' h')(hg:AllBare g') :
  Inv X pins σ H' {s with heap:=h',gens:=g',drawn:=d',toks:=t'}:=by
 have neL:∀b o,X.kJ.heap.get? b=some o->b≠X.env.locals:=λb o e=>L0 (L5 (LA e) I.ok.above);have neC:∀b o,X.kJ.heap.get? b=some o->b∉X.ex->b∉ch:=λb o e hx hb=>by
  rcases (hch b hb).1 with z|z
  · exact hx z
  · rw[z] at e;cases e
 have cellK:∀x c,X.env.cells.lookup x=some c->∀v,s.heap.IsCell c v->h'.IsCell c v:=λx c e v ⟨o,ho,hd⟩=>by
  have nch:c∉ch:=λz=>(hch c z).2.2.1 x c e rfl;by_cases hc:c∈X.fs
  · obtain⟨sl,q⟩:=slot c o (I.FJ x c e) hc nch ho (I.gE x c e);exact⟨_,q,hd⟩
  · exact⟨o,keep c o (I.FJ x c e) hc nch ho (I.gE x c e),hd⟩
 refine⟨I.ok,I.os,hg,⟨λb o e n hb hx=>?_,λb o e n hb hx=>?_,λb o e n hx=>?_,λb o e hx=>?_,λb xs e=>n9 b xs (I.base.n9 b xs e),λb o xs e=>m8 b o xs (I.base.m8 b o xs e),λb ps e=>?_⟩,?_,λx c e=>?_,?_,λx c e=>?_,λp hp=>?_,bw,I.len⟩
 · exact keep b o (neL b o e) hb (neC b o e hx) (I.base.keep b o e n hb hx) (I.base.free b o e n hx)
 · obtain⟨sl,e1⟩:=I.base.slot b o e n hb hx;obtain⟨sl',e2⟩:=slot b _ (neL b o e) hb (neC b o e hx) e1 (I.base.free b o e n hx);exact⟨sl',e2⟩
 · obtain⟨o',e1⟩:=I.base.there b o e hx;exact free b o' (neC b o e hx) e1 (I.base.free b o e n hx)
 · obtain⟨o',e1⟩:=I.base.there b o e hx;exact there b o' (neC b o e hx) e1
 · obtain⟨m1,e1⟩:=I.base.og b ps e;obtain⟨m2,e2⟩:=og b _ e1;exact⟨m1++m2,by rw[e2,Array.append_assoc]⟩
 · obtain⟨m,hn,hl⟩:=I.loc;refine⟨m,ns m hn,λi x v e1 e2 e3=>?_⟩;obtain⟨u,r,l⟩:=hl i x v e1 e2 e3;refine⟨u,r,?_⟩;rcases l with l|⟨k,c,e,z⟩
   · exact .inl l
   · exact .inr ⟨k,c,e,cellK x c e _ z⟩
 · obtain⟨v,z⟩:=I.cell x c e;exact⟨v,cellK x c e v z⟩
 · obtain⟨m,⟨o,_,_,ho,_⟩,_⟩:=I.loc;exact free _ o (λz=>(hch _ z).2.1 rfl) ho I.free
 · obtain⟨v,o,ho,hd⟩:=I.cell x c e;exact free c o (λz=>(hch c z).2.2.1 x c e rfl) ho (I.gE x c e)
 · obtain⟨e,n,ne,nf,d⟩:=I.pin p hp;have nch:p.1∉ch:=λz=>(hch p.1 z).2.2.2 p hp rfl;exact⟨keep p.1 p.2 ne nf nch e n,free p.1 p.2 nch e n,ne,nf,d⟩
theorem Inv.step {g':Array GenState}{t':Nat}{d':Drawn}{ch:List Addr}(I:Inv X pins σ H s)
  (hch:∀b∈ch,(b∈X.ex∨X.kJ.heap.objs.size<=b)/\b≠X.env.locals/\(∀x c,X.env.cells.lookup x=some c->c≠b)/\∀p∈X.pn++pins,p.1≠b)
  (keep:∀b o,b≠X.env.locals->b∉X.fs->b∉ch->s.heap.get? b=some o->H b=none->h'.get? b=some o)
  (slot:∀b o,b≠X.env.locals->b∈X.fs->b∉ch->s.heap.get? b=some o->H b=none->∃sl,h'.get? b=some {o with slots:=sl})(free:∀b o,b∉ch->s.heap.get? b=some o->H b=none->H' b=none)
  (there:∀b o,b∉ch->s.heap.get? b=some o->∃o',h'.get? b=some o')
  (n9:∀b xs,H b=some (.tup xs)->H' b=some (.tup xs))(m8:∀b o u,H b=some (.frz o u)->H' b=some (.frz o u))(og:∀b ps,H b=some (.tbl ps)->∃more,H' b=some (.tbl (ps++more)))
  (ns:∀m,s.heap.Ns X.env.locals m->h'.Ns X.env.locals m)(bw:ir X.prog X.w H' h')(hg:AllBare g') :
  Inv X pins σ H' {s with heap:=h',gens:=g',drawn:=d',toks:=t'}:=I.Fw (λb hb=>⟨(hch b hb).1.imp id λz=>xF z,(hch b hb).2⟩) keep slot free there n9 m8 og ns bw hg
theorem Inv.un {t':Nat}(I:Inv X pins σ H s)(u:Un X.fs [] H H' s.heap h')(bw:ir X.prog X.w H' h'):Inv X pins σ H' {s with heap:=h',toks:=t'}:=by
 obtain⟨m,⟨o,es,ep,ho,r⟩,_⟩:=id I.loc;obtain⟨sl,hL⟩:=u.any ho I.free (by simp);exact I.step (g':=s.gens) (d':=s.drawn) (ch:=[]) (λ_ z=>nomatch z) (λb o _ hb _ e n=>u.keep b o e n hb (by simp)) (λb o _ hb _ e n=>u.slot b o e n hb (by simp)) (λb o _ e n=>u.free b o e n (by simp)) (λb o _ e=>u.there b o e (by simp)) u.n9 u.m8 u.og (λm' hm=>by
  obtain⟨o',es',ep',ho',r'⟩:=hm;rw[ho] at ho';cases ho';exact⟨_,es',ep',hL,r'⟩) bw I.bare
theorem Inv.Fl {g':Array GenState}{t':Nat}{d':Drawn}{ch:List Addr}(I:Inv X pins σ H s)(u:Un (vT X.stack) ch H H' s.heap h')(bw:ir X.prog X.w H' h')(hg:AllBare g')
  (hch:∀b∈ch,(b∈X.ex∨X.kJ.heap.get? b=none)/\b≠X.env.locals/\(∀x c,X.env.cells.lookup x=some c->c≠b)/\∀p∈X.pn++pins,p.1≠b) :
  Inv X pins σ H' {s with heap:=h',gens:=g',drawn:=d',toks:=t'}:=by
 obtain⟨m,⟨o,es,ep,ho,r⟩,_⟩:=id I.loc;obtain⟨sl,hL⟩:=u.any ho I.free λz=>(hch _ z).2.1 rfl;exact I.Fw (ch:=ch) hch (λb o hL hb hc e n=>u.keep b o e n (λz=>(Lr.mp (I.xM b z)).elim hL hb) hc) (λb o _ _ hc e n=>u.any e n hc) (λb o hc e n=>u.free b o e n hc) (λb o hc e=>u.there b o e hc) u.n9 u.m8 u.og (λm' hm=>by
  obtain⟨o',es',ep',ho',r'⟩:=hm;rw[ho] at ho';cases ho';exact⟨_,es',ep',hL,r'⟩) bw hg
theorem Inv.call {g':Array GenState}{t':Nat}{d':Drawn}{ch:List Addr}(I:Inv X pins σ H s)(u:Un (vT X.stack) ch H H' s.heap h')(bw:ir X.prog X.w H' h')(hg:AllBare g')
  (hch:∀b∈ch,(b∈X.ex∨X.kJ.heap.objs.size<=b)/\b≠X.env.locals/\(∀x c,X.env.cells.lookup x=some c->c≠b)/\∀p∈X.pn++pins,p.1≠b) :
  Inv X pins σ H' {s with heap:=h',gens:=g',drawn:=d',toks:=t'}:=I.Fl u bw hg (λb hb=>⟨(hch b hb).1.imp id λz=>xF z,(hch b hb).2⟩)
theorem Inv.turned {t':Nat}{it:Addr}(I:Inv X pins σ H s)(k:∀b o,b≠it->s.heap.get? b=some o->h'.get? b=some o)(hn:H it=none)(hL:it≠X.env.locals)
  (h1:it∈X.ex∨X.kJ.heap.objs.size<=it)(h2:∀x c,X.env.cells.lookup x=some c->c≠it)(h3:∀p∈X.pn++pins,p.1≠it):Inv X pins σ H {s with heap:=h',toks:=t'}:=by
 have nit:∀b u,H b=some u->b≠it:=λb u e z=>by rw[z,hn] at e;cases e
 refine I.step (g':=s.gens) (d':=s.drawn) (ch:=[it]) (λb hb=>?_) (λb o _ _ hc e _=>k b o (λz=>hc (by simp[z])) e) (λb o _ _ hc e _=>⟨o.slots,k b o (λz=>hc (by simp[z])) e⟩) (λ_ _ _ _ n=>n)
  (λb o hc e=>⟨o,k b o (λz=>hc (by simp[z])) e⟩) (λ_ _ e=>e) (λ_ _ _ e=>e) (λb ps e=>⟨#[],by rw[e];simp⟩) (λm hm=>?_) (λb u e=>?_) I.bare
 · have e:b=it:=by simpa using hb
   subst e;exact⟨h1,hL,h2,h3⟩
 · obtain⟨o,es,ep,ho,r⟩:=hm;exact⟨o,es,ep,k _ o (N4 hL) ho,r⟩
 · refine (I.bw b u e).kH (λc v hc q=>k c v ?_ q) (λ_ q=>q) λ_ _ q=>q;rcases hc with z|z
   · rw[z];exact nit b u e
   · exact nit c _ z
theorem Inv.tok (I:Inv X pins σ H s)(t:Nat):Inv X pins σ H {s with toks:=t}:=I.un (h':=s.heap) (t':=t) Un.refl I.bw
theorem Inv.kept {t':Nat}(I:Inv X pins σ H s)(k:∀b u,s.heap.get? b=some u->h'.get? b=some u):Inv X pins σ H {s with heap:=h',toks:=t'}:=I.un (Un.kept k) (I.bw.kept k)
theorem Inv.laid {a:Addr}{o:HO}{t':Nat}(I:Inv X pins σ H s)(k:∀b u,s.heap.get? b=some u->h'.get? b=some u)(hp:s.heap.objs.size<=a)(new:bN X.prog X.w (upd H a o) h' a o) :
  Inv X pins σ (upd H a o) {s with heap:=h',toks:=t'}:=I.un (Un.laid k hp (I.bw.fresh hp)) (I.bw.laid k hp new)
theorem Inv.write {x e:Addr}{o:HO}{t':Nat}(I:Inv X pins σ H s)(mu:Ih (H x))(he:e=x∨H e=some (.own x))(k:∀b u,b≠e->s.heap.get? b=some u->h'.get? b=some u)(heo:∃u,h'.get? e=some u)
  (new:bN X.prog X.w (upd H x o) h' x o):Inv X pins σ (upd H x o) {s with heap:=h',toks:=t'}:=I.un (Un.write mu he k heo) (I.bw.write mu he k heo new)
theorem Inv.weak {σ':List (Option V)}(I:Inv X pins σ H s)(hl:σ'.length=σ.length)(w:∀(i:Nat) v,σ'[i]?=some (some v)->σ[i]?=some (some v)):Inv X pins σ' H s :=
 ⟨I.ok,I.os,I.bare,I.base,let ⟨m,hn,hl'⟩:=I.loc;⟨m,hn,λi x v e1 e2 e3=>hl' i x v e1 (w i v e2) e3⟩,I.cell,I.free,I.gE,I.pin,I.bw,hl.trans I.len⟩
theorem Inv.lQ {pins':Of}(I:Inv X pins σ H s)(h:∀p∈pins',s.heap.get? p.1=some p.2/\H p.1=none/\p.1≠X.env.locals/\p.1∉X.fs/\∀v,p.2.data≠.cell v):Inv X pins' σ H s :=
 ⟨I.ok,I.os,I.bare,I.base,I.loc,I.cell,I.free,I.gE,λp hp=>(Mc.mp hp).elim (λz=>I.pin p (List.mem_append_left _ z)) (h p),I.bw,I.len⟩
theorem ql {N:List Str}(hN:N.Nodup){i j:Nat}{x:Str}(a:N[i]?=some x)(b:N[j]?=some x):i=j:=by
 obtain⟨h1,e1⟩:=LB.mp a;obtain⟨h2,e2⟩:=LB.mp b;exact (List.getElem_inj hN).mp (e1.trans e2.symm)
theorem rF {M:Model}{A:Around}{E:Od}{i:Nat}{x:Str}{v:V}{u:Value}{Q:Unit->Shared->Prop}(I:Inv X pins σ H s)(hN:X.N.Nodup)(hi:X.N[i]?=some x)(hx:Loc X.env.scope x)(r:RelV v u)
  (h:∀s',Inv X pins (σ.set i (some v)) H s'->(∃a,Heap.SameBut a s.heap s'.heap/\(a=X.env.locals∨X.env.cells.lookup x=some a))->Q () s')(hf:X.fn x=true∨X.env.scope.names.lookup x=some .local:=by first|exact .inl rfl|exact .inr rfl|assumption):wpAny M A (storeName X.env x u) Q E s:=by
 obtain⟨m,hn,hl⟩:=id I.loc;have hcls:(X.env.scope.kind==.class||(X.env.scope.kind==.module&&X.env.locals != X.env.globals))=false:=by rw[I.ok.kind];rfl
 have hiσ:i < σ.length:=by rw[I.len];exact (LB.mp hi).1
 have FJ:=I.FJ;have tracked:∀{a:Addr} {h':Heap},(∃o,s.heap.get? a=some o/\H a=none)->Heap.SameBut a s.heap h'->ir X.prog X.w H h':=λ{a h'} ha hs b ob e=>by
  obtain⟨_,_,hfree⟩:=ha;refine (I.bw b ob e).kH (λc w' hc q=>(hs.2 c ?_).trans q) (λ_ q=>q) λ_ _ q=>q;rintro rfl;rcases hc with rfl|hc
  · rw[hfree] at e;cases e
  · rw[hfree] at hc;cases hc
 rcases hx with hk|hk
 · refine wpAny_storeName_local hk hn (λh' hn' hs=>?_) hcls;obtain⟨oL,_,_,hoL,_⟩:=id hn;refine h _ ⟨I.ok,I.os,I.bare,⟨λb o e n hb hx=>?_,λb o e n hb hx=>?_,I.base.free,λb o e hx=>?_,I.base.n9,I.base.m8,I.base.og⟩,⟨_,hn',λj y v' e1 e2 e3=>?_⟩,λy c e=>?_,I.free,I.gE,λp hp=>?_,tracked ⟨oL,hoL,I.free⟩ hs,by simpa using I.len⟩ ⟨_,hs,.inl rfl⟩
   · exact (hs.2 b (L0 (L5 (LA e) I.ok.above))).trans (I.base.keep b o e n hb hx)
   · obtain⟨sl,e1⟩:=I.base.slot b o e n hb hx;exact⟨sl,(hs.2 b (L0 (L5 (LA e) I.ok.above))).trans e1⟩
   · obtain⟨o',e1⟩:=I.base.there b o e hx;exact⟨o',(hs.2 b (L0 (L5 (LA e) I.ok.above))).trans e1⟩
   · by_cases hj:j=i
     · subst hj;rw[hi] at e1;cases e1;rw[NK hiσ] at e2;cases e2;exact⟨u,r,.inl ⟨hk,by simp⟩⟩
     · rw[List.getElem?_set_ne (N4 hj)] at e2;obtain⟨u',r',q⟩:=hl j y v' e1 e2 e3;refine⟨u',r',?_⟩;rcases q with ⟨k,e⟩|⟨k,c,e,z⟩
       · refine .inl ⟨k,?_⟩;have:y≠x:=λe=>hj (ql hN e1 (e ▸ hi));simp[this,e]
       · exact .inr ⟨k,c,e,z.sameBut hs (FJ y c e)⟩
   · obtain⟨w',z⟩:=I.cell y c e;exact⟨w',z.sameBut hs (FJ y c e)⟩
   · obtain⟨e,n,ne,nf,d⟩:=I.pin p hp;exact⟨(hs.2 p.1 ne).trans e,n,ne,nf,d⟩
 · have hfn:X.fn x=true:=by
    rcases hf with z|z
    · exact z
    · rw[z] at hk;cases hk
   obtain⟨c,hc⟩:=I.ok.has x (.inl hk);obtain⟨w',z⟩:=I.cell x c hc;refine wpAny_storeName_cell I.ok.kind hk hc z (λh' hc' hs=>?_);obtain⟨oc,hoc,hocd⟩:=id z;refine h {s with heap:=h'} ⟨I.ok,I.os,I.bare,⟨λb o e n hb hx=>?_,λb o e n hb hx=>?_,I.base.free,λb o e hx=>?_,I.base.n9,I.base.m8,I.base.og⟩,⟨m,hn.sameBut hs (N4 (FJ x c hc)),λj y v' e1 e2 e3=>?_⟩,λy c' e=>?_,I.free,I.gE,λp hp=>?_,tracked ⟨oc,hoc,I.gE x c hc⟩ hs,by simpa using I.len⟩ ⟨c,hs,.inr hc⟩
   · exact (hs.2 b (L0 (L5 (LA e) (I.ok.Ic x c hfn hc)))).trans (I.base.keep b o e n hb hx)
   · obtain⟨sl,e1⟩:=I.base.slot b o e n hb hx;exact⟨sl,(hs.2 b (L0 (L5 (LA e) (I.ok.Ic x c hfn hc)))).trans e1⟩
   · obtain⟨o',e1⟩:=I.base.there b o e hx;exact⟨o',(hs.2 b (L0 (L5 (LA e) (I.ok.Ic x c hfn hc)))).trans e1⟩
   · by_cases hj:j=i
     · subst hj;rw[hi] at e1;cases e1;rw[NK hiσ] at e2;cases e2;exact⟨u,r,.inr ⟨.inl hk,c,hc,hc'⟩⟩
     · rw[List.getElem?_set_ne (N4 hj)] at e2;obtain⟨u',r',q⟩:=hl j y v' e1 e2 e3;refine⟨u',r',?_⟩;rcases q with q|⟨k,c',e,z'⟩
       · exact .inl q
       · refine .inr ⟨k,c',e,z'.sameBut hs ?_⟩;rintro rfl;exact hj (ql hN e1 (I.ok.inj _ _ _ e hc ▸ hi))
   · by_cases hcc:c'=c
     · subst hcc;exact⟨_,hc'⟩
     · obtain⟨w2,z2⟩:=I.cell y c' e;exact⟨w2,z2.sameBut hs hcc⟩
   · obtain⟨e,n,ne,nf,d⟩:=I.pin p hp;refine⟨(hs.2 p.1 ?_).trans e,n,ne,nf,d⟩;intro q;rw[q,hoc] at e;have q':oc=p.2:=L1 e;exact d w' (by rw[←q'];exact hocd)
theorem ma {M:Model}{A:Around}{E:Od}{i:Nat}{x:Str}{v:V}{u:Value}{Q:Unit->Shared->Prop}(I:Inv X pins σ H s)(hN:X.N.Nodup)(hi:X.N[i]?=some x)(hx:Loc X.env.scope x)(r:RelV v u)
  (h:∀s',Inv X pins (σ.set i (some v)) H s'->Q () s')(hf:X.fn x=true∨X.env.scope.names.lookup x=some .local:=by first|exact .inl rfl|exact .inr rfl|assumption):wpAny M A (storeName X.env x u) Q E s :=
 rF I hN hi hx r (λs' I' _=>h s' I') hf
theorem Inv.F8 {s':Shared}{ch:List Addr}(I:Inv X pins σ H s)(ho:s'.os=s.os)(u:Un (vT X.stack) ch H H' s.heap s'.heap)(bw:ir X.prog X.w H' s'.heap)(hg:AllBare s'.gens)
  (hch:∀b∈ch,(b∈X.ex∨X.kJ.heap.get? b=none)/\b≠X.env.locals/\(∀x c,X.env.cells.lookup x=some c->c≠b)/\∀p∈X.pn++pins,p.1≠b):Inv X pins σ H' s':=by
 obtain⟨h',g',d',t',o'⟩:=s';have e:o'=s.os:=ho;subst e;exact I.Fl (g':=g') (t':=t') (d':=d') u bw hg hch
theorem Inv.Fq {s':Shared}{ch:List Addr}(I:Inv X pins σ H s)(ho:s'.os=s.os)(u:Un (vT X.stack) ch H H' s.heap s'.heap)(bw:ir X.prog X.w H' s'.heap)(hg:AllBare s'.gens)
  (hch:∀b∈ch,(b∈X.ex∨X.kJ.heap.objs.size<=b)/\b≠X.env.locals/\(∀x c,X.env.cells.lookup x=some c->c≠b)/\∀p∈X.pn++pins,p.1≠b):Inv X pins σ H' s':=I.F8 ho u bw hg (λb hb=>⟨(hch b hb).1.imp id λz=>xF z,(hch b hb).2⟩)
end
abbrev XK:=Value->Option Addr->Hp->Prop
abbrev St:=List (Option V)
abbrev VK:=V->Hp->Prop
abbrev TE:=St->Hp->VK->Prop
abbrev TT:=St->Hp->(Bool->Hp->Prop)->Prop
abbrev TA:=St->Hp->(List V->Hp->Prop)->Prop
structure Ends where
 nx:St->Hp->Prop
 rt:VK
 bk:St->Hp->Prop:=λ_ _=>False
 ct:St->Hp->Prop:=λ_ _=>False
abbrev TS:=Ends->St->Hp->Prop
def EP (X:Cx)(pins:Of)(σ:St)(Q:VK)(u:Value)(s':Shared):Prop:=∃v H',Inv X pins σ H' s'/\RelV v u/\Q v H'
def TP (X:Cx)(pins:Of)(σ:St)(Q:Bool->Hp->Prop)(b:Bool)(s':Shared):Prop:=∃H',Inv X pins σ H' s'/\Q b H'
def AP (X:Cx)(pins:Of)(σ:St)(Q:List V->Hp->Prop)(us:Og)(s':Shared):Prop:=∃vs H',Inv X pins σ H' s'/\Vals vs us/\Q vs H'
def SP (X:Cx)(pins:Of)(D:Ends)(f:Flow)(s':Shared):Prop :=
 match f with
 |.next=>∃σ' H',Inv X pins σ' H' s'/\D.nx σ' H'
 |.brk=>∃σ' H',Inv X pins σ' H' s'/\D.bk σ' H'
 |.cont=>∃σ' H',Inv X pins σ' H' s'/\D.ct σ' H'
 |.ret u=>∃v σ' H',Inv X pins σ' H' s'/\RelV v u/\D.rt v H'
def PE (X:Cx)(e:Expr)(t:TE):Prop :=
 ∀(pins:Of) (s:Shared) (σ:St) (H:Hp) (Q:VK),Inv X pins σ H s->t σ H Q->wpAny (model X.prog X.w) X.A (eval e X.env) (EP X pins σ Q) X.xe s
def PT (X:Cx)(e:Expr)(t:TT):Prop :=
 ∀(pins:Of) (s:Shared) (σ:St) (H:Hp) (Q:Bool->Hp->Prop),Inv X pins σ H s->t σ H Q->wpAny (model X.prog X.w) X.A (isTrue e X.env (eval e X.env)) (TP X pins σ Q) X.xe s
def PW (X:Cx)(e:Expr)(t:TT):Prop :=
 ∀(whole:Sem Value) (pins:Of) (s:Shared) (σ:St) (H:Hp) (Q:Bool->Hp->Prop),Inv X pins σ H s->t σ H Q->wpAny (model X.prog X.w) X.A (isTrue e X.env whole) (TP X pins σ Q) X.xe s
theorem PW.pt {X:Cx}{e:Expr}{t:TT}(h:PW X e t):PT X e t:=h _
def PA (X:Cx)(es:List Expr)(t:TA):Prop :=
 ∀(pos:Pos) (pins:Of) (s:Shared) (σ:St) (H:Hp) (Q:List V->Hp->Prop),Inv X pins σ H s->t σ H Q->wpAny (model X.prog X.w) X.A (spliced (backTo pos (starEach es X.env))) (AP X pins σ Q) X.xe s
def PS (X:Cx)(st:Stmt)(t:TS):Prop :=
 ∀(pins:Of) (s:Shared) (σ:St) (H:Hp) (D:Ends),Inv X pins σ H s->t D σ H->wpAny (model X.prog X.w) X.A (exec st X.env) (SP X pins D) X.xe s
def ur (X:Cx)(st:List Stmt)(t:TS):Prop :=
 ∀(pins:Of) (s:Shared) (σ:St) (H:Hp) (D:Ends),Inv X pins σ H s->t D σ H->wpAny (model X.prog X.w) X.A (execs st X.env) (SP X pins D) X.xe s
def Kz (X:Cx)(st:Stmt)(t:TS):Prop :=
 ∀(s:Shared) (σ:St) (H:Hp) (D:Ends),Inv X [] σ H s->t D σ H->wpAny (model X.prog X.w) X.A (exec st X.env) (SP X [] D) X.xe s
def BA (X:Cx)(st:List Stmt)(t:TS):Prop :=
 ∀(s:Shared) (σ:St) (H:Hp) (D:Ends),Inv X [] σ H s->t D σ H->wpAny (model X.prog X.w) X.A (execs st X.env) (SP X [] D) X.xe s
theorem bB {α:Type}{t:Sem α}{Q Q':α->Shared->Prop}{M:Model}{A:Around}{E:Od}{s:Shared}(h:wpAny M A t Q E s)(hQ:∀a s,Q a s->Q' a s):wpAny M A t Q' E s:=MF h hQ λ_ _ x=>x
section
variable {X:Cx}
def cH (i:Nat):TE:=λσ H Q=>∃v,σ[i]?=some (some v)/\Q v H
def tC (v:V):TE:=λ_ H Q=>Q v H
theorem HW {i:Nat}{x:Str}{pos:Pos}(hN:X.N[i]?=some x)(hv:Ib X.env.scope x)(hd:(x==("__debug__":Str))=false:=by decide)(hcd:(x==("__classdict__":Str))=false:=by decide):PE X (.Name x pos) (cH i):=by
 intro pins s σ H Q I h;obtain⟨v,e,h⟩:=h;obtain⟨m,hn,hl⟩:=I.loc;obtain⟨u,r,l⟩:=hl i x v hN e hv;have fin:EP X pins σ Q u s:=⟨v,H,I,r,h⟩;rcases l with ⟨hk,hm⟩|⟨hk,c,hc,hcell⟩
 · exact wpAny_Name (wpAny_loadName_local I.ok.kind hk hn hm fin) hd
 · rcases hk with hk|hk
   · exact wpAny_Name (wpAny_loadName_cell I.ok.kind hk hc hcell fin) hd
   · exact wpAny_Name (wpAny_loadName_free I.ok.kind hk hc hcell fin hcd) hd
theorem aw {i j pos}:PE X (.Constant (.int i) j pos) (tC (.int i)):=λ_ _ _ H _ I h=>wpAny_Constant_int ⟨.int i,H,I.tok _,⟨_,rfl⟩,h⟩
theorem mJ {b j pos}:PE X (.Constant (.bool b) j pos) (tC (.bl b)):=λ_ _ _ H _ I h=>Constant_bool ⟨.bl b,H,I,rfl,h⟩
theorem cy {j pos}:PE X (.Constant .none j pos) (tC .b8):=λ_ _ _ H _ I h=>Constant_none ⟨.b8,H,I,rfl,h⟩
theorem bt {x j pos}:PE X (.Constant (.str x) j pos) (tC (.str x)):=λ_ _ _ H _ I h=>Calls.Constant_str ⟨.str x,H,I.tok _,⟨_,rfl⟩,h⟩
def Gl (X:Cx)(x:Str):Prop:=X.env.kindOf x=some .globalImplicit
theorem lR {E:Od}{pins:Of}{s:Shared}{σ:St}{H:Hp}{x:Str}{u:Value}{pos:Pos}{Q:Od}(I:Inv X pins σ H s)(hg:Gl X x)(hm:X.mg x=some u)(h:Q u s)
  (hd:(x==("__debug__":Str))=false:=by decide):wpAny (model X.prog X.w) X.A (eval (.Name x pos) X.env) Q E s :=
 Calls.Name_function_global I.ok.kind hg (Calls.loadGlobal_global (by rw[I.ok.glob];exact I.mod.glob.keeps I.bk) hm h) hd
theorem lj {E:Od}{pins:Of}{s:Shared}{σ:St}{H:Hp}{x:Str}{u:Value}{pos:Pos}{Q:Od}(I:Inv X pins σ H s)(hg:Gl X x)(hm:X.mg x=none)(hv:bootBuiltins x=some u)(h:Q u s)
  (hn:x≠"__name__":=by decide)(hd:(x==("__debug__":Str))=false:=by decide):wpAny (model X.prog X.w) X.A (eval (.Name x pos) X.env) Q E s:=by
 obtain⟨mb,h1,h2⟩:=I.mod.blt;exact Calls.Name_function_global I.ok.kind hg (Calls.loadGlobal_builtin (by rw[I.ok.glob];exact I.mod.glob.keeps I.bk) hm (by rw[I.ok.blt];exact h1.keeps I.bk) ((h2 x hn).trans hv) h) hd
theorem D7 {x:Str}{v:V}{u:Value}{pos:Pos}(hg:Gl X x)(hm:X.mg x=some u)(r:RelV v u)(hd:(x==("__debug__":Str))=false:=by decide):PE X (.Name x pos) (tC v) :=
 λ_ _ _ H _ I h=>lR I hg hm ⟨v,H,I,r,h⟩ hd
variable {a b:Expr}{ta tb:TE}{pos:Pos}
def PC (X:Cx) (op:CmpOp) (a b:Expr) (t:TE):Prop :=
 ∀(pins:Of) (s:Shared) (σ:St) (H:Hp) (Q:VK),Inv X pins σ H s->t σ H Q ->
  wpAny (model X.prog X.w) X.A (eval a X.env) (λv s₁=>wpAny (model X.prog X.w) X.A (eval b X.env) (λu s₂=>wpAny (model X.prog X.w) X.A (compareOp op v u) (EP X pins σ Q) X.xe s₂) X.xe s₁) X.xe s
def tB (t:TE):TT:=λσ H Q=>t σ H λx H1=>∃c,x=.bl c/\Q c H1
theorem G8 {op:CmpOp}{t:TE}(h:PC X op a b t)(h1:behindInMarks op b=false:=by first|exact nobehind _ (by decide) (by decide)|rfl):PE X (.Compare a [op] [b] pos) t:=λpins s σ H Q I hw=>wpAny_Compare1 (h pins s σ H Q I hw) h1
theorem o6 {op:CmpOp}{t:TE}(h:PC X op a b t)(h1:behindInMarks op b=false:=by first|exact nobehind _ (by decide) (by decide)|rfl):PT X (.Compare a [op] [b] pos) (tB t):=by
 intro pins s σ H Q I hw;refine wpAny_isTrue_Compare1 (bB (h pins s σ H _ I hw) λv s1 h1=>bB h1 λu s2 h2=>bB h2 λc s3 ⟨x,H1,I1,r1,q1⟩=>?_) h1;obtain⟨d,rfl,q⟩:=q1;cases r1;exact MC ⟨H1,I1,q⟩
theorem hU {e:Expr}{t:TE}(h:PE X e t)(he:∀whole,isTrue e X.env whole=(do let v ←whole;standAt e.pos;holding [v] (truthy v)):=by intro _;rfl):PT X e (tB t):=by
 intro pins s σ H Q I hw;refine isTrue_plain (bB (h pins s σ H _ I hw) λv s1 ⟨x,H1,I1,r1,q1⟩=>?_) (he _);obtain⟨d,rfl,q⟩:=q1;cases r1;exact MC ⟨H1,I1,q⟩
variable {tA tB':TT}{rest:List Expr}
def Iu (t u:TT):TT:=λσ H Q=>t σ H λc H1=>if c=true then u σ H1 Q else Q false H1
def K0 (t u:TT):TT:=λσ H Q=>t σ H λc H1=>if c=true then Q true H1 else u σ H1 Q
def Ig (t:TT):TT:=λσ H Q=>t σ H λc H1=>Q (!c) H1
theorem oE (ha:PT X a tA):PW X (.BoolOp .And [a] pos) tA:=by
 intro wh pins s σ H Q I h;refine isTrue_and (bB (ha pins s σ H Q I h) λc s1 e=>?_);cases c with
 |true=>exact isTrue_and_nil e
 |false=>exact e
theorem cS (ha:PT X a tA):PW X (.BoolOp .Or [a] pos) tA:=by
 intro wh pins s σ H Q I h;refine isTrue_or (bB (ha pins s σ H Q I h) λc s1 e=>?_);cases c with
 |false=>exact isTrue_or_nil e
 |true=>exact e
theorem t8 (ha:PT X a tA)(hb:PW X (.BoolOp .And (b::rest) pos) tB'):PW X (.BoolOp .And (a::b::rest) pos) (Iu tA tB'):=by
 intro wh pins s σ H Q I h;refine isTrue_and (bB (ha pins s σ H _ I h) λc s1 ⟨H1,I1,q1⟩=>?_);cases c with
 |true=>exact hb wh pins s1 σ H1 Q I1 q1
 |false=>exact⟨H1,I1,q1⟩
theorem d9 (ha:PT X a tA)(hb:PW X (.BoolOp .Or (b::rest) pos) tB'):PW X (.BoolOp .Or (a::b::rest) pos) (K0 tA tB'):=by
 intro wh pins s σ H Q I h;refine isTrue_or (bB (ha pins s σ H _ I h) λc s1 ⟨H1,I1,q1⟩=>?_);cases c with
 |true=>exact⟨H1,I1,q1⟩
 |false=>exact hb wh pins s1 σ H1 Q I1 q1
theorem cz (ha:PT X a tA):PT X (.UnaryOp .Not a pos) (Ig tA):=by
 intro pins s σ H Q I h;exact isTrue_not (ha pins s σ H (λc H1=>Q (!c) H1) I h)
def Fp (ta tb:TE):TE:=λσ H Q=>ta σ H λx H1=>∃c,x=.bl c/\if c=true then tb σ H1 Q else Q (.bl false) H1
def JL (ta tb:TE):TE:=λσ H Q=>ta σ H λx H1=>∃c,x=.bl c/\if c=true then Q (.bl true) H1 else tb σ H1 Q
theorem vX {op}{t:TE}(h:PE X a t):PE X (.BoolOp op [a] pos) t:=λpins s σ H Q I hw=>BoolOp_one (h pins s σ H Q I hw)
theorem xS (ha:PE X a ta)(hb:PE X (.BoolOp .And (b::rest) pos) tb):PE X (.BoolOp .And (a::b::rest) pos) (Fp ta tb):=by
 intro pins s σ H Q I h;refine BoolOp_and (bB (ha pins s σ H _ I h) λv s1 ⟨x,H1,I1,r1,q1⟩=>?_);obtain⟨c,rfl,q1⟩:=q1;cases r1;refine MC ?_;cases c with
 |true=>exact hb pins s1 σ H1 Q I1 q1
 |false=>exact⟨.bl false,H1,I1,rfl,q1⟩
theorem IX (ha:PE X a ta)(hb:PE X (.BoolOp .Or (b::rest) pos) tb):PE X (.BoolOp .Or (a::b::rest) pos) (JL ta tb):=by
 intro pins s σ H Q I h;refine BoolOp_or (bB (ha pins s σ H _ I h) λv s1 ⟨x,H1,I1,r1,q1⟩=>?_);obtain⟨c,rfl,q1⟩:=q1;cases r1;refine MC ?_;cases c with
 |false=>exact hb pins s1 σ H1 Q I1 q1
 |true=>exact⟨.bl true,H1,I1,rfl,q1⟩
def K8 (t:TT)(ta tb:TE):TE:=λσ H Q=>t σ H λc H1=>if c=true then ta σ H1 Q else tb σ H1 Q
theorem AV {c:Expr}(hc:PT X c tA)(ha:PE X a ta)(hb:PE X b tb):PE X (.IfExp c a b pos) (K8 tA ta tb):=by
 intro pins s σ H Q I h;refine wpAny_IfExp (bB (hc pins s σ H _ I h) λd s1 ⟨H1,I1,q1⟩=>?_);cases d with
 |true=>exact ha pins s1 σ H1 Q I1 q1
 |false=>exact hb pins s1 σ H1 Q I1 q1
end
def aS (K:Oc)(H:Hp)(a:Addr)(xs:List V):Prop :=
 Rd H a (.lst xs) ∨
  ∃(o:Obj) (its:Array Value) (n:Nat),K.lookup a=some o/\o.cls=.type "list"/\o.dict=none/\o.data=.seq its n/\its.size<=sizeLine/\Vals xs its.toList
def bZ (K:Oc)(H:Hp)(a:Addr)(xs:List V):Prop :=
 Rd H a (.tup xs) ∨
  ∃(o:Obj) (its:Array Value) (n:Nat),K.lookup a=some o/\o.cls=.type "tuple"/\o.data=.seq its n/\its.size<=sizeLine/\Vals xs its.toList
def Bf:Value->Option V
 |.none=>some .b8
 |.bool b=>some (.bl b)
 |.int i _=>some (.int i)
 |.str x _=>some (.str x)
 |.bytes b _=>some (.vV b)
 |.float b _=>some (.flt b)
 |.ref a=>some (.ref a)
 |.type n=>some (.ty n)
 |_=>none
theorem RelV.abs {x:V}{u:Value}(r:RelV x u):Bf u=some x:=by
 cases x with
 |b8=>cases r;rfl
 |bl _=>cases r;rfl
 |int _=>obtain⟨t,rfl⟩:=r;rfl
 |str _=>obtain⟨t,rfl⟩:=r;rfl
 |vV _=>obtain⟨t,rfl⟩:=r;rfl
 |flt _=>obtain⟨t,rfl⟩:=r;rfl
 |ref _=>cases r;rfl
 |ty _=>cases r;rfl
theorem RelV.inj {x y:V}{u:Value}(r:RelV x u)(q:RelV y u):x=y:=L1 (r.abs.symm.trans q.abs)
theorem Vals.inj:∀{xs ys:List V} {us:Og},Vals xs us->Vals ys us->xs=ys
 |_,_,_,.nil,.nil=>rfl
 |_,_,_,.cons r t,.cons r' t'=>by rw[r.inj r',Vals.inj t t']
section
variable {X:Cx}{pins:Of}{σ:St}{H:Hp}{s:Shared}{a:Addr}{xs ys:List V}
theorem aS.of {K:Oc} (h:H a=some (.lst xs)):aS K H a xs:=.inl (.inl h)
theorem bZ.of {K:Oc}(h:H a=some (.tup xs)):bZ K H a xs:=.inl (.inl h)
theorem Inv.list (I:Inv X pins σ H s)(h:aS X.K H a xs):∃its:Og,Vals xs its/\PlainL s.heap a its.toArray/\xs.length<=sizeLine:=by
 rcases h with h|⟨o,its,n,hk,hc,hd,hs,hz,r⟩
 · obtain⟨z,its,n,r,e⟩:=h.ok I.bw;exact⟨its,r,⟨_,n,e,rfl,rfl,rfl⟩,z⟩
 · refine⟨its.toList,r,⟨o,n,I.mQ a o hk,hc,hd,by simpa using hs⟩,?_⟩;have e:=r.length;simp only[M9] at e;omega
theorem Inv.tuple (I:Inv X pins σ H s)(h:bZ X.K H a xs):∃its:Og,Vals xs its/\IsTup s.heap a its.toArray/\xs.length<=sizeLine:=by
 rcases h with h|⟨o,its,n,hk,hc,hs,hz,r⟩
 · obtain⟨z,its,r,p⟩:=h.ok I.bw;exact⟨its,r,p,z⟩
 · refine⟨its.toList,r,⟨o,I.mQ a o hk,hc,n,by simpa using hs⟩,?_⟩;have e:=r.length;simp only[M9] at e;omega
theorem Inv.qD (I:Inv X pins σ H s)(h:aS X.K H a xs)(h':aS X.K H a ys):xs=ys:=by
 obtain⟨its,r,⟨o,n,e,_,_,d⟩,_⟩:=I.list h;obtain⟨its',r',⟨o',n',e',_,_,d'⟩,_⟩:=I.list h';rw[e] at e';cases e';rw[d] at d';injection d' with d1 _;have:its=its':=by simpa using Mu Array.toList d1
 subst this;exact r.inj r'
theorem Inv.rG (I:Inv X pins σ H s)(h:bZ X.K H a xs)(h':bZ X.K H a ys):xs=ys:=by
 obtain⟨its,r,⟨o,e,_,n,d⟩,_⟩:=I.tuple h;obtain⟨its',r',⟨o',e',_,n',d'⟩,_⟩:=I.tuple h';rw[e] at e';cases e';rw[d] at d';injection d' with d1 _;have:its=its':=by simpa using Mu Array.toList d1
 subst this;exact r.inj r'
end
abbrev Cx.iB (X:Cx)(E:Od):Cx:={X with xe:=E}
abbrev Cx.H_ (X:Cx):Cx:=X.iB λ_ _=>False
theorem Cx.Ok.iB {X:Cx}(ok:X.Ok)(E:Od):(X.iB E).Ok :=
 ⟨ok.mod,ok.kind,ok.glob,ok.blt,ok.above,ok.inj,ok.has,ok.Ic,ok.hd,ok.frames,ok.FY,ok.Jw,ok.bs,ok.C2,ok.Ak,ok.zC,ok.mi,ok.F7⟩
theorem Cx.Ok.dm {X:Cx}{E:Od}(ok:(X.iB E).Ok):X.Ok :=
 ⟨ok.mod,ok.kind,ok.glob,ok.blt,ok.above,ok.inj,ok.has,ok.Ic,ok.hd,ok.frames,ok.FY,ok.Jw,ok.bs,ok.C2,ok.Ak,ok.zC,ok.mi,ok.F7⟩
section
variable {X:Cx}{pins:Of}{σ:St}{H:Hp}{s:Shared}{E:Od}
theorem Inv.iB (I:Inv X pins σ H s) (E:Od):Inv (X.iB E) pins σ H s:=⟨I.ok.iB E,I.os,I.bare,I.base,I.loc,I.cell,I.free,I.gE,I.pin,I.bw,I.len⟩
theorem Inv.dm (I:Inv (X.iB E) pins σ H s):Inv X pins σ H s:=⟨I.ok.dm,I.os,I.bare,I.base,I.loc,I.cell,I.free,I.gE,I.pin,I.bw,I.len⟩
theorem SP.dm {D:Ends}{f:Flow}{s':Shared}(h:SP (X.iB E) pins D f s'):SP X pins D f s':=by
 cases f with
 |next=>obtain⟨σ',H',I,q⟩:=h;exact⟨σ',H',I.dm,q⟩
 |brk=>obtain⟨σ',H',I,q⟩:=h;exact⟨σ',H',I.dm,q⟩
 |cont=>obtain⟨σ',H',I,q⟩:=h;exact⟨σ',H',I.dm,q⟩
 |ret u=>obtain⟨v,σ',H',I,r,q⟩:=h;exact⟨v,σ',H',I.dm,r,q⟩
theorem ur.H_ {st:List Stmt}{t:TS}(h:ur X.H_ st t):ur X st t:=λpins s σ H D I hw =>
 MF (h pins s σ H D (I.iB _) hw) (λ_ _ q=>q.dm) λ_ _ z=>False.elim z
end
section
variable {X:Cx}{st:Stmt}{rest:List Stmt}{t u:TS}{e:Expr}{te:TE}{pos:Pos}
def Ir:TS:=λD σ H=>D.nx σ H
def EY (t u:TS):TS:=λD σ H=>t {D with nx:=u D} σ H
theorem aC:ur X [] Ir:=λ_ _ σ H _ I h=>Nl ⟨σ,H,I,h⟩
theorem af (h1:PS X st t)(h2:ur X rest u):ur X (st::rest) (EY t u):=by
 intro pins s σ H D I h;refine wpAny_execs_cons (bB (h1 pins s σ H {D with nx:=u D} I h) λf s1 q=>?_);cases f with
 |next =>
  obtain⟨σ',H',I',q⟩:=q;exact h2 pins s1 σ' H' D I' q
 |ret v=>exact q
 |brk=>exact q
 |cont=>exact q
theorem ak (h1:PS X st t):ur X [st] t:=by
 intro pins s σ H D I h;refine wpAny_execs_cons (bB (h1 pins s σ H D I h) λf s1 q=>?_);cases f with
 |next=>exact Nl q
 |ret v=>exact q
 |brk=>exact q
 |cont=>exact q
theorem Inv.quiet {pins:Of}{σ:St}{H:Hp}{s:Shared}(I:Inv X pins σ H s):interactive X.env=false:=by simp[interactive,I.ok.kind]
def JM (te:TE):TS:=λD σ H=>te σ H λ_ H1=>D.nx σ H1
theorem cZ (he:PE X e te)(hs:swapsWith e none pos.line X.env=pure false:=by rfl):PS X (.Expr e pos) (JM te):=by
 intro pins s σ H D I h;exact wpAny_Expr_any (bB (he pins s σ H _ I h) λv s1 ⟨x,H1,I1,r1,q1⟩=>⟨σ,H1,I1,q1⟩) I.quiet hs
def EN (te:TE):TS:=λD σ H=>te σ H D.rt
theorem aA (he:PE X e te):PS X (.Return (some e) pos) (EN te):=by
 intro pins s σ H D I h;exact wpAny_Return_some (bB (he pins s σ H _ I h) λv s1 ⟨x,H1,I1,r1,q1⟩=>⟨x,σ,H1,I1,r1,q1⟩)
def IC (c:TT)(t u:TS):TS:=λD σ H=>c σ H λb H1=>if b=true then t D σ H1 else u D σ H1
theorem aT {c:Expr}{a b:List Stmt}{tc:TT}(hc:PT X c tc)(ha:ur X a t)(hb:ur X b u):PS X (.If c a b pos) (IC tc t u):=by
 intro pins s σ H D I h;refine wpAny_If (bB (hc pins s σ H _ I h) λd s1 ⟨H1,I1,q1⟩=>?_);cases d with
 |true=>exact ha pins s1 σ H1 D I1 q1
 |false=>exact hb pins s1 σ H1 D I1 q1
end
abbrev TG:=V->St->Hp->(St->Hp->Prop)->Prop
abbrev Gi:=List V->St->Hp->(St->Hp->Prop)->Prop
def PG (X:Cx)(target:Expr)(t:TG):Prop :=
 ∀(pins:Of) (s:Shared) (σ:St) (H:Hp) (v:V) (u:Value) (Q:St->Hp->Prop),Inv X pins σ H s->RelV v u->t v σ H Q ->
  wpAny (model X.prog X.w) X.A (assign target X.env u) (λ_ s'=>∃σ' H',Inv X pins σ' H' s'/\Q σ' H') X.xe s
def JQ (X:Cx)(ts:List Expr)(t:Gi):Prop :=
 ∀(pins:Of) (s:Shared) (σ:St) (H:Hp) (vs:List V) (us:Og) (Q:St->Hp->Prop),Inv X pins σ H s->Vals vs us->t vs σ H Q ->
  wpAny (model X.prog X.w) X.A (assignInOrder ((assignEach ts X.env).map (·.2)) us) (λ_ s'=>∃σ' H',Inv X pins σ' H' s'/\Q σ' H') X.xe s
abbrev GO:=V->V->V->Hp->(Hp->Prop)->Prop
def IK (X:Cx)(t:GO):Prop :=
 ∀(pins:Of) (s:Shared) (σ:St) (H:Hp) (o i v:V) (ov iv u:Value) (Q:Hp->Prop),Inv X pins σ H s->RelV o ov->RelV i iv->RelV v u->t o i v H Q ->
  wpAny (model X.prog X.w) X.A (setItem ov iv u) (λ_ s'=>∃H',Inv X pins σ H' s'/\Q H') X.xe s
abbrev Ia:=V->V->Hp->VK->Prop
def Kf (X:Cx)(op:Operator)(t:Ia):Prop :=
 ∀(pins:Of) (s:Shared) (σ:St) (H:Hp) (x y:V) (v u:Value) (Q:VK),Inv X pins σ H s->RelV x v->RelV y u->t x y H Q ->
  wpAny (model X.prog X.w) X.A (inplaceOp op v u) (EP X pins σ Q) X.xe s
section
variable {X:Cx}{pos:Pos}
def gg (i:Nat):TG:=λv σ H Q=>Q (σ.set i (some v)) H
theorem aK {i:Nat}{x:Str}(hN:X.N.Nodup)(hi:X.N[i]?=some x)(hx:Loc X.env.scope x)(hf:X.fn x=true∨X.env.scope.names.lookup x=some .local:=by first|exact .inl rfl|exact .inr rfl|assumption):PG X (.Name x pos) (gg i):=by
 intro pins s σ H v u Q I r h;exact wpAny_assign_Name (ma I hN hi hx r (λs' I'=>⟨_,H,I',h⟩) hf)
def Fb:Gi:=λvs σ H Q=>vs=[]/\Q σ H
def qB (t:TG)(u:Gi):Gi:=λvs σ H Q=>∃v r,vs=v::r/\t v σ H λσ' H'=>u r σ' H' Q
theorem i7:JQ X [] Fb:=by
 intro pins s σ H vs us Q I r h;obtain⟨e,h⟩:=h;subst e;cases r;exact assignInOrder_nil ⟨σ,H,I,h⟩
theorem b7 {e:Expr}{es:List Expr}{t:TG}{u:Gi}(h1:PG X e t)(h2:JQ X es u)
  (hs:(assignEach (e::es) X.env).map (·.2)=assign e X.env::(assignEach es X.env).map (·.2):=by rfl):JQ X (e::es) (qB t u):=by
 intro pins s σ H vs us Q I r h;obtain⟨v,vr,e1,h⟩:=h;subst e1;cases r with
 |cons r rr =>
  rw[hs];refine assignInOrder_cons (bB (h1 pins s σ H _ _ _ I r h) λ_ s1 ⟨σ1,H1,I1,q1⟩=>?_);exact h2 pins s1 σ1 H1 _ _ Q I1 rr q1
def DH (K:Oc)(n:Nat)(t:Gi):TG:=λv σ H Q=>∃a xs,v=.ref a/\bZ K H a xs/\xs.length=n/\t xs σ H Q
theorem ly {es:List Expr}{k:Nat}{t:Gi}{n:Nat}(hc:X.calm=true)(h:JQ X es t)
  (hn:(assignEach es X.env).length=n:=by rfl)(hst:(assignEach es X.env).findIdx? (·.1)=none:=by rfl):PG X (.Tuple es k pos) (DH X.K n t):=by
 intro pins s σ H v u Q I r hw;obtain⟨a,xs,e1,hq,hl,hw⟩:=hw;subst e1;cases r;obtain⟨its,rv,ht,hz⟩:=I.tuple hq;refine assign_Tuple_tuple (I.ok.hd hc) ht (by simp[hn,←hl,rv.length]) hst λh' hx=>?_;have I1:Inv X pins σ H {s with heap:=h'}:=I.kept (t':=s.toks) λb o e=>hx b o (L0 (LA e)) e;exact h pins _ σ H xs _ Q I1 (by simpa using rv) hw
def zK (te:TE)(g:TG):TS:=λD σ H=>te σ H λx H1=>g x σ H1 D.nx
theorem B2 {tg e:Expr}{te:TE}{g:TG}(he:PE X e te)(hg:PG X tg g)(hs:swapsWithSole [tg] e pos.line X.env=pure false:=by rfl)(hw:swappedStores [tg] e X.env=pure none:=by rfl)
  (h1:(assignEach [tg] X.env).map (·.2)=[assign tg X.env]:=by rfl):PS X (.Assign [tg] e pos) (zK te g):=by
 intro pins s σ H D I h;refine wpAny_Assign_stores (bB (he pins s σ H _ I h) λv s1 ⟨x,H1,I1,r1,q1⟩=>?_) hs hw;rw[h1];exact bB (hg pins s1 σ H1 x v _ I1 r1 q1) λ_ s2 q=>q
theorem aN {i:Nat}{x:Str}{e:Expr}{te:TE}{pos':Pos}(hN:X.N.Nodup)(hi:X.N[i]?=some x)(hx:Loc X.env.scope x)(he:PE X e te)(hs:swapsWith e (some (.Name x pos')) pos.line X.env=pure false:=by rfl)(hf:X.fn x=true∨X.env.scope.names.lookup x=some .local:=by first|exact .inl rfl|exact .inr rfl|assumption) :
  PS X (.Assign [.Name x pos'] e pos) (zK te (gg i)):=by
 intro pins s σ H D I h;refine wpAny_Assign_Name (bB (he pins s σ H _ I h) λv s1 ⟨y,H1,I1,r1,q1⟩=>?_) hs;exact ma I1 hN hi hx r1 (λs2 I2=>⟨_,H1,I2,q1⟩) hf
def J1 (i:Nat)(te:TE)(ti:Ia):TS:=λD σ H=>∃x,σ[i]?=some (some x)/\te σ H λy H1=>ti x y H1 λz H2=>D.nx (σ.set i (some z)) H2
theorem BH {i:Nat}{x:Str}{e:Expr}{te:TE}{op:Operator}{ti:Ia}{pos':Pos}(hN:X.N.Nodup)(hi:X.N[i]?=some x)(hx:Loc X.env.scope x)(he:PE X e te)(ho:Kf X op ti)(hf:X.fn x=true∨X.env.scope.names.lookup x=some .local:=by first|exact .inl rfl|exact .inr rfl|assumption) :
  PS X (.AugAssign (.Name x pos') op e pos) (J1 i te ti):=by
 intro pins s σ H D I h;obtain⟨v,e1,h⟩:=h;obtain⟨m,hn,hl⟩:=I.loc;have vis:Ib X.env.scope x:=by rcases hx with k|k;exact .inl k;exact .inr (.inl k)
 obtain⟨u,r,l⟩:=hl i x v hi e1 vis;refine wpAny_AugAssign_Name ?_;have go:wpAny (model X.prog X.w) X.A (eval e X.env) (λw s₂=>wpAny (model X.prog X.w) X.A (inplaceOp op u w) (λr s₃=>wpAny (model X.prog X.w) X.A (storeName X.env x r) (λ_=>SP X pins D .next) X.xe s₃) X.xe s₂) X.xe s:=by
  refine bB (he pins s σ H _ I h) λw s1 ⟨y,H1,I1,r1,q1⟩=>?_;refine bB (ho pins s1 σ H1 v y u w _ I1 r r1 q1) λz s2 ⟨zv,H2,I2,r2,q2⟩=>?_;exact ma I2 hN hi hx r2 (λs3 I3=>⟨_,H2,I3,q2⟩) hf
 rcases l with ⟨hk,hm⟩|⟨hk,c,hc,hcell⟩
 · exact wpAny_loadName_local I.ok.kind hk hn hm go
 · rcases hk with hk|hk
   · exact wpAny_loadName_cell I.ok.kind hk hc hcell go
   · rcases hx with k|k
     · have:X.env.scope.names.lookup x=some .free:=hk;rw[k] at this;cases this
     · have:X.env.scope.names.lookup x=some .free:=hk;rw[k] at this;cases this
def Jr (to ti te:TE)(tget:V->V->Hp->VK->Prop)(tip:Ia)(tset:GO):TS:=λD σ H=>to σ H λo H1=>ti σ H1 λi H2=>tget o i H2 λx H3=>te σ H3 λy H4=>tip x y H4 λz H5=>tset o i z H5 λH6=>D.nx σ H6
def Im (X:Cx)(t:V->V->Hp->VK->Prop):Prop :=
 ∀(pins:Of) (s:Shared) (σ:St) (H:Hp) (o i:V) (ov iv:Value) (Q:VK),Inv X pins σ H s->RelV o ov->RelV i iv->t o i H Q ->
  wpAny (model X.prog X.w) X.A (getItem ov iv) (EP X pins σ Q) X.xe s
theorem C9 {o i e:Expr}{to ti te:TE}{tget:V->V->Hp->VK->Prop}{tip:Ia}{tset:GO}{op:Operator}{tpos:Pos}(ho:PE X o to)(hi:PE X i ti)(hg:Im X tget)(he:PE X e te)(hp:Kf X op tip)(hs:IK X tset)
  (ha:∀ov iv new,augStore i ov iv new=(do holding [new,ov,iv] (setItem ov iv new);release [new,ov,iv] [];pure .next):=by intros;rfl):PS X (.AugAssign (.Subscript o i tpos) op e pos) (Jr to ti te tget tip tset):=by
 intro pins s σ H D I h;refine wpAny_AugAssign_SubscriptAny (bB (ho pins s σ H _ I h) λov s1 ⟨x1,H1,I1,r1,q1⟩=>?_) ha;refine bB (hi pins s1 σ H1 _ I1 q1) λiv s2 ⟨x2,H2,I2,r2,q2⟩=>?_;refine bB (hg pins s2 σ H2 x1 x2 ov iv _ I2 r1 r2 q2) λold s3 ⟨x3,H3,I3,r3,q3⟩=>?_;refine bB (he pins s3 σ H3 _ I3 q3) λv s4 ⟨x4,H4,I4,r4,q4⟩=>?_;refine bB (hp pins s4 σ H4 x3 x4 old v _ I4 r3 r4 q4) λnew s5 ⟨x5,H5,I5,r5,q5⟩=>?_;exact bB (hs pins s5 σ H5 x1 x2 x5 ov iv new _ I5 r1 r2 r5 q5) λ_ s6 ⟨H6,I6,q6⟩=>⟨σ,H6,I6,q6⟩
def Ll (f:Int->Int->Int):Ia:=λx y H Q=>∃i j,x=.int i/\y=.int j/\Q (.int (f i j)) H
theorem AH:Kf X .Add (Ll λi j=>i+j):=by
 intro pins s σ H x y v u Q I r1 r2 h;obtain⟨i,j,e1,e2,q⟩:=h;subst e1;subst e2;obtain⟨t,rfl⟩:=r1;obtain⟨t',rfl⟩:=r2;exact iadd_int ⟨.int _,H,I.tok _,⟨_,rfl⟩,q⟩
end
section
variable {X:Cx}{pos:Pos}
def xG (c:TT) (tb:TS):TS:=λD σ H=>∃W:Nat->St->Hp->Prop,(∃m,W m σ H)/\∀m σ H,W m σ H ->
 c σ H λb H1=>if b=true then ∃N:St->Hp->Prop,(∀σ' H',N σ' H'->∃m',m' < m/\W m' σ' H')/\tb {D with nx:=N,ct:=N,bk:=D.nx} σ H1 else D.nx σ H1
theorem CV {c:Expr}{body:List Stmt}{tc:TT}{tb:TS}(hp:PassesOwn (model X.prog X.w) X.A X.env X.xe)(hc:PT X c tc)(hb:ur X body tb):PS X (.While c body [] pos) (xG tc tb):=by
 intro pins s σ H D I h;obtain⟨W,⟨m0,w0⟩,turn⟩:=h;refine wpAny_While (codeAny_whileLoop (λn s'=>∃σ' H',Inv X pins σ' H' s'/\W n σ' H') ?_ m0 ⟨σ,H,I,w0⟩);rintro n s1 ⟨σ1,H1,I1,w1⟩;refine MH hp (bB (hc pins s1 σ1 H1 _ I1 (turn n σ1 H1 w1)) λb s2 ⟨H2,I2,q2⟩=>?_);cases b with
 |true =>
  obtain⟨N,hN,q2⟩:=q2;rw[Lp rfl];refine MH hp (bB (hb pins s2 σ1 H2 _ I2 q2) λf s3 q3=>?_);cases f with
  |next =>
   obtain⟨σ3,H3,I3,n3⟩:=q3;obtain⟨m',hm,w3⟩:=hN σ3 H3 n3;exact⟨m',hm,σ3,H3,I3,w3⟩
  |cont =>
   obtain⟨σ3,H3,I3,n3⟩:=q3;obtain⟨m',hm,w3⟩:=hN σ3 H3 n3;exact⟨m',hm,σ3,H3,I3,w3⟩
  |brk=>exact q3
  |ret v=>exact q3
 |false =>
  rw[Lo LN];exact Nl ⟨σ1,H2,I2,q2⟩
end
structure It where
 go:Nat->Hp->Prop
 vU:Nat->Hp->V->Hp->Prop
 stop:Nat->Hp->Prop
def mZ (X:Cx)(pins:Of)(H:Hp)(b:Addr):Prop :=
 H b=none/\b≠X.env.locals/\b∉X.fs/\(b∈X.ex∨X.kJ.heap.objs.size<=b)/\(∀x c,X.env.cells.lookup x=some c->c≠b)/\∀p∈X.pn++pins,p.1≠b
theorem Inv.v8 {X:Cx}{pins:Of}{σ:St}{H H':Hp}{s:Shared}{b:Addr}(I:Inv X pins σ H s)(hb:s.heap.objs.size<=b)(hn:H' b=none):mZ X pins H' b:=by
 refine⟨hn,Nat.ne_of_gt (L5 I.lt hb),I.J_ hb,.inr (Ma I.sz hb),λx c e z=>?_,λp hp z=>?_⟩
 · obtain⟨v,q⟩:=I.cell x c e;exact absurd (L5 q.lt (by rw[z];exact hb)) (MI _)
 · exact absurd (L5 (LA (I.pin p hp).1) (by rw[z];exact hb)) (MI _)
structure Turn (P:Program)(w:World)(K:Oc)(tg:Expr)(J:It)(fp:List Addr)(it:Addr)(tn:Nat->Heap->Prop):Prop where
 mem:it∈fp
 obj:∀i h,tn i h->∀b∈fp,∃o,h.get? b=some o/\∀v,o.data≠.cell v
 keep:∀i h h',tn i h->(∀b∈fp,∀o,h.get? b=some o->h'.get? b=some o)->tn i h'
 item:∀(X:Cx),X.prog=P->X.w=w->X.K=K->X.calm=true->∀(i:Nat) (pins:Of) (s:Shared) (σ:St) (H:Hp) (E:Od),Inv X pins σ H s->(∀b∈fp,mZ X pins H b)->tn i s.heap->J.go i H ->
  wpAny (model P w) X.A (pyNext (.ref it)) (λr s1=>∃u,r=some u /\
   wpAny (model P w) X.A (letOwnedTupleGo tg (.ref it) u) (λ_ s2=>∃x H',Inv X pins σ H' s2/\RelV x u/\J.vU i H x H'/\tn (i+1) s2.heap/\∀b∈fp,H' b=none) E s1) E s
 done:∀(X:Cx),X.prog=P->X.w=w->X.K=K->X.calm=true->∀(i:Nat) (pins:Of) (s:Shared) (σ:St) (H:Hp) (E:Od),Inv X pins σ H s->(∀b∈fp,mZ X pins H b)->tn i s.heap->J.stop i H ->
  wpAny (model P w) X.A (pyNext (.ref it)) (λr s1=>r=none/\Inv X pins σ H s1) E s
 self:∀(A:Around) (i:Nat) (s:Shared) (Q:Od) (E:Od),tn i s.heap->Q (.ref it) s->wpAny (model P w) A (pyIter (.ref it)) Q E s
abbrev TI:=St->Hp->(It->Hp->Prop)->Prop
def KN (X:Cx)(pins:Of)(σ:St)(tg:Expr)(R:It->Hp->Prop)(itv:Value)(s2:Shared):Prop :=
 ∃(it:Addr) (fp:List Addr) (tn:Nat->Heap->Prop) (J:It) (H':Hp),itv=.ref it/\Inv X pins σ H' s2/\Turn X.prog X.w X.K tg J fp it tn/\tn 0 s2.heap/\(∀b∈fp,mZ X pins H' b)/\R J H'
def PI (X:Cx)(tg iter:Expr)(wi:TI):Prop :=
 ∀(pins:Of) (s:Shared) (σ:St) (H:Hp) (R:It->Hp->Prop),Inv X pins σ H s->wi σ H R ->
  wpAny (model X.prog X.w) X.A (eval iter X.env) (λv s1=>wpAny (model X.prog X.w) X.A (pyIter v) (KN X pins σ tg R) X.xe s1) X.xe s
theorem uE {M:Model}{A:Around}{E:Od}{s:Shared}{tg:Expr}{it:Addr}{u:Value}{o:Obj}{n:String}{vs:Array Value}{Q:Unit->Shared->Prop}(ho:s.heap.get? it=some o)(hc:o.cls=.type n)(hd:o.data=.fields vs)
  (hn:["enumerate","zip","dict_itemiterator","dict_reverseitemiterator","odict_iterator","itertools.zip_longest","itertools.pairwise"].contains n=false)(hQ:Q () s):wpAny M A (letOwnedTupleGo tg (.ref it) u) Q E s:=by
 unfold letOwnedTupleGo;cases tg <;> first
  |exact Lu hQ
  |(cases u <;> first
    |exact Lu hQ
    |(refine Lm (wpAny_load ho ?_)
      rw[hc,hd];show wpAny M A (if (["enumerate","zip","dict_itemiterator","dict_reverseitemiterator","odict_iterator","itertools.zip_longest","itertools.pairwise"].contains n&&vs[0]?==some (rawInt _))=true then _ else _) Q E s;rw[Lo (by intro h;rw[hn,Bool.false_and] at h;cases h)];exact Lu hQ))
def B0 (K:Oc)(a:Addr):It :=
 ⟨λi H=>∃xs x,aS K H a xs/\xs[i]?=some x,λi H x H'=>H'=H/\∀xs,aS K H a xs->xs[i]?=some x,λi H=>∃xs,aS K H a xs/\xs.length<=i⟩
def IQ (K:Oc)(a:Addr):It :=
 ⟨λi H=>∃xs x,bZ K H a xs/\xs[i]?=some x,λi H x H'=>H'=H/\∀xs,bZ K H a xs->xs[i]?=some x,λi H=>∃xs,bZ K H a xs/\xs.length<=i⟩
def Ax (lo:Int)(n:Nat):It:=⟨λi _=>i < n,λi H x H'=>H'=H/\x=.int (lo+i),λi _=>n<=i⟩
theorem zY {P:Program}{w:World}{K:Oc}{tg:Expr}(a it:Addr):Turn P w K tg (B0 K a) [it] it (λi h=>h.IsListIter it a i) where
 mem:=by simp
 obj:=λi h st b hb=>by
  have e:b=it:=by simpa using hb
  subst e;obtain⟨o,e,c,d⟩:=st;exact⟨o,e,λv z=>by rw[d] at z;cases z⟩
 keep:=λi h h' st k=>st.at λo e=>k it (by simp) o e
 item:=by
  intro X hP hw hK hc i pins s σ H E I hf st hg;subst hP hw hK;obtain⟨xs,x,hq,hx⟩:=hg;obtain⟨its,rv,p,hz⟩:=I.list hq;obtain⟨u,hu,ru⟩:=rv.get hx;obtain⟨f0,f1,f2,f3,f4,f5⟩:=hf it (by simp);refine wpAny_pyNext_list_item st p.isList (x:=u) (by simpa using hu) λh' st' sb=>?_;have I1:Inv X pins σ H {s with heap:=h'}:=I.turned (t':=s.toks) (λb o hb e=>(sb.2 b hb).trans e) f0 f1 f3 f4 f5;obtain⟨o,e,c,d⟩:=id st';exact⟨u,rfl,uE (s:={s with heap:=h'}) e c d (by decide) ⟨x,H,I1,ru,⟨rfl,λys hy=>by rw[I.qD hy hq];exact hx⟩,st',λb hb=>(hf b hb).1⟩⟩
 done:=by
  intro X hP hw hK hc i pins s σ H E I hf st hg;subst hP hw hK;obtain⟨xs,hq,hx⟩:=hg;obtain⟨its,rv,p,hz⟩:=I.list hq;obtain⟨f0,f1,f2,f3,f4,f5⟩:=hf it (by simp);have hl:=rv.length;exact wpAny_pyNext_list_end (I.ok.hd hc) st p.isList (by simp;omega) λh' eb=>⟨rfl,I.turned (t':=s.toks) (λb o hb e=>eb b o hb e) f0 f1 f3 f4 f5⟩
 self:=λ_ _ _ _ _ st h=>wpAny_pyIter_listiter st h
theorem wN {P:Program}{w:World}{K:Oc}{tg:Expr}(a it:Addr):Turn P w K tg (IQ K a) [it] it (λi h=>h.IsTupleIter it a i) where
 mem:=by simp
 obj:=λi h st b hb=>by
  have e:b=it:=by simpa using hb
  subst e;obtain⟨o,e,c,d⟩:=st;exact⟨o,e,λv z=>by rw[d] at z;cases z⟩
 keep:=λi h h' st k=>st.at λo e=>k it (by simp) o e
 item:=by
  intro X hP hw hK hc i pins s σ H E I hf st hg;subst hP hw hK;obtain⟨xs,x,hq,hx⟩:=hg;obtain⟨its,rv,p,hz⟩:=I.tuple hq;obtain⟨u,hu,ru⟩:=rv.get hx;obtain⟨f0,f1,f2,f3,f4,f5⟩:=hf it (by simp);refine wpAny_pyNext_tuple_item st (show s.heap.IsTuple a its.toArray from p) (x:=u) (by simpa using hu) λh' st' sb=>?_;have I1:Inv X pins σ H {s with heap:=h'}:=I.turned (t':=s.toks) (λb o hb e=>(sb.2 b hb).trans e) f0 f1 f3 f4 f5;obtain⟨o,e,c,d⟩:=id st';exact⟨u,rfl,uE (s:={s with heap:=h'}) e c d (by decide) ⟨x,H,I1,ru,⟨rfl,λys hy=>by rw[I.rG hy hq];exact hx⟩,st',λb hb=>(hf b hb).1⟩⟩
 done:=by
  intro X hP hw hK hc i pins s σ H E I hf st hg;subst hP hw hK;obtain⟨xs,hq,hx⟩:=hg;obtain⟨its,rv,p,hz⟩:=I.tuple hq;obtain⟨f0,f1,f2,f3,f4,f5⟩:=hf it (by simp);have hl:=rv.length;exact wpAny_pyNext_tuple_end (I.ok.hd hc) st (show s.heap.IsTuple a its.toArray from p) (by simp;omega) λh' eb=>⟨rfl,I.turned (t':=s.toks) (λb o hb e=>eb b o hb e) f0 f1 f3 f4 f5⟩
 self:=λ_ _ _ _ _ st h=>wpAny_pyIter_tupleiter st h
theorem wH {P:Program}{w:World}{K:Oc}{tg:Expr}(it:Addr)(lo:Int)(n:Nat):Turn P w K tg (Ax lo n) [it] it (λi h=>IsRangeIter h it (lo+(i:Nat)*1) ((n:Int) - (i:Nat)) 1) where
 mem:=by simp
 obj:=λi h st b hb=>by
  have e:b=it:=by simpa using hb
  subst e;exact⟨_,st,λv z=>by
   have z':Data.fields _=Data.cell v:=z;cases z'⟩
 keep:=λi h h' st k=>k it (by simp) _ st
 item:=by
  intro X hP hw hK hc i pins s σ H E I hf st hg;subst hP hw hK;obtain⟨f0,f1,f2,f3,f4,f5⟩:=hf it (by simp);have W:=Walks.range (prog:=X.prog) (w:=X.w) (I.ok.hd hc) it lo 1 n;refine W.item i s _ _ hg st λv h' tk hv st' kk=>?_;obtain⟨t,rfl⟩:=hv;have I1:Inv X pins σ H {s with heap:=h',toks:=tk}:=I.turned (λb o hb e=>kk b o (by simpa using hb) e) f0 f1 f3 f4 f5;refine⟨_,rfl,uE (s:={s with heap:=h',toks:=tk}) (n:="range_iterator") st' rfl rfl (by decide) ⟨.int (lo+i),H,I1,⟨t,?_⟩,⟨rfl,rfl⟩,st',λb hb=>(hf b hb).1⟩⟩;rw[Int.mul_one]
 done:=by
  intro X hP hw hK hc i pins s σ H E I hf st hg;subst hP hw hK;obtain⟨f0,f1,f2,f3,f4,f5⟩:=hf it (by simp);exact wpAny_pyNext_range_end (I.ok.hd hc) st (by have:n<=i:=hg;omega) λh' eb=>⟨rfl,I.turned (t':=s.toks) (λb o hb e=>eb b o hb e) f0 f1 f3 f4 f5⟩
 self:=λ_ _ _ _ _ st h=>wpAny_pyIter_rangeiter st h
section
variable {X:Cx}{tg:Expr}
def FU (K:Oc) (tl:TE):TI:=λσ H R=>tl σ H λx H1=>∃a,x=.ref a/\(∃xs,aS K H1 a xs)/\R (B0 K a) H1
def Kk (K:Oc)(tl:TE):TI:=λσ H R=>tl σ H λx H1=>∃a,x=.ref a/\(∃xs,bZ K H1 a xs)/\R (IQ K a) H1
theorem bG {l:Expr}{tl:TE}(hl:PE X l tl):PI X tg l (FU X.K tl):=by
 intro pins s σ H R I h;refine bB (hl pins s σ H _ I h) λv s1 ⟨x,H1,I1,r1,q1⟩=>?_;obtain⟨a,e,⟨xs,hq⟩,q⟩:=q1;subst e;cases r1;obtain⟨its,rv,p,hz⟩:=I1.list hq;refine wpAny_pyIter_list p.isList ?_;refine⟨s1.heap.objs.size,[s1.heap.objs.size],_,_,H1,rfl,I1.kept (t':=s1.toks) λb o e=>Lq _ e,zY a _,⟨_,LD _ rfl,rfl,rfl⟩,λb hb=>?_,q⟩;have e:b=s1.heap.objs.size:=by simpa using hb
 subst e;exact I1.v8 (Lx _) (I1.bw.fresh (Lx _))
theorem HJ {l:Expr}{tl:TE}(hl:PE X l tl):PI X tg l (Kk X.K tl):=by
 intro pins s σ H R I h;refine bB (hl pins s σ H _ I h) λv s1 ⟨x,H1,I1,r1,q1⟩=>?_;obtain⟨a,e,⟨xs,hq⟩,q⟩:=q1;subst e;cases r1;obtain⟨its,rv,p,hz⟩:=I1.tuple hq;refine wpAny_pyIter_tuple (show s1.heap.IsTuple a its.toArray from p) ?_;refine⟨s1.heap.objs.size,[s1.heap.objs.size],_,_,H1,rfl,I1.kept (t':=s1.toks) λb o e=>Lq _ e,wN a _,⟨_,LD _ rfl,rfl,rfl⟩,λb hb=>?_,q⟩;have e:b=s1.heap.objs.size:=by simpa using hb
 subst e;exact I1.v8 (Lx _) (I1.bw.fresh (Lx _))
theorem va {pins:Of}{σ:St}{H:Hp}{s:Shared}{R:It->Hp->Prop}{E:Od}{lo hi:Int}{t u v:Tok}{tk:Nat}(I:Inv X pins σ H s)(h1:-(2 ^ 62)<=lo)(h2:lo < 2 ^ 62)(h3:-(2 ^ 62)<=hi)(h4:hi < 2 ^ 62)
  (q:R (Ax lo (hi - lo).toNat) H):wpAny (model X.prog X.w) X.A (pyIter (.ref s.heap.objs.size)) (KN X pins σ tg R) E {s with heap:=s.heap.push {cls:=.type "range",data:=.fields #[.int lo t,.int hi u,.int 1 v]},toks:=tk}:=by
 refine wpAny_pyIter_range (IsRange.new ..) (small_one h1 h2 h3 h4) ?_;have I1:Inv X pins σ H {s with heap:=s.heap.push {cls:=.type "range",data:=.fields #[.int lo t,.int hi u,.int 1 v]},toks:=tk}:=I.kept λb o e=>Lq _ e;refine⟨(s.heap.push {cls:=.type "range",data:=.fields #[.int lo t,.int hi u,.int 1 v]}).objs.size,[(s.heap.push {cls:=.type "range",data:=.fields #[.int lo t,.int hi u,.int 1 v]}).objs.size],_,_,H,rfl,
  I1.kept (t':=tk) λb o e=>Lq _ e,wH _ lo (hi - lo).toNat,?_,λb hb=>?_,q⟩
 · have e1:lo+((0:Nat):Int)*1=lo:=by simp
   have e2:(((hi - lo).toNat:Nat):Int) - ((0:Nat):Int)=Builtin.Range.rangeSize lo hi 1:=by rw[rangeSize_one];split <;> omega
   show IsRangeIter _ _ (lo+((0:Nat):Int)*1) ((((hi - lo).toNat:Nat):Int) - ((0:Nat):Int)) 1;rw[e1,e2];exact LD _ rfl
 · have e:b=(s.heap.push {cls:=.type "range",data:=.fields #[.int lo t,.int hi u,.int 1 v]}).objs.size:=by simpa using hb
   subst e;exact I1.v8 (Lx _) (I1.bw.fresh (Lx _))
def Bj (ta:TA):TI:=λσ H R=>ta σ H λvs H1=>∃j:Int,vs=[.int j]/\-(2 ^ 62)<=j/\j < 2 ^ 62/\R (Ax 0 j.toNat) H1
def FQ (ta:TA):TI:=λσ H R=>ta σ H λvs H1=>∃i j:Int,vs=[.int i,.int j]/\(-(2 ^ 62)<=i/\i < 2 ^ 62/\-(2 ^ 62)<=j/\j < 2 ^ 62)/\R (Ax i (j - i).toNat) H1
theorem gf {a:Expr}{ta:TA}{p pos:Pos}(hg:Gl X "range")(hm:X.mg "range"=none)(ha:PA X [a] ta)(hs:starEach [a] X.env=[(false,eval a X.env)]:=by rfl):PI X tg (.Call (.Name "range" p) [a] [] pos) (Bj ta):=by
 intro pins s σ H R I h;refine Call_ (lj I hg hm boot_range (MO (bB (ha pos pins s σ H _ I h) λus s1 ⟨vs,H1,I1,r1,q1⟩=>?_) hs rfl));obtain⟨j,e,q1,q2,q⟩:=q1;subst e;cases r1 with
 |cons r rr =>
  cases rr;obtain⟨t,rfl⟩:=r;exact call_range_1 (va I1 (by omega) (by omega) q1 q2 (by simpa using q))
theorem rb {a b:Expr}{ta:TA}{p pos:Pos}(hg:Gl X "range")(hm:X.mg "range"=none)(ha:PA X [a,b] ta)(hs:starEach [a,b] X.env=[(false,eval a X.env),(false,eval b X.env)]:=by rfl)(hs2:starEach [b] X.env=[(false,eval b X.env)]:=by rfl) :
  PI X tg (.Call (.Name "range" p) [a,b] [] pos) (FQ ta):=by
 intro pins s σ H R I h;refine Call_ (lj I hg hm boot_range (MO (bB (ha pos pins s σ H _ I h) λus s1 ⟨vs,H1,I1,r1,q1⟩=>?_) (by rw[hs,hs2]) (by rw[hs2];rfl)));obtain⟨i,j,e,⟨q1,q2,q3,q4⟩,q⟩:=q1;subst e;cases r1 with
 |cons r rr =>
  cases rr with
  |cons r' rr =>
   cases rr;obtain⟨t,rfl⟩:=r;obtain⟨t',rfl⟩:=r';exact call_range_2 (va I1 q1 q2 q3 q4 q)
def Hs (wi:TI)(g:TG)(tb:TS):TS:=λD σ H=>wi σ H λJ H1=>∃W:Nat->Nat->St->Hp->Prop,(∃m,W 0 m σ H1)/\∀i m σ H,W i m σ H ->
 (J.stop i H/\D.nx σ H)∨(J.go i H/\∃N:St->Hp->Prop,(∀σ' H',N σ' H'->∃m',m' < m/\W (i+1) m' σ' H')/\∀x H',J.vU i H x H'->g x σ H' λσ2 H2=>tb {D with nx:=N,ct:=N,bk:=D.nx} σ2 H2)
def mL (fp:List Addr)(h:Heap):Of:=fp.filterMap λb=>(h.get? b).map λo=>(b,o)
theorem gj {fp:List Addr}{h:Heap}{b:Addr}{o:Obj}(hb:b∈fp)(e:h.get? b=some o):(b,o)∈mL fp h:=List.mem_filterMap.mpr ⟨b,hb,by rw[e];rfl⟩
theorem zS {fp:List Addr}{h:Heap}{p:Addr×Obj}(hp:p∈mL fp h):p.1∈fp/\h.get? p.1=some p.2:=by
 obtain⟨b,hb,e⟩:=List.mem_filterMap.mp hp;cases q:h.get? b with
 |none=>rw[q] at e;cases e
 |some o =>
  rw[q] at e;have e':(b,o)=p:=L1 e;subst e';exact⟨hb,q⟩
theorem Inv.pinned {pins:Of}{σ:St}{H:Hp}{s:Shared}{fp:List Addr}(I:Inv X pins σ H s)(hf:∀b∈fp,mZ X pins H b)(ho:∀b∈fp,∃o,s.heap.get? b=some o/\∀v,o.data≠.cell v):Inv X (pins++mL fp s.heap) σ H s :=
 I.lQ λp hp=>(Mc.mp hp).elim (λz=>I.pin p (Mm _ z)) λz=>by
  obtain⟨hb,e⟩:=zS z;obtain⟨f0,f1,f2,_⟩:=hf p.1 hb;obtain⟨o,e',d⟩:=ho p.1 hb;rw[e] at e';cases e';exact⟨e,f0,f1,f2,d⟩
theorem Inv.ij {pins pl:Of}{σ:St}{H:Hp}{s:Shared}(I:Inv X (pins++pl) σ H s):Inv X pins σ H s:=I.lQ λp hp=>I.pin p (Mm _ (List.mem_append_left _ hp))
theorem cR {iter:Expr}{body:List Stmt}{wi:TI}{g:TG}{tb:TS}{pos:Pos}(hp:PassesOwn (model X.prog X.w) X.A X.env X.xe)(hc:X.calm=true)(hi:PI X tg iter wi)(hg:PG X tg g)(hb:ur X body tb)
  (hs:∀x,foldedSetIterable iter X.env x=pure x:=by intro _;rfl):PS X (.For tg iter body [] pos) (Hs wi g tb):=by
 intro pins s σ H D I h;refine wpAny_For (bB (hi pins s σ H _ I h) λv s1 h1=>bB h1 λitv s2 h2=>?_) hs;obtain⟨it,fp,tn,J,H2,e,I2,T,st2,f2,W,⟨m0,w0⟩,turn⟩:=h2;subst e;have stat:∀{H':Hp},(∀b∈fp,H' b=none)->∀b∈fp,mZ X pins H' b:=λhn b hb=>⟨hn b hb,(f2 b hb).2⟩;refine codeAny_forLoop_any (λn s'=>∃i σ' H',Inv X pins σ' H' s'/\tn i s'.heap/\(∀b∈fp,H' b=none)/\W i n σ' H') ?_ m0 ⟨0,σ,H2,I2,st2,λb hb=>(f2 b hb).1,w0⟩;rintro n s3 ⟨i,σ3,H3,I3,st3,fr3,w3⟩;rcases turn i n σ3 H3 w3 with ⟨stop,qn⟩|⟨go,N,hN,step⟩
 · refine MH hp (bB (T.done X rfl rfl rfl hc i pins s3 σ3 H3 X.xe I3 (stat fr3) st3 stop) λr s4 ⟨hr,I4⟩=>?_);subst hr;exact Nl ⟨σ3,H3,I4,qn⟩
 · refine MH hp (bB (T.item X rfl rfl rfl hc i pins s3 σ3 H3 X.xe I3 (stat fr3) st3 go) λr s4 ⟨u,hr,h4⟩=>?_);subst hr;refine MH hp (bB h4 λ_ s5 ⟨x,H5,I5,r5,y5,st5,fr5⟩=>?_);have I5':=I5.pinned (stat fr5) (T.obj _ _ st5);refine MH hp (bB (hg _ s5 σ3 H5 x u _ I5' r5 (step x H5 y5)) λ_ s6 ⟨σ6,H6,I6,q6⟩=>?_);refine MH hp (bB (hb _ s6 σ6 H6 _ I6 q6) λf s7 q7=>?_);have again:∀{σ7:St} {H7:Hp},Inv X (pins++mL fp s5.heap) σ7 H7 s7->N σ7 H7->∃m,m < n/\∃i σ' H',Inv X pins σ' H' s7/\tn i s7.heap/\(∀b∈fp,H' b=none)/\W i m σ' H':=λ{σ7 H7} I7 n7=>by
    obtain⟨m',hm,w7⟩:=hN σ7 H7 n7;refine⟨m',hm,i+1,σ7,H7,I7.ij,T.keep _ _ _ st5 λb hb o e=>(I7.pin (b,o) (Mm _ (Mm _ (gj hb e)))).1,λb hb=>?_,w7⟩;obtain⟨o,e,d⟩:=T.obj _ _ st5 b hb;exact (I7.pin (b,o) (Mm _ (Mm _ (gj hb e)))).2.1
   cases f with
   |next=>obtain⟨σ7,H7,I7,n7⟩:=q7;exact again I7 n7
   |cont=>obtain⟨σ7,H7,I7,n7⟩:=q7;exact again I7 n7
   |brk=>obtain⟨σ7,H7,I7,q7⟩:=q7;exact⟨σ7,H7,I7.ij,q7⟩
   |ret v=>obtain⟨x7,σ7,H7,I7,r7,q7⟩:=q7;exact⟨x7,σ7,H7,I7.ij,r7,q7⟩
end
theorem cN {K:Oc}{a:Addr}{xs:List V}{g:TG}{tb:TS}{D:Ends}{σ:St}{H:Hp}(Pv:Nat->St->Hp->Prop)(h0:Pv 0 σ H)(hl:∀i σ H,i<=xs.length->Pv i σ H->aS K H a xs)
  (hs:∀i x σ H,xs[i]?=some x->Pv i σ H->g x σ H λσ2 H2=>tb {D with nx:=Pv (i+1),ct:=Pv (i+1),bk:=D.nx} σ2 H2)(hd:∀σ H,Pv xs.length σ H->D.nx σ H) :
  ∃W:Nat->Nat->St->Hp->Prop,(∃m,W 0 m σ H)/\∀i m σ H,W i m σ H ->
   ((B0 K a).stop i H/\D.nx σ H)∨((B0 K a).go i H/\∃N:St->Hp->Prop,(∀σ' H',N σ' H'->∃m',m' < m/\W (i+1) m' σ' H')/\∀x H',(B0 K a).vU i H x H'->g x σ H' λσ2 H2=>tb {D with nx:=N,ct:=N,bk:=D.nx} σ2 H2):=by
 refine⟨λi m σ H=>m=xs.length - i/\i<=xs.length/\Pv i σ H,⟨xs.length,by simp,LV _,h0⟩,?_⟩;rintro i m σ H ⟨rfl,hi,p⟩;have q:=hl i σ H hi p;by_cases hlt:i < xs.length
 · refine .inr ⟨⟨xs,xs[i],q,by simp[hlt]⟩,Pv (i+1),λσ' H' p'=>⟨xs.length - (i+1),by omega,rfl,hlt,p'⟩,λx H' y=>?_⟩;obtain⟨e,y⟩:=y;subst e;exact hs i x σ _ (y xs q) p
 · have e:i=xs.length:=by omega
   subst e;exact .inl ⟨⟨xs,q,Lx _⟩,hd σ H p⟩
theorem mY {lo:Int}{n:Nat}{g:TG}{tb:TS}{D:Ends}{σ:St}{H:Hp}(Pv:Nat->St->Hp->Prop)(h0:Pv 0 σ H)
  (hs:∀i σ H,i < n->Pv i σ H->g (.int (lo+i)) σ H λσ2 H2=>tb {D with nx:=Pv (i+1),ct:=Pv (i+1),bk:=D.nx} σ2 H2)(hd:∀σ H,Pv n σ H->D.nx σ H) :
  ∃W:Nat->Nat->St->Hp->Prop,(∃m,W 0 m σ H)/\∀i m σ H,W i m σ H ->
   ((Ax lo n).stop i H/\D.nx σ H)∨((Ax lo n).go i H/\∃N:St->Hp->Prop,(∀σ' H',N σ' H'->∃m',m' < m/\W (i+1) m' σ' H')/\∀x H',(Ax lo n).vU i H x H'->g x σ H' λσ2 H2=>tb {D with nx:=N,ct:=N,bk:=D.nx} σ2 H2):=by
 refine⟨λi m σ H=>m=n - i/\i<=n/\Pv i σ H,⟨n,by simp,LV _,h0⟩,?_⟩;rintro i m σ H ⟨rfl,hi,p⟩;by_cases hlt:i < n
 · refine .inr ⟨hlt,Pv (i+1),λσ' H' p'=>⟨n - (i+1),by omega,rfl,hlt,p'⟩,λx H' y=>?_⟩;obtain⟨e,y⟩:=y;subst e y;exact hs i σ _ hlt p
 · have e:i=n:=by omega
   subst e;exact .inl ⟨Lx _,hd σ H p⟩
theorem A4 {c:TT}{tb:TS}{D:Ends}{σ:St}{H:Hp}(Pv:St->Hp->Prop)(μ:St->Hp->Nat)(h0:Pv σ H)
  (hs:∀σ H,Pv σ H->c σ H λb H1=>if b=true then tb {D with nx:=λσ' H'=>Pv σ' H'/\μ σ' H' < μ σ H,ct:=λσ' H'=>Pv σ' H'/\μ σ' H' < μ σ H,bk:=D.nx} σ H1 else D.nx σ H1)
  (mono:∀σ H Q Q',(∀b H1,Q b H1->Q' b H1)->c σ H Q->c σ H Q'):xG c tb D σ H:=by
 refine⟨λm σ H=>m=μ σ H/\Pv σ H,⟨_,rfl,h0⟩,?_⟩;rintro m σ H ⟨rfl,p⟩;refine mono σ H _ _ (λb H1 q=>?_) (hs σ H p);cases b with
 |true=>exact⟨_,λσ' H' ⟨p',l⟩=>⟨_,l,rfl,p'⟩,q⟩
 |false=>exact q
abbrev R2:=V->V->Hp->VK->Prop
def jP (X:Cx)(f:Value->Value->Sem Value)(r:R2):Prop :=
 ∀(pins:Of) (s:Shared) (σ:St) (H:Hp) (x y:V) (v u:Value) (Q:VK),Inv X pins σ H s->RelV x v->RelV y u->r x y H Q ->
  wpAny (model X.prog X.w) X.A (f v u) (EP X pins σ Q) X.xe s
def KO (X:Cx)(f:Value->Sem Value)(r:V->Hp->VK->Prop):Prop :=
 ∀(pins:Of) (s:Shared) (σ:St) (H:Hp) (x:V) (v:Value) (Q:VK),Inv X pins σ H s->RelV x v->r x H Q ->
  wpAny (model X.prog X.w) X.A (f v) (EP X pins σ Q) X.xe s
def iA (X:Cx)(f:Value)(r:List V->Hp->VK->Prop):Prop :=
 ∀(pins:Of) (s:Shared) (σ:St) (H:Hp) (xs:List V) (us:Og) (Q:VK),Inv X pins σ H s->Vals xs us->r xs H Q ->
  wpAny (model X.prog X.w) X.A (call f us) (EP X pins σ Q) X.xe s
def kG (r:R2)(ta tb:TE):TE:=λσ H Q=>ta σ H λx H1=>tb σ H1 λy H2=>r x y H2 Q
def KR (r:V->Hp->VK->Prop)(ta:TE):TE:=λσ H Q=>ta σ H λx H1=>r x H1 Q
def rI (C:Int->Int->Prop)(g:Int->Int->V):R2:=λx y H Q=>∃i j,x=.int i/\y=.int j/\C i j/\Q (g i j) H
def qF (g:Int->Int->V):R2:=λx y H Q=>∃i j,x=.int i/\y=.int j/\Q (g i j) H
def rU (g:Int->V):V->Hp->VK->Prop:=λx H Q=>∃i,x=.int i/\Q (g i) H
section
variable {X:Cx}{a b c:Expr}{ta tb tc:TE}{pos:Pos}
theorem Hg (ha:PE X a ta) (hb:PE X b tb) {pins:Of} {s:Shared} {σ:St} {H:Hp} {R:V->V->Hp->Prop} (I:Inv X pins σ H s)
  (h:ta σ H λx H1=>tb σ H1 λy H2=>R x y H2) {Q:Od} {f:Value->Value->Sem Value}
  (hf:∀v u s2 x y H2,Inv X pins σ H2 s2->RelV x v->RelV y u->R x y H2->wpAny (model X.prog X.w) X.A (f v u) Q X.xe s2) :
  wpAny (model X.prog X.w) X.A (eval a X.env) (λv s₁=>wpAny (model X.prog X.w) X.A (eval b X.env) (λu s₂=>wpAny (model X.prog X.w) X.A (f v u) Q X.xe s₂) X.xe s₁) X.xe s:=by
 refine bB (ha pins s σ H _ I h) λv s1 ⟨x,H1,I1,r1,q1⟩=>?_;refine bB (hb pins s1 σ H1 _ I1 q1) λu s2 ⟨y,H2,I2,r2,q2⟩=>?_;exact hf v u s2 x y H2 I2 r1 r2 q2
theorem bK {op:Operator}{r:R2}(ho:jP X (binaryOp op) r)(ha:PE X a ta)(hb:PE X b tb):PE X (.BinOp a op b pos) (kG r ta tb):=by
 intro pins s σ H Q I h;exact wpAny_BinOp (Hg ha hb I h λv u s2 x y H2 I2 rx ry q=>ho pins s2 σ H2 x y v u Q I2 rx ry q)
theorem u5 {op:UnaryOp}{r:V->Hp->VK->Prop}(ho:KO X (unaryOp op) r)(ha:PE X a ta):PE X (.UnaryOp op a pos) (KR r ta):=by
 intro pins s σ H Q I h;exact UnaryOp_ (bB (ha pins s σ H _ I h) λv s1 ⟨x,H1,I1,r1,q1⟩=>ho pins s1 σ H1 x v Q I1 r1 q1)
theorem IV {f:Value->Value->Sem Value}{C:Int->Int->Prop}{g:Int->Int->Int}
  (rule:∀(i j:Int) (t u:Tok) (s:Shared) (Q:Od) (E:Od),C i j->Q (.int (g i j) s.toks) {s with toks:=s.toks+1}->wpAny (model X.prog X.w) X.A (f (.int i t) (.int j u)) Q E s) :
  jP X f (rI C λi j=>.int (g i j)):=by
 intro pins s σ H x y v u Q I rx ry h;obtain⟨i,j,rfl,rfl,hc,q⟩:=h;obtain⟨t,rfl⟩:=rx;obtain⟨t',rfl⟩:=ry;exact rule i j t t' s _ _ hc ⟨.int (g i j),H,I.tok _,⟨_,rfl⟩,q⟩
theorem Gb {f:Value->Value->Sem Value}{g:Int->Int->Int}
  (rule:∀(i j:Int) (t u:Tok) (s:Shared) (Q:Od) (E:Od),Q (.int (g i j) s.toks) {s with toks:=s.toks+1}->wpAny (model X.prog X.w) X.A (f (.int i t) (.int j u)) Q E s) :
  jP X f (qF λi j=>.int (g i j)):=by
 intro pins s σ H x y v u Q I rx ry h;obtain⟨i,j,rfl,rfl,q⟩:=h;obtain⟨t,rfl⟩:=rx;obtain⟨t',rfl⟩:=ry;exact rule i j t t' s _ _ ⟨.int (g i j),H,I.tok _,⟨_,rfl⟩,q⟩
theorem GA {f:Value->Value->Sem Value}{g:Int->Int->Bool}
  (rule:∀(i j:Int) (t u:Tok) (s:Shared) (Q:Od) (E:Od),Q (.bool (g i j)) s->wpAny (model X.prog X.w) X.A (f (.int i t) (.int j u)) Q E s) :
  jP X f (qF λi j=>.bl (g i j)):=by
 intro pins s σ H x y v u Q I rx ry h;obtain⟨i,j,rfl,rfl,q⟩:=h;obtain⟨t,rfl⟩:=rx;obtain⟨t',rfl⟩:=ry;exact rule i j t t' s _ _ ⟨.bl (g i j),H,I,rfl,q⟩
def Ka (i j:Int):Prop:=0 < j/\j < 1073741824
def DB (i j:Int):Prop:=0<=j/\j<=1000000/\i.natAbs < 2 ^ 64
def Af (i j:Int):Prop:=(-(2 ^ 64) < i/\i < 2 ^ 64)∨(-(2 ^ 64) < j/\j < 2 ^ 64)
theorem Af.ok {i j:Int}(h:Af i j):IntMulOk i j:=by
 rcases h with ⟨h1,h2⟩|⟨h1,h2⟩
 · exact .of_left (intBits_le_64 h1 h2)
 · exact .of_right (intBits_le_64 h1 h2)
theorem d_:jP X (binaryOp .Add) (qF λi j=>.int (i+j)):=Gb λ_ _ _ _ _ _ _ q=>add_int q
theorem fF:jP X (binaryOp .Sub) (qF λi j=>.int (i - j)):=Gb λ_ _ _ _ _ _ _ q=>sub_int q
theorem xI:jP X (binaryOp .Mult) (rI Af λi j=>.int (i*j)):=IV λ_ _ _ _ _ _ _ hc q=>mul_int q hc.ok
theorem DA:jP X (binaryOp .FloorDiv) (rI Ka λi j=>.int (i / j)):=IV λi j _ _ _ _ _ hc q=>by
 have h1:(0:Int) < j:=hc.1;have h2:j < 1073741824:=hc.2;exact floordiv_int (by omega) (by rw[Int.fdiv_eq_ediv_of_nonneg i (by omega)];exact q) (.inl (PyProof.noPylong_small (by omega)))
theorem Ho:jP X (binaryOp .Mod) (rI (λ_ j=>0 < j) λi j=>.int (i % j)):=IV λi j _ _ _ _ _ hc q=>by
 have h1:(0:Int) < j:=hc;exact mod_int' (by omega) (by rw[Int.fmod_eq_emod_of_nonneg i (by omega)];exact q)
theorem Bp:jP X (binaryOp .LShift) (rI DB λi j=>.int (i*2 ^ j.toNat)):=IV λ_ _ _ _ _ _ _ hc q=>lshift_int_small hc.1 hc.2.1 hc.2.2 q
theorem Hi:jP X (binaryOp .BitAnd) (qF λi j=>.int (Builtin.bitAnd i j)):=Gb λ_ _ _ _ _ _ _ q=>and_int q
theorem DL:jP X (inplaceOp .Mult) (rI Af λi j=>.int (i*j)):=IV λ_ _ _ _ _ _ _ hc q=>imul_int q hc.ok
theorem K5 {f:Value->Sem Value}{g:Int->Int}
  (rule:∀(i:Int) (t:Tok) (s:Shared) (Q:Od) (E:Od),Q (.int (g i) s.toks) {s with toks:=s.toks+1}->wpAny (model X.prog X.w) X.A (f (.int i t)) Q E s) :
  KO X f (rU λi=>.int (g i)):=by
 intro pins s σ H x v Q I rx h;obtain⟨i,rfl,q⟩:=h;obtain⟨t,rfl⟩:=rx;exact rule i t s _ _ ⟨.int (g i),H,I.tok _,⟨_,rfl⟩,q⟩
theorem pG:KO X (unaryOp .USub) (rU λi=>.int (-i)):=K5 λ_ _ _ _ _ q=>neg_int q
end
def C7:V->V->Bool
 |.b8,.b8=>true|.b8,.int _=>true|.int _,.b8=>true|.b8,.bl _=>true|.bl _,.b8=>true|.b8,.str _=>true|.str _,.b8=>true
 |.int _,.int _=>true|.bl _,.bl _=>true|.str _,.str _=>true|.vV _,.vV _=>true
 |.int _,.str _=>true|.str _,.int _=>true|.bl _,.str _=>true|.str _,.bl _=>true
 |_,_=>false
def JT:R2:=λx y H Q=>C7 x y=true/\Q (.bl (decide (x=y))) H
def KY:R2:=λx y H Q=>C7 x y=true/\Q (.bl (!decide (x=y))) H
theorem bb {i j:Int}:decide (V.int i=V.int j)=(i==j):=by
 rw[L3];simp
theorem A_ {i j:Bool}:decide (V.bl i=V.bl j)=(i==j):=by
 rw[L3];simp
theorem yA {i j:Str}:decide (V.str i=V.str j)=(i==j):=by
 rw[L3];simp
theorem yu {i j:Array UInt8}:decide (V.vV i=V.vV j)=(i.toList==j.toList):=by
 rw[L3];cases i;cases j;simp
section
variable {X:Cx}{a b c:Expr}{ta tb tc:TE}{pos:Pos}
theorem bu {pins:Of} {σ:St} {H:Hp} {s:Shared} {Q:VK} {k k':Bool} (I:Inv X pins σ H s) (q:Q (.bl k) H) (e:k=k'):EP X pins σ Q (.bool k') s:=by
 subst e;exact⟨.bl k,H,I,rfl,q⟩
theorem cg:jP X (compareOp .Eq) JT:=by
 intro pins s σ H x y v u Q I rx ry h;obtain⟨hs,q⟩:=h;cases x with
 |b8 =>
  cases rx;cases y with
  |b8=>cases ry;exact PySem.EqNone.eq_none_none (bu I q (by simp))
  |bl j=>cases ry;exact PySem.EqNone.eq_none_bool (bu I q (by simp))
  |int j=>obtain⟨t',rfl⟩:=ry;exact PySem.EqNone.eq_none_int (bu I q (by simp))
  |str j=>obtain⟨t',rfl⟩:=ry;exact PySem.EqNone.eq_none_str (bu I q (by simp))
  |_=>exact absurd (show false=true from hs) LN
 |bl i =>
  cases rx;cases y with
  |b8=>cases ry;exact PySem.EqNone.eq_bool_none (bu I q (by simp))
  |bl j=>cases ry;exact eq_bool (bu I q A_)
  |str j=>obtain⟨t',rfl⟩:=ry;exact PySem.EqMixed.eq_bool_str (bu I q (by simp))
  |_=>exact absurd (show false=true from hs) LN
 |int i =>
  obtain⟨t,rfl⟩:=rx;cases y with
  |b8=>cases ry;exact PySem.EqNone.eq_int_none (bu I q (by simp))
  |int j=>obtain⟨t',rfl⟩:=ry;exact eq_int (bu I q bb)
  |str j=>obtain⟨t',rfl⟩:=ry;exact PySem.EqMixed.eq_int_str (bu I q (by simp))
  |_=>exact absurd (show false=true from hs) LN
 |str i =>
  obtain⟨t,rfl⟩:=rx;cases y with
  |b8=>cases ry;exact PySem.EqNone.eq_str_none (bu I q (by simp))
  |bl j=>cases ry;exact PySem.EqMixed.eq_str_bool (bu I q (by simp))
  |int j=>obtain⟨t',rfl⟩:=ry;exact PySem.EqMixed.eq_str_int (bu I q (by simp))
  |str j=>obtain⟨t',rfl⟩:=ry;exact eq_str (bu I q yA)
  |_=>exact absurd (show false=true from hs) LN
 |vV i =>
  obtain⟨t,rfl⟩:=rx;cases y with
  |vV j=>obtain⟨t',rfl⟩:=ry;exact PySem.W.eq_bytes (bu I q yu)
  |_=>exact absurd (show false=true from hs) LN
 |_=>cases y <;> exact absurd (show false=true from hs) LN
theorem qg:jP X (compareOp .NotEq) KY:=by
 intro pins s σ H x y v u Q I rx ry h;obtain⟨hs,q⟩:=h;cases x with
 |b8 =>
  cases rx;cases y with
  |b8=>cases ry;exact PySem.EqNone.ne_none_none (bu I q (by simp))
  |bl j=>cases ry;exact PySem.EqNone.ne_none_bool (bu I q (by simp))
  |int j=>obtain⟨t',rfl⟩:=ry;exact PySem.EqNone.ne_none_int (bu I q (by simp))
  |str j=>obtain⟨t',rfl⟩:=ry;exact PySem.EqNone.ne_none_str (bu I q (by simp))
  |_=>exact absurd (show false=true from hs) LN
 |bl i =>
  cases rx;cases y with
  |b8=>cases ry;exact PySem.EqNone.ne_bool_none (bu I q (by simp))
  |bl j=>cases ry;exact ne_bool (bu I q (Mu not A_))
  |str j=>obtain⟨t',rfl⟩:=ry;exact PySem.EqMixed.ne_bool_str (bu I q (by simp))
  |_=>exact absurd (show false=true from hs) LN
 |int i =>
  obtain⟨t,rfl⟩:=rx;cases y with
  |b8=>cases ry;exact PySem.EqNone.ne_int_none (bu I q (by simp))
  |int j=>obtain⟨t',rfl⟩:=ry;exact ne_int (bu I q (Mu not bb))
  |str j=>obtain⟨t',rfl⟩:=ry;exact PySem.EqMixed.ne_int_str (bu I q (by simp))
  |_=>exact absurd (show false=true from hs) LN
 |str i =>
  obtain⟨t,rfl⟩:=rx;cases y with
  |b8=>cases ry;exact PySem.EqNone.ne_str_none (bu I q (by simp))
  |bl j=>cases ry;exact PySem.EqMixed.ne_str_bool (bu I q (by simp))
  |int j=>obtain⟨t',rfl⟩:=ry;exact PySem.EqMixed.ne_str_int (bu I q (by simp))
  |str j=>obtain⟨t',rfl⟩:=ry;exact ne_str (bu I q (Mu not yA))
  |_=>exact absurd (show false=true from hs) LN
 |vV i =>
  obtain⟨t,rfl⟩:=rx;cases y with
  |vV j=>obtain⟨t',rfl⟩:=ry;exact PySem.W.ne_bytes (bu I q (Mu not yu))
  |_=>exact absurd (show false=true from hs) LN
 |_=>cases y <;> exact absurd (show false=true from hs) LN
theorem nG:jP X (compareOp .Lt) (qF λi j=>.bl (decide (i < j))):=GA λ_ _ _ _ _ _ _ q=>lt_int q
theorem cf:jP X (compareOp .LtE) (qF λi j=>.bl (decide (i<=j))):=GA λ_ _ _ _ _ _ _ q=>le_int q
theorem kN:jP X (compareOp .Gt) (qF λi j=>.bl (decide (j < i))):=GA λ_ _ _ _ _ _ _ q=>gt_int q
theorem tV:jP X (compareOp .Is) (λx y H Q=>y=.b8/\Q (.bl (decide (x=.b8))) H):=by
 intro pins s σ H x y v u Q I rx ry h;obtain⟨rfl,q⟩:=h;cases ry;refine is_none_gen (bu I q ?_);cases x <;> first
  |(cases rx;rfl)
  |(obtain⟨t,rfl⟩:=rx;rfl)
theorem aM (b:Expr){op:CmpOp}(h:op≠.In:=by decide)(h2:op≠.NotIn:=by decide):behindInMarks op b=false:=by
 have e1:(op==CmpOp.In)=false:=by cases op <;> first|rfl|exact absurd rfl h
 have e2:(op==CmpOp.NotIn)=false:=by cases op <;> first|rfl|exact absurd rfl h2
 cases b <;> simp[behindInMarks,e1,e2]
theorem fm {op:CmpOp}{r:R2}(ho:jP X (compareOp op) r)(ha:PE X a ta)(hb:PE X b tb)(hm:behindInMarks op b=false):PE X (.Compare a [op] [b] pos) (kG r ta tb):=by
 intro pins s σ H Q I h;exact wpAny_Compare1 (Hg ha hb I h λv u s2 x y H2 I2 rx ry q=>ho pins s2 σ H2 x y v u Q I2 rx ry q) hm
def qv (t:TE):TT:=λσ H Q=>t σ H λx H'=>∃k,x=.bl k/\Q k H'
theorem aB {op:CmpOp}{r:R2}(ho:jP X (compareOp op) r)(ha:PE X a ta)(hb:PE X b tb)(hm:behindInMarks op b=false):PT X (.Compare a [op] [b] pos) (qv (kG r ta tb)):=by
 intro pins s σ H Q I h;refine wpAny_isTrue_Compare1 (bB (ha pins s σ H _ I h) λv s1 ⟨x,H1,I1,r1,q1⟩=>bB (hb pins s1 σ H1 _ I1 q1) λu s2 ⟨y,H2,I2,r2,q2⟩ =>
  bB (ho pins s2 σ H2 x y v u _ I2 r1 r2 q2) λc s3 ⟨z,H3,I3,r3,k,e,q3⟩=>?_) hm
 subst e;cases r3;exact MC ⟨H3,I3,q3⟩
def wx (r r':R2)(ta tb tc:TE):TE:=λσ H Q=>ta σ H λx H1=>tb σ H1 λy H2=>r x y H2 λz H3=>∃k,z=.bl k /\
 (if k=true then tc σ H3 λw' H4=>r' y w' H4 Q else Q (.bl false) H3)
theorem cA {op op':CmpOp}{r r':R2}(ho:jP X (compareOp op) r)(ho':jP X (compareOp op') r')(ha:PE X a ta)(hb:PE X b tb)(hc:PE X c tc)
  (hm:lastMarks [op,op'] [b,c]=false:=by with_unfolding_all rfl):PT X (.Compare a [op,op'] [b,c] pos) (qv (wx r r' ta tb tc)):=by
 intro pins s σ H Q I h;refine isTrue_chain (bB (ha pins s σ H _ I h) λv s1 ⟨x,H1,I1,r1,q1⟩=>test_link (bB (hb pins s1 σ H1 _ I1 q1) λu s2 ⟨y,H2,I2,r2,q2⟩ =>
  bB (ho pins s2 σ H2 x y v u _ I2 r1 r2 q2) λd s3 ⟨z,H3,I3,r3,k,e,q3⟩=>?_)) hm
 subst e;cases r3;refine MC ?_;cases k with
 |false =>
  obtain⟨k',e',q'⟩:=q3;cases e';exact ite_ff ⟨H3,I3,q'⟩
 |true =>
  refine ite_tt (test_last (bB (hc pins s3 σ H3 _ I3 q3) λw' s4 ⟨z',H4,I4,r4,q4⟩=>bB (ho' pins s4 σ H4 y z' u w' _ I4 r2 r4 q4) λd' s5 ⟨z2,H5,I5,r5,k2,e2,q5⟩=>?_));subst e2;cases r5;exact MC ⟨H5,I5,q5⟩
theorem ll:(sizeLine:Nat) < 2 ^ 63:=by rw[LQ];decide
theorem vals1 {x:V}{us:Og}(r:Vals [x] us):∃u,us=[u]/\RelV x u:=by
 cases r with
 |cons r1 r2=>cases r2;exact⟨_,rfl,r1⟩
theorem vals2 {x y:V}{us:Og}(r:Vals [x,y] us):∃u w',us=[u,w']/\RelV x u/\RelV y w':=by
 cases r with
 |cons r1 r2 =>
  cases r2 with
  |cons r3 r4=>cases r4;exact⟨_,_,rfl,r1,r3⟩
end
structure xq (h:Heap)(x dx C:Addr)(mA:Oe):Prop where
 obj:h.get? x=some (PySem.W.instObj C dx)
 ns:h.Ns1 dx mA
 ne:dx≠x
theorem zI {h:Heap}{dx:Addr}{mA:Oe}(n:h.Ns1 dx mA):∃od,h.get? dx=some od/\∀name,PySem.W.lookIn name od=some (mA name):=by
 obtain⟨o,es,ep,ho,hd,hk,_,hm⟩:=n;refine⟨o,ho,λname=>?_⟩;have e:=hm name;unfold nsFind findBy at e;rw[←Array.find?_toList] at e;unfold PySem.W.lookIn;rw[hd];dsimp only;split
 · rename_i y q;rw[q] at e;exact Mu some e
 · rename_i q;rw[q] at e;have a:es.toList.any (·.refKey)=false:=by
    rw[List.any_eq_false];intro y hy;obtain⟨z,t,hkey⟩:=hk y (Array.mem_toList_iff.mp hy);simp[DictEntry.refKey,hkey]
   have a':¬es.toList.any (·.refKey)=true:=by rw[a];exact LN
   rw[Lo a'];exact Mu some e
theorem xq.look {h:Heap}{x dx C:Addr}{mA:Oe}(I:xq h x dx C mA):∃od,PySem.W.InstAt h x (PySem.W.instObj C dx) C (some od)/\∀name,PySem.W.lookIn name od=some (mA name) :=
 let ⟨od,ho,hl⟩:=zI I.ns
 ⟨od,⟨I.obj,rfl,rfl,ho⟩,hl⟩
section
variable {prog:Program}{w:World}{A:Around}{E:Od}{s:Shared}{K:Oc}{x dx C f:Addr}{mA:Oe}{name:Str}{v:Value}
theorem get_map {expr:Bool} {Q:Od} (X:K.In s.heap) (I:xq s.heap x dx C mA) (hg:PySem.W.plainGet K C name=true) (hh:PySem.W.hasDictIn K C=true)
  (ha:PySem.W.findIn K (.ref C) name=some none) (hv:mA name=some v) (hv':PySem.W.handedIn v=true) (h:Q v {s with toks:=s.toks+1}) :
  wpAny (model prog w) A (getAttr (.ref x) name expr) Q E s:=by
 obtain⟨od,J,hl⟩:=I.look;exact PySem.W.get_value X J (PySem.W.plainGet_of hg).1 (PySem.W.findObj_own hh ha rfl (by rw[hl,hv])) hv' h
theorem BV {pl:Sem Bool}{Q:Value×Og->Shared->Prop}(X:K.In s.heap)(I:xq s.heap x dx C mA)(hg:PySem.W.plainGet K C name=true)
  (hf:PySem.W.findIn K (.ref C) name=some (some (.ref f)))(ht:PySem.W.isFn K (.ref f)=true)(hv:mA name=none)(h:Q (.ref f,[.ref x]) s) :
  wpAny (model prog w) A (getMethod (.ref x) name pl) Q E s:=by
 obtain⟨od,J,hl⟩:=I.look;exact PySem.W.method_fn X J (PySem.W.plainGet_of hg).1 (PySem.W.plainGet_of hg).2 hf (Md.mp ht) (by show (PySem.W.lookIn name od).map (·.isSome)=some false;rw[hl,hv];rfl) h
theorem Fe {ns:List Str}{Q:Unit->Shared->Prop}(X:K.In s.heap)(I:xq s.heap x dx C mA)
  (hs:PySem.W.findIn K (.ref C) "__setattr__"=some (some (.builtin "object.__setattr__")))(hp:PySem.W.plainOver K C=true)(ht:PySem.W.takerIn K C name=some none)(hh:PySem.W.hasDictIn K C=true)
  (hw:PySem.Within mA ns)(hsz:ns.length<=sizeLine)
  (h:∀h',xq h' x dx C (λy=>if y=name then some v else mA y)->Heap.SameBut dx s.heap h'->Q () {s with heap:=h',toks:=s.toks+2}) :
  wpAny (model prog w) A (setAttr (.ref x) name v) Q E s:=by
 obtain⟨od,J,hl⟩:=I.look;refine PySem.W.set_plain X J hs (PySem.W.osa_open (s:={s with toks:=s.toks+1}) (r:=none) X J hp ht λb=>?_);obtain⟨cd,hc,hd'⟩:=PySem.W.any_some hh;have hx:s.heap.get? x=some ⟨.ref C,some dx,.plain,#[]⟩:=I.obj;refine Lm (Lu (Lm (Lm (wpAny_loadPart hx (Lm (PySem.W.Looks.here (s:={s with toks:=s.toks+1}) (PySem.W.looks_clsIn X hc) ?_))))));rw[hd'];refine Lu (a:=some dx) (Lm (Lu (Lm ?_)));refine wpAny_nsSet1 (s:={s with toks:=s.toks+1}) I.ns λh' hn2 hs2=>?_;obtain⟨oD,esD,epD,hoD,hdD,hcD⟩:=hn2.count (PySem.Within.cons name v hw);refine Lm (wpAny_lookBehind hoD (by rw[hdD];exact pastItsLine_dict (Ma hcD (by rw[Lz];omega))) ?_);exact Lu (h _ ⟨(hs2.2 _ (N4 I.ne)).trans I.obj,hn2,I.ne⟩ hs2)
theorem Cp {R:Result->Shared->Prop}{vs:Og}{kw:List (Str×Value)}(X:K.In s.heap)(hm:PySem.W.makesIn K C=true)
  (hi:PySem.W.findIn K (.ref C) "__init__"=some (some (.ref f)))(hf:PySem.W.typeIn K (.ref f)=some (.type "function"))
  (h:codeAny (model prog w) (A.under (.builtin "type.__call__" ⟨.ref C::vs,kw⟩)) (.call (.ref f) ⟨.ref (s.heap.objs.size+1)::vs,kw⟩) (PySem.W.InitBack (s.heap.objs.size+1) R)
   {s with heap:=(s.heap.push PySem.W.emptyDict).push (PySem.W.instObj C s.heap.objs.size)}) :
  codeAny (model prog w) A (.call (.ref C) ⟨vs,kw⟩) R s:=by
 obtain⟨hh,g,d,t,os⟩:=s;exact PySem.W.make_core (PySem.W.makes_of X hm) (PySem.W.looks_findIn X hi) (λself=>PySem.W.bind_fn X self hf) (.inl rfl) h
end
def eK (f:Str)(v:V):List (Str×V)->List (Str×V)
 |[]=>[(f,v)]
 |(g,x)::r=>if g=f then (g,v)::r else (g,x)::eK f v r
theorem jF (f g:Str)(v:V):∀fs:List (Str×V),(eK f v fs).lookup g=if g=f then some v else fs.lookup g
 |[]=>by
  show List.lookup g [(f,v)]=_;by_cases h:g=f
  · have hb:(g==f)=true:=Md.mpr h;simp only[List.lookup,hb,Lp h]
  · have hb:(g==f)=false:=LW.mpr h;simp only[List.lookup,hb,Lo h]
 |(k,x)::r=>by
  have ih:=jF f g v r;rw[show eK f v ((k,x)::r)=(if k=f then (k,v)::r else (k,x)::eK f v r) from rfl];by_cases hk:k=f
  · rw[Lp hk];by_cases h:g=k
    · have hb:(g==k)=true:=Md.mpr h;simp only[List.lookup,hb,Lp (h.trans hk)]
    · have hb:(g==k)=false:=LW.mpr h;simp only[List.lookup,hb,Lo (λe:g=f=>h (e.trans hk.symm))]
  · rw[Lo hk];by_cases h:g=k
    · have hb:(g==k)=true:=Md.mpr h;simp only[List.lookup,hb,Lo (λe:g=f=>hk (h.symm.trans e))]
    · have hb:(g==k)=false:=LW.mpr h;simp only[List.lookup,hb];exact ih
theorem mO (f:Str)(v:V):∀fs:List (Str×V),f∈(eK f v fs).map (·.1)/\∀g,g∈fs.map (·.1)->g∈(eK f v fs).map (·.1)
 |[]=>⟨by simp[eK],λg h=>by simp at h⟩
 |(k,x)::r=>by
  obtain⟨i1,i2⟩:=mO f v r;rw[show eK f v ((k,x)::r)=(if k=f then (k,v)::r else (k,x)::eK f v r) from rfl];by_cases hk:k=f
  · rw[Lp hk];subst hk;exact⟨by simp,λg h=>by simpa using h⟩
  · rw[Lo hk];refine⟨?_,λg h=>?_⟩
    · rw[LF];exact LG _ i1
    · rw[LF] at h ⊢;rcases Lr.mp h with e|e
      · exact Lr.mpr (.inl e)
      · exact LG _ (i2 g e)
theorem nM (f:Str)(v:V):∀fs:List (Str×V),(eK f v fs).length<=fs.length+1
 |[]=>by simp[eK]
 |(k,x)::r=>by
  have ih:=nM f v r;rw[show eK f v ((k,x)::r)=(if k=f then (k,v)::r else (k,x)::eK f v r) from rfl];by_cases hk:k=f
  · rw[Lp hk,Lz,Lz];omega
  · rw[Lo hk,Lz,Lz];omega
theorem iK.some_of {v:V}{o:Option Value}(r:iK (some v) o):∃u,o=some u/\RelV v u:=by
 cases o with
 |none=>exact (show False from r).elim
 |some u=>exact⟨u,rfl,r⟩
theorem iK.none_of {o:Option Value}(r:iK none o):o=none:=by
 cases o with
 |none=>rfl
 |some u=>exact (show False from r).elim
theorem rj {v:V}{u:Value}(r:RelV v u):PySem.W.handedIn u=true:=by
 cases v with
 |b8=>cases (show u=Value.none from r);rfl
 |bl b=>cases (show u=Value.bool b from r);rfl
 |int i=>obtain⟨t,e⟩:=(show ∃t,u=Value.int i t from r);cases e;rfl
 |str x=>obtain⟨t,e⟩:=(show ∃t,u=Value.str x t from r);cases e;rfl
 |vV b=>obtain⟨t,e⟩:=(show ∃t,u=Value.bytes b t from r);cases e;rfl
 |flt b=>obtain⟨t,e⟩:=(show ∃t,u=Value.float b t from r);cases e;rfl
 |ref a=>cases (show u=Value.ref a from r);rfl
 |ty n=>cases (show u=Value.type n from r);rfl
section
variable {P:Program}{w:World}{H H':Hp}{h h':Heap}{a C dx:Addr}{fs fs':List (Str×V)}
theorem tW (bw:ir P w H h) (e:H a=some (.ins C dx fs)):∃mA,xq h a dx C mA/\(∀f,iK (fs.lookup f) (mA f))/\PySem.Within mA (fs.map (·.1))/\fs.length<=1000/\H dx=some (.own a):=by
 obtain⟨d,z,ne,ob,mA,n,r,q⟩:=(show bN P w H h a (.ins C dx fs) from bw a _ e);exact⟨mA,⟨ob,n,ne⟩,r,q,z,d⟩
end
structure yn (K:Oc)(C:Addr):Prop where
 pg:PySem.W.plainGet K C Str.empty=true
 hd:PySem.W.hasDictIn K C=true
 po:PySem.W.plainOver K C=true
 sa:PySem.W.findIn K (.ref C) "__setattr__"=some (some (.builtin "object.__setattr__"))
theorem yn.get {K:Oc}{C:Addr}(c:yn K C)(f:Str):PySem.W.plainGet K C f=true:=c.pg
def hX (K:Oc)(C:Addr)(f:Str):Prop:=PySem.W.findIn K (.ref C) f=some none
theorem hX.Jl {K:Oc}{C:Addr}{f:Str}(n:hX K C f):PySem.W.takerIn K C f=some none:=by
 unfold PySem.W.takerIn;rw[show PySem.W.findIn K (.ref C) f=some none from n];rfl
structure Meth (K:Oc)(C:Addr)(m:Str)(f:Addr):Prop where
 at_:PySem.W.findIn K (.ref C) m=some (some (.ref f))
 fn:PySem.W.isFn K (.ref f)=true
 kp:PySem.W.keepIn K (.ref f)=true
section
variable {X:Cx}{pins:Of}{σ:St}{H:Hp}{s:Shared}{a C dx:Addr}{fs:List (Str×V)}{f:Str}{v:V}{A:Around}{E:Od}
theorem qd {b:Bool} {Q:Od} (I:Inv X pins σ H s) (e:H a=some (.ins C dx fs)) (c:yn X.K C) (n:hX X.K C f) (l:fs.lookup f=some v)
  (h:∀u s',Inv X pins σ H s'->RelV v u->Q u s'):wpAny (model X.prog X.w) A (getAttr (.ref a) f b) Q E s:=by
 obtain⟨mA,O,r,_,_,_⟩:=tW I.bw e;obtain⟨u,hu,ru⟩:=iK.some_of (v:=v) (o:=mA f) (by rw[←l];exact r f);exact get_map I.mQ O (c.get f) c.hd n hu (rj ru) (h u _ (I.tok _) ru)
theorem pJ {m:Str}{g:Addr}{pl:Sem Bool}{Q:Value×Og->Shared->Prop}(I:Inv X pins σ H s)(e:H a=some (.ins C dx fs))(c:yn X.K C)(k:Meth X.K C m g)(l:fs.lookup m=none)
  (h:Q (.ref g,[.ref a]) s):wpAny (model X.prog X.w) A (getMethod (.ref a) m pl) Q E s:=by
 obtain⟨mA,O,r,_,_,_⟩:=tW I.bw e;have hn:mA m=none:=iK.none_of (by rw[←l];exact r m);exact BV I.mQ O (c.get m) k.at_ k.fn hn h
theorem qE {y:V}{u:Value}{Q:Unit->Shared->Prop}(I:Inv X pins σ H s)(e:H a=some (.ins C dx fs))(c:yn X.K C)(n:hX X.K C f)(hl:fs.length < 1000)(ry:RelV y u)
  (h:∀s',Inv X pins σ (upd H a (.ins C dx (eK f y fs))) s'->Q () s'):wpAny (model X.prog X.w) A (setAttr (.ref a) f u) Q E s:=by
 obtain⟨mA,O,r,wi,_,ho⟩:=tW I.bw e;have hz:(fs.map (·.1)).length<=sizeLine:=by rw[Ln,LQ];omega
 refine Fe I.mQ O c.sa c.po n.Jl c.hd wi hz λh' O' sb=>h _ ?_;have hd:∃o,h'.get? dx=some o:=let ⟨o,_,_,e',_⟩:=O'.ns;⟨o,e'⟩;refine I.write (x:=a) (e:=dx) (by rw[e];exact True.intro) (.inr ho) (λb q hb z=>(sb.2 b hb).trans z) hd ?_;refine⟨by rw[aq O.ne];exact ho,?_,O.ne,O'.obj,_,O'.ns,λg=>?_,λg hg=>?_⟩
 · have:=nM f y fs;omega
 · show iK ((eK f y fs).lookup g) (if g=f then some u else mA g);rw[jF];by_cases q:g=f
   · rw[Lp q,Lp q];exact ry
   · rw[Lo q,Lo q];exact r g
 · by_cases q:g=f
   · rw[q];exact (mO f y fs).1
   · refine (mO f y fs).2 g (wi g λz=>hg ?_);show (if g=f then some u else mA g)=none;rw[Lo q];exact z
theorem Inv.made (I:Inv X pins σ H s):Inv X pins σ (upd (upd H s.heap.objs.size (.own (s.heap.objs.size+1))) (s.heap.objs.size+1) (.ins C s.heap.objs.size []))
  {s with heap:=(s.heap.push PySem.W.emptyDict).push (PySem.W.instObj C s.heap.objs.size)}:=by
 have e1:(s.heap.push PySem.W.emptyDict).get? s.heap.objs.size=some PySem.W.emptyDict:=LD s.heap rfl;have e2:((s.heap.push PySem.W.emptyDict).push (PySem.W.instObj C s.heap.objs.size)).get? (s.heap.objs.size+1)=some (PySem.W.instObj C s.heap.objs.size):=by
  have:=LD (s.heap.push PySem.W.emptyDict) (o:=PySem.W.instObj C s.heap.objs.size) rfl
  rwa [Mw] at this
 have e3:(s.heap.push PySem.W.emptyDict).Ns s.heap.objs.size (λ_=>none):=⟨PySem.W.emptyDict,#[],_,e1,rfl,(λe he=>absurd he (by simp)),λ_=>rfl⟩;have I1:=I.laid (a:=s.heap.objs.size) (o:=.own (s.heap.objs.size+1)) (h':=s.heap.push PySem.W.emptyDict) (t':=s.toks) (λb u q=>Lq _ q) (Lx _) ⟨_,e1⟩;refine I1.laid (a:=s.heap.objs.size+1) (o:=.ins C s.heap.objs.size []) (t':=s.toks) (λb u q=>Lq _ q) (N5 (Mw _ _)) ?_;have ne:s.heap.objs.size≠s.heap.objs.size+1:=L0 (NS _);refine⟨by rw[aq ne,ae],LV _,ne,e2,λ_=>none,(Heap.Ns1.of_empty e3).at λo q=>Lq _ q,λ_=>True.intro,λy hy=>absurd rfl hy⟩
theorem yI {prog:Program}{w:World}{env:Env}{e:Expr}{f:Str}{pos:Pos}{s:Shared}{Q:Od}(hb:attributeBase e f env (eval e env)=eval e env)
  (h:wpAny (model prog w) A (eval e env) (λo s₁=>wpAny (model prog w) A (getAttr o f true) Q E s₁) E s):wpAny (model prog w) A (eval (.Attribute e f pos) env) Q E s :=
 Attribute_any_ h (by rw[arm_eval_Attribute,hb])
end
def uZ (K:Oc)(ta:TE)(f:Str):TE:=λσ H Q=>ta σ H λx H1=>∃a C dx fs v,x=.ref a/\H1 a=some (.ins C dx fs)/\yn K C/\hX K C f/\fs.lookup f=some v/\Q v H1
def Ks (K:Oc)(ta tv:TE)(f:Str):TS:=λD σ H=>tv σ H λy H1=>ta σ H1 λx H2=>∃a C dx fs,x=.ref a/\H2 a=some (.ins C dx fs)/\yn K C/\hX K C f/\fs.length < 1000 /\
 D.nx σ (upd H2 a (.ins C dx (eK f y fs)))
def JN (X:Cx)(op:Operator)(rd:V->V->Hp->VK->Prop):Prop :=
 ∀(pins:Of) (s:Shared) (σ:St) (H:Hp) (x y:V) (u v:Value) (Q:VK),Inv X pins σ H s->RelV x u->RelV y v->rd x y H Q->wpAny (model X.prog X.w) X.A (inplaceOp op u v) (EP X pins σ Q) X.xe s
def ET (K:Oc)(ta tv:TE)(rd:V->V->Hp->VK->Prop)(f:Str):TS:=λD σ H=>ta σ H λx H1=>∃a C dx fs v,x=.ref a/\H1 a=some (.ins C dx fs)/\yn K C/\hX K C f/\fs.lookup f=some v /\
 tv σ H1 λy H2=>rd v y H2 λz H3=>∃dx' fs',H3 a=some (.ins C dx' fs')/\fs'.length < 1000/\D.nx σ (upd H3 a (.ins C dx' (eK f z fs')))
section
variable {X:Cx}{o e value:Expr}{f:Str}{pos pos' tpos:Pos}{ta tv:TE}
theorem aX (he:PE X e ta) (hb:attributeBase e f X.env (eval e X.env)=eval e X.env):PE X (.Attribute e f pos) (uZ X.K ta f):=by
 intro pins s σ H Q I h;refine yI hb (bB (he pins s σ H _ I h) λu s1 ⟨x,H1,I1,rx,a,C,dx,fs,v,ex,ea,c,n,l,q⟩=>?_);subst ex;obtain rfl:u=Value.ref a:=rx;exact qd I1 ea c n l λu' s2 I2 ru=>⟨v,H1,I2,ru,q⟩
theorem cD (ha:PE X o ta)(hv:PE X value tv)(hs:swapsWith value (some (.Attribute o f pos')) pos.line X.env=pure false):PS X (.Assign [.Attribute o f pos'] value pos) (Ks X.K ta tv f):=by
 intro pins s σ H D I h;refine plainObj_wpAny_Assign_Attribute (bB (hv pins s σ H _ I h) λu s1 ⟨y,H1,I1,ry,q⟩=>bB (ha pins s1 σ H1 _ I1 q) λov s2 ⟨x,H2,I2,rx,a,C,dx,fs,ex,ea,c,n,l,q2⟩=>?_) hs;subst ex;obtain rfl:ov=Value.ref a:=rx;exact qE I2 ea c n l ry λs3 I3=>⟨σ,_,I3,q2⟩
theorem qX {op:Operator}{rd:V->V->Hp->VK->Prop}(ha:PE X o ta)(hv:PE X value tv)(hop:JN X op rd):PS X (.AugAssign (.Attribute o f tpos) op value pos) (ET X.K ta tv rd f):=by
 intro pins s σ H D I h;refine wpAny_AugAssign_AttributeAny (bB (ha pins s σ H _ I h) λov s1 ⟨x,H1,I1,rx,a,C,dx,fs,v,ex,ea,c,n,l,q⟩=>?_);subst ex;obtain rfl:ov=Value.ref a:=rx;refine qd I1 ea c n l λu s2 I2 ru=>bB (hv pins s2 σ H1 _ I2 q) λw3 s3 ⟨y,H2,I3,ry,q3⟩=>bB (hop pins s3 σ H2 v y u w3 _ I3 ru ry q3) λw4 s4 ⟨z,H3,I4,rz,dx',fs',ea',l',q4⟩=>?_;exact qE I4 ea' c n l' rz λs5 I5=>⟨σ,_,I5,q4⟩
def Kb:V->V->Hp->VK->Prop:=λx y H Q=>∃i j,x=.int i/\y=.int j/\Q (.int (i+j)) H
theorem AF:JN X .Add Kb:=by
 rintro pins s σ H x y u v Q I rx ry ⟨i,j,rfl,rfl,q⟩;obtain⟨t,rfl⟩:=(show ∃t,u=Value.int i t from rx);obtain⟨t',rfl⟩:=(show ∃t',v=Value.int j t' from ry);exact PyProof.Rows.iadd_int ⟨.int (i+j),H,I.tok _,⟨_,rfl⟩,q⟩
end
section
variable {X:Cx}{pins:Of}{σ:St}{H:Hp}{s:Shared}{A:Around}{E:Od}{Q:Od}{c:Value}{b:Bool}
end
structure c_ (k:Nat)(A:Around):Prop where
 hd:A.handled=none
 dp:A.depth+3*k+5 < recursionLimit
 un:A.units+16*k+200 < cLine
theorem c_.mono {j k:Nat}{A:Around}(r:c_ k A)(h:j<=k):c_ j A:=⟨r.hd,by have:=r.dp;omega,by have:=r.un;omega⟩
theorem c_.deeper {k:Nat}{A:Around}(r:c_ (k+1) A)(env:Env):c_ k (A.deeper env) :=
 ⟨r.hd,by have:=r.dp;show A.depth+1+3*k+5 < _;omega,by have:=r.un;show A.units+3+16*k+200 < _;omega⟩
theorem xD {A:Around}{C:Addr}{us:Og}{kw:List (Str×Value)}:(A.under (.builtin "type.__call__" ⟨.ref C::us,kw⟩)).depth=A.depth+1:=by
 first|rfl|simp[Around.under,Code.weight,Code.isCreation,Code.isGuard,Code.isCaller,Code.frames,Code.isFrame,guardIds]
theorem xW {A:Around}{C:Addr}{us:Og}{kw:List (Str×Value)}:(A.under (.builtin "type.__call__" ⟨.ref C::us,kw⟩)).units=A.units+1:=by
 first|rfl|simp[Around.under,Code.cUnits,Code.frames,Code.isFrame]
theorem c_.make {k:Nat}{A:Around}(r:c_ (k+1) A)(C:Addr)(us:Og)(kw:List (Str×Value)):c_ k (A.under (.builtin "type.__call__" ⟨.ref C::us,kw⟩)) :=
 ⟨r.hd,by have:=r.dp;rw[xD];omega,by have:=r.un;rw[xW];omega⟩
theorem c_.depth {k:Nat}{A:Around}(r:c_ k A):A.depth < recursionLimit:=by have:=r.dp;omega
theorem c_.units {k:Nat}{A:Around}(r:c_ k A):A.units+64 < cLine:=by have:=r.un;omega
def fe:TA:=λ_ H Q=>Q [] H
def cM (ta:TE)(tr:TA):TA:=λσ H Q=>ta σ H λx H1=>tr σ H1 λxs H2=>Q (x::xs) H2
section
variable {X:Cx}{e:Expr}{es:List Expr}{te:TE}{t:TA}{pos:Pos}
theorem ah:PA X [] fe:=λ_ _ _ _ H Q I h=>Calls.spliced_nil ⟨[],H,I,.nil,h⟩
theorem aa (ha:PE X e te)(hr:PA X es t)(hs:starEach (e::es) X.env=(false,eval e X.env)::starEach es X.env:=by rfl):PA X (e::es) (cM te t):=by
 intro pos pins s σ H Q I h;rw[hs];show wpAny _ _ (spliced ((false,eval e X.env)::backTo pos (starEach es X.env))) _ _ s;refine N_ (bB (ha pins s σ H _ I h) λu s1 ⟨x,H1,I1,r1,q1⟩=>?_);exact bB (hr pos pins s1 σ H1 _ I1 q1) λus s2 ⟨xs,H2,I2,r2,q2⟩=>⟨x::xs,H2,I2,.cons r1 r2,q2⟩
def Kl (t:TA):TE:=λσ H Q=>t σ H λxs H1=>xs.length<=sizeLine/\∀p,H1 p=none->Q (.ref p) (upd H1 p (.tup xs))
def HR (t:TA):TE:=λσ H Q=>t σ H λxs H1=>xs.length<=sizeLine/\∀p,H1 p=none->Q (.ref p) (upd H1 p (.lst xs))
theorem dk {x1}(h:PA X es t):PE X (.Tuple es x1 pos) (Kl t):=by
 intro pins s σ H Q I hq;refine wpAny_Tuple_spliced (bB (h pos pins s σ H _ I hq) λus s1 ⟨xs,H1,I1,r,z,q⟩=>⟨by rw[←r.length];exact z,?_⟩);have hf:H1 s1.heap.objs.size=none:=I1.bw.fresh (Lx _);refine⟨.ref s1.heap.objs.size,upd H1 s1.heap.objs.size (.tup xs),I1.laid (t':=s1.toks) (λb u e=>Lq _ e) (Lx _) ?_,rfl,q _ hf⟩;exact⟨z,us,r,⟨_,LD _ rfl,rfl,_,rfl⟩⟩
theorem bU (h:PA X es t):PE X (.List es pos) (HR t):=by
 intro pins s σ H Q I hq;refine wpAny_List_spliced (bB (h pos pins s σ H _ I hq) λus s1 ⟨xs,H1,I1,r,z,q⟩=>⟨by rw[←r.length];exact z,?_⟩);have hf:H1 s1.heap.objs.size=none:=I1.bw.fresh (Lx _);refine⟨.ref s1.heap.objs.size,upd H1 s1.heap.objs.size (.lst xs),I1.laid (t':=s1.toks) (λb u e=>Lq _ e) (Lx _) ?_,rfl,q _ hf⟩;exact⟨z,us,0,r,LD _ rfl⟩
end
abbrev Sp:=List V->Hp->VK->XK->Prop
abbrev mr:=List Env->Hp->Shared->XK->Value->Shared->Prop
structure wX (P:Program)(w:World)(K:Oc)(mg:Oe)(base:Heap)(A:Around)(outer:List Env)(s:Shared)(H:Hp):Prop where
 frames:A.frames=some outer
 mod:Mod K mg base
 bs:∀b o,base.get? b=some o->s.heap.get? b=some o/\H b=none
 C2:base.objs.size<=s.heap.objs.size
 mi:s.heap.FunFrames base outer
 F7:∀b∈vT outer,H b=none
 bw:ir P w H s.heap
 bare:AllBare s.gens
def CE (outer:List Env)(P:Program)(w:World)(H:Hp)(s:Shared)(Q:VK)(u:Value)(s':Shared):Prop :=
 ∃v H',s'.os=s.os/\AllBare s'.gens/\Un (vT outer) [] H H' s.heap s'.heap/\ir P w H' s'.heap/\RelV v u/\Q v H'
def CR (CX:mr)(outer:List Env)(P:Program)(w:World)(H:Hp)(s:Shared)(Q:VK)(E:XK)(r:Result)(s':Shared):Prop :=
 match r with
 |.ok (.ret u)=>CE outer P w H s Q u s'
 |.ok _=>False
 |.error e=>CX outer H s E e s'
structure bf (P:Program)(w:World)(K:Oc)(mg:Oe)(base:Heap)(CX:mr)(k:Nat)(f:Addr)(fd:FuncData)(ps:List Str)(sp:Sp):Prop where
 len:∀vs H Q E,sp vs H Q E->vs.length=ps.length
 run:∀(A:Around) (outer:List Env) (s:Shared) (H:Hp) (args:Args) (us:Og) (vs:List V) (Q:VK) (E:XK),c_ k A->wX P w K mg base A outer s H->BindsTo s fd args (ps.zip us)->Vals vs us->sp vs H Q E ->
  codeAny (model P w) A (.call (.ref f) args) (CR CX outer P w H s Q E) s
theorem bf.mono {P:Program}{w:World}{K:Oc}{mg:Oe}{base:Heap}{CX:mr}{j k:Nat}{f:Addr}{fd:FuncData}{ps:List Str}{sp:Sp}(F:bf P w K mg base CX j f fd ps sp)(h:j<=k) :
  bf P w K mg base CX k f fd ps sp:=⟨F.len,λA outer s H args us vs Q E hr=>F.run A outer s H args us vs Q E (hr.mono h)⟩
theorem wX.make {P:Program}{w:World}{K:Oc}{mg:Oe}{base:Heap}{A:Around}{outer:List Env}{s:Shared}{H:Hp}(e:wX P w K mg base A outer s H)(C:Addr)(us:Og)(kw:List (Str×Value)) :
  wX P w K mg base (A.under (.builtin "type.__call__" ⟨.ref C::us,kw⟩)) outer s H:=⟨by first|exact e.frames|(simpa [Around.under,Code.envs,Code.isFrame,pushEnvs] using e.frames),e.mod,e.bs,e.C2,e.mi,e.F7,e.bw,e.bare⟩
section
variable {X:Cx}{pins:Of}{σ:St}{H:Hp}{s s':Shared}
theorem Inv.Gq (I:Inv X pins σ H s):wX X.prog X.w X.K X.mg X.base X.A X.stack s H :=
 ⟨I.ok.frames,I.ok.mod,I.bs,Ma I.ok.C2 I.sz,I.stack,I.sM,I.bw,I.bare⟩
theorem Inv.after {Q:VK}{u:Value}(I:Inv X pins σ H s)(h:CE X.stack X.prog X.w H s Q u s'):EP X pins σ Q u s':=by
 obtain⟨v,H',os,bare,un,bw,r,q⟩:=h;obtain⟨hh,g,d,t,os'⟩:=s';obtain rfl:os'=s.os:=os;exact⟨v,H',I.call (h':=hh) (g':=g) (d':=d) (t':=t) (ch:=[]) un bw bare (λb z=>absurd z (by simp)),r,q⟩
end
def nH (sp:Sp)(dvs:List V)(E:XK)(t:TA):TE:=λσ H Q=>t σ H λvs H1=>sp (vs++dvs) H1 Q E
def vS (C:Addr)(m:Str)(sp:Sp)(dvs:List V)(E:XK)(ta:TE)(t:TA):TE:=λσ H Q=>ta σ H λx H1=>∃a dx fs,x=.ref a/\H1 a=some (.ins C dx fs)/\fs.lookup m=none /\
 t σ H1 λvs H2=>sp (x::(vs++dvs)) H2 Q E
def Fh (C:Addr)(sp:Sp)(dvs:List V)(E:XK)(t:TA):TE:=λσ H Q=>t σ H λvs H1=>∀x dx,H1 x=none->H1 dx=none->dx≠x ->
 sp (.ref x::(vs++dvs)) (upd (upd H1 dx (.own x)) x (.ins C dx [])) (λv H2=>v=.b8/\Q (.ref x) H2) E
def Binds (K:Oc)(fd:FuncData)(ps:List Str)(ds:Og):Prop :=
 ∀(s:Shared) (us:Og),K.In s.heap->(us++ds).length=ps.length->BindsTo s fd ⟨us,[]⟩ (ps.zip (us++ds))
theorem Binds.all {K:Oc}{fd:FuncData}{ps:List Str}(h:∀us:Og,us.length=ps.length->bindArgs fd ⟨us,[]⟩=pure (ps.zip us)):Binds K fd ps []:=λs us _ hl=>by
 rw[Mq] at hl ⊢;exact .of_eq (h us hl)
def Passes (CX:mr)(X:Cx)(E:XK):Prop:=∀(pins:Of) (σ:St) (H:Hp) (s:Shared) (e:Value) (s':Shared),Inv X pins σ H s->CX X.stack H s E e s'->X.xe e s'
section
variable {X:Cx}{CX:mr}{k:Nat}{f C:Addr}{fd:FuncData}{ps:List Str}{sp:Sp}{dvs:List V}{ds:Og}{E:XK}{x m:Str}{p pos apos:Pos}{e o:Expr}{es:List Expr}{ta:TE}{t:TA}
theorem xY {pins:Of} {σ:St} {H:Hp} {s:Shared} {Q:VK} {us:Og} {vs:List V} (F:bf X.prog X.w X.K X.mg X.base CX k f fd ps sp) (hr:c_ k X.A) (hb:Binds X.K fd ps ds) (hd:Vals dvs ds) (hx:Passes CX X E)
  (I:Inv X pins σ H s) (r:Vals vs us) (h:sp (vs++dvs) H Q E):wpAny (model X.prog X.w) X.A (call (.ref f) us) (EP X pins σ Q) X.xe s:=by
 have r2:Vals (vs++dvs) (us++ds):=r.append hd;have hl:(us++ds).length=ps.length:=by rw[←r2.length];exact F.len _ _ _ _ h
 refine wpAny_call (N3 (F.run X.A X.stack s H ⟨us,[]⟩ (us++ds) (vs++dvs) Q E hr I.Gq (hb s us I.mQ hl) r2 h) λr s' hq=>?_);cases r with
 |error e=>exact hx pins σ H s e s' I hq
 |ok fl =>
  cases fl with
  |ret u=>exact I.after hq
  |next=>exact False.elim hq
  |brk=>exact False.elim hq
  |cont=>exact False.elim hq
theorem Ed (F:bf X.prog X.w X.K X.mg X.base CX k f fd ps sp)(hr:c_ k X.A)(hg:Gl X x)(hm:X.mg x=some (.ref f))(hk:PySem.W.keepIn X.K (.ref f)=true)(hb:Binds X.K fd ps ds)(hd:Vals dvs ds)(hx:Passes CX X E)
  (ha:PA X (e::es) t)(hdb:(x==("__debug__":Str))=false:=by decide)(he:starEach (e::es) X.env=(false,eval e X.env)::starEach es X.env:=by rfl)(hpl:(backTo pos (starEach es X.env)).any (·.1)=false:=by rfl) :
  PE X (.Call (.Name x p) (e::es) [] pos) (nH sp dvs E t):=by
 intro pins s σ H Q I h;refine NF (lR I hg hm ?_ hdb);refine PySem.W.callWith_K (h₀:=X.base) I.ok.mod.FE hk (bB (ha pos pins s σ H _ I h) λus s1 ⟨vs,H1,I1,r,q⟩=>⟨I1.mQ,?_⟩) he hpl;exact xY F hr hb hd hx I1 r q
theorem Dk {pl:Sem Bool}(he:PE X o ta)(c:yn X.K C)(hm:Meth X.K C m f)(F:bf X.prog X.w X.K X.mg X.base CX k f fd ps sp)(hr:c_ k X.A)(hb:Binds X.K fd ps ds)(hd:Vals dvs ds)(hx:Passes CX X E)(ha:PA X (e::es) t)
  (hst:starEach (e::es) X.env=(false,eval e X.env)::starEach es X.env:=by rfl)(hpl:(backTo pos (starEach es X.env)).any (·.1)=false:=by rfl)
  (ht:eval (.Call (.Attribute o m apos) (e::es) [] pos) X.env=(do
   let ov ←eval o X.env
   standAt apos.atName
   let (f,first) ←holding [ov] (getMethod ov m pl)
   callWith pos f first (backTo pos (starEach (e::es) X.env)) (backToKw pos (keywordEach [] X.env))):=by rfl) :
  PE X (.Call (.Attribute o m apos) (e::es) [] pos) (vS C m sp dvs E ta t):=by
 intro pins s σ H Q I h;refine PySem.W.methodCall_KW (pl:=pl) (bB (he pins s σ H _ I h) λu s1 ⟨x,H1,I1,rx,a,dx,fs,ex,ea,l,q⟩=>?_) ht;subst ex;obtain rfl:u=Value.ref a:=rx;refine pJ I1 ea c hm l ?_;refine PySem.W.callWith_K (first:=[.ref a]) (h₀:=X.base) I.ok.mod.FE hm.kp (bB (ha pos pins s1 σ H1 _ I1 q) λus s2 ⟨vs,H2,I2,r,q2⟩=>⟨I2.mQ,?_⟩) hst hpl;exact xY (us:=.ref a::us) (vs:=.ref a::vs) F hr hb hd hx I2 (.cons rfl r) q2
theorem Br {pl:Sem Bool}(he:PE X o ta)(c:yn X.K C)(hm:Meth X.K C m f)(F:bf X.prog X.w X.K X.mg X.base CX k f fd ps sp)(hr:c_ k X.A)(hb:Binds X.K fd ps ds)(hd:Vals dvs ds)(hx:Passes CX X E)
  (ht:eval (.Call (.Attribute o m apos) [] [] pos) X.env=(do
   let ov ←eval o X.env
   standAt apos.atName
   let (f,first) ←holding [ov] (getMethod ov m pl)
   callWith pos f first (backTo pos (starEach [] X.env)) (backToKw pos (keywordEach [] X.env))):=by rfl) :
  PE X (.Call (.Attribute o m apos) [] [] pos) (vS C m sp dvs E ta fe):=by
 intro pins s σ H Q I h;refine PySem.W.methodCall_KW (pl:=pl) (bB (he pins s σ H _ I h) λu s1 ⟨x,H1,I1,rx,a,dx,fs,ex,ea,l,q⟩=>?_) ht;subst ex;obtain rfl:u=Value.ref a:=rx;refine pJ I1 ea c hm l ?_;exact PySem.W.callWith_K0 (first:=[.ref a]) I1.mQ hm.kp (xY (us:=[.ref a]) (vs:=[.ref a]) F hr hb hd hx I1 (.cons rfl .nil) q)
structure Mk (K:Oc)(C f:Addr):Prop where
 makes:PySem.W.makesIn K C=true
 init:PySem.W.findIn K (.ref C) "__init__"=some (some (.ref f))
 fn:PySem.W.isFn K (.ref f)=true
 kp:PySem.W.keepIn K (.ref C)=true
theorem BU {pins:Of}{σ:St}{H:Hp}{s:Shared}{Q:VK}{us:Og}{vs:List V}(M:Mk X.K C f)(F:bf X.prog X.w X.K X.mg X.base CX k f fd ps sp)(hr:c_ (k+1) X.A)(hb:Binds X.K fd ps ds)(hd:Vals dvs ds)
  (hx:Passes CX X E)(I:Inv X pins σ H s)(r:Vals vs us)
  (h:∀x dx,H x=none->H dx=none->dx≠x->sp (.ref x::(vs++dvs)) (upd (upd H dx (.own x)) x (.ins C dx [])) (λv H2=>v=.b8/\Q (.ref x) H2) E) :
  wpAny (model X.prog X.w) X.A (call (.ref C) us) (EP X pins σ Q) X.xe s:=by
 have hq:=h (s.heap.objs.size+1) s.heap.objs.size (I.bw.fresh (Nat.le_succ _)) (I.bw.fresh (Lx _)) (L0 (NS _));have I2:=Inv.made (C:=C) I;have r2:Vals (V.ref (s.heap.objs.size+1)::(vs++dvs)) (Value.ref (s.heap.objs.size+1)::(us++ds)):=.cons rfl (r.append hd);have hl:(Value.ref (s.heap.objs.size+1)::us++ds).length=ps.length:=by
  have e:=r2.length;rw[F.len _ _ _ _ hq] at e;exact e.symm
 refine wpAny_call (Cp (f:=f) I.mQ M.makes M.init (Md.mp M.fn) (N3 (F.run _ X.stack _ _ ⟨Value.ref (s.heap.objs.size+1)::us,[]⟩ (Value.ref (s.heap.objs.size+1)::(us++ds)) _ _ E (hr.make C us [])
  (I2.Gq.make C us []) (hb _ (Value.ref (s.heap.objs.size+1)::us) I2.mQ hl) r2 hq) λr s' hq'=>?_))
 cases r with
 |error e=>exact hx pins σ _ _ e s' I2 hq'
 |ok fl =>
  cases fl with
  |ret u =>
   obtain⟨v,H',I3,rv,ev,q3⟩:=I2.after hq';subst ev;exact⟨rv,⟨V.ref (s.heap.objs.size+1),H',I3,rfl,q3⟩⟩
  |next=>exact False.elim hq'
  |brk=>exact False.elim hq'
  |cont=>exact False.elim hq'
theorem EV (M:Mk X.K C f)(F:bf X.prog X.w X.K X.mg X.base CX k f fd ps sp)(hr:c_ (k+1) X.A)(hg:Gl X x)(hm:X.mg x=some (.ref C))(hb:Binds X.K fd ps ds)(hd:Vals dvs ds)(hx:Passes CX X E)
  (ha:PA X (e::es) t)(hdb:(x==("__debug__":Str))=false:=by decide)(he:starEach (e::es) X.env=(false,eval e X.env)::starEach es X.env:=by rfl)(hpl:(backTo pos (starEach es X.env)).any (·.1)=false:=by rfl) :
  PE X (.Call (.Name x p) (e::es) [] pos) (Fh C sp dvs E t):=by
 intro pins s σ H Q I h;refine NF (lR I hg hm ?_ hdb);refine PySem.W.callWith_K (h₀:=X.base) I.ok.mod.FE M.kp (bB (ha pos pins s σ H _ I h) λus s1 ⟨vs,H1,I1,r,q⟩=>⟨I1.mQ,?_⟩) he hpl;exact BU M F hr hb hd hx I1 r q
end
section
variable {X:Cx}{CX:mr}{k:Nat}{f C:Addr}{fd:FuncData}{ps ks:List Str}{sp:Sp}{E:XK}{x m:Str}{p pos apos kpos:Pos}{e o:Expr}{es:List Expr}{kws:List Keyword}{te ta:TE}{t tk:TA}{nm:Option Str}
variable {g:Og->Og->Og} {gV:List V->List V->List V}
end
structure aI (N P:List Str)(sc:Scope):Prop where
 kind:sc.kind=.function
 co:sc.isCoroutine=false
 gen:sc.isGenerator=false
 nd:N.Nodup
 pre:N.take P.length=P
 par:∀x∈P,sc.names.lookup x=some .local∨sc.names.lookup x=some .cell
 GY:∀y∈sc.names,y.2≠.free
theorem rL {kindOf:Str->Option NameKind}{x:Str}:∀{binds:List (Str×Value)} {m:Oe},(∀v,(x,v)∉binds)->bindL kindOf binds m x=m x
 |[],_,_=>rfl
 |(n,v)::r,m,h=>by
  unfold bindL;rw[rL λw hw=>h w (LG _ hw)];split
  · have:x≠n:=by rintro rfl;exact h v L_
    simp[this]
  · rfl
theorem rJ {kindOf:Str->Option NameKind}{x:Str}:∀{binds:List (Str×Value)} {m:Oe},(∀v,(x,v)∉binds)->bindC kindOf binds m x=m x
 |[],_,_=>rfl
 |(n,v)::r,m,h=>by
  unfold bindC;rw[rJ λw hw=>h w (LG _ hw)];split
  · rfl
  · have:x≠n:=by rintro rfl;exact h v L_
    simp[this]
theorem qR {kindOf:Str->Option NameKind}{x:Str}{v:Value}:∀{P:List Str} {vs:Og} {i:Nat} {m:Oe},P.Nodup->P[i]?=some x->vs[i]?=some v->kindOf x=some .local ->
  bindL kindOf (P.zip vs) m x=some v
 |[],_,_,_,_,h,_,_=>by simp at h
 |_::_,[],_,_,_,_,h,_=>by simp at h
 |p::P,w::vs,0,m,nd,h1,h2,hk=>by
  simp at h1 h2;subst h1;subst h2;show bindL kindOf ((p,w)::P.zip vs) m p=_;unfold bindL;rw[rL λv hv=>(Mz.mp nd).1 (List.of_mem_zip hv).1,Lp hk];simp
 |p::P,w::vs,i+1,m,nd,h1,h2,hk=>by
  show bindL kindOf ((p,w)::P.zip vs) m x=_;unfold bindL;exact qR (i:=i) (Mz.mp nd).2 (by simpa using h1) (by simpa using h2) hk
theorem rC {kindOf:Str->Option NameKind}{x:Str}{v:Value}:∀{P:List Str} {vs:Og} {i:Nat} {m:Oe},P.Nodup->P[i]?=some x->vs[i]?=some v->kindOf x≠some .local ->
  bindC kindOf (P.zip vs) m x=some v
 |[],_,_,_,_,h,_,_=>by simp at h
 |_::_,[],_,_,_,_,h,_=>by simp at h
 |p::P,w::vs,0,m,nd,h1,h2,hk=>by
  simp at h1 h2;subst h1;subst h2;show bindC kindOf ((p,w)::P.zip vs) m p=_;unfold bindC;rw[rJ λv hv=>(Mz.mp nd).1 (List.of_mem_zip hv).1,Lo hk];simp
 |p::P,w::vs,i+1,m,nd,h1,h2,hk=>by
  show bindC kindOf ((p,w)::P.zip vs) m x=_;unfold bindC;exact rC (i:=i) (Mz.mp nd).2 (by simpa using h1) (by simpa using h2) hk
def start (N:List Str)(vs:List V):St:=vs.map some++List.replicate (N.length - vs.length) none
def n_ (CX:mr)(P:Program)(w:World)(K:Oc)(mg:Oe)(base:Heap)(N:List Str)(qual:Str)(scope:Scope)(f:Addr)(cd:Value)(A:Around)(outer:List Env)(s:Shared)(H:Hp)(E:XK):Cx where
 prog:=P
 w:=w
 K:=K
 mg:=mg
 base:=base
 A:=A.deeper (envOfC qual scope s.heap.objs.size f cd)
 N:=N
 kJ:=s
 HY:=H
 env:=envOfC qual scope s.heap.objs.size f cd
 outer:=outer
 stack:=envOfC qual scope s.heap.objs.size f cd::outer
 ex:=[]
 calm:=true
 fn:=λ_=>true
 pn:=[]
 xe:=λe s'=>wpAny (model P w) (A.deeper (envOfC qual scope s.heap.objs.size f cd)) (leaving (envOfC qual scope s.heap.objs.size f cd) e) (λ_ s''=>CX outer H s E e s'') (λe' s''=>CX outer H s E e' s'') s'
theorem vF {sc:Scope}{n:Nat}{x:Str}(h:sc.names.lookup x=some .cell):∃c,(cellsFrom n sc.names []).lookup x=some c:=by
 have q:=PySem.W.cellsFrom_some sc.names n [] (.inl h);exact NB.mp q
theorem zk {CX:mr}{P:Program}{w:World}{K:Oc}{mg:Oe}{base:Heap}{N ps:List Str}{qual:Str}{scope:Scope}{f:Addr}{cd:Value}{A:Around}{outer:List Env}{s s1:Shared}{H:Hp}{E:XK}{us:Og}{vs:List V}
  (S:aI N ps scope)(hd:A.handled=none)(e0:wX P w K mg base A outer s H)(hl:vs.length=ps.length)(r:Vals vs us)
  (x:InCallC s s.heap.objs.size (bindL (envOfC qual scope s.heap.objs.size f cd).kindOf (ps.zip us) λ_=>none) (cellsFrom (s.heap.objs.size+1) scope.names []) (bindC (envOfC qual scope s.heap.objs.size f cd).kindOf (ps.zip us) λ_=>none) s1) :
  Inv (n_ CX P w K mg base N qual scope f cd A outer s H E) [] (start N vs) H s1:=by
 have hpl:ps.length<=N.length:=by have:=Mu List.length S.pre;rw[LM] at this;omega
 obtain⟨h1,tk,rfl,hk⟩:=x.done;have noA:∀b:Addr,b∉(n_ CX P w K mg base N qual scope f cd A outer s H E).ex:=λb z=>absurd (show b∈([]:List Addr) from z) (by simp);refine⟨⟨e0.mod,S.kind,rfl,rfl,Lx _,λy z c h1 h2=>?_,λy hy=>?_,λy c _ h=>?_,λ_=>hd,Around.frames_deeper e0.frames,.inr ⟨rfl,rfl⟩,λb z=>absurd z (noA b),e0.bs,e0.C2,λb _ _=>noA b,λb z=>absurd z (noA b),e0.mi,e0.F7⟩,
  rfl,e0.bare,Un.kept hk,⟨_,x.toInCall.ns,λi y v h1 h2 h3=>?_⟩,λy c h=>⟨_,x.cell y c h⟩,e0.bw.fresh (Lx _),λy c h=>?_,λp hp=>absurd (show p∈([]:Of) from hp) (by simp),e0.bw.kept hk,?_⟩
 · exact name_of_addr x.apart (PySem.mem_of_lookup h1) (PySem.mem_of_lookup h2)
 · have hy:scope.names.lookup y=some .cell∨scope.names.lookup y=some .free:=hy;rcases hy with hy|hy
   · exact vF hy
   · exact absurd rfl (S.GY _ (PySem.mem_of_lookup hy))
 · exact Nat.le_of_lt (x.above y c (PySem.mem_of_lookup h))
 · have hi:i < vs.length:=by
    unfold start at h2;by_cases hi:i < vs.length
    · exact hi
    · rw[N9 (by simpa using hi)] at h2;rw[List.getElem?_replicate] at h2;split at h2 <;> cases h2
   have ha:vs[i]?=some v:=by
    unfold start at h2;rw[List.getElem?_append_left (by simpa using hi),Ls] at h2;cases e:vs[i]? with
    |none=>rw[e] at h2;cases h2
    |some a=>rw[e] at h2;cases h2;rfl
   obtain⟨u,hu,rv⟩:=r.get ha;have hp:ps[i]?=some y:=by
    rw[←S.pre,List.getElem?_take_of_lt (by omega)];exact h1
   have ndP:ps.Nodup:=by rw[←S.pre];exact S.nd.sublist (List.take_sublist _ _)
   refine⟨u,rv,?_⟩;rcases S.par y (LR hp) with k|k
   · exact .inl ⟨k,qR ndP hp hu k⟩
   · obtain⟨c,e⟩:=vF (n:=s.heap.objs.size+1) k;refine .inr ⟨.inl k,c,e,?_⟩;have q:=x.cell y c e;rw[rC ndP hp hu (by show scope.names.lookup y≠_;rw[k];decide)] at q;exact q
 · exact e0.bw.fresh (Nat.le_of_lt (x.above y c (PySem.mem_of_lookup h)))
 · unfold start;show _=N.length;rw[LK,Ln,LY];omega
theorem CC {CX:mr}{P:Program}{w:World}{K:Oc}{mg:Oe}{base:Heap}{k:Nat}{f:Addr}{name qual:Str}{params:Arguments}{body:List Stmt}{scope:Scope}{dV kV doc pm cdv ct oc:Value}{an od:Option Addr}
  {osl:Array (Option Value)}{N ps:List Str}{sp:Sp}(lk:K.lookup f=some ⟨oc,od,.func (PySem.W.fnOf name qual params body scope dV kV doc pm an cdv ct),osl⟩)(hcd:PySem.W.codeIn K cdv qual=true)(S:aI N ps scope)
  (len:∀vs H Q E,sp vs H Q E->vs.length=ps.length)
  (hbody:∀(A:Around) (outer:List Env) (s:Shared) (H:Hp) (vs:List V) (Q:VK) (E:XK),c_ k (A.deeper (envOfC qual scope s.heap.objs.size f cdv))->sp vs H Q E ->
   ∃t,BA (n_ CX P w K mg base N qual scope f cdv A outer s H E) body t/\t {nx:=λ_ H'=>Q .b8 H',rt:=Q} (start N vs) H) :
  bf P w K mg base CX (k+1) f (PySem.W.fnOf name qual params body scope dV kV doc pm an cdv ct) ps sp:=by
 refine⟨len,λA outer s H args us vs Q E hr e0 hb r hsp=>?_⟩;have hl:=len _ _ _ _ hsp;have KX:K.In s.heap:=e0.mod.FE.keeps λb o e=>(e0.bs b o e).1;have lim:s.heap.NoLimit:=e0.mod.nolimit.keeps λb o e=>(e0.bs b o e).1;have hkind:∀y∈ps.zip us,scope.names.lookup y.1=some .local∨(scope.names.lookup y.1=some .cell/\((cellsFrom (s.heap.objs.size+1) scope.names []).lookup y.1).isSome=true):=λ⟨n,v⟩ hy=>by
  rcases S.par n (List.of_mem_zip hy).1 with q|q
  · exact .inl q
  · exact .inr ⟨q,PySem.W.cellsFrom_some _ _ _ (.inl q)⟩
 refine codeAny_call_function hr.depth (KX _ _ lk) rfl S.co S.gen rfl (PySem.W.codeRec_of KX hcd) (hb _ _ _ _ ?_);refine wpAny_newFunctionEnv_cells S.kind hkind λenv he s1 x=>?_;subst he;refine⟨lim.keeps x.toInCall.keep,codeAny_func ?_⟩;obtain⟨t,ht,hq⟩:=hbody A outer s H vs Q E (hr.deeper _) hsp;have I:Inv (n_ CX P w K mg base N qual scope f cdv A outer s H E) [] (start N vs) H s1:=zk S hr.hd e0 hl r x;refine MF (ht s1 (start N vs) H _ I hq) (λfl s' hs=>?_) λe s' hs=>hs;have fin:∀{σ':St} {H':Hp} {v:V} {u:Value},Inv (n_ CX P w K mg base N qual scope f cdv A outer s H E) [] σ' H' s'->RelV v u->Q v H'->CE outer P w H s Q u s' :=
  λ{σ' H' v u} J rv q=>⟨v,H',J.os,J.bare,J.base,J.bw,rv,q⟩
 cases fl with
 |ret u =>
  obtain⟨v,σ',H',J,rv,q⟩:=hs;exact fin J rv q
 |next =>
  obtain⟨σ',H',J,q⟩:=hs;exact fin (v:=V.b8) (u:=Value.none) J rfl q
 |brk =>
  obtain⟨_,_,_,q⟩:=hs;exact False.elim q
 |cont =>
  obtain⟨_,_,_,q⟩:=hs;exact False.elim q
theorem Fz {CX:mr}{P:Program}{w:World}{K:Oc}{mg:Oe}{base:Heap}{k:Nat}{f:Addr}{name qual:Str}{params:Arguments}{body:List Stmt}{scope:Scope}{dV kV doc pm cdv ct oc:Value}{an od:Option Addr}
  {osl:Array (Option Value)}{N ps:List Str}{sp:Sp}(lk:K.lookup f=some ⟨oc,od,.func (PySem.W.fnOf name qual params body scope dV kV doc pm an cdv ct),osl⟩)(hcd:PySem.W.codeIn K cdv qual=true)(S:aI N ps scope)
  (len:∀vs H Q E,sp vs H Q E->vs.length=ps.length)
  (hbody:∀(A:Around) (outer:List Env) (s:Shared) (H:Hp) (vs:List V) (Q:VK) (E:XK),c_ k (A.deeper (envOfC qual scope s.heap.objs.size f cdv))->sp vs H Q E ->
   ∃t,ur (n_ CX P w K mg base N qual scope f cdv A outer s H E) body t/\t {nx:=λ_ H'=>Q .b8 H',rt:=Q} (start N vs) H) :
  bf P w K mg base CX (k+1) f (PySem.W.fnOf name qual params body scope dV kV doc pm an cdv ct) ps sp:=CC lk hcd S len λA outer s H vs Q E hr hs=>let ⟨t,ht,hq⟩:=hbody A outer s H vs Q E hr hs;⟨t,λs σ H D=>ht [] s σ H D,hq⟩
section
variable {X:Cx}{x:Str}{p pos:Pos}{e:Expr}{es:List Expr}{t:TA}{id T:String}{r:List V->Hp->VK->Prop}
def Ie (r:List V->Hp->VK->Prop) (t:TA):TE:=λσ H Q=>t σ H λvs H1=>r vs H1 Q
theorem aG (hc:iA X (.builtin id) r)(hg:Gl X x)(hm:X.mg x=none)(hv:bootBuiltins x=some (.builtin id))(ha:PA X (e::es) t)(hn:x≠"__name__":=by decide)(hdb:(x==("__debug__":Str))=false:=by decide)
  (he:starEach (e::es) X.env=(false,eval e X.env)::starEach es X.env:=by rfl)(hpl:(backTo pos (starEach es X.env)).any (·.1)=false:=by rfl):PE X (.Call (.Name x p) (e::es) [] pos) (Ie r t):=by
 intro pins s σ H Q I h;refine NF (lj I hg hm hv ?_ hn hdb);exact PyProof.Rows.callWith_builtin1 (bB (ha pos pins s σ H _ I h) λus s1 ⟨vs,H1,I1,r1,q1⟩=>hc pins s1 σ H1 vs us Q I1 r1 q1) he hpl
theorem ki (hc:iA X (.type T) r)(hg:Gl X x)(hm:X.mg x=none)(hv:bootBuiltins x=some (.type T))(ha:PA X (e::es) t)(hn:x≠"__name__":=by decide)(hdb:(x==("__debug__":Str))=false:=by decide)
  (he:starEach (e::es) X.env=(false,eval e X.env)::starEach es X.env:=by rfl)(hpl:(backTo pos (starEach es X.env)).any (·.1)=false:=by rfl):PE X (.Call (.Name x p) (e::es) [] pos) (Ie r t):=by
 intro pins s σ H Q I h;refine NF (lj I hg hm hv ?_ hn hdb);exact MO (bB (ha pos pins s σ H _ I h) λus s1 ⟨vs,H1,I1,r1,q1⟩=>hc pins s1 σ H1 vs us Q I1 r1 q1) he hpl
end
end L2
namespace HT
open PySem PyProof.Rows
section
open PySem.SeqAt
open PySem.AutoSeq1 (wpAny_loadPart')
open PySem.MeetsSeq PySem.MeetsSeq2 PySem.MeetsSeq3
end
section
variable {prog:Program}{w:World}{A:Around}{E:Od}{s:Shared}
theorem DE {t b:Addr} {vs ws:Og} {Q:Od} (ht:IsTup s.heap t vs.toArray) (hb:IsTup s.heap b ws.toArray) (hv:vs≠[])
  (h1:ws=[]->Q (.ref t) s) (h2:ws≠[]->Q (.ref s.heap.objs.size) {s with heap:=s.heap.push {cls:=.type "tuple",data:=.seq (vs++ws).toArray}})
  (hsz:vs.length+ws.length<=sizeLine):wpAny (model prog w) A (binaryOp .Add (.ref t) (.ref b)) Q E s:=by
 obtain⟨⟨cls,dd,data,sl⟩,ho,hc,n,hd⟩:=id ht;obtain⟨⟨cls2,dd2,data2,sl2⟩,ho2,hc2,n2,hd2⟩:=id hb;simp only at hc hd hc2 hd2;subst hc hd hc2 hd2;have e:vs.toArray++ws.toArray=(vs++ws).toArray:=by simp
 by_cases hw:ws=[]
 · exact concat_meets ⟨_,ho,rfl⟩ ⟨_,ho2,rfl⟩ noFill_tuple_add seq_tuple_add PySem.F.slot_tuple_add PySem.F.entry_tuple_add (PySem.F.args_tuple_add_2 _ _)
    (tuple_addW1 t b vs.toArray ws.toArray n n2 dd dd2 sl sl2 (by simpa using hv) (by simp[hw])) ⟨ho,ho2,h1 hw⟩
 · refine concat_meets ⟨_,ho,rfl⟩ ⟨_,ho2,rfl⟩ noFill_tuple_add seq_tuple_add PySem.F.slot_tuple_add PySem.F.entry_tuple_add (PySem.F.args_tuple_add_2 _ _)
    (tuple_addW2 t b vs.toArray ws.toArray n n2 dd dd2 sl sl2 (by simpa using hv) (by simpa using hw) (by rw[LJ,LJ];exact hsz)) ⟨ho,ho2,?_⟩
   rw[e];exact h2 hw
def b_ (n d:Nat):Option Int->Nat
 |none=>d
 |some v=>if v < 0 then (v+(n:Int)).toNat else min v.toNat n
theorem iD (n d:Nat):b_ n d none=d:=rfl
theorem i6 (n d k:Nat):b_ n d (some (k:Int))=min k n:=by
 show (if (k:Int) < 0 then ((k:Int)+(n:Int)).toNat else min (k:Int).toNat n)=min k n;rw[Lo (by omega),L9]
theorem wK (n d:Nat)(hd:d<=n)(o:Option Int):b_ n d o<=n:=by
 cases o with
 |none=>exact hd
 |some v =>
  show (if v < 0 then (v+(n:Int)).toNat else min v.toNat n)<=n;by_cases hv:v < 0
  · rw[Lp hv];omega
  · rw[Lo hv];exact Nat.min_le_right _ _
theorem yx (v:Int)(n d:Nat):(if v < 0 then max (v+(n:Int)) 0 else min v (n:Int))=((b_ n d (some v):Nat):Int):=by
 show (if v < 0 then max (v+(n:Int)) 0 else min v (n:Int))=(((if v < 0 then (v+(n:Int)).toNat else min v.toNat n):Nat):Int);by_cases hv:v < 0
 · simp only[Lp hv];omega
 · simp only[Lo hv];omega
theorem xj (lo hi:Option Int)(n:Nat):Builtin.Slice.sliceAdjust lo hi 1 (n:Int)=(((b_ n 0 lo:Nat):Int),((b_ n n hi:Nat):Int)):=by
 have h1:¬((1:Int) < 0):=by omega
 unfold Builtin.Slice.sliceAdjust;simp only[h1,Nm];refine Prod.ext ?_ ?_
 · cases lo with
   |none=>rfl
   |some v=>exact yx v n 0
 · cases hi with
   |none=>rfl
   |some v=>exact yx v n n
theorem xU (i j:Nat):Builtin.Slice.slicePlaces (i:Int) (j:Int) 1=j - i:=by
 unfold Builtin.Slice.slicePlaces;have h1:(1:Int) > 0:=by omega
 simp only[h1,M7,Int.ediv_one];split <;> omega
theorem oY {v:Value}{o:Option Int}{Q:Option Int->Shared->Prop}(p:IsPart v o)(h:Q o s):wpAny (model prog w) A (Builtin.Slice.slicePartIndex v) Q E s:=by
 cases p with
 |none=>exact slicePart_none h
 |int i t=>exact slicePart_int h
theorem iE {sl:Addr}{vl vu:Value}{lo hi:Option Int}{n:Nat}{Q:Int×Int×Nat->Shared->Prop}(hs:s.heap.IsSliceOf sl vl vu .none)(pl:IsPart vl lo)(pu:IsPart vu hi)
  (h:Q (((b_ n 0 lo:Nat):Int),1,b_ n n hi - b_ n 0 lo) s):wpAny (model prog w) A (Builtin.Slice.sliceApplied (.ref sl) (pure (n:Int))) Q E s:=by
 obtain⟨os,hos,hcs,hds⟩:=id hs;unfold Builtin.Slice.sliceApplied Builtin.Slice.sliceFields;refine Lm (Lm (wpAny_field hos hds (x:=vl) rfl (Lm (wpAny_field hos hds (x:=vu) rfl (Lm (wpAny_field hos hds (x:=.none) rfl (Lu ?_)))))));refine Lm (slicePart_none ?_);show wpAny _ _ (if ((1:Int)==0)=true then _ else _) _ _ s;rw[Lo (by decide)];refine Lm (oY pl (Lm (oY pu (Lm (Lu ?_)))));show wpAny _ _ (match Builtin.Slice.sliceAdjust lo hi 1 (n:Int) with|(lo,hi)=>pure (lo,(1:Int),Builtin.Slice.slicePlaces lo hi 1)) _ _ s;rw[xj lo hi n];show wpAny _ _ (pure (((b_ n 0 lo:Nat):Int),(1:Int),Builtin.Slice.slicePlaces ((b_ n 0 lo:Nat):Int) ((b_ n n hi:Nat):Int) 1)) _ _ s;rw[xU];exact Lu h
theorem AW (xs:Array Value)(i k:Nat):((List.range k).filterMap λ(m:Nat)=>xs[((i:Int)+(m:Int)*1).toNat]?).toArray=((xs.toList.drop i).take k).toArray:=by
 have e:(λ(m:Nat)=>xs[((i:Int)+(m:Int)*1).toNat]?)=λm=>xs[i+m]?:=by
  funext m;have:((i:Int)+(m:Int)*1).toNat=i+m:=by omega
  rw[this]
 rw[e];have:=pick_run xs i k;rw[List.filterMap_map] at this;have e2:((λx=>xs[x]?) ∘ λx=>i+x)=λm=>xs[i+m]?:=rfl;rw[e2] at this;rw[this]
theorem mm {t sl:Addr}{items:Array Value}{vl vu:Value}{lo hi:Option Int}{Q:Od}(ht:IsTup s.heap t items)(hs:s.heap.IsSliceOf sl vl vu .none)(pl:IsPart vl lo)(pu:IsPart vu hi)
  (hw:¬(b_ items.size 0 lo=0/\b_ items.size items.size hi=items.size))
  (h:Q (.ref s.heap.objs.size) {s with heap:=s.heap.push {cls:=.type "tuple",data:=.seq ((items.toList.drop (b_ items.size 0 lo)).take (b_ items.size items.size hi - b_ items.size 0 lo)).toArray}})
  (hsz:items.size<=sizeLine):wpAny (model prog w) A (getItem (.ref t) (.ref sl)) Q E s:=by
 have htake:sizeOk (.seq ((items.toList.drop (b_ items.size 0 lo)).take (b_ items.size items.size hi - b_ items.size 0 lo)).toArray):=by
  show ((items.toList.drop (b_ items.size 0 lo)).take (b_ items.size items.size hi - b_ items.size 0 lo)).toArray.size<=sizeLine;rw[LJ,LM,Mf,M9];omega
 have hj:b_ items.size items.size hi<=items.size:=wK _ _ (Lx _) hi;obtain⟨os,hos,hcs,hds⟩:=id hs;have hTs:s.TypeIs (.ref sl) "slice":=⟨os,hos,hcs⟩;unfold getItem
 try with_reducible refine Np ?_
 first|refine Lm (Lu ?_)|skip
 refine Lm (wpAny_sequenceKey ht.typeIs (by decide) ?_);refine Lm (MD (name:=Str.ofString "__getitem__") ht.typeIs ME
  (MJ ME ht.typeIs entry_tuple_getitem ?_ (args_tuple_getitem _ _)))
 show wpAny _ _ (Builtin.Tuple.tupleItemsOf (.ref t) >>= _) _ _ s;refine Lm (tupleItemsOf_ ht ?_);refine Lm (wpAny_typeOf hTs ?_);rw[Lp (by decide)];refine Lm (iE hs pl pu ?_);have hno:¬((((b_ items.size 0 lo:Nat):Int)==0&&(1:Int)==1&&(b_ items.size items.size hi - b_ items.size 0 lo)==items.size)=true):=by
  intro q;rw[Lv,Lv] at q;have q1:((b_ items.size 0 lo:Nat):Int)=0:=MR q.1.1;have q2:b_ items.size items.size hi - b_ items.size 0 lo=items.size:=MR q.2;exact hw ⟨by omega,by omega⟩
 show wpAny _ _ (if (((b_ items.size 0 lo:Nat):Int)==0&&(1:Int)==1&&(b_ items.size items.size hi - b_ items.size 0 lo)==items.size)=true then _ else _) _ _ s;rw[Lo hno,AW]
 first
  |exact Lm (m:=Builtin.Tuple.tupleExact _) (MP (Lu ⟨_,rfl,Lu h⟩) htake)
  |exact Lm (m:=Builtin.Tuple.tupleExact _) (MP (Lm (Lu (Lu ⟨_,rfl,Lu h⟩))) htake)
  |exact Lm (Lm (m:=Builtin.Tuple.tupleExact _) (MP (Lu (Lu ⟨_,rfl,Lu h⟩)) htake))
  |exact Lm (Lm (m:=Builtin.Tuple.tupleExact _) (MP (Lu ⟨_,rfl,Lu h⟩) htake))
end
end HT
namespace L2
open PySem PySem.Spec PyProof.Rows
abbrev TO:=St->Hp->(Option Int->Hp->Prop)->Prop
def PO (X:Cx)(e:Option Expr)(t:TO):Prop :=
 ∀(pins:Of) (s:Shared) (σ:St) (H:Hp) (Q:Option Int->Hp->Prop),Inv X pins σ H s->t σ H Q ->
  wpAny (model X.prog X.w) X.A (evalPart e X.env) (λu s'=>∃o H',Inv X pins σ H' s'/\IsPart u o/\Q o H') X.xe s
def Fc:TO:=λ_ H Q=>Q none H
def IA (t:TE):TO:=λσ H Q=>t σ H λx H1=>∃i,x=.int i/\Q (some i) H1
theorem intsAre_of {ns:List Int}:∀{us:Og},Vals (ns.map V.int) us->IntsAre us ns:=by
 induction ns with
 |nil=>intro us r;rw[MM] at r;cases r;exact .nil
 |cons n ns ih =>
  intro us r;rw[LF] at r;cases r with
  |cons r1 r2 =>
   obtain⟨t,e⟩:=r1;subst e;exact .cons n t (ih r2)
section
variable {X:Cx}{e:Expr}{te:TE}{lo hi:Option Expr}{tl th:TO}{pos p2:Pos}
theorem ft:PO X none Fc:=by
 intro pins s σ H Q I h;rw[evalPart_none];exact Lu ⟨none,H,I,.none,h⟩
theorem cY (h:PE X e te):PO X (some e) (IA te):=by
 intro pins s σ H Q I hw;rw[evalPart_some];refine bB (h pins s σ H _ I hw) λu s1 ⟨x,H1,I1,r1,q1⟩=>?_;obtain⟨i,rfl,q⟩:=q1;obtain⟨t,rfl⟩:=r1;exact⟨some i,H1,I1,.int i t,q⟩
def IL (X:Cx)(r:V->Option Int->Option Int->Hp->VK->Prop):Prop :=
 ∀(pins:Of) (s:Shared) (σ:St) (H:Hp) (x:V) (v vl vu:Value) (lo hi:Option Int) (sl:Addr) (Q:VK),Inv X pins σ H s->RelV x v->s.heap.IsSliceOf sl vl vu .none->IsPart vl lo->IsPart vu hi->r x lo hi H Q ->
  ∃T id,typeLookup (.type T) "__getitem__"=pure (some (.builtin id))/\s.TypeIs v T/\wpAny (model X.prog X.w) X.A (getItem v (.ref sl)) (EP X pins σ Q) X.xe s
def Lg (r:V->Option Int->Option Int->Hp->VK->Prop)(te:TE)(tl th:TO):TE:=λσ H Q=>te σ H λx H1=>tl σ H1 λl H2=>th σ H2 λu H3=>r x l u H3 Q
theorem cK {r:V->Option Int->Option Int->Hp->VK->Prop}(hr:IL X r)(he:PE X e te)(hl:PO X lo tl)(hu:PO X hi th):PE X (.Subscript e (.Slice lo hi none p2) pos) (Lg r te tl th):=by
 intro pins s σ H Q I h;refine Subscript_ (bB (he pins s σ H _ I h) λv s1 ⟨x,H1,I1,r1,q1⟩=>?_);refine wpAny_Slice (bB (hl pins s1 σ H1 _ I1 q1) λvl s2 ⟨l,H2,I2,pl,q2⟩=>bB (hu pins s2 σ H2 _ I2 q2) λvu s3 ⟨u,H3,I3,pu,q3⟩=>?_);rw[evalPart_none];refine Lu ?_;have I4:Inv X pins σ H3 {s3 with heap:=s3.heap.push {cls:=.type "slice",data:=.fields #[vl,vu,.none]}}:=I3.kept (t':=s3.toks) λb ob q=>Lq _ q;obtain⟨T,id,hT,ht,hg⟩:=hr pins {s3 with heap:=s3.heap.push {cls:=.type "slice",data:=.fields #[vl,vu,.none]}} σ H3 x v vl vu l u s3.heap.objs.size Q I4 r1 (Heap.IsSliceOf.new ..) pl pu q3;show wpAny (model X.prog X.w) X.A (subscriptTail e (.Slice lo hi none p2) v (.ref s3.heap.objs.size)) (EP X pins σ Q) X.xe {s3 with heap:=s3.heap.push {cls:=.type "slice",data:=.fields #[vl,vu,.none]}};exact tail_any (ops:=[.ref s3.heap.objs.size,v]) ht hT hg (by with_unfolding_all rfl)
def fw (xs:List V)(lo hi:Option Int):List V:=(xs.drop (HT.b_ xs.length 0 lo)).take (HT.b_ xs.length xs.length hi - HT.b_ xs.length 0 lo)
theorem nU (xs:List V)(lo hi:Option Int):(fw xs lo hi).length<=xs.length:=by
 unfold fw;rw[LM,Mf];omega
def J2 (K:Oc):V->Option Int->Option Int->Hp->VK->Prop:=λx lo hi H Q=>∃a xs,x=.ref a/\bZ K H a xs /\
 ¬(HT.b_ xs.length 0 lo=0/\HT.b_ xs.length xs.length hi=xs.length)/\∀p,H p=none->Q (.ref p) (upd H p (.tup (fw xs lo hi)))
theorem Hw:IL X (J2 X.K):=by
 intro pins s σ H x v vl vu lo hi sl Q I rx hs pl pu h;obtain⟨a,xs,rfl,hx,hw,q⟩:=h;cases rx;obtain⟨its,r,ht,hz⟩:=I.tuple hx;have hlen:its.toArray.size=xs.length:=by rw[LJ];exact r.length.symm
 refine⟨"tuple",_,ME.lookup,ht.typeIs,?_⟩;refine HT.mm ht hs pl pu (by rw[hlen];exact hw) ?_ (by rw[hlen];exact hz);rw[hlen];refine⟨.ref s.heap.objs.size,_,I.laid (t':=s.toks) (o:=.tup (fw xs lo hi)) (λb ob q=>Lq _ q) (Lx _) ?_,rfl,q _ (I.bw.fresh (Lx _))⟩;exact⟨Ma (nU xs lo hi) hz,_,(r.drop (HT.b_ xs.length 0 lo)).take (HT.b_ xs.length xs.length hi - HT.b_ xs.length 0 lo),IsTup.new _ _⟩
def Io (K:Oc):R2:=λx y H Q=>∃a b xs ys,x=.ref a/\y=.ref b/\bZ K H a xs/\bZ K H b ys/\xs≠[]/\xs.length+ys.length<=sizeLine /\
 (ys=[]->Q (.ref a) H)/\(ys≠[]->∀p,H p=none->Q (.ref p) (upd H p (.tup (xs++ys))))
theorem Vals.oA {xs:List V}{us:Og}(r:Vals xs us):us=[]↔xs=[]:=by
 cases r with
 |nil=>simp
 |cons _ _=>simp
theorem E_:jP X (binaryOp .Add) (Io X.K):=by
 intro pins s σ H x y v u Q I rx ry h;obtain⟨a,b,xs,ys,rfl,rfl,ha,hb,hx,hz,q1,q2⟩:=h;cases rx;cases ry;obtain⟨its,r1,p1,_⟩:=I.tuple ha;obtain⟨its2,r2,p2,_⟩:=I.tuple hb;refine HT.DE p1 p2 (λz=>hx (r1.oA.mp z)) (λz=>⟨.ref a,H,I,rfl,q1 (r2.oA.mp z)⟩) (λz=>?_) (by rw[←r1.length,←r2.length];exact hz);refine⟨.ref s.heap.objs.size,_,I.laid (t':=s.toks) (o:=.tup (xs++ys)) (λb ob q=>Lq _ q) (Lx _) ?_,rfl,q2 (λw=>z (r2.oA.mpr w)) _ (I.bw.fresh (Lx _))⟩;exact⟨by rw[LK];exact hz,_,r1.append r2,IsTup.new _ _⟩
end
def Ec (n:Nat)(i:Int):Option Nat:=if 0<=i then (if i < n then some i.toNat else none) else if -(n:Int)<=i then some (i+n).toNat else none
def nN {α:Type}(xs:List α)(i:Int):Option α:=(Ec xs.length i).bind λj=>xs[j]?
theorem yJ {n:Nat}{i:Int}{j:Nat}(h:Ec n i=some j):seqIndex? i n=some j/\j < n/\-(n:Int)<=i/\i < n:=by
 unfold Ec at h;by_cases h0:0<=i
 · rw[Lp h0] at h;by_cases h1:i < n
   · rw[Lp h1] at h;have e:i.toNat=j:=L1 h;exact⟨by rw[seqIndex_of h0 h1,e],by omega,by omega,h1⟩
   · rw[Lo h1] at h;cases h
 · rw[Lo h0] at h;by_cases h1:-(n:Int)<=i
   · rw[Lp h1] at h;have e:(i+n).toNat=j:=L1 h;exact⟨by rw[seqIndex_neg (by omega) h1,e],by omega,h1,by omega⟩
   · rw[Lo h1] at h;cases h
theorem tH {α:Type}{xs:List α}{i:Int}{v:α}(h:nN xs i=some v):∃j,seqIndex? i xs.length=some j/\xs[j]?=some v/\j < xs.length/\-(xs.length:Int)<=i/\i < xs.length:=by
 unfold nN at h;cases e:Ec xs.length i with
 |none=>rw[e] at h;cases h
 |some j =>
  rw[e] at h;obtain⟨h1,h2,h3,h4⟩:=yJ e;exact⟨j,h1,h,h2,h3,h4⟩
theorem cj {α:Type}{xs:List α}{j:Nat}{v:α}(h:xs[j]?=some v):nN xs (j:Int)=some v:=by
 have hj:j < xs.length:=(LB.mp h).1;have e:Ec xs.length (j:Int)=some j:=by
  unfold Ec;rw[Lp (by omega),Lp (by omega)];simp
 unfold nN;rw[e];exact h
def DY (b:Expr):Prop:=∀o i,subscripted b false o i=operate [o,i] (getItem o i)
def JU (X:Cx)(r:R2):Prop :=
 ∀(value slice:Expr) (pins:Of) (s:Shared) (σ:St) (H:Hp) (x y:V) (v u:Value) (Q:VK),Inv X pins σ H s->RelV x v->RelV y u->r x y H Q ->
  subscripted slice false v u=operate [v,u] (getItem v u)->wpAny (model X.prog X.w) X.A (subscriptTail value slice v u) (EP X pins σ Q) X.xe s
def Ba (X:Cx)(id:String)(r:V->List V->Hp->VK->Prop):Prop :=
 ∀(pins:Of) (s:Shared) (σ:St) (H:Hp) (x:V) (xs:List V) (v:Value) (us:Og) (Q:VK),Inv X pins σ H s->RelV x v->Vals xs us->r x xs H Q ->
  wpAny (model X.prog X.w) X.A (call (.builtin id) (v::us)) (EP X pins σ Q) X.xe s
section
variable {X:Cx}{a b:Expr}{ta tb:TE}{pos:Pos}
theorem bq {r:R2} (hr:JU X r) (ha:PE X a ta) (hb:PE X b tb) (hs:DY b):PE X (.Subscript a b pos) (kG r ta tb):=by
 intro pins s σ H Q I h;exact Subscript_ (Hg ha hb I h λv u s2 x y H2 I2 rx ry q=>hr a b pins s2 σ H2 x y v u Q I2 rx ry q (hs _ _))
def Ar (K:Oc):R2:=λx y H Q=>∃p xs i v,x=.ref p/\y=.int i/\aS K H p xs/\nN xs i=some v/\Q v H
def Jy (K:Oc):R2:=λx y H Q=>∃p xs i v,x=.ref p/\y=.int i/\bZ K H p xs/\nN xs i=some v/\Q v H
def Jg:R2:=λx y H Q=>∃z i c,x=.str z/\y=.int i/\z.length<=sizeLine/\nN z.cps.toList i=some c/\Q (.str ⟨#[c]⟩) H
theorem aR:JU X (Ar X.K):=by
 intro value slice pins s σ H x y v u Q I rx ry h hs;obtain⟨p,xs,i,z,rfl,rfl,hq,he,q⟩:=h;cases rx;obtain⟨t,rfl⟩:=ry;obtain⟨its,r,pl,hz⟩:=I.list hq;obtain⟨j,h1,h2,h3,h4,h5⟩:=tH he;obtain⟨w,ew,rw'⟩:=r.get h2;have hl:=r.length;have hn:=ll;have fin:EP X pins σ Q w s:=⟨z,H,I,rw',q⟩;by_cases h0:0<=i
 · have hj:i.toNat=j:=by
    rw[seqIndex_of h0 h5] at h1;exact L1 h1
   exact item_listR pl.isList h0 (by omega) (by rw[hj];simpa using ew) fin hs
 · have hj:(i+(its.toArray.size:Int)).toNat=j:=by
    rw[seqIndex_neg (by omega) h4] at h1;rw[LJ,←hl];exact L1 h1
   exact subscriptTail_builtinR (x:=w) pl.isList.typeIs slot_list_getitem.lookup
    (wpAny_getItem_list_neg (Q:=λr s'=>r=w/\EP X pins σ Q r s') pl.isList (by omega) (by rw[LJ] <;> omega) (by omega) (by rw[hj];simpa using ew) ⟨rfl,fin⟩) hs
theorem AM:JU X (Jy X.K):=by
 intro value slice pins s σ H x y v u Q I rx ry h hs;obtain⟨p,xs,i,z,rfl,rfl,hq,he,q⟩:=h;cases rx;obtain⟨t,rfl⟩:=ry;obtain⟨its,r,pl,hz⟩:=I.tuple hq;obtain⟨j,h1,h2,h3,h4,h5⟩:=tH he;obtain⟨w,ew,rw'⟩:=r.get h2;have hl:=r.length;have hn:=ll;have fin:EP X pins σ Q w s:=⟨z,H,I,rw',q⟩;exact subscriptTail_builtinR (x:=w) pl.typeIs slot_tuple_getitem.lookup
  (getItem_tuple (j:=j) (Q:=λr s'=>r=w/\EP X pins σ Q r s') pl (by omega) (by omega) (by rw[LJ,←hl];exact h1) (by simpa using ew) ⟨rfl,fin⟩) hs
theorem tQ:JU X Jg:=by
 intro value slice pins s σ H x y v u Q I rx ry h hs;obtain⟨z,i,c,rfl,rfl,hz,he,q⟩:=h;obtain⟨t,rfl⟩:=rx;obtain⟨t',rfl⟩:=ry;obtain⟨j,h1,h2,h3,h4,h5⟩:=tH he;have hl:z.cps.toList.length=z.length:=by simp[Str.length]
 rw[hl] at h1 h4 h5;have hn:=ll;exact tail_any (NR s z t) slot_str_getitem.lookup (getItem_str (c:=c) (by
  have e1:decide (i < -(2 ^ 63:Int))=false:=Mb (by omega);have e2:decide (i ≥ 2 ^ 63)=false:=Mb (by omega);rw[e1,e2,ND]) (by rw[h1];simpa using h2) ⟨.str ⟨#[c]⟩,H,I.tok _,⟨_,rfl⟩,q⟩) hs
theorem wC (its:Og)(n j:Nat)(u:Value):Obj.mapSeq (·.setIfInBounds j u) {cls:=.type "list",data:=.seq its.toArray n}={cls:=.type "list",data:=.seq (its.set j u).toArray n}:=by
 simp[Obj.mapSeq]
theorem Inv.lst {pins:Of}{σ:St}{H:Hp}{s:Shared}{p:Addr}{xs:List V}(I:Inv X pins σ H s)(h:H p=some (.lst xs)) :
  ∃(its:Og) (n:Nat),Vals xs its/\s.heap.get? p=some {cls:=.type "list",data:=.seq its.toArray n}/\xs.length<=sizeLine:=by
 obtain⟨z,its,n,r,e⟩:=I.bw p _ h;exact⟨its,n,r,e,z⟩
theorem Inv.G3 {pins:Of}{σ:St}{H:Hp}{s:Shared}{p:Addr}{xs ys:List V}{its its':Og}{n n':Nat}{f:Obj->Obj}(I:Inv X pins σ H s)(h:H p=some (.lst xs))
  (ho:s.heap.get? p=some {cls:=.type "list",data:=.seq its.toArray n})(hf:f {cls:=.type "list",data:=.seq its.toArray n}={cls:=.type "list",data:=.seq its'.toArray n'})(r:Vals ys its')(hz:ys.length<=sizeLine)(t:Nat) :
  Inv X pins σ (upd H p (.lst ys)) {s with heap:=s.heap.update p f,toks:=t}:=by
 have e:(s.heap.update p f).get? p=some {cls:=.type "list",data:=.seq its'.toArray n'}:=by
  rw[Mn f ho (by rw[hf] <;> rfl),hf]
 refine I.write (x:=p) (e:=p) (by rw[h];trivial) (.inl rfl) (λb u hb q=>(Nk _ _ (N4 hb)).trans q) ⟨_,e⟩ ?_;exact⟨hz,its',n',r,e⟩
def Ip:V->V->V->Hp->(Hp->Prop)->Prop:=λo i v H Q=>∃p xs k j,o=.ref p/\i=.int k/\H p=some (.lst xs)/\Ec xs.length k=some j/\Q (upd H p (.lst (xs.set j v)))
theorem set_list:IK X Ip:=by
 intro pins s σ H o i v ov iv u Q I ro ri rv h;obtain⟨p,xs,k,j,rfl,rfl,hp,hj,q⟩:=h;cases ro;obtain⟨t,rfl⟩:=ri;obtain⟨its,n,r,ho,hz⟩:=I.lst hp;obtain⟨h1,h2,h3,h4⟩:=yJ hj;have hl:=r.length;have hn:=ll;have I':Inv X pins σ (upd H p (.lst (xs.set j v))) {s with heap:=s.heap.update p (Obj.mapSeq (·.setIfInBounds j u))} :=
  I.G3 hp ho (wC its n j u) (r.set rv j) (by rw[List.length_set];exact hz) s.toks
 by_cases h0:0<=k
 · have hk:k.toNat=j:=by
    rw[seqIndex_of h0 h4] at h1;exact L1 h1
   exact PySem.W.ki_setAt ho h0 (by omega) (by rw[LJ,←hl];exact h4) (by rw[hk];exact⟨_,I',q⟩)
 · have hk:(k+(its.toArray.size:Int)).toNat=j:=by
    rw[seqIndex_neg (by omega) h3] at h1;rw[LJ,←hl];exact L1 h1
   exact PySem.W.ki_setBack ho (by omega) (by rw[LJ,←hl];exact h3) (by omega) (by rw[hk];exact⟨_,I',q⟩)
theorem tP (lo hi:Option Int)(n:Nat):(sliceBounds lo hi none n).1=((HT.b_ n 0 lo:Nat):Int)/\(sliceBounds lo hi none n).2.1=((HT.b_ n n hi:Nat):Int)/\(sliceBounds lo hi none n).2.2=1:=by
 refine⟨?_,?_,rfl⟩
 · cases lo with
   |none=>simp[sliceBounds,HT.b_]
   |some i =>
    simp only[sliceBounds,HT.b_,Option.getD_none,show (1:Int) > 0 by decide,M7];by_cases h:i < 0
    · simp only[h,M7] <;> omega
    · simp only[h,Nm] <;> omega
 · cases hi with
   |none=>simp[sliceBounds,HT.b_]
   |some i =>
    simp only[sliceBounds,HT.b_,Option.getD_none,show (1:Int) > 0 by decide,M7];by_cases h:i < 0
    · simp only[h,M7] <;> omega
    · simp only[h,Nm] <;> omega
theorem qN (its:Og)(lo hi:Option Int):slicePick its.toArray lo hi none=((its.drop (HT.b_ its.length 0 lo)).take (HT.b_ its.length its.length hi - HT.b_ its.length 0 lo)).toArray:=by
 obtain⟨h1,h2,h3⟩:=tP lo hi its.toArray.size;unfold slicePick;rw[h1,h2,h3];simp only[sliceRange_one,pick_run,LJ] <;> rfl
def KG (K:Oc):V->Option Int->Option Int->Hp->VK->Prop:=λx lo hi H Q=>∃a xs,x=.ref a/\aS K H a xs/\∀p,H p=none->Q (.ref p) (upd H p (.lst (fw xs lo hi)))
theorem fq:IL X (KG X.K):=by
 intro pins s σ H x v vl vu lo hi sl Q I rx hs pl pu h;obtain⟨a,xs,rfl,hx,q⟩:=h;cases rx;obtain⟨its,r,ht,hz⟩:=I.list hx;have hlen:=r.length;refine⟨"list",_,slot_list_getitem.lookup,ht.isList.typeIs,?_⟩;refine wpAny_getItem_list_slice ht.isList hs pl pu .none (by simp) ?_ (by rw[LJ] <;> omega);rw[qN,←hlen];refine⟨.ref s.heap.objs.size,_,I.laid (t':=s.toks) (o:=.lst (fw xs lo hi)) (λb ob q=>Lq _ q) (Lx _) ?_,rfl,q _ (I.bw.fresh (Lx _))⟩;exact⟨Ma (nU xs lo hi) hz,_,0,(r.drop (HT.b_ xs.length 0 lo)).take (HT.b_ xs.length xs.length hi - HT.b_ xs.length 0 lo),LD _ rfl⟩
def dO:V->Bool
 |.b8=>true
 |.bl _=>true
 |.int _=>true
 |.str _=>true
 |_=>false
def rW:V->V->Bool
 |.b8,.b8=>true
 |.bl a,.bl b=>a==b
 |.bl a,.int b=>(if a then 1 else 0)==b
 |.int a,.bl b=>a==(if b then 1 else 0)
 |.int a,.int b=>a==b
 |.str a,.str b=>a==b
 |_,_=>false
theorem GH {A:Around}{s:Shared}{y x:V}{u v:Value}(ry:RelV y u)(rx:RelV x v)(fy:dO y=true)(fx:dO x=true):SeqAt.EqAt A s u v (rW y x):=by
 cases y with
 |b8 =>
  cases ry;cases x with
  |b8=>cases rx;exact SeqAt.EqAt.same _
  |bl b=>cases rx;exact SeqAt.EqAt.none_bool b
  |int b=>obtain⟨t,rfl⟩:=rx;exact SeqAt.EqAt.none_int b t
  |str b=>obtain⟨t,rfl⟩:=rx;exact SeqAt.EqAt.none_str b t
  |_=>exact absurd (show false=true from fx) LN
 |bl a =>
  cases ry;cases x with
  |b8=>cases rx;exact SeqAt.EqAt.bool_none a
  |bl b=>cases rx;exact SeqAt.EqAt.bool_bool a b
  |int b=>obtain⟨t,rfl⟩:=rx;exact SeqAt.EqAt.bool_int a b t
  |str b=>obtain⟨t,rfl⟩:=rx;exact SeqAt.EqAt.bool_str a b t
  |_=>exact absurd (show false=true from fx) LN
 |int a =>
  obtain⟨t',rfl⟩:=ry;cases x with
  |b8=>cases rx;exact SeqAt.EqAt.int_none a t'
  |bl b=>cases rx;exact SeqAt.EqAt.int_bool a t' b
  |int b=>obtain⟨t,rfl⟩:=rx;exact SeqAt.EqAt.int_int a t' b t
  |str b=>obtain⟨t,rfl⟩:=rx;exact SeqAt.EqAt.int_str a t' b t
  |_=>exact absurd (show false=true from fx) LN
 |str a =>
  obtain⟨t',rfl⟩:=ry;cases x with
  |b8=>cases rx;exact SeqAt.EqAt.str_none a t'
  |bl b=>cases rx;exact SeqAt.EqAt.str_bool a t' b
  |int b=>obtain⟨t,rfl⟩:=rx;exact SeqAt.EqAt.str_int a t' b t
  |str b=>obtain⟨t,rfl⟩:=rx;exact SeqAt.EqAt.str_str a t' b t
  |_=>exact absurd (show false=true from fx) LN
 |_=>exact absurd (show false=true from fy) LN
def vW (x:V)(u:Value):Bool:=match u with
 |.none=>rW .b8 x
 |.bool b=>rW (.bl b) x
 |.int i _=>rW (.int i) x
 |.str z _=>rW (.str z) x
 |_=>false
theorem lD {x y:V}{u:Value}(r:RelV y u)(f:dO y=true):vW x u=rW y x:=by
 cases y with
 |b8=>cases r;rfl
 |bl b=>cases r;rfl
 |int i=>obtain⟨t,rfl⟩:=r;rfl
 |str z=>obtain⟨t,rfl⟩:=r;rfl
 |_=>exact absurd (show false=true from f) LN
theorem lM {x:V}:∀{xs:List V} {us:Og},Vals xs us->xs.all dO=true->us.any (vW x)=xs.any λy=>rW y x
 |_,_,.nil,_=>rfl
 |y::xs,u::us,.cons r t,f=>by
  rw[NC,Lv] at f;rw[MV,MV,lD r f.1,lM t f.2]
theorem gm {A:Around}{s:Shared}{x:V}{v:Value}(rx:RelV x v)(fx:dO x=true):∀{xs:List V} {us:Og},Vals xs us->xs.all dO=true->∀u∈us,SeqAt.EqAt A s u v (vW x u)
 |_,_,.nil,_=>λu hu=>by cases hu
 |y::xs,u::us,.cons r t,f=>λu' hu=>by
  rw[NC,Lv] at f;rcases Lr.mp hu with rfl|hu
  · rw[lD r f.1];exact GH r rx f.1 fx
  · exact gm rx fx t f.2 u' hu
def oa (x:V)(xs:List V):Bool:=xs.any λy=>rW y x
def Gx (K:Oc)(neg:Bool):R2:=λx y H Q=>∃p xs,y=.ref p/\(aS K H p xs∨bZ K H p xs)/\dO x=true/\xs.all dO=true/\Q (.bl (if neg then !oa x xs else oa x xs)) H
theorem gc:jP X (compareOp .In) (Gx X.K false):=by
 intro pins s σ H x y v u Q I rx ry h;obtain⟨p,xs,rfl,hq,fx,fs,q⟩:=h;cases ry;rcases hq with hq|hq
 · obtain⟨its,r,pl,hz⟩:=I.list hq;refine SeqAt.in_listAt (vW x) pl.isList (λw hw=>gm rx fx r fs w (by simpa using hw)) ⟨.bl _,H,I,rfl,?_⟩;rw[show its.toArray.any (vW x)=its.any (vW x) by simp,lM r fs];exact q
 · obtain⟨its,r,pl,hz⟩:=I.tuple hq;refine SeqAt.in_tupleAt (vW x) pl (λw hw=>gm rx fx r fs w (by simpa using hw)) ⟨.bl _,H,I,rfl,?_⟩;rw[show its.toArray.any (vW x)=its.any (vW x) by simp,lM r fs];exact q
theorem ej:jP X (compareOp .NotIn) (Gx X.K true):=by
 intro pins s σ H x y v u Q I rx ry h;obtain⟨p,xs,rfl,hq,fx,fs,q⟩:=h;cases ry;rcases hq with hq|hq
 · obtain⟨its,r,pl,hz⟩:=I.list hq;refine SeqAt.notIn_listAt (vW x) pl.isList (λw hw=>gm rx fx r fs w (by simpa using hw)) ⟨.bl _,H,I,rfl,?_⟩;rw[show its.toArray.any (vW x)=its.any (vW x) by simp,lM r fs];exact q
 · obtain⟨its,r,pl,hz⟩:=I.tuple hq;refine SeqAt.notIn_tupleAt (vW x) pl (λw hw=>gm rx fx r fs w (by simpa using hw)) ⟨.bl _,H,I,rfl,?_⟩;rw[show its.toArray.any (vW x)=its.any (vW x) by simp,lM r fs];exact q
theorem az:iA X (.builtin "len") (λxs H Q=>∃p ys,xs=[.ref p]/\(aS X.K H p ys∨bZ X.K H p ys)/\Q (.int ys.length) H):=by
 intro pins s σ H xs us Q I r h;obtain⟨p,ys,rfl,hq,q⟩:=h;obtain⟨u,rfl,rx⟩:=vals1 r;cases rx;have hn:=ll;rcases hq with hq|hq
 · obtain⟨its,r',pl,hz⟩:=I.list hq;have hlen:=r'.length;exact Calls.call_len_list pl.isList (by simp only[LJ] <;> omega) ⟨.int ys.length,H,I.tok _,⟨s.toks+1,by rw[LJ,hlen]⟩,q⟩
 · obtain⟨its,r',pl,hz⟩:=I.tuple hq;have hlen:=r'.length;exact len_tuple pl (by simp only[LJ] <;> omega) ⟨.int ys.length,H,I.tok _,⟨s.toks+1,by rw[LJ,hlen]⟩,q⟩
theorem fS:iA X (.builtin "len") (λxs H Q=>∃z,xs=[.str z]/\z.length<=sizeLine/\Q (.int z.length) H):=by
 intro pins s σ H xs us Q I r h;obtain⟨z,rfl,hz,q⟩:=h;obtain⟨u,rfl,t,rfl⟩:=vals1 r;have hn:=ll;exact len_str (by omega) ⟨.int z.length,H,I.tok _,⟨_,rfl⟩,q⟩
theorem qM:iA X (.type "tuple") (λxs H Q=>∃p ys,xs=[.ref p]/\((aS X.K H p ys/\∀l,H l=none->Q (.ref l) (upd H l (.tup ys)))∨(bZ X.K H p ys/\Q (.ref p) H))):=by
 intro pins s σ H xs us Q I r h;obtain⟨p,ys,rfl,h⟩:=h;obtain⟨u,rfl,rx⟩:=vals1 r;cases rx;rcases h with ⟨hq,q⟩|⟨hq,q⟩
 · obtain⟨its,r',pl,hz⟩:=I.list hq;have hlen:=r'.length;refine call_tuple_list pl.isList (λh' kp=>?_) (by simp only[LJ] <;> omega);have I1:Inv X pins σ H {s with heap:=h'}:=I.kept (t':=s.toks) kp;have I2:Inv X pins σ (upd H h'.objs.size (.tup ys)) {s with heap:=h'.push {cls:=.type "tuple",data:=.seq its.toArray}} :=
    I1.laid (t':=s.toks) (λb o e=>Lq _ e) (Lx _) (show bN X.prog X.w _ _ _ (.tup ys) from ⟨hz,its,r',IsTup.new _ _⟩)
   exact⟨.ref h'.objs.size,_,I2,rfl,q _ (I1.bw.fresh (Lx _))⟩
 · obtain⟨its,r',pl,hz⟩:=I.tuple hq;exact call_tuple_same pl ⟨.ref p,H,I,rfl,q⟩
def KZ (K:Oc)(T:String)(x:V)(H:Hp):Prop:=match x with
 |.str _=>T="str"
 |.int _=>T="int"
 |.ref p=>(T="list"/\∃xs,aS K H p xs)∨(T="tuple"/\∃o,K.lookup p=some o/\o.cls=.type "tuple"/\o.dict=none) ∨
   (T="dict"/\((∃kvs,H p=some (.dK kvs))∨∃kvs,H p=some (.dT kvs)))∨(T="set"/\∃S n,H p=some (.set S n))
 |_=>False
theorem GJ {pins:Of}{σ:St}{H:Hp}{s:Shared}{T:String}{x:V}{v:Value}(I:Inv X pins σ H s)(r:RelV x v)(ty:KZ X.K T x H) :
  s.TypeIs v T/\∀a,v=.ref a->∃ob,s.heap.get? a=some ob/\ob.dict=none:=by
 cases x with
 |str z =>
  obtain⟨t,rfl⟩:=r;cases (show T="str" from ty);exact⟨NR s z t,λ_ e=>nomatch e⟩
 |int i =>
  obtain⟨t,rfl⟩:=r;cases (show T="int" from ty);exact⟨typeIs_int s i t,λ_ e=>nomatch e⟩
 |ref p =>
  cases r;rcases ty with ⟨rfl,xs,hq⟩|⟨rfl,o,hk,hc,hd⟩|⟨rfl,hk⟩|⟨rfl,S,n,hk⟩
  · obtain⟨its,_,pl,_⟩:=I.list hq;refine⟨pl.isList.typeIs,λa e=>?_⟩;cases e;obtain⟨o,n,e,c,hd,_⟩:=pl;exact⟨o,e,hd⟩
  · refine⟨⟨o,I.mQ p o hk,hc⟩,λa e=>?_⟩;cases e;exact⟨o,I.mQ _ o hk,hd⟩
  · have z:∃o,s.heap.get? p=some o/\o.ExactDict:=by
     rcases hk with ⟨kvs,hk⟩|⟨kvs,hk⟩
     · obtain⟨_,_,_,_,o,_,_,e,ex,_⟩:=I.bw p _ hk;exact⟨o,e,ex⟩
     · obtain⟨_,_,_,_,o,_,_,e,ex,_⟩:=I.bw p _ hk;exact⟨o,e,ex⟩
    obtain⟨o,e,ex⟩:=z;refine⟨⟨o,e,ex.1⟩,λa e2=>?_⟩;cases e2;exact⟨o,e,ex.2.1⟩
  · obtain⟨o,_,_,_,e,ex,_⟩:=I.bw p _ hk;refine⟨⟨o,e,ex.1⟩,λa e2=>?_⟩;cases e2;exact⟨o,e,ex.2.1⟩
 |_=>exact False.elim ty
def K_ (K:Oc)(T:String)(r:V->List V->Hp->VK->Prop)(to:TE)(t:TA):TE:=λσ H Q=>to σ H λx H1=>KZ K T x H1/\t σ H1 λxs H2=>r x xs H2 Q
variable {o e:Expr}{es:List Expr}{to:TE}{t:TA}{name:Str}{apos cpos:Pos}{T id:String}{r:V->List V->Hp->VK->Prop}
theorem lJ (pa:PlainAttrs T) (slot:Slot T name id) (hty:typeOf (.builtin id)=pure (.type "method_descriptor")) (hm:Ba X id r) (ho:PE X o to) (ha:PA X (e::es) t)
  (hbase:attributeBase o name X.env (eval o X.env)=eval o X.env:=by rfl)
  (hfew:((backTo cpos (starEach (e::es) X.env)).all (λx=>!x.1)&&(backToKw cpos (keywordEach [] X.env)).all (λx=>x.1.isSome)
   && decide ((e::es).length+([]:List Keyword).length+(if ([]:List Keyword).isEmpty then 0 else 1) < 30))=true:=by rfl)
  (hline:(apos.endLine==cpos.line)=true:=by rfl) (hs:starEach (e::es) X.env=(false,eval e X.env)::starEach es X.env:=by rfl) (hplain:(backTo cpos (starEach es X.env)).any (·.1)=false:=by rfl) :
  PE X (.Call (.Attribute o name apos) (e::es) [] cpos) (K_ X.K T r to t):=by
 intro pins s σ H Q I h;refine wpAny_Call_method_late hbase hfew hline rfl (bB (ho pins s σ H _ I h) λv s1 ⟨x,H1,I1,r1,ty,q1⟩=>?_);obtain⟨h1,h2⟩:=GJ I1 r1 ty;refine⟨T,id,pa,slot,hty,h1,h2,?_⟩;have hA:=ha cpos pins s1 σ H1 _ I1 q1;rw[hs] at hA ⊢;refine NP (by show (false||(backTo cpos (starEach es X.env)).any (·.1))=false;rw[hplain] <;> rfl) (Calls.evalArgs_plain ?_);exact bB hA λus s2 ⟨vs,H2,I2,r2,q2⟩=>hm pins s2 σ H2 x vs v us Q I2 r1 r2 q2
end
def Ke (X:Cx)(id:String)(r:V->List V->Hp->VK->Prop):Prop :=
 ∀(pins:Of) (s:Shared) (σ:St) (H:Hp) (x:V) (xs:List V) (v:Value) (us:Og) (Q:VK),Inv X pins σ H s->RelV x v->Vals xs us->r x xs H Q ->
  wpAny (model X.prog X.w) X.A (call (.builtin id) (v::us)) (EP X pins σ Q) X.xe s
theorem Vals.one:∀{x:V} {us:Og},Vals [x] us->∃u,us=[u]/\RelV x u
 |_,_,.cons r .nil=>⟨_,rfl,r⟩
section
variable {X:Cx}{pins:Of}{σ:St}{H:Hp}{s:Shared}{l b:Addr}{xs ys zs:List V}
theorem Inv.I_ {its its':Og} {n:Nat} {f:Array Value->Array Value} {t':Nat} (I:Inv X pins σ H s) (hH:H l=some (.lst xs))
  (e:s.heap.get? l=some {cls:=.type "list",data:=.seq its.toArray n}) (hf:f its.toArray=its'.toArray) (hv:Vals ys its') (hz:ys.length<=sizeLine) :
  Inv X pins σ (upd H l (.lst ys)) {s with heap:=s.heap.update l (Obj.mapSeq f),toks:=t'}:=by
 have q:=PySem.IsL.update e f;rw[hf] at q;refine I.write (x:=l) (e:=l) (by rw[hH];exact trivial) (.inl rfl) (λb' u hb hu=>(Nk s.heap (Obj.mapSeq f) (N4 hb)).trans hu) ⟨_,q⟩ ?_;exact⟨hz,its',_,hv,q⟩
theorem Inv.Kg {its:Og}{t':Nat}(I:Inv X pins σ H s)(hv:Vals ys its)(hz:ys.length<=sizeLine) :
  Inv X pins σ (upd H s.heap.objs.size (.lst ys)) {s with heap:=s.heap.push {cls:=.type "list",data:=.seq its.toArray},toks:=t'} :=
 I.laid (λ_ _ q=>Lq _ q) (Lx _) ⟨hz,its,0,hv,LD _ rfl⟩
theorem Inv.fresh (I:Inv X pins σ H s):H s.heap.objs.size=none:=I.bw.fresh (Lx _)
theorem Inv.AY (I:Inv X pins σ H s)(hH:H l=some (.lst xs)):xs.length<=sizeLine/\∃(its:Og) (n:Nat),Vals xs its/\xs.length=its.length/\s.heap.get? l=some {cls:=.type "list",data:=.seq its.toArray n}:=by
 obtain⟨z,its,n,r,e⟩:=I.bw l _ hH;exact⟨z,its,n,r,r.length,e⟩
theorem B7 {n:Nat}(h:n<=sizeLine):Builtin.List.listTooLong n=false:=by
 unfold Builtin.List.listTooLong;exact Mb (by omega)
end
section
variable {X:Cx}
def EH:V->List V->Hp->VK->Prop:=λx vs H Q=>∃l xs y,x=.ref l/\vs=[y]/\H l=some (.lst xs)/\xs.length < sizeLine/\Q .b8 (upd H l (.lst (xs++[y])))
theorem gd:Ke X "list.append" EH:=by
 intro pins s σ H x vs v us Q I rx rv h;obtain⟨l,xs,y,rfl,rfl,hH,hz,q⟩:=h;cases rx;obtain⟨u,rfl,ru⟩:=rv.one;obtain⟨z,its,n,r,hl,e⟩:=I.AY hH;refine call_meets F.slot_list_append ⟨_,e,rfl⟩ F.entry_list_append (F.args_list_append_2 _ _) (PySem.list_append l its.toArray n u (by rw[LJ];omega)) ⟨e,?_⟩;refine⟨.b8,_,I.I_ (its':=its++[u]) hH e (by simp) (r.append (.cons ru .nil)) ?_,rfl,q⟩;rw[LK,MB];omega
def Et:V->List V->Hp->VK->Prop:=λx vs H Q=>∃l b xs zs,x=.ref l/\vs=[.ref b]/\H l=some (.lst xs)/\H b=some (.lst zs)/\xs.length+zs.length<=sizeLine/\Q .b8 (upd H l (.lst (xs++zs)))
theorem zH:Ke X "list.extend" Et:=by
 intro pins s σ H x vs v us Q I rx rv h;obtain⟨l,b,xs,zs,rfl,rfl,hH,hB,hz,q⟩:=h;cases rx;obtain⟨u,rfl,ru⟩:=rv.one;cases ru;obtain⟨z,its,n,r,hl,e⟩:=I.AY hH;obtain⟨z2,its2,n2,r2,hl2,e2⟩:=I.AY hB;have hsz:its.toArray.size+its2.toArray.size<=sizeLine:=by rw[LJ,LJ];omega
 have hlong:¬(!its.toArray.isEmpty&&Builtin.List.listTooLong (its.toArray.size+its2.toArray.size))=true:=by
  rw[B7 hsz,Bool.and_false];exact LN
 refine call_meets F.slot_list_extend ⟨_,e,rfl⟩ F.entry_list_extend (F.args_list_extend_2 _ _)
  (AutoSeq1.list_extend_list_list_0 l its.toArray n b its2.toArray n2 hlong (by rw[LJ];omega) (by omega)) ⟨e,e2,?_⟩
 refine⟨.b8,_,I.I_ (its':=its++its2) hH e (by simp) (r.append r2) ?_,rfl,q⟩;rw[LK];omega
def Kw:R2:=λx y H Q=>∃l b xs zs,x=.ref l/\y=.ref b/\H l=some (.lst xs)/\H b=some (.lst zs)/\xs.length+zs.length<=sizeLine/\∀p,H p=none->Q (.ref p) (upd H p (.lst (xs++zs)))
theorem xx:jP X (binaryOp .Add) Kw:=by
 intro pins s σ H x y v u Q I rx ry h;obtain⟨l,b,xs,zs,rfl,rfl,hH,hB,hz,q⟩:=h;cases rx;cases ry;obtain⟨z,its,n,r,hl,e⟩:=I.AY hH;obtain⟨z2,its2,n2,r2,hl2,e2⟩:=I.AY hB;refine PySem.P.add_list e e2 ?_ (by rw[LJ,LJ];omega);have ea:its.toArray++its2.toArray=(its++its2).toArray:=by simp
 rw[ea];exact⟨.ref _,_,I.Kg (t':=s.toks) (r.append r2) (by rw[LK];omega),rfl,q _ I.fresh⟩
end
section
variable {prog:Program}{w:World}{A:Around}{E:Od}{s:Shared}
end
section
variable {X:Cx}
end
theorem Vals.ints:∀{ns:List Int} {us:Og},Vals (ns.map V.int) us->IntsAre us ns
 |[],us,h=>by
  rw[MM] at h;cases h;exact IntsAre.nil
 |n::ns,us,h=>by
  rw[LF] at h;cases h with
  |cons r t =>
   obtain⟨k,rfl⟩:=r;exact IntsAre.cons n k (Vals.ints t)
theorem mD:∀{us:Og} {ns:List Int},IntsAre us ns->Vals (ns.map V.int) us
 |_,_,.nil=>by rw[MM];exact Paired.nil
 |_,_,.cons n t h=>by rw[LF];exact Paired.cons (show RelV (V.int n) (Value.int n t) from ⟨t,rfl⟩) (mD h)
theorem Vals.Kd:∀{bs:List Bool} {us:Og},Vals (bs.map V.bl) us->us=bs.map Value.bool
 |[],us,h=>by
  rw[MM] at h;cases h;rfl
 |b::bs,us,h=>by
  rw[LF] at h;cases h with
  |cons r t =>
   cases r;rw[Vals.Kd t,LF]
theorem Vals.xm {a:Addr}{us:Og}(r:Vals [V.ref a] us):us=[Value.ref a]:=by
 cases r with
 |cons r t =>
  cases t;cases r;rfl
section
variable {prog:Program}{w:World}{A:Around}{E:Od}{s:Shared}{l:Addr}{its:Og}{ns:List Int}{Q:Od}
theorem C6 (hh:A.handled=none) (hl:s.heap.IsList l its.toArray) (hi:IntsAre its ns)
  (h:∀h' tk t',(∀b o,s.heap.get? b=some o->h'.get? b=some o)->Q (.int ns.sum t') {s with heap:=h',toks:=tk}):wpAny (model prog w) A (call (.builtin "sum") [.ref l]) Q E s:=by
 obtain⟨xs,e⟩:=hi.allInts.items;have hn:numsOf (intItems xs).toList=ns:=by rw[←e];exact hi.numsOf
 rw[nums_intItems] at hn;rw[e] at hl;refine PySem.sum_intListG hh hl λh' tk t' hk=>?_;have:=h h' tk t' hk;rw[preSum_eq,Mj (by simp),hn];exact this
end
section
variable {X:Cx}
def Js (K:Oc):List V->Hp->VK->Prop:=λvs H Q=>∃(a:Addr) (ns:List Int),vs=[V.ref a]/\aS K H a (ns.map V.int)/\Q (.int ns.sum) H
theorem xR (hc:X.calm=true):iA X (.builtin "sum") (Js X.K):=by
 intro pins s σ H vs us Q I r h;obtain⟨a,ns,rfl,hs,q⟩:=h;obtain⟨its,rv,hl,_⟩:=I.list hs;rw[Vals.xm r];exact C6 (I.ok.hd hc) hl.isList rv.ints λh' tk t' hk=>⟨.int _,H,I.kept hk,⟨_,rfl⟩,q⟩
theorem y9 {n:Nat}(h:n < 64):n<=sizeLine:=by rw[LQ];omega
end
section
variable {X:Cx}
def HE (K:Oc):V->List V->Hp->VK->Prop:=λx xs H Q=>∃(a:Addr) (ys:List V) (y:V) (j:Nat) (z:V),x=V.ref a/\xs=[y]/\aS K H a ys/\dO y=true/\ys.all dO=true/\ys[j]?=some z/\rW z y=true /\
 (∀(m:Nat) (z':V),m < j->ys[m]?=some z'->rW z' y=false)/\Q (.int (j:Nat)) H
theorem zf {ys:List V}(f:ys.all dO=true){j:Nat}{z:V}(h:ys[j]?=some z):dO z=true:=LU.mp f z (LR h)
theorem Cg:Ba X "list.index" (HE X.K):=by
 intro pins s σ H x xs v us Q I rx rxs h;obtain⟨a,ys,y,j,z,rfl,rfl,hs,fy,fys,hz,hzj,hno,q⟩:=h;cases rx;cases rxs with
 |cons ry rt =>
  rename_i uy ut;cases rt;obtain⟨its,rv,⟨⟨cls,dd,data,sl⟩,n,ho,hc,hdn,hd⟩,hlen⟩:=I.list hs;simp only at hc hd;subst hc hd;obtain⟨u,hu,ru⟩:=rv.get hz;obtain⟨hjl,hje⟩:=LB.mp hu;have hvl:=rv.length;have hj:j < its.toArray.size:=by simpa using hjl
  have hsl:=LQ;refine call_meets PySem.F.slot_list_index ⟨_,ho,rfl⟩ PySem.F.entry_list_index (PySem.F.args_list_index_2 _ _)
   (SeqAt.list_indexAt a its.toArray n dd sl uy (vW y) j hj (by omega) ?_ ?_) ⟨ho,λu' hu'=>gm ry fy rv fys u' (by simpa using hu'),?_⟩
  · have e1:its.toArray[j]=u:=by simpa using hje
    rw[e1,lD ru (zf fys hz)];exact hzj
  · intro m hm hmj;have hml:m < its.length:=by simpa using hm
    have hmy:m < ys.length:=by omega
    have hy':ys[m]?=some ys[m]:=Ly hmy;obtain⟨u2,hu2,ru2⟩:=rv.get hy';obtain⟨_,hme⟩:=LB.mp hu2;have e1:its.toArray[m]=u2:=by simpa using hme
    rw[e1,lD ru2 (zf fys hy')];exact hno m _ hmj hy'
  · exact⟨.int (j:Nat),H,I.tok _,⟨_,rfl⟩,q⟩
end
section
variable {X:Cx}
end
theorem vO {prog:Program}{w:World}{A:Around}{E:Od}{s:Shared}{l:Addr}{items:Array Value}{Q:Od}(hl:s.heap.IsList l items)
  (h:∀s₂:Shared,s₂={s with heap:=s.heap.push {cls:=.type "list_iterator",data:=.fields #[.ref l,.int 0 0]}} ->
   (s₂.heap.IsListIter s.heap.objs.size l 0/\s₂.heap.IsList l items)->l≠s.heap.objs.size->Q (.ref s.heap.objs.size) s₂):wpAny (model prog w) A (pyIter (.ref l)) Q E s:=by
 have hlt:l < s.heap.objs.size:=by obtain⟨_,e,_⟩:=hl;exact LA e
 exact wpAny_pyIter_list hl (h _ rfl ⟨⟨_,LD _ rfl,rfl,rfl⟩,hl.push _⟩ (L0 hlt))
theorem nP {prog:Program}{w:World}{A:Around}{bs:List Bool}{its:Og}(e:its=bs.map Value.bool) :
  TruthOf prog w A (λi v=>its.toArray[i]?=some v) (λi=>bs.getD i false):=λi v s Q E hv hq=>by
 have hv':its[i]?=some v:=by simpa using hv
 rw[e,Ls] at hv';obtain⟨b,hb,rfl⟩:=LZ.mp hv';have hg:bs.getD i false=b:=by rw[L7,hb] <;> rfl
 have hq':Q (bs.getD i false) s:=hq;rw[hg] at hq';exact MC hq'
theorem any_range:∀bs:List Bool,(List.range bs.length).any (λi=>bs.getD i false)=bs.any id
 |[]=>rfl
 |b::bs=>by
  rw[Lz,List.range_succ_eq_map,MV,NN,MV,←any_range bs]
  all_goals rfl
theorem all_range:∀bs:List Bool,(List.range bs.length).all (λi=>bs.getD i false)=bs.all id
 |[]=>rfl
 |b::bs=>by
  rw[Lz,List.range_succ_eq_map,NC,Ny,NC,←all_range bs]
  all_goals rfl
section
variable {X:Cx}
def JZ (K:Oc):List V->Hp->VK->Prop:=λvs H Q=>∃(a:Addr) (bs:List Bool),vs=[V.ref a]/\aS K H a (bs.map V.bl)/\Q (.bl (bs.any id)) H
def J8 (K:Oc):List V->Hp->VK->Prop:=λvs H Q=>∃(a:Addr) (bs:List Bool),vs=[V.ref a]/\aS K H a (bs.map V.bl)/\Q (.bl (bs.all id)) H
theorem CU (hc:X.calm=true):iA X (.builtin "any") (JZ X.K):=by
 intro pins s σ H vs us Q I r h;obtain⟨a,bs,rfl,hs,q⟩:=h;obtain⟨its,rv,hl,_⟩:=I.list hs;rw[Vals.xm r];have hb:=rv.Kd;refine call_any_walk (vO hl.isList λs₂ e2 st hne=>?_);subst e2;refine⟨_,_,_,_,_,_,_,rfl,Walks.list (A:=X.A.in1) (I.ok.hd hc) _ a hne its.toArray,st,nP hb,λh' tk hk=>?_⟩;refine⟨.bl _,H,I.kept λb o eo=>hk b o (λhmem=>?_) (Lq _ eo),?_,q⟩
 · rcases Lr.mp hmem with e1|hmem
   · exact absurd (e1 ▸ LA eo) (MI _)
   · cases hmem
 · show Value.bool _=Value.bool _;rw[←any_range,hb,LJ,Ln]
theorem w_ (hc:X.calm=true):iA X (.builtin "all") (J8 X.K):=by
 intro pins s σ H vs us Q I r h;obtain⟨a,bs,rfl,hs,q⟩:=h;obtain⟨its,rv,hl,_⟩:=I.list hs;rw[Vals.xm r];have hb:=rv.Kd;refine call_all_walk (vO hl.isList λs₂ e2 st hne=>?_);subst e2;refine⟨_,_,_,_,_,_,_,rfl,Walks.list (A:=X.A.in1) (I.ok.hd hc) _ a hne its.toArray,st,nP hb,λh' tk hk=>?_⟩;refine⟨.bl _,H,I.kept λb o eo=>hk b o (λhmem=>?_) (Lq _ eo),?_,q⟩
 · rcases Lr.mp hmem with e1|hmem
   · exact absurd (e1 ▸ LA eo) (MI _)
   · cases hmem
 · show Value.bool _=Value.bool _;rw[←all_range,hb,LJ,Ln]
end
mutual
inductive Dp (K:Oc)(H:Hp):V->PyData->Prop
 |b8:Dp K H .b8 .none
 |bl (b:Bool):Dp K H (.bl b) (.bool b)
 |int (i:Int):Dp K H (.int i) (.int i)
 |str (x:Str):Dp K H (.str x) (.str x)
 |lst {a:Addr} {xs:List V} {ds:List PyData}:aS K H a xs->rO K H xs ds->Dp K H (.ref a) (.list ds)
 |tup {a:Addr} {xs:List V} {ds:List PyData}:bZ K H a xs->rO K H xs ds->Dp K H (.ref a) (.tuple ds)
inductive rO (K:Oc)(H:Hp):List V->List PyData->Prop
 |nil:rO K H [] []
 |cons {v:V} {vs:List V} {d:PyData} {ds:List PyData}:Dp K H v d->rO K H vs ds->rO K H (v::vs) (d::ds)
end
section
variable {X:Cx}{pins:Of}{σ:St}{H:Hp}{s:Shared}
mutual
theorem Dp.reads (I:Inv X pins σ H s):∀(d:PyData) (v:V) (u:Value),Dp X.K H v d->RelV v u->∃as,Reads s.heap u d as
 |.none,_,_,h,r=>by
  cases h;cases r;exact⟨_,Reads.none⟩
 |.bool b,_,_,h,r=>by
  cases h;cases r;exact⟨_,Reads.bool b⟩
 |.int i,_,_,h,r=>by
  cases h;obtain⟨t,rfl⟩:=r;exact⟨_,Reads.int i t⟩
 |.str x,_,_,h,r=>by
  cases h;obtain⟨t,rfl⟩:=r;exact⟨_,Reads.str x t⟩
 |.list ds,_,_,h,r=>by
  cases h with
  |lst hs ha =>
   cases r;obtain⟨its,rv,⟨o,n,ho,hc,_,hd⟩,_⟩:=I.list hs;obtain⟨as,hr⟩:=Dp.readsAll I ds _ its ha rv;exact⟨_,Reads.list ho hc hd hr⟩
 |.tuple ds,_,_,h,r=>by
  cases h with
  |tup hs ha =>
   cases r;obtain⟨its,rv,⟨o,ho,hc,n,hd⟩,_⟩:=I.tuple hs;obtain⟨as,hr⟩:=Dp.readsAll I ds _ its ha rv;exact⟨_,Reads.tuple ho hc hd hr⟩
 |.dict _,_,_,h,_=>by cases h
theorem Dp.readsAll (I:Inv X pins σ H s):∀(ds:List PyData) (vs:List V) (us:Og),rO X.K H vs ds->Vals vs us->∃as,ReadsAll s.heap us ds as
 |[],_,_,h,r=>by
  cases h;cases r;exact⟨_,ReadsAll.nil⟩
 |d::ds,_,_,h,r=>by
  cases h with
  |cons h1 h2 =>
   cases r with
   |cons r1 r2 =>
    obtain⟨as,q1⟩:=Dp.reads I d _ _ h1 r1;obtain⟨bs,q2⟩:=Dp.readsAll I ds _ _ h2 r2;exact⟨_,ReadsAll.cons q1 q2⟩
end
end
section
variable {X:Cx}
def KC (K:Oc):R2:=λx y H Q=>∃d e,Dp K H x d/\Dp K H y e/\SeqAt.shaped d=true/\SeqAt.shaped e=true/\Q (.bl (PyData.eqv d e)) H
theorem Hr (hu:X.A.units+64 < cLine):jP X (compareOp .Eq) (KC X.K):=by
 intro pins s σ H x y v u Q I rx ry h;obtain⟨d,e,hd,he,sd,se,q⟩:=h;obtain⟨as,r1⟩:=Dp.reads I d x v hd rx;obtain⟨bs,r2⟩:=Dp.reads I e y u he ry;exact SeqAt.compareEq_shaped r1 r2 sd se hu ⟨.bl _,H,I,rfl,q⟩
end
end L2
namespace L2
open PySem PySem.Spec PyProof.Rows
abbrev A2 (h:Heap)(c:Addr)(v:Option Value):Prop:=h.IsCell c v
def Kr (scope sc:Scope):Scope :=
 {scope with names:=scope.names.map λ(n,k)=>if (k==.free&&sc.kind==.function&&sc.names.lookup n==some .cell) then (n,.cell) else (n,k)}
def bO (cells:List (Str×Addr)):List (Str×NameKind)->List (Str×Addr)->List (Str×Addr)
 |[],acc=>acc
 |(n,k)::r,acc=>if k==.free then bO cells r ((n,(cells.lookup n).getD 0)::acc) else bO cells r acc
theorem lP (env:Env)(f:Str×NameKind->List (Str×Addr)->Sem (ForInStep (List (Str×Addr))))
  (hf:∀n k c,f (n,k) c=if k==.free then (do let a ←cellOf env n;pure (.yield ((n,a)::c))) else pure (.yield c)) :
  ∀(names:List (Str×NameKind)) (acc:List (Str×Addr)),(∀y∈names,y.2=.free->∃c,env.cells.lookup y.1=some c)->forIn names acc f=pure (bO env.cells names acc)
 |[],acc,_=>by rw[List.forIn_nil];rfl
 |(n,k)::r,acc,h=>by
  rw[List.forIn_cons,hf];have ih:=λacc=>lP env f hf r acc λy hy=>h y (LG _ hy);unfold bO;by_cases hk:(k==NameKind.free)=true
  · rw[Lp hk,Lp hk];obtain⟨c,hc⟩:=h (n,k) L_ (by simpa using hk);have e:cellOf env n=pure c:=by unfold cellOf;rw[hc]
    rw[e];have e2:(env.cells.lookup n).getD 0=c:=by rw[hc];rfl
    rw[e2];exact ih _
  · rw[Lo hk,Lo hk];exact ih _
theorem w9 {scope:Scope}{env:Env}(h:∀y∈scope.names,y.2=.free->∃c,env.cells.lookup y.1=some c):closureFor scope env=pure (bO env.cells scope.names []):=by
 simp only[closureFor];rw[lP env _ (λn k c=>rfl) scope.names [] h];rfl
theorem mem_lookup {α:Type}:∀{l:List (Str×α)} {n:Str} {c:α},(n,c)∈l->∃c',l.lookup n=some c'
 |(k,v)::r,n,c,h=>by
  rw[Nc];cases hb:n==k with
  |true=>exact⟨_,rfl⟩
  |false =>
   rcases Lr.mp h with e|h
   · cases e;simp at hb
   · exact mem_lookup h
theorem gK {cells:List (Str×Addr)}:∀{names:List (Str×NameKind)} {acc:List (Str×Addr)} {n:Str} {c:Addr},(n,c)∈bO cells names acc->(n,c)∈acc∨((n,.free)∈names/\c=(cells.lookup n).getD 0)
 |[],_,_,_,h=>.inl h
 |(m,k)::r,acc,n,c,h=>by
  unfold bO at h;split at h
  · rename_i hk;have hk:k=.free:=by simpa using hk
    rcases gK h with h|⟨h1,h2⟩
    · rcases Lr.mp h with e|h
      · cases e;exact .inr ⟨hk ▸ L_,rfl⟩
      · exact .inl h
    · exact .inr ⟨LG _ h1,h2⟩
  · rcases gK h with h|⟨h1,h2⟩
    · exact .inl h
    · exact .inr ⟨LG _ h1,h2⟩
theorem jL {cells:List (Str×Addr)}:∀{names:List (Str×NameKind)} {acc:List (Str×Addr)} {p:Str×Addr},p∈acc->p∈bO cells names acc
 |[],_,_,h=>h
 |(m,k)::r,acc,p,h=>by
  unfold bO;split
  · exact jL (LG _ h)
  · exact jL h
theorem jD {cells:List (Str×Addr)}:∀{names:List (Str×NameKind)} {acc:List (Str×Addr)} {n:Str},(n,.free)∈names->(n,(cells.lookup n).getD 0)∈bO cells names acc
 |(m,k)::r,acc,n,h=>by
  unfold bO;rcases Lr.mp h with e|h
  · cases e;exact jL L_
  · split
    · exact jD h
    · exact jD h
theorem ig:∀{names:List (Str×NameKind)} {h:Heap} {acc:List (Str×Addr)} {x:Str} {c:Addr},(x,c)∈cellsFrom h.objs.size names acc ->
  (x,c)∈acc∨((x,.cell)∈names/\h.objs.size<=c/\A2 (pushCells h names) c none)
 |[],_,_,_,_,h=>.inl h
 |(n,k)::r,h,acc,x,c,hm=>by
  unfold cellsFrom at hm;unfold pushCells;split at hm
  · rename_i hk;rw[Lp hk];have hk:k=.cell:=by simpa using hk
    rw[←Mw h {cls:=.type "cell",data:=.cell none}] at hm;rcases ig hm with hm|⟨h1,h2,h3⟩
    · rcases Lr.mp hm with e|hm
      · cases e;exact .inr ⟨hk ▸ L_,Lx _,_,pushCells_keeps r _ _ _ (LD _ rfl),rfl⟩
      · exact .inl hm
    · rw[Mw] at h2;exact .inr ⟨LG _ h1,Nat.le_of_succ_le h2,h3⟩
  · rename_i hk;rw[Lo hk];rcases ig hm with hm|⟨h1,h2,h3⟩
    · exact .inl hm
    · exact .inr ⟨LG _ h1,h2,h3⟩
theorem j5:∀{names:List (Str×NameKind)} {n:Nat} {acc:List (Str×Addr)} {p:Str×Addr},p∈acc->p∈cellsFrom n names acc
 |[],_,_,_,h=>h
 |(m,k)::r,n,acc,p,h=>by
  unfold cellsFrom;split
  · exact j5 (LG _ h)
  · exact j5 h
theorem mR:∀{names:List (Str×NameKind)} {n:Nat} {acc:List (Str×Addr)} {x:Str},(x,.cell)∈names->∃c,(x,c)∈cellsFrom n names acc
 |(m,k)::r,n,acc,x,h=>by
  unfold cellsFrom;rcases Lr.mp h with e|h
  · cases e;exact⟨n,j5 L_⟩
  · split
    · exact mR h
    · exact mR h
theorem mS:∀{names:List (Str×NameKind)} {h:Heap} {acc:List (Str×Addr)} {x y:Str} {c:Addr},(∀p∈acc,p.2 < h.objs.size)->(∀x y c,(x,c)∈acc->(y,c)∈acc->x=y) ->
  (x,c)∈cellsFrom h.objs.size names acc->(y,c)∈cellsFrom h.objs.size names acc->x=y
 |[],_,_,_,_,_,_,hi,h1,h2=>hi _ _ _ h1 h2
 |(n,k)::r,h,acc,x,y,c,hl,hi,h1,h2=>by
  unfold cellsFrom at h1 h2;split at h1
  · rename_i hk;rw[Lp hk] at h2;rw[←Mw h {cls:=.type "cell",data:=.cell none}] at h1 h2;refine mS (h:=h.push _) (λp hp=>?_) (λx y c a b=>?_) h1 h2
    · rw[Mw];rcases Lr.mp hp with rfl|hp
      · exact NS _
      · exact Nat.lt_succ_of_lt (hl p hp)
    · rcases Lr.mp a with e|a <;> rcases Lr.mp b with e'|b
      · cases e;cases e';rfl
      · cases e;exact absurd (hl _ b) (MI _)
      · cases e';exact absurd (hl _ a) (MI _)
      · exact hi _ _ _ a b
  · rename_i hk;rw[Lo hk] at h2;exact mS hl hi h1 h2
theorem vj {M:Model}{A:Around}{E:Od}{s:Shared}{scope:Scope}{globals:Addr}{closure:List (Str×Addr)}{qual:Str}{func:Option Addr}{code:Value}{around:Env}{builtins:Addr}{Q:Env->Shared->Prop}
  (h:Q (newEnv scope s.heap.objs.size globals (cellsFrom (s.heap.objs.size+1) scope.names closure) qual func code (some around) builtins)
   {s with heap:=pushCells (s.heap.push {cls:=.type "dict",data:=.dict #[]}) scope.names}) :
  wpAny M A (newFunctionEnv scope globals closure [] qual func code (some around) builtins) Q E s:=by
 simp only[newFunctionEnv,Option.isSome_some,M7];refine Lm (wpAny_alloc ?_);refine Lm (wpAny_layCells _ (λn k c=>rfl) scope.names closure _ _ ?_);rw[show ({s with heap:=s.heap.push {cls:=.type "dict",data:=.dict #[]}}:Shared).heap.objs.size=s.heap.objs.size+1 from Mw ..];rw[List.forIn_nil];exact Lm (Lu (Lu h))
theorem jB {sc:Scope}:∀{names:List (Str×NameKind)} {x:Str} {k:NameKind},
  (names.map λ(n,k)=>if (k==NameKind.free&&sc.kind==.function&&sc.names.lookup n==some .cell) then (n,NameKind.cell) else (n,k)).lookup x=some k ->
  ∃k',names.lookup x=some k'/\(k=k'∨(k'=.free/\k=.cell))
 |[],_,_,h=>by simp at h
 |(n,k₀)::r,x,k,h=>by
  have ih:=@jB sc r x k;have h':List.lookup x ((if (k₀==NameKind.free&&sc.kind==.function&&sc.names.lookup n==some .cell)=true then (n,NameKind.cell) else (n,k₀))::(r.map _))=some k:=h;cases hx:x==n with
  |true =>
   simp only[Nc,hx];by_cases hc:(k₀==NameKind.free&&sc.kind==.function&&sc.names.lookup n==some .cell)=true
   · rw[Lp hc] at h';simp only[Nc,hx] at h';cases h';simp only[Lv,Md] at hc;exact⟨k₀,rfl,.inr ⟨hc.1.1,rfl⟩⟩
   · rw[Lo hc] at h';simp only[Nc,hx] at h';cases h';exact⟨_,rfl,.inl rfl⟩
  |false =>
   simp only[Nc,hx];by_cases hc:(k₀==NameKind.free&&sc.kind==.function&&sc.names.lookup n==some .cell)=true
   · rw[Lp hc] at h';simp only[Nc,hx] at h';exact ih h'
   · rw[Lo hc] at h';simp only[Nc,hx] at h';exact ih h'
structure u9 (N:List Str)(sc scope:Scope)(own:List (Str×Nat)):Prop where
 kind:scope.kind=.function
 uniq:∀y∈scope.names,scope.names.lookup y.1=some y.2
 ix:∀p∈own,N[p.2]?=some p.1
 free:∀y∈scope.names,y.2=.free->sc.names.lookup y.1=some .cell∨sc.names.lookup y.1=some .free
 own:∀y∈scope.names,y.2=.local∨y.2=.cell->y.1∈own.map (·.1)∨y.1∉N
def wipe (σ:St):Ob->St
 |[]=>σ
 |v::vs=>(wipe σ vs).set v none
theorem jx (σ:St):∀vs:Ob,(wipe σ vs).length=σ.length
 |[]=>rfl
 |v::vs=>by unfold wipe;rw[List.length_set,jx σ vs]
theorem mW {σ:St}{i:Nat}{x:V}:∀{vs:Ob},(wipe σ vs)[i]?=some (some x)->σ[i]?=some (some x)/\i∉vs
 |[],h=>⟨h,by simp⟩
 |v::vs,h=>by
  unfold wipe at h;by_cases hi:v=i
  · subst hi;by_cases hv:v < (wipe σ vs).length
    · rw[NK hv] at h;cases h
    · rw[Mr (by simpa using hv)] at h;cases h
  · rw[List.getElem?_set_ne hi] at h;obtain⟨h1,h2⟩:=mW h;exact⟨h1,by simp only[Lr,not_or];exact⟨λe=>hi e.symm,h2⟩⟩
abbrev Cx.qH (X:Cx)(s:Shared)(H:Hp)(scope:Scope)(cenv:Env)(fp:List Addr):Cx:={X with kJ:=s,HY:=H,env:=cenv,outer:=X.stack,ex:=fp,fn:=λx=>scope.names.lookup x==some .cell,pn:=[],xe:=λ_ _=>False}
section
variable {X:Cx}{pins:Of}{σ:St}{H:Hp}{s:Shared}
theorem vp {scope:Scope} {own:List (Str×Nat)} {fp:List Addr} (I:Inv X pins σ H s) (ok:u9 X.N X.env.scope scope own) (hN:X.N.Nodup) (hfp:∀b∈fp,mZ X pins H b/\b < s.heap.objs.size) :
  Inv (X.qH s H scope (compEnvC scope (cellsFrom (s.heap.objs.size+1) scope.names (bO X.env.cells scope.names [])) s.heap.objs.size X.env) fp) [] (wipe σ (own.map (·.2))) H {s with heap:=pushCells (s.heap.push {cls:=.type "dict",data:=.dict #[]}) scope.names}:=by
 have hfree:∀y∈scope.names,y.2=.free->∃c,X.env.cells.lookup y.1=some c:=λy hy e=>by
  rcases ok.free y hy e with k|k
  · exact I.ok.has _ (.inl k)
  · exact I.ok.has _ (.inr k)
 generalize hcenv:compEnvC scope (cellsFrom (s.heap.objs.size+1) scope.names (bO X.env.cells scope.names [])) s.heap.objs.size X.env=cenv;have kp:∀b o,s.heap.get? b=some o->(pushCells (s.heap.push {cls:=.type "dict",data:=.dict #[]}) scope.names).get? b=some o:=λb o e=>pushCells_keeps _ _ _ _ (Lq _ e);have hL:cenv.locals=s.heap.objs.size:=by rw[←hcenv];rfl
 have hcl:cenv.cells=cellsFrom (s.heap.objs.size+1) scope.names (bO X.env.cells scope.names []):=by rw[←hcenv];rfl
 have hsc:cenv.scope=Kr scope X.env.scope:=by rw[←hcenv];rfl
 rw[←Mw s.heap {cls:=.type "dict",data:=.dict #[]}] at hcl;have cm:∀{y c},(y,c)∈bO X.env.cells scope.names []->X.env.cells.lookup y=some c/\c < s.heap.objs.size:=λ{y c} hm=>by
  rcases gK hm with hm|⟨h1,rfl⟩
  · cases hm
  · obtain⟨c,hc⟩:=hfree _ h1 rfl;rw[hc];obtain⟨w,z⟩:=I.cell _ _ hc;exact⟨rfl,z.lt⟩
 have mem:∀{y c},cenv.cells.lookup y=some c->(X.env.cells.lookup y=some c/\c < s.heap.objs.size)∨(s.heap.objs.size+1<=c/\A2 (pushCells (s.heap.push {cls:=.type "dict",data:=.dict #[]}) scope.names) c none):=λ{y c} e=>by
  rw[hcl] at e;rcases ig (PySem.mem_of_lookup e) with hm|⟨_,h2,h3⟩
  · exact .inl (cm hm)
  · rw[Mw] at h2;exact .inr ⟨h2,h3⟩
 have look:∀{y},scope.names.lookup y=some .free->∃c,cenv.cells.lookup y=some c/\X.env.cells.lookup y=some c:=λ{y} hl=>by
  have hy:(y,NameKind.free)∈scope.names:=PySem.mem_of_lookup hl;obtain⟨c',e'⟩:=mem_lookup (j5 (names:=scope.names) (n:=(s.heap.push {cls:=.type "dict",data:=.dict #[]}).objs.size) (jD (cells:=X.env.cells) (acc:=[]) hy));rw[←hcl] at e';refine⟨c',e',?_⟩;rw[hcl] at e';rcases ig (PySem.mem_of_lookup e') with hm|⟨h1,_,_⟩
  · exact (cm hm).1
  · have:=ok.uniq _ h1;rw[hl] at this;cases this
 have okB:(X.qH s H scope cenv fp).Ok:=by
  refine⟨I.ok.mod,by show cenv.scope.kind=_;rw[hsc];exact ok.kind,by show cenv.globals=_;rw[←hcenv];exact I.ok.glob,by show cenv.builtins=_;rw[←hcenv];exact I.ok.blt,by show s.heap.objs.size<=cenv.locals;rw[hL];exact Lx _,
   λy z c e1 e2=>?_,λy hy=>?_,λy c z e=>?_,I.ok.hd,I.ok.frames,.inl rfl,λb hb=>⟨?_,λy c e z=>?_⟩,I.bs,Ma I.ok.C2 I.sz,λb o e hb=>?_,λb hb z=>?_,I.stack,I.sM⟩
  · have e1:cenv.cells.lookup y=some c:=e1;have e2:cenv.cells.lookup z=some c:=e2;rw[hcl] at e1 e2;refine mS (λp hp=>?_) (λy z c a b=>I.ok.inj y z c (cm a).1 (cm b).1) (PySem.mem_of_lookup e1) (PySem.mem_of_lookup e2);rw[Mw];exact Nat.lt_succ_of_lt (cm (y:=p.1) (c:=p.2) hp).2
  · show ∃c,cenv.cells.lookup y=some c;have key:∀k,cenv.kindOf y=some k->(k=.cell∨k=.free)->∃c,cenv.cells.lookup y=some c:=λk hk hk'=>by
     unfold Env.kindOf at hk;rw[hsc] at hk;obtain⟨k',e,r⟩:=jB hk;have:k'=.cell∨k'=.free:=by
      rcases r with rfl|⟨rfl,_⟩
      · exact hk'
      · exact .inr rfl
     rcases this with rfl|rfl
     · obtain⟨c,hm⟩:=mR (n:=(s.heap.push {cls:=.type "dict",data:=.dict #[]}).objs.size) (acc:=bO X.env.cells scope.names []) (PySem.mem_of_lookup e);obtain⟨c',e'⟩:=mem_lookup hm;exact⟨c',by rw[hcl];exact e'⟩
     · obtain⟨c,h1,_⟩:=look e;exact⟨c,h1⟩
    rcases hy with hy|hy
    · exact key _ hy (.inl rfl)
    · exact key _ hy (.inr rfl)
  · have z:(scope.names.lookup y==some NameKind.cell)=true:=z;have z:scope.names.lookup y=some .cell:=by simpa using z
    have e:cenv.cells.lookup y=some c:=e;rw[hcl] at e;rcases ig (PySem.mem_of_lookup e) with hm|⟨_,h2,_⟩
    · rcases gK hm with hm|⟨h1,_⟩
      · cases hm
      · have q:=ok.uniq _ h1;rw[z] at q;cases q
    · rw[Mw] at h2;exact Nat.le_of_succ_le h2
  · show b≠cenv.locals;rw[hL];exact L0 (hfp b hb).2
  · have e:cenv.cells.lookup y=some c:=e;rcases mem e with ⟨h1,_⟩|⟨h1,_⟩
    · exact (hfp b hb).1.2.2.2.2.1 y c h1 z
    · have h2:s.heap.objs.size+1<=b:=by rw[←z];exact h1
      exact absurd (L5 (hfp b hb).2 (Nat.le_of_succ_le h2)) (MI _)
  · rcases (hfp b hb).1.2.2.2.1 with z|z
    · exact I.ok.Ak b o e z
    · exact absurd (L5 (LA e) (Ma I.ok.C2 z)) (MI _)
  · rcases Lr.mp (I.xM b z) with z|z
    · exact (hfp b hb).1.2.1 z
    · exact (hfp b hb).1.2.2.1 z
 refine⟨okB,rfl,I.bare,Un.kept kp,⟨λ_=>none,?_,λi y av e1 e2 e3=>?_⟩,λy c e=>?_,?_,λy c e=>?_,λp hp=>?_,I.bw.kept kp,by rw[jx];exact I.len⟩
 · show Heap.Ns _ cenv.locals _;rw[hL];exact Heap.Ns.keeps (Heap.Ns.new ..) λb o e=>pushCells_keeps _ _ _ _ e
 · obtain⟨e2,hne⟩:=mW e2;have hfr:scope.names.lookup y=some .free/\(cenv.kindOf y=some .cell∨cenv.kindOf y=some .free):=by
    have key:∀k,cenv.scope.names.lookup y=some k->k=.local∨k=.cell∨k=.free->scope.names.lookup y=some .free/\(cenv.kindOf y=some .cell∨cenv.kindOf y=some .free):=λk hk hk'=>by
     have hk0:=hk;rw[hsc] at hk;obtain⟨k',e,r⟩:=jB hk;have no:¬(k'=.local∨k'=.cell):=λhh=>by
      rcases ok.own _ (PySem.mem_of_lookup e) hh with e'|e'
      · obtain⟨p,hp,hpy⟩:=LX.mp e';have e3:=ok.ix p hp;have:p.1=y:=hpy;rw[this] at e3;exact hne (LX.mpr ⟨p,hp,ql hN e3 e1⟩)
      · exact e' (LR e1)
     rcases r with rfl|⟨rfl,rfl⟩
     · rcases hk' with rfl|rfl|rfl
       · exact absurd (.inl rfl) no
       · exact absurd (.inr rfl) no
       · exact⟨e,.inr hk0⟩
     · exact⟨e,.inl hk0⟩
    have e3:Ib cenv.scope y:=e3;rcases e3 with e3|e3|e3
    · exact key _ e3 (.inl rfl)
    · exact key _ e3 (.inr (.inl rfl))
    · exact key _ e3 (.inr (.inr rfl))
   obtain⟨m,hn,hl⟩:=I.loc;have hvis:Ib X.env.scope y:=(ok.free _ (PySem.mem_of_lookup hfr.1) rfl).elim (λk=>.inr (.inl k)) (λk=>.inr (.inr k));obtain⟨w,r,q⟩:=hl i y av e1 e2 hvis;refine⟨w,r,.inr ⟨hfr.2,?_⟩⟩;obtain⟨c,h1,h2⟩:=look hfr.1;rcases q with ⟨k,_⟩|⟨_,c',e',z⟩
   · have k:X.env.scope.names.lookup y=some .local:=k;rcases ok.free _ (PySem.mem_of_lookup hfr.1) rfl with k'|k' <;> rw[show X.env.scope.names.lookup y=_ from k'] at k <;> cases k
   · rw[h2] at e';cases e';exact⟨c,h1,z.keeps kp⟩
 · have e:cenv.cells.lookup y=some c:=e;rcases mem e with ⟨h1,_⟩|⟨_,z⟩
   · obtain⟨w,z⟩:=I.cell y c h1;exact⟨w,z.keeps kp⟩
   · exact⟨_,z⟩
 · show H cenv.locals=none;rw[hL];exact I.bw.fresh (Lx _)
 · have e:cenv.cells.lookup y=some c:=e;rcases mem e with ⟨h1,_⟩|⟨h1,_⟩
   · exact I.gE y c h1
   · exact I.bw.fresh (Nat.le_of_succ_le h1)
 · exact absurd (show p∈([]:Of)++[] from hp) (by simp)
theorem Gs {E:Od}{D:Addr}{xs:List V}{y:V}{v:Value}{Q:Od}(I:Inv X pins σ H s)(hD:H D=some (.lst xs))(hz:xs.length < sizeLine)(r:RelV y v)
  (h:∀s',Inv X pins σ (upd H D (.lst (xs++[y]))) s'->Q .none s'):wpAny (model X.prog X.w) X.A (call (.builtin "list.append") [.ref D,v]) Q E s:=by
 obtain⟨hz',its,n,ri,e⟩:=I.bw D _ hD;have hl:=ri.length;refine append_at (hsz:=by rw[LJ];omega) e λh' sb ho'=>?_;refine h {s with heap:=h'} (I.write (t':=s.toks) (by rw[hD];trivial) (.inl rfl) (λb u hb q=>(sb.2 b hb).trans q) ⟨_,ho'⟩ ⟨by rw[LK];exact hz,its++[v],n+1,ri.append (.cons r .nil),?_⟩);rw[ho'];simp
def JK (X:Cx)(ifs:List Expr)(t:TT):Prop :=
 ∀(pins:Of) (s:Shared) (σ:St) (H:Hp) (Q:Bool->Hp->Prop),Inv X pins σ H s->t σ H Q ->
  wpAny (model X.prog X.w) X.A (forIn ifs true λc r=>if r=true then do let ok ←isTrue c X.env (eval c X.env);pure (ForInStep.yield ok) else pure (ForInStep.yield r)) (TP X pins σ Q) X.xe s
def A8:TT:=λ_ H Q=>Q true H
theorem cn:JK X [] A8:=λ_ _ _ H _ I h=>wpAny_tests_nil ⟨H,I,h⟩
theorem oq {c:Expr}{t:TT}(h:PT X c t):JK X [c] t:=λpins s σ H Q I hw=>wpAny_tests_one (h pins s σ H Q I hw)
end
theorem zD {α:Type}{t:Sem α}{Q Q':α->Shared->Prop}{M:Model}{A:Around}{E:Od}{s:Shared}(h:wpAny M A t Q (λ_ _=>False) s)(hQ:∀a s,Q a s->Q' a s):wpAny M A t Q' E s:=MF h hQ λ_ _ z=>False.elim z
theorem sG {prog:Program}{w:World}{A:Around}{R:Result->Shared->Prop}{s:Shared}{elt target iter:Expr}{ifs:List Expr}{scope:Scope}{pos:Pos}{it acc:Value}{env:Env}(I:Nat->Shared->Prop)
  (turn:∀n s,I n s->wpAny (model prog w) A (pyNext it) (λr s₁=>match r with
   |none=>R (.ok .next) s₁
   |some v=>wpAny (model prog w) A (letOwnedTupleGo target it v) (λ_ s₁'=>wpAny (model prog w) A (assign target env v) (λ_ s₂ =>
     wpAny (model prog w) A (forIn ifs true λc r=>if r=true then do let ok ←isTrue c env (eval c env);pure (ForInStep.yield ok) else pure (ForInStep.yield r)) (λok s₃ =>
      if ok=true then wpAny (model prog w) A (eval elt env) (λx s₄ =>
       wpAny (model prog w) A (call (.builtin "list.append") [acc,x]) (λ_ s₅=>∃m,m < n/\I m s₅) (notedBy (model prog w) A env λe s'=>R (.error e) s') s₄) (notedBy (model prog w) A env λe s'=>R (.error e) s') s₃
      else ∃m,m < n/\I m s₃) (notedBy (model prog w) A env λe s'=>R (.error e) s') s₂) (notedBy (model prog w) A env λe s'=>R (.error e) s') s₁') (notedBy (model prog w) A env λe s'=>R (.error e) s') s₁) (notedBy (model prog w) A env λe s'=>R (.error e) s') s)
  (n:Nat) (h:I n s) :
  codeAny (model prog w) A (.compLoop (.ListComp elt [⟨target,iter,ifs,0⟩] scope pos) 0 it acc env) R s:=by
 refine codeAny_loop rfl I (λn s hI=>?_) n h;show wpAny _ A ((compTurn (.ListComp elt [⟨target,iter,ifs,0⟩] scope pos) 0 it acc env).onRaise (λx=>do noteFrame x env;theTreesLotGoes x)) _ _ s;refine wpAny_noted ?_;rw[compTurn_list];refine Lm (wpAny_standAt (Lm (MF (turn n s hI) (λr s₁ h₁=>?_) λ_ _ h'=>h')));cases r with
 |none=>exact Lu h₁
 |some v =>
  refine Lm (MF h₁ (λ_ s₁' h₁'=>?_) λ_ _ h'=>h');refine Lm (MF h₁' (λ_ s₂ h₂=>Lm (MF h₂ (λok s₃ h₃=>?_) λ_ _ h'=>h')) λ_ _ h'=>h');cases ok with
  |false=>exact Lu ⟨rfl,h₃⟩
  |true =>
   exact Lm (Lm (MF h₃ (λx s₄ h₄=>Lm (MF h₄ (λ_ s₅ h₅=>Lu (Lu ⟨rfl,h₅⟩)) λ_ _ h'=>h')) λ_ _ h'=>h'))
section
variable {X:Cx}
def Hd (wi:TI) (g:TG) (tt:TT) (te:TE) (vs:Ob):TE:=λσ H Q=>wi σ H λJ H1=>∀D,H1 D=none->∃W:Nat->Nat->Hp->Prop,(∃m,W 0 m (upd H1 D (.lst [])))/\∀i m H,W i m H ->
 (J.stop i H/\Q (.ref D) H)∨(J.go i H/\∃Nx:Hp->Prop,(∀H',Nx H'->∃m',m' < m/\W (i+1) m' H')/\∀x H',J.vU i H x H'->g x (wipe σ vs) H' λσ2 H2=>wipe σ2 vs=wipe σ vs/\tt σ2 H2 λb H3 =>
  if b=true then te σ2 H3 λy H4=>∃acc,H4 D=some (.lst acc)/\acc.length < sizeLine/\Nx (upd H4 D (.lst (acc++[y]))) else Nx H3)
theorem yH {pins:Of}{s:Shared}{σ:St}{H:Hp}{Q:VK}{elt tg iter:Expr}{ifs:List Expr}{scope:Scope}{own:List (Str×Nat)}{pos pos':Pos}{wi:TI}{g:TG}{tt:TT}{te:TE}{use:Option (Value->Sem Unit)}{Qf:Od}
  (hc:X.calm=true)(hN:X.N.Nodup)(I:Inv X pins σ H s)(hi:PI X tg iter wi)(ok:u9 X.N X.env.scope scope own)
  (hg:∀(s:Shared) (H:Hp) (C:Addr) (cl:List (Str×Addr)) (fp:List Addr),PG (X.qH s H scope (compEnvC scope cl C X.env) fp) tg g)(ht:∀(s:Shared) (H:Hp) (C:Addr) (cl:List (Str×Addr)) (fp:List Addr),JK (X.qH s H scope (compEnvC scope cl C X.env) fp) ifs tt)
  (he:∀(s:Shared) (H:Hp) (C:Addr) (cl:List (Str×Addr)) (fp:List Addr),PE (X.qH s H scope (compEnvC scope cl C X.env) fp) elt te)(hs:∀x,foldedSetIterable iter X.env x=pure x)
  (h:Hd wi g tt te (own.map (·.2)) σ H Q)
  (hRR:∀D C s' m H',Inv X pins σ H' s'->Q (.ref D) H'->s'.heap.Ns C m->mZ X pins H' C->compPost (model X.prog X.w) X.A X.xe use Qf (.ref D) C (.ok .next) s') :
  wpAny (model X.prog X.w) X.A (comprehension (.ListComp elt [⟨tg,iter,ifs,0⟩] scope pos) scope X.env pos' (newList []) false (eval iter X.env) use) Qf X.xe s:=by
 have hfree:∀y∈scope.names,y.2=.free->∃c,X.env.cells.lookup y.1=some c:=λy hy e=>by
  rcases ok.free y hy e with k|k
  · exact I.ok.has _ (.inl k)
  · exact I.ok.has _ (.inr k)
 refine wpAny_comprehension_free (use:=use) rfl hs (w9 hfree) ok.kind (λy hy e=>by rw[ok.uniq y hy,e])
  (bB (hi pins s σ H _ I h) λxv s1 hx=>bB hx λitv s2 h2=>?_)
 obtain⟨it,fp,tn,J,H2,e,I2,T,st2,f2,q⟩:=h2;subst e;refine MP (vj ?_) (by show 0<=sizeLine;decide);generalize hD:s2.heap.objs.size=D;have hDn:H2 D=none:=I2.bw.fresh (N5 hD);obtain⟨W,⟨m0,w0⟩,turn⟩:=q D hDn;generalize hs3:({s2 with heap:=s2.heap.push {cls:=.type "list",data:=.seq ([]:Og).toArray}}:Shared)=s3;have I3:Inv X pins σ (upd H2 D (.lst [])) s3:=by
  rw[←hs3];refine I2.laid (t':=s2.toks) (λb o e=>Lq _ e) (N5 hD) ⟨LV _,[],0,.nil,?_⟩;rw[←hD];exact LD _ rfl
 have h3:s3.heap=s2.heap.push {cls:=.type "list",data:=.seq ([]:Og).toArray}:=by rw[←hs3]
 have sz:∀b∈fp,b < s2.heap.objs.size:=λb hb=>by
  obtain⟨o,e,_⟩:=T.obj _ _ st2 b hb;exact LA e
 have f3:∀b∈fp,mZ X pins (upd H2 D (.lst [])) b/\b < s3.heap.objs.size:=λb hb=>by
  have hlt:=sz b hb;refine⟨⟨?_,(f2 b hb).2⟩,by rw[h3,Mw];exact Nat.lt_succ_of_lt hlt⟩;rw[aq (by rw[←hD];exact L0 hlt)];exact (f2 b hb).1
 have st3:tn 0 s3.heap:=T.keep _ _ _ st2 λb _ o e=>by rw[h3];exact Lq _ e
 have I4:=vp I3 ok hN f3;have pg:=hg s3 (upd H2 D (.lst [])) s3.heap.objs.size (cellsFrom (s3.heap.objs.size+1) scope.names (bO X.env.cells scope.names [])) fp;have pt:=ht s3 (upd H2 D (.lst [])) s3.heap.objs.size (cellsFrom (s3.heap.objs.size+1) scope.names (bO X.env.cells scope.names [])) fp;have pe:=he s3 (upd H2 D (.lst [])) s3.heap.objs.size (cellsFrom (s3.heap.objs.size+1) scope.names (bO X.env.cells scope.names [])) fp;show codeAny _ _ (.compStart (.ListComp elt [⟨tg,iter,ifs,0⟩] scope pos) 0 (.ref it) (.ref D) (compEnvC scope (cellsFrom (s3.heap.objs.size+1) scope.names (bO X.env.cells scope.names [])) s3.heap.objs.size X.env)) (compPost (model X.prog X.w) X.A X.xe use Qf (.ref D) s3.heap.objs.size) {s3 with heap:=pushCells (s3.heap.push {cls:=.type "dict",data:=.dict #[]}) scope.names};have nfp:∀b∈fp,(upd H2 D (.lst [])) b=none:=λb hb=>(f3 b hb).1.1;generalize hce:compEnvC scope (cellsFrom (s3.heap.objs.size+1) scope.names (bO X.env.cells scope.names [])) s3.heap.objs.size X.env=ce at I4 pg pt pe ⊢;have cL:ce.locals=s3.heap.objs.size:=by subst hce;rfl
 generalize hH3:upd H2 D (.lst [])=H3 at I3 I4 pg pt pe w0 nfp f3;generalize hs4:({s3 with heap:=pushCells (s3.heap.push {cls:=.type "dict",data:=.dict #[]}) scope.names}:Shared)=s4 at I4 ⊢;have st4:tn 0 s4.heap:=T.keep _ _ _ st3 λb _ o e=>by rw[←hs4];exact pushCells_keeps _ _ _ _ (Lq _ e)
 have stat:∀{σ':St} {H':Hp} {s':Shared},Inv (X.qH s3 H3 scope ce fp) [] σ' H' s'->(∀b∈fp,H' b=none)->∀b∈fp,mZ (X.qH s3 H3 scope ce fp) [] H' b:=λ{σ' H' s'} I' hn b hb =>
  ⟨hn b hb,(I'.ok.Jw b hb).1,I'.ok.zC b hb,.inl hb,λx c e=>(I'.ok.Jw b hb).2 x c e,λp hp=>absurd (show p∈([]:Of)++[] from hp) (by simp)⟩
 have loop:codeAny (model X.prog X.w) X.A (.compLoop (.ListComp elt [⟨tg,iter,ifs,0⟩] scope pos) 0 (.ref it) (.ref D) ce) (compPost (model X.prog X.w) X.A X.xe use Qf (.ref D) s3.heap.objs.size) s4:=by
  refine sG (λn s'=>∃i H',Inv (X.qH s3 H3 scope ce fp) [] (wipe σ (own.map (·.2))) H' s'/\tn i s'.heap/\(∀b∈fp,H' b=none)/\W i n H') ?_ m0 ⟨0,H3,I4,st4,nfp,w0⟩;rintro n s5 ⟨i,H5,I5,st5,n5,w5⟩;rcases turn i n H5 w5 with ⟨stop,qq⟩|⟨go,Nx,hNx,step⟩
  · have td:=T.done (X.qH s3 H3 scope ce fp) rfl rfl rfl hc i [] s5 _ H5 (λ_ _=>False) I5 (stat I5 n5) st5 stop;refine zD td λr s6 ⟨hr,I6⟩=>?_;subst hr;have I7:Inv X pins σ H5 s6:=I3.Fq (ch:=fp) I6.os I6.base I6.bw I6.bare λb hb=>⟨(f3 b hb).1.2.2.2.1,(f3 b hb).1.2.1,(f3 b hb).1.2.2.2.2.1,(f3 b hb).1.2.2.2.2.2⟩;have nC:H5 s3.heap.objs.size=none:=by
     have z:H5 ce.locals=none:=I6.free;rw[cL] at z;exact z
    obtain⟨m,hn,_⟩:=I6.loc;have hn:s6.heap.Ns ce.locals m:=hn;rw[cL] at hn;exact hRR D s3.heap.objs.size s6 m H5 I7 qq hn (I3.v8 (Lx _) nC)
  · have ti:=T.item (X.qH s3 H3 scope ce fp) rfl rfl rfl hc i [] s5 _ H5 (λ_ _=>False) I5 (stat I5 n5) st5 go;refine zD ti λr s6 ⟨u,hr,h6⟩=>?_;subst hr;refine zD h6 λ_ s7 ⟨x,H7,I7,r7,y7,st7,n7⟩=>?_;have I7':=I7.pinned (stat I7 n7) (T.obj _ _ st7);refine zD (pg _ s7 _ H7 x u _ I7' r7 (step x H7 y7)) λ_ s8 ⟨σ8,H8,I8,hw8,q8⟩=>?_;refine zD (pt _ s8 σ8 H8 _ I8 q8) λb s9 ⟨H9,I9,q9⟩=>?_;have fin:∀{s':Shared} {H':Hp},Inv (X.qH s3 H3 scope ce fp) ([]++mL fp s7.heap) σ8 H' s'->Nx H'->∃m,m < n/\∃i H',Inv (X.qH s3 H3 scope ce fp) [] (wipe σ (own.map (·.2))) H' s'/\tn i s'.heap/\(∀b∈fp,H' b=none)/\W i m H':=λ{s' H'} I' nx=>by
     obtain⟨m',hm,w'⟩:=hNx H' nx;have pin':∀b∈fp,∀o,s7.heap.get? b=some o->s'.heap.get? b=some o/\H' b=none:=λb hb o e =>
      let z:=I'.pin (b,o) (Mm _ (Mm _ (gj hb e)))
      ⟨z.1,z.2.1⟩
     have hl:(wipe σ (own.map (·.2))).length=σ8.length:=by rw[←hw8,jx]
     refine⟨m',hm,i+1,H',(I'.ij (pins:=[])).weak hl (λj v e=>?_),T.keep _ _ _ st7 λb hb o e=>(pin' b hb o e).1,λb hb=>?_,w'⟩
     · rw[←hw8] at e;exact (mW e).1
     · obtain⟨o,e,_⟩:=T.obj _ _ st7 b hb;exact (pin' b hb o e).2
    cases b with
    |false =>
     simp only[MN,Nm] at q9 ⊢;exact fin I9 q9
    |true =>
     simp only[M7] at q9 ⊢;refine zD (pe _ s9 σ8 H9 _ I9 q9) λz s10 ⟨yv,H10,I10,r10,acc,hD10,hz10,nx⟩=>?_;exact Gs (X:=X.qH s3 H3 scope ce fp) I10 hD10 hz10 r10 λs11 I11=>fin I11 nx
 exact codeAny_compStart_list loop (T.self X.A 0 _ _ _ st4 loop)
theorem fC {elt tg iter:Expr}{ifs:List Expr}{scope:Scope}{own:List (Str×Nat)}{pos:Pos}{wi:TI}{g:TG}{tt:TT}{te:TE}(hc:X.calm=true)(hN:X.N.Nodup)(hi:PI X tg iter wi)(ok:u9 X.N X.env.scope scope own)
  (hg:∀(s:Shared) (H:Hp) (C:Addr) (cl:List (Str×Addr)) (fp:List Addr),PG (X.qH s H scope (compEnvC scope cl C X.env) fp) tg g)(ht:∀(s:Shared) (H:Hp) (C:Addr) (cl:List (Str×Addr)) (fp:List Addr),JK (X.qH s H scope (compEnvC scope cl C X.env) fp) ifs tt)
  (he:∀(s:Shared) (H:Hp) (C:Addr) (cl:List (Str×Addr)) (fp:List Addr),PE (X.qH s H scope (compEnvC scope cl C X.env) fp) elt te)(hs:∀x,foldedSetIterable iter X.env x=pure x:=by intro _;rfl) :
  PE X (.ListComp elt [⟨tg,iter,ifs,0⟩] scope pos) (Hd wi g tt te (own.map (·.2))):=by
 intro pins s σ H Q I h;rw[eval_ListComp];refine yH hc hN I hi ok hg ht he hs h λD C s' m H' I' q hn f=>⟨m,hn,λh'' sb=>?_⟩;obtain⟨f0,f1,f2,f3,f4,f5⟩:=f;exact⟨.ref D,H',I'.turned (t':=s'.toks) (λb o hb e=>(sb.2 b hb).trans e) f0 f1 f3 f4 f5,rfl,q⟩
theorem qp {i:Nat}{y:Str}{py:Pos}{elt tg iter:Expr}{ifs:List Expr}{scope:Scope}{own:List (Str×Nat)}{pos spos:Pos}{wi:TI}{g:TG}{tt:TT}{te:TE}(hc:X.calm=true)(hN:X.N.Nodup)(hy:X.N[i]?=some y)(hyl:X.env.scope.names.lookup y=some .local)
  (hsw:swapsWith (.ListComp elt [⟨tg,iter,ifs,0⟩] scope pos) (some (.Name y py)) spos.line X.env=pure true)(hi:PI X tg iter wi)(ok:u9 X.N X.env.scope scope own)
  (hg:∀(s:Shared) (H:Hp) (C:Addr) (cl:List (Str×Addr)) (fp:List Addr),PG (X.qH s H scope (compEnvC scope cl C X.env) fp) tg g)(ht:∀(s:Shared) (H:Hp) (C:Addr) (cl:List (Str×Addr)) (fp:List Addr),JK (X.qH s H scope (compEnvC scope cl C X.env) fp) ifs tt)
  (he:∀(s:Shared) (H:Hp) (C:Addr) (cl:List (Str×Addr)) (fp:List Addr),PE (X.qH s H scope (compEnvC scope cl C X.env) fp) elt te)(hs:∀x,foldedSetIterable iter X.env x=pure x:=by intro _;rfl) :
  PS X (.Assign [.Name y py] (.ListComp elt [⟨tg,iter,ifs,0⟩] scope pos) spos) (zK (Hd wi g tt te (own.map (·.2))) (gg i)):=by
 intro pins s σ H D I h;rw[exec_Assign_Name_used _ _ _ _ hsw];refine Lm (wpAny_standAt (Lm ?_));show wpAny _ X.A (do let _ ←comprehension (.ListComp elt [⟨tg,iter,ifs,0⟩] scope pos) scope X.env (firstIterPos [⟨tg,iter,ifs,0⟩] pos) (newList []) false (eval iter X.env) (some (assign (.Name y py) X.env))) _ _ s;have h:Hd wi g tt te (own.map (·.2)) σ H (λx H1=>gg i x σ H1 D.nx):=h;refine Lm (bB (yH (Qf:=λ_ s'=>SP X pins D .next s') hc hN I hi ok hg ht he hs h λL C s' m H' I' q hn f=>?_) λ_ s' hq=>Lu (Lu hq));show wpAny _ _ (assign (.Name y py) X.env (.ref L)) _ _ _;refine wpAny_assign_Name (rF (v:=V.ref L) I' hN hy (.inl hyl) rfl (λs2 I2 ⟨a,sb,ha⟩=>?_) (.inr hyl));obtain⟨f0,f1,f2,f3,f4,f5⟩:=f;have haC:C≠a:=by
  rcases ha with z|z
  · rw[z];exact f1
  · exact λe=>f4 y a z e.symm
 refine⟨m,hn.sameBut sb haC,λh3 sb3=>?_⟩;exact⟨_,H',I2.turned (t':=s2.toks) (λb o hb e=>(sb3.2 b hb).trans e) f0 f1 f3 f4 f5,q⟩
theorem tI {elt:Expr}{gs:List Comprehension}{scope:Scope}{pos py:Pos}{y:Str}{l:Nat}{env:Env}(hk:env.scope.kind=.function)(hy:env.scope.names.lookup y=some .local)(hl:(py.line==pos.line)=true)
  (ha:(scope.names.any λ(n,k)=>n==y&&(k==.local||k==.cell))=false):swapsWith (.ListComp elt gs scope pos) (some (.Name y py)) l env=pure true:=by
 have ky:env.kindOf y=some .local:=hy;have hb:env.blockKind=.function:=by unfold Env.blockKind;rw[hk];rfl
 unfold swapsWith;simp only[hb,ky,ha,Expr.pos,hl];rfl
end
theorem lX {lo:Int}{n:Nat}{g:TG}{tt:TT}{te:TE}{vs:Ob}{σ:St}{H1:Hp}{D:Addr}{Qd:Hp->Prop}(Pv:Nat->Hp->Prop)(h0:Pv 0 (upd H1 D (.lst [])))
  (hs:∀i H,i < n->Pv i H->g (.int (lo+i)) (wipe σ vs) H λσ2 H2=>wipe σ2 vs=wipe σ vs/\tt σ2 H2 λb H3 =>
   if b=true then te σ2 H3 λy H4=>∃acc,H4 D=some (.lst acc)/\acc.length < sizeLine/\Pv (i+1) (upd H4 D (.lst (acc++[y]))) else Pv (i+1) H3) (hd:∀H,Pv n H->Qd H) :
  ∃W:Nat->Nat->Hp->Prop,(∃m,W 0 m (upd H1 D (.lst [])))/\∀i m H,W i m H ->
   ((Ax lo n).stop i H/\Qd H)∨((Ax lo n).go i H/\∃Nx:Hp->Prop,(∀H',Nx H'->∃m',m' < m/\W (i+1) m' H')/\∀x H',(Ax lo n).vU i H x H'->g x (wipe σ vs) H' λσ2 H2=>wipe σ2 vs=wipe σ vs/\tt σ2 H2 λb H3 =>
    if b=true then te σ2 H3 λy H4=>∃acc,H4 D=some (.lst acc)/\acc.length < sizeLine/\Nx (upd H4 D (.lst (acc++[y]))) else Nx H3):=by
 refine⟨λi m H=>m=n - i/\i<=n/\Pv i H,⟨n,by simp,LV _,h0⟩,?_⟩;rintro i m H ⟨rfl,hi,p⟩;by_cases hlt:i < n
 · refine .inr ⟨hlt,Pv (i+1),λH' p'=>⟨n - (i+1),by omega,rfl,hlt,p'⟩,λx H' y=>?_⟩;obtain⟨e,y⟩:=y;subst e y;exact hs i _ hlt p
 · have e:i=n:=by omega
   subst e;exact .inl ⟨Lx _,hd H p⟩
theorem jd {K:Oc}{a:Addr}{xs:List V}{g:TG}{tt:TT}{te:TE}{vs:Ob}{σ:St}{H1:Hp}{D:Addr}{Qd:Hp->Prop}(Pv:Nat->Hp->Prop)(h0:Pv 0 (upd H1 D (.lst [])))(hl:∀i H,i<=xs.length->Pv i H->aS K H a xs)
  (hs:∀i x H,xs[i]?=some x->Pv i H->g x (wipe σ vs) H λσ2 H2=>wipe σ2 vs=wipe σ vs/\tt σ2 H2 λb H3 =>
   if b=true then te σ2 H3 λy H4=>∃acc,H4 D=some (.lst acc)/\acc.length < sizeLine/\Pv (i+1) (upd H4 D (.lst (acc++[y]))) else Pv (i+1) H3) (hd:∀H,Pv xs.length H->Qd H) :
  ∃W:Nat->Nat->Hp->Prop,(∃m,W 0 m (upd H1 D (.lst [])))/\∀i m H,W i m H ->
   ((B0 K a).stop i H/\Qd H)∨((B0 K a).go i H/\∃Nx:Hp->Prop,(∀H',Nx H'->∃m',m' < m/\W (i+1) m' H')/\∀x H',(B0 K a).vU i H x H'->g x (wipe σ vs) H' λσ2 H2=>wipe σ2 vs=wipe σ vs/\tt σ2 H2 λb H3 =>
    if b=true then te σ2 H3 λy H4=>∃acc,H4 D=some (.lst acc)/\acc.length < sizeLine/\Nx (upd H4 D (.lst (acc++[y]))) else Nx H3):=by
 refine⟨λi m H=>m=xs.length - i/\i<=xs.length/\Pv i H,⟨xs.length,by simp,LV _,h0⟩,?_⟩;rintro i m H ⟨rfl,hi,p⟩;have q:=hl i H hi p;by_cases hlt:i < xs.length
 · refine .inr ⟨⟨xs,xs[i],q,by simp[hlt]⟩,Pv (i+1),λH' p'=>⟨xs.length - (i+1),by omega,rfl,hlt,p'⟩,λx H' y=>?_⟩;obtain⟨e,y⟩:=y;subst e;exact hs i x _ (y xs q) p
 · have e:i=xs.length:=by omega
   subst e;exact .inl ⟨⟨xs,q,Lx _⟩,hd H p⟩
theorem G4 {K:Oc}{a:Addr}{xs:List V}{g:TG}{tt:TT}{te:TE}{vs:Ob}{σ:St}{H1:Hp}{D:Addr}{Qd:Hp->Prop}(Pv:Nat->Hp->Prop)(h0:Pv 0 (upd H1 D (.lst [])))(hl:∀i H,i<=xs.length->Pv i H->bZ K H a xs)
  (hs:∀i x H,xs[i]?=some x->Pv i H->g x (wipe σ vs) H λσ2 H2=>wipe σ2 vs=wipe σ vs/\tt σ2 H2 λb H3 =>
   if b=true then te σ2 H3 λy H4=>∃acc,H4 D=some (.lst acc)/\acc.length < sizeLine/\Pv (i+1) (upd H4 D (.lst (acc++[y]))) else Pv (i+1) H3) (hd:∀H,Pv xs.length H->Qd H) :
  ∃W:Nat->Nat->Hp->Prop,(∃m,W 0 m (upd H1 D (.lst [])))/\∀i m H,W i m H ->
   ((IQ K a).stop i H/\Qd H)∨((IQ K a).go i H/\∃Nx:Hp->Prop,(∀H',Nx H'->∃m',m' < m/\W (i+1) m' H')/\∀x H',(IQ K a).vU i H x H'->g x (wipe σ vs) H' λσ2 H2=>wipe σ2 vs=wipe σ vs/\tt σ2 H2 λb H3 =>
    if b=true then te σ2 H3 λy H4=>∃acc,H4 D=some (.lst acc)/\acc.length < sizeLine/\Nx (upd H4 D (.lst (acc++[y]))) else Nx H3):=by
 refine⟨λi m H=>m=xs.length - i/\i<=xs.length/\Pv i H,⟨xs.length,by simp,LV _,h0⟩,?_⟩;rintro i m H ⟨rfl,hi,p⟩;have q:=hl i H hi p;by_cases hlt:i < xs.length
 · refine .inr ⟨⟨xs,xs[i],q,by simp[hlt]⟩,Pv (i+1),λH' p'=>⟨xs.length - (i+1),by omega,rfl,hlt,p'⟩,λx H' y=>?_⟩;obtain⟨e,y⟩:=y;subst e;exact hs i x _ (y xs q) p
 · have e:i=xs.length:=by omega
   subst e;exact .inl ⟨⟨xs,q,Lx _⟩,hd H p⟩
def IW (N:List Str)(sc scope:Scope)(own:List (Str×Nat)):Bool :=
 (match scope.kind with|.function=>true|_=>false)&&(scope.names.all λy=>decide (scope.names.lookup y.1=some y.2))&&(own.all λp=>decide (N[p.2]?=some p.1)) &&
  (scope.names.all λy=>match y.2 with
   |.free=>(match sc.names.lookup y.1 with|some .cell=>true|some .free=>true|_=>false)
   |.local=>decide (y.1∈own.map (·.1))||decide (y.1∉N)
   |.cell=>decide (y.1∈own.map (·.1))||decide (y.1∉N)
   |_=>true)
theorem bA {N:List Str}{sc scope:Scope}{own:List (Str×Nat)}(h:IW N sc scope own=true):u9 N sc scope own:=by
 unfold IW at h;simp only[Lv,LU,Lw] at h;obtain⟨⟨⟨h1,h2⟩,h3⟩,h4⟩:=h;refine⟨?_,h2,h3,λy hy e=>?_,λy hy e=>?_⟩
 · split at h1
   · assumption
   · cases h1
 · have q:=h4 y hy;simp only[e] at q;split at q <;> first|exact .inl (by assumption)|exact .inr (by assumption)|cases q
 · have q:=h4 y hy;rcases e with e|e <;> (simp only[e,Mo,Lw] at q;exact q)
section
variable {prog:Program}{w:World}{A:Around}{R:Result->Shared->Prop}{s:Shared}{elt t0 i0 t1 i1:Expr}{ifs0 ifs1:List Expr}{scope:Scope}{pos:Pos}{it acc:Value}{env:Env}
end
section
variable {X:Cx}
end
section
variable {κ:Type} [DecidableEq κ]
def cT (kvs:List (κ×V)) (k:κ):Option V:=(kvs.find? λkv=>decide (kv.1=k)).map (·.2)
def putK (kvs:List (κ×V))(k:κ)(v:V):List (κ×V) :=
 if (kvs.any λkv=>decide (kv.1=k))=true then kvs.map (λkv=>if kv.1=k then (kv.1,v) else kv) else kvs++[(k,v)]
theorem da {p:κ×V}{r:List (κ×V)}{k:κ}(e:p.1=k):cT (p::r) k=some p.2:=by simp[cT,M1,e]
theorem dv {p:κ×V}{r:List (κ×V)}{k:κ}(e:¬p.1=k):cT (p::r) k=cT r k:=by simp[cT,M1,e]
theorem mG (k:κ):∀kvs:List (κ×V),(kvs.any λkv=>decide (kv.1=k))=(cT kvs k).isSome
 |[]=>rfl
 |p::r=>by
  rw[MV];by_cases e:p.1=k
  · simp only[da e,L4 e,Bool.true_or,Option.isSome_some]
  · rw[dv e,Mb e,Bool.false_or];exact mG k r
theorem uU (k j:κ)(y:V):∀kvs:List (κ×V),cT (kvs.map λkv=>if kv.1=k then (kv.1,y) else kv) j=(cT kvs j).map λx=>if j=k then y else x
 |[]=>rfl
 |p::r=>by
  have ih:=uU k j y r;rw[LF];by_cases h:p.1=k
  · rw[Lp h];by_cases e:p.1=j
    · rw[da (p:=(p.1,y)) e,da e,Option.map_some,Lp (e.symm.trans h)]
    · rw[dv (p:=(p.1,y)) e,dv e,ih]
  · rw[Lo h];by_cases e:p.1=j
    · rw[da (p:=p) e,da e,Option.map_some,Lo (λz=>h (e.trans z))]
    · rw[dv (p:=p) e,dv e,ih]
theorem rE (k j:κ)(y:V):∀kvs:List (κ×V),cT kvs k=none->cT (kvs++[(k,y)]) j=if j=k then some y else cT kvs j
 |[],_=>by
  by_cases e:k=j
  · rw[Lp e.symm];exact da (p:=(k,y)) e
  · rw[Lo (λz=>e z.symm)];exact dv (p:=(k,y)) e
 |p::r,hn=>by
  rw[Nw];have hk:¬p.1=k:=λz=>by rw[da z] at hn;cases hn
  rw[dv hk] at hn;have ih:=rE k j y r hn;by_cases e:p.1=j
  · rw[da e,da e,Lo (λz=>hk (e.trans z))]
  · rw[dv e,dv e,ih]
theorem p8 (kvs:List (κ×V))(k j:κ)(y:V):cT (putK kvs k y) j=if j=k then some y else cT kvs j:=by
 unfold putK;by_cases a:(kvs.any λkv=>decide (kv.1=k))=true
 · rw[Lp a,uU];rw[mG] at a;by_cases e:j=k
   · obtain⟨x,hx⟩:=NB.mp a;rw[Lp e,e,hx,Option.map_some,Lp rfl]
   · rw[Lo e];cases cT kvs j with
     |none=>rfl
     |some x=>rw[Option.map_some,Lo e]
 · rw[Lo a];refine rE k j y kvs ?_;rw[mG] at a;cases q:cT kvs k with
   |none=>rfl
   |some x=>rw[q] at a;exact (a rfl).elim
theorem gI (kvs:List (κ×V))(k:κ)(v:V):(putK kvs k v).length<=kvs.length+1:=by
 unfold putK;split
 · rw[Ln];omega
 · rw[LK,Lz,MX];omega
theorem iK.iz {o:Option V}{u:Option Value}(r:iK o u):o.isSome=u.isSome:=by
 cases o with
 |none=>cases u with
  |none=>rfl
  |some _=>exact (show False from r).elim
 |some _=>cases u with
  |none=>exact (show False from r).elim
  |some _=>rfl
theorem iK.getD {o:Option V}{u:Option Value}{d:V}{d':Value}(r:iK o u)(rd:RelV d d'):RelV (o.getD d) (u.getD d'):=by
 cases o with
 |none=>cases u with
  |none=>exact rd
  |some _=>exact (show False from r).elim
 |some _=>cases u with
  |none=>exact (show False from r).elim
  |some _=>exact r
theorem KV.val {kvs:List (κ×V)}{vs:List (κ×Value)}(r:KV kvs vs)(k:κ):iK (cT kvs k) (valueAt vs k):=by
 unfold KV at r
 induction r with
 |nil=>exact True.intro
 |@cons p q ps qs h t ih =>
  obtain⟨h1,h2⟩:=h;by_cases e:p.1=k
  · have e':q.1=k:=h1.symm.trans e;have b:valueAt (q::qs) k=some q.2:=by simp[valueAt,M1,e']
    rw[da e,b];exact h2
  · have e':¬q.1=k:=λz=>e (h1.trans z);have b:valueAt (q::qs) k=valueAt qs k:=by simp[valueAt,M1,e']
    rw[dv e,b];exact ih
theorem KV.any {kvs:List (κ×V)}{vs:List (κ×Value)}(r:KV kvs vs)(k:κ):(kvs.any λkv=>decide (kv.1=k))=vs.any λkv=>decide (kv.1=k):=by
 unfold KV at r
 induction r with
 |nil=>rfl
 |cons h t ih=>rw[MV,MV,ih,h.1]
theorem KV.G_ {kvs:List (κ×V)}{vs:List (κ×Value)}(r:KV kvs vs)(k:κ){y:V}{u:Value}(ry:RelV y u) :
  KV (kvs.map λkv=>if kv.1=k then (kv.1,y) else kv) (vs.map λkv=>if kv.1=k then (kv.1,u) else kv):=by
 unfold KV at r ⊢
 induction r with
 |nil=>exact .nil
 |@cons p q ps qs h t ih =>
  rw[LF,LF];refine .cons ?_ ih;obtain⟨h1,h2⟩:=h;by_cases e:p.1=k
  · rw[Lp e,Lp (h1.symm.trans e)];exact⟨h1,ry⟩
  · rw[Lo e,Lo (λz=>e (h1.trans z))];exact⟨h1,h2⟩
theorem KV.put {kvs:List (κ×V)}{vs:List (κ×Value)}(r:KV kvs vs)(k:κ){y:V}{u:Value}(ry:RelV y u):KV (putK kvs k y) (stored vs k u):=by
 unfold putK stored;rw[r.any k];by_cases e:(vs.any λkv=>decide (kv.1=k))=true
 · rw[Lp e,Lp e];exact r.G_ k ry
 · rw[Lo e,Lo e];exact Paired.snoc r ⟨rfl,ry⟩
theorem KV.length {kvs:List (κ×V)}{vs:List (κ×Value)}(r:KV kvs vs):kvs.length=vs.length:=Paired.length r
end
theorem oK {P:Program}{w:World}{k:Key}{u:Value}(r:RelV (kV k) u):(cp P w).is k u=true:=by
 cases k with
 |inl i=>obtain⟨t,e⟩:=(show ∃t,u=Value.int i t from r);subst e;exact uW P w i t
 |inr x=>obtain⟨t,e⟩:=(show ∃t,u=Value.str x t from r);subst e;exact uM P w x t
theorem sr {P:Program}{w:World}:∀{ks:List Key} {us:Og},Vals (ks.map kV) us->ItemsAre (cp P w) ks us
 |[],_,r=>by rw[MM] at r;cases r;exact .nil
 |k::ks,_,r=>by
  rw[LF] at r;cases r with
  |cons h t=>exact .cons (oK h) (sr t)
abbrev KT (H:Hp):List (List Key×V)->List (List Key×Addr×Value)->Prop:=Paired λp q=>p.1=q.1/\H q.2.1=some (.tup (p.1.map kV))/\RelV p.2 q.2.2
theorem KT.val {H:Hp}{kvs:List (List Key×V)}{xs:List (List Key×Addr×Value)}(r:KT H kvs xs)(k:List Key):iK (cT kvs k) ((atKey xs k).map (·.2)):=by
 induction r with
 |nil=>exact True.intro
 |@cons p q ps qs h t ih =>
  obtain⟨h1,_,h2⟩:=h;by_cases e:p.1=k
  · have e':q.1=k:=h1.symm.trans e;have b:atKey (q::qs) k=some q.2:=by simp[atKey,M1,e']
    rw[da e,b];exact h2
  · have e':¬q.1=k:=λz=>e (h1.trans z);have b:atKey (q::qs) k=atKey qs k:=by simp[atKey,M1,e']
    rw[dv e,b];exact ih
theorem KT.G_ {H:Hp}{kvs:List (List Key×V)}{xs:List (List Key×Addr×Value)}(r:KT H kvs xs)(k:List Key){y:V}{u:Value}(ry:RelV y u) :
  KT H (kvs.map λkv=>if kv.1=k then (kv.1,y) else kv) (xs.map (putAt k u)):=by
 induction r with
 |nil=>exact .nil
 |@cons p q ps qs h t ih =>
  rw[LF,LF];refine .cons ?_ ih;obtain⟨h1,h2,h3⟩:=h;unfold putAt;by_cases e:p.1=k
  · rw[Lp e,Lp (h1.symm.trans e)];exact⟨h1,h2,ry⟩
  · rw[Lo e,Lo (λz=>e (h1.trans z))];exact⟨h1,h2,h3⟩
theorem KT.put {H:Hp}{kvs:List (List Key×V)}{xs:List (List Key×Addr×Value)}(r:KT H kvs xs)(k:List Key){b:Addr}{y:V}{u:Value}(hb:H b=some (.tup (k.map kV)))(ry:RelV y u) :
  KT H (putK kvs k y) (storedH xs k b u):=by
 have e:(kvs.any λkv=>decide (kv.1=k))=(atKey xs k).isSome:=by
  rw[mG,(r.val k).iz,Option.isSome_map]
 unfold putK storedH;rw[e];by_cases q:(atKey xs k).isSome=true
 · rw[Lp q,Lp q];exact r.G_ k ry
 · rw[Lo q,Lo q];exact Paired.snoc r ⟨rfl,hb,ry⟩
theorem KT.keeps {H H':Hp}{kvs:List (List Key×V)}{xs:List (List Key×Addr×Value)}(r:KT H kvs xs)(ht:∀b ys,H b=some (.tup ys)->H' b=some (.tup ys)):KT H' kvs xs :=
 Paired.d8 r λ_ _ z=>⟨z.1,ht _ _ z.2.1,z.2.2⟩
section
variable {P:Program}{w:World}{H:Hp}{h:Heap}{a:Addr}
theorem Fu {u:HO} (ok:ir P w H h) (e:Rd H a u):bN P w H h a u:=e.ok ok
theorem vB {kvs:List (Key×V)}(ok:ir P w H h)(e:Rd H a (.dK kvs)):kvs.length<=sizeLine/\(a==sysModules)=false/\∃vs,KV kvs vs/\h.DictOf (cp P w) a vs :=
 show bN P w H h a (.dK kvs) from Fu ok e
theorem Il {kvs:List (Key×V)}(ok:ir P w H h)(e:H a=some (.dK kvs)):kvs.length<=sizeLine/\(a==sysModules)=false/\∃vs,KV kvs vs/\h.DictOf (cp P w) a vs:=vB ok (.inl e)
theorem o8 {ks:List Key}(ok:ir P w H h)(e:H a=some (.tup (ks.map kV))):(tupleKind (cp P w)).is h ks a:=by
 obtain⟨_,its,r,o,h1,h2,n,h3⟩:=(show bN P w H h a (.tup (ks.map kV)) from ok a _ e);exact⟨o,its.toArray,n,h1,h2,h3,by simpa using sr r⟩
theorem uC {kvs:List (List Key×V)}(ok:ir P w H h)(e:Rd H a (.dT kvs)):kvs.length<=sizeLine/\(a==sysModules)=false /\
  ∃xs,KT H kvs xs/\h.DictOfH (tupleKind (cp P w)) a xs:=by
 obtain⟨z,y,xs,r,o,es,ep,h1,h2,h3,h4,h5⟩:=(show bN P w H h a (.dT kvs) from Fu ok e);refine⟨z,y,xs,r,o,es,ep,h1,h2,h3,h4,λx hx=>?_,h5⟩;have all:∀{l:List (List Key×V)} {m:List (List Key×Addr×Value)},KT H l m->∀x∈m,(tupleKind (cp P w)).is h x.1 x.2.1:=by
  intro l m q
  induction q with
  |nil=>intro x hx;exact nomatch hx
  |@cons p q ps qs hq t ih =>
   intro x hx;rcases Lr.mp hx with e|hx
   · subst e;exact o8 ok (by rw[←hq.1];exact hq.2.1)
   · exact ih x hx
 exact all r x hx
theorem Jh {kvs:List (List Key×V)}(ok:ir P w H h)(e:H a=some (.dT kvs)):kvs.length<=sizeLine/\(a==sysModules)=false /\
  ∃xs,KT H kvs xs/\h.DictOfH (tupleKind (cp P w)) a xs:=uC ok (.inl e)
end
def gi (H:Hp)(a:Addr)(y:V)(r:Option V):Prop :=
 (∃kvs k,Rd H a (.dK kvs)/\y=kV k/\r=cT kvs k)∨∃kvs k b,Rd H a (.dT kvs)/\y=.ref b/\H b=some (.tup (k.map kV))/\r=cT kvs k
def ID (H:Hp)(a:Addr)(y v:V)(H':Hp):Prop :=
 (∃kvs k,H a=some (.dK kvs)/\y=kV k/\kvs.length < sizeLine/\H'=upd H a (.dK (putK kvs k v))) ∨
 ∃kvs k b,H a=some (.dT kvs)/\y=.ref b/\H b=some (.tup (k.map kV))/\kvs.length < sizeLine/\H'=upd H a (.dT (putK kvs k v))
theorem gi.k {H:Hp}{a:Addr}{kvs:List (Key×V)}{k:Key}(e:H a=some (.dK kvs)):gi H a (kV k) (cT kvs k):=.inl ⟨kvs,k,.inl e,rfl,rfl⟩
theorem gi.t {H:Hp}{a b:Addr}{kvs:List (List Key×V)}{k:List Key}(e:H a=some (.dT kvs))(eb:H b=some (.tup (k.map kV))):gi H a (.ref b) (cT kvs k):=.inr ⟨kvs,k,b,.inl e,rfl,eb,rfl⟩
section
variable {X:Cx}{pins:Of}{σ:St}{H:Hp}{s:Shared}{a:Addr}{y v:V}{u r:Value}{o:Option V}{A:Around}{E:Od}
theorem Inv.big (I:Inv X pins σ H s):sysModules < s.heap.objs.size:=by
 have h:mainGlobals < s.heap.objs.size:=(I.mod.glob.keeps I.bk).lt;exact Nat.lt_trans (by decide) h
theorem Kp {Q:Od}(hu:A.units+1 < cLine)(I:Inv X pins σ H s)(g:gi H a y o)(ry:RelV y u)(h:∀s',Inv X pins σ H s'->Q (.bool o.isSome) s') :
  wpAny (model X.prog X.w) A (compareOp .In u (.ref a)) Q E s:=by
 rcases g with ⟨kvs,k,e,ey,l⟩|⟨kvs,k,b,e,ey,eb,l⟩
 · subst ey;obtain⟨z,hd,vs,rel,dd⟩:=vB I.bw e;refine wpAny_in_of (oK ry) hd dd.mapOf ?_;rw[←(rel.val k).iz,←l];exact h _ (I.tok _)
 · subst ey;cases (show u=Value.ref b from ry);obtain⟨z,hd,xs,rel,dd⟩:=uC I.bw e;refine wpAny_in_heap (N6 hu) (o8 I.bw eb) hd dd ?_;have q:=(rel.val k).iz;rw[Option.isSome_map] at q;rw[←q,←l];exact h _ (I.tok _)
theorem E5 {Q:Od}(hu:A.units+1 < cLine)(I:Inv X pins σ H s)(g:gi H a y o)(ry:RelV y u)(h:∀s',Inv X pins σ H s'->Q (.bool (!o.isSome)) s') :
  wpAny (model X.prog X.w) A (compareOp .NotIn u (.ref a)) Q E s:=by
 rcases g with ⟨kvs,k,e,ey,l⟩|⟨kvs,k,b,e,ey,eb,l⟩
 · subst ey;obtain⟨z,hd,vs,rel,dd⟩:=vB I.bw e;refine wpAny_notIn_of (oK ry) hd dd.mapOf ?_;rw[←(rel.val k).iz,←l];exact h _ (I.tok _)
 · subst ey;cases (show u=Value.ref b from ry);obtain⟨z,hd,xs,rel,dd⟩:=uC I.bw e;refine wpAny_notIn_heap (N6 hu) (o8 I.bw eb) hd dd ?_;have q:=(rel.val k).iz;rw[Option.isSome_map] at q;rw[←q,←l];exact h _ (I.tok _)
theorem ym {h':Heap}{t':Nat}{ob:HO}(I:Inv X pins σ H s)(mu:Ih (H a))(hs:Heap.SameBut a s.heap h')(he:∃q,h'.get? a=some q)(new:bN X.prog X.w (upd H a ob) h' a ob) :
  Inv X pins σ (upd H a ob) {s with heap:=h',toks:=t'} :=
 I.write (x:=a) (e:=a) mu (.inl rfl) (λb q hb z=>(hs.2 b hb).trans z) he new
theorem Gm {P:Program}{w:World}{H':Hp}{h':Heap}{kvs:List (Key×V)}{vs:List (Key×Value)}(z:kvs.length<=sizeLine)(hd:(a==sysModules)=false)(rel:KV kvs vs)(dd:h'.DictOf (cp P w) a vs) :
  bN P w H' h' a (.dK kvs):=⟨z,hd,vs,rel,dd⟩
theorem zu {H':Hp}{Q:Unit->Shared->Prop}(hu:A.units+1 < cLine)(I:Inv X pins σ H s)(g:ID H a y v H')(ry:RelV y u)(rv:RelV v r)(h:∀s',Inv X pins σ H' s'->Q () s') :
  wpAny (model X.prog X.w) A (setItem (.ref a) u r) Q E s:=by
 rcases g with ⟨kvs,k,e,ey,l,eH⟩|⟨kvs,k,b,e,ey,eb,l,eH⟩
 · subst ey eH;obtain⟨z,hd,vs,rel,dd⟩:=Il I.bw e;have hz:vs.length<=sizeLine:=by rw[←rel.length];exact z
   have hl:(putK kvs k v).length<=sizeLine:=by have:=gI kvs k v;omega
   refine wpAny_setItem_pairs (hsz:=hz) (oK ry) dd λh' dd' hs=>h _ ?_;have he:∃q,h'.get? a=some q:=let ⟨q,_,_,hq,_⟩:=dd';⟨q,hq⟩;exact ym I (by rw[e];exact True.intro) hs he (Gm hl hd (rel.put k rv) dd')
 · subst ey eH;cases (show u=Value.ref b from ry);obtain⟨z,hd,xs,rel,dd⟩:=Jh I.bw e;have hz:xs.length<=sizeLine:=by rw[←Paired.length rel];exact z
   have hl:(putK kvs k v).length<=sizeLine:=by have:=gI kvs k v;omega
   refine wpAny_setItem_heap (hsz:=hz) (N6 hu) (o8 I.bw eb) dd λh' dd' hs=>h _ ?_;obtain⟨q,es,ep,hq,h2,h3,h4,_,h5⟩:=dd';refine ym I (by rw[e];exact True.intro) hs ⟨q,hq⟩ ⟨hl,hd,_,(rel.put k eb rv).keeps λc ys ec=>?_,q,es,ep,hq,h2,h3,h4,h5⟩;rw[aq (dF ec e (λz=>nomatch z))];exact ec
end
section
variable {X:Cx}{pins:Of}{σ:St}{H:Hp}{s:Shared}{a:Addr}{kvs:List (Key×V)}{k:Key}{u:Value}{A:Around}{E:Od}
end
def Jc (i:Expr):Prop:=∀ov iv,subscripted i false ov iv=operate [ov,iv] (getItem ov iv)
theorem DK {prog:Program}{w:World}{A:Around}{E:Od}{s:Shared}{env:Env}{value slice:Expr}{pos:Pos}{T id:String}{Q:Od}
  (hl:typeLookup (.type T) "__getitem__"=pure (some (.builtin id)))(hs:Jc slice)
  (h:wpAny (model prog w) A (eval value env) (λo s₁=>wpAny (model prog w) A (eval slice env) (λi s₂=>s₂.TypeIs o T/\wpAny (model prog w) A (getItem o i) Q E s₂) E s₁) E s) :
  wpAny (model prog w) A (eval (.Subscript value slice pos) env) Q E s:=by
 refine Subscript_ (MF h (λo s₁ h₁=>MF h₁ (λi s₂ h₂=>?_) λ_ _ x=>x) λ_ _ x=>x);obtain⟨hT,h₂⟩:=h₂;unfold subscriptTail;refine Lm ?_;rw[getitemInPython_of_ne hT.not_modules];refine Lm (wpAny_specialOf hT hl ?_);have fin:wpAny (model prog w) A (subscripted slice false o i) (λr s₃=>wpAny (model prog w) A (letTemporaryGo value o r >>= λ_=>pure r) Q E s₃) E s₂:=by
  rw[hs o i];exact wpAny_operating (MF h₂ (λr s₃ h₃=>Lm (wpAny_letTemporaryGo (Lu h₃))) λ_ _ x=>x)
 first
  |exact Lu (Lm fin)
  |exact Lm (Lu (Lm fin))
  |exact Lm fin
def JD (ty td:TE):TE:=λσ H Q=>ty σ H λy H1=>td σ H1 λx H2=>∃a o,x=.ref a/\gi H2 a y o/\Q (.bl o.isSome) H2
def DX (ty td:TE):TE:=λσ H Q=>ty σ H λy H1=>td σ H1 λx H2=>∃a o,x=.ref a/\gi H2 a y o/\Q (.bl (!o.isSome)) H2
def Jz (td ty tv:TE):TS:=λD σ H=>tv σ H λv H1=>td σ H1 λx H2=>ty σ H2 λy H3=>∃a H4,x=.ref a/\ID H3 a y v H4/\D.nx σ H4
section
variable {X:Cx}{o i e value:Expr}{pos pos' tpos:Pos}{td ty tv:TE}
theorem tL (hu:X.A.units+1 < cLine) (hi:PE X i ty) (ho:PE X o td):PC X .In i o (JD ty td):=by
 intro pins s σ H Q I h;refine bB (hi pins s σ H _ I h) λiv s1 ⟨y,H1,I1,ry,q1⟩=>bB (ho pins s1 σ H1 _ I1 q1) λu s2 ⟨x,H2,I2,rx,a,ov,ex,g,q2⟩=>?_;subst ex;obtain rfl:u=Value.ref a:=rx;exact Kp hu I2 g ry λs3 I3=>⟨.bl ov.isSome,H2,I3,rfl,q2⟩
theorem zN (hu:X.A.units+1 < cLine)(hi:PE X i ty)(ho:PE X o td):PC X .NotIn i o (DX ty td):=by
 intro pins s σ H Q I h;refine bB (hi pins s σ H _ I h) λiv s1 ⟨y,H1,I1,ry,q1⟩=>bB (ho pins s1 σ H1 _ I1 q1) λu s2 ⟨x,H2,I2,rx,a,ov,ex,g,q2⟩=>?_;subst ex;obtain rfl:u=Value.ref a:=rx;exact E5 hu I2 g ry λs3 I3=>⟨.bl (!ov.isSome),H2,I3,rfl,q2⟩
theorem lK (hu:X.A.units+1 < cLine)(ho:PE X o td)(hi:PE X i ty)(hv:PE X value tv)(hs:swapsWith value (some (.Subscript o i pos')) pos.line X.env=pure false) :
  PS X (.Assign [.Subscript o i pos'] value pos) (Jz td ty tv):=by
 intro pins s σ H D I h;refine wpAny_Assign_Subscript (bB (hv pins s σ H _ I h) λr s1 ⟨v,H1,I1,rv,q1⟩=>bB (ho pins s1 σ H1 _ I1 q1) λu s2 ⟨x,H2,I2,rx,q2⟩=>bB (hi pins s2 σ H2 _ I2 q2) λiv s3 ⟨y,H3,I3,ry,a,H4,ex,g,q3⟩=>?_) hs;subst ex;obtain rfl:u=Value.ref a:=rx;exact zu hu I3 g ry rv λs4 I4=>⟨σ,H4,I4,q3⟩
end
theorem AA {P:Program}{w:World}{H:Hp}(h:Heap)(hb:sysModules < h.objs.size):bN P w H (h.push {cls:=.type "dict",data:=.dict #[]}) h.objs.size (.dK []) :=
 ⟨LV _,LW.mpr (N4 (L0 hb)),[],.nil,Heap.DictOf.new h⟩
theorem A5 {P:Program}{w:World}{H:Hp}(h:Heap)(hb:sysModules < h.objs.size):bN P w H (h.push {cls:=.type "dict",data:=.dict #[]}) h.objs.size (.dT []) :=
 ⟨LV _,LW.mpr (N4 (L0 hb)),[],.nil,_,#[],0,LD _ rfl,⟨rfl,rfl,rfl⟩,rfl,rfl,List.nodup_nil⟩
def HG:TE:=λ_ H Q=>∀p,H p=none->Q (.ref p) (upd H p (.dK []))
def Ge:TE:=λ_ H Q=>∀p,H p=none->Q (.ref p) (upd H p (.dT []))
section
variable {X:Cx}{pos:Pos}
theorem o9:PE X (.Dict [] [] pos) HG:=λpins s σ H Q I h =>
 wpAny_Dict_empty ⟨.ref s.heap.objs.size,_,I.laid (a:=s.heap.objs.size) (o:=.dK []) (t':=s.toks) (λ_ _ q=>Lq _ q) (Lx _) (AA s.heap I.big),rfl,h _ (I.bw.fresh (Lx _))⟩
theorem qb:PE X (.Dict [] [] pos) Ge:=λpins s σ H Q I h =>
 wpAny_Dict_empty ⟨.ref s.heap.objs.size,_,I.laid (a:=s.heap.objs.size) (o:=.dT []) (t':=s.toks) (λ_ _ q=>Lq _ q) (Lx _) (A5 s.heap I.big),rfl,h _ (I.bw.fresh (Lx _))⟩
end
structure M2 (X:Cx)(o:Expr)(m:Str)(apos:Pos)(e f:Expr)(cpos:Pos):Prop where
 base:attributeBase o m X.env (eval o X.env)=eval o X.env
 vw:((backTo cpos (starEach [e,f] X.env)).all (λx=>!x.1)&&(backToKw cpos (keywordEach [] X.env)).all (λx=>x.1.isSome)
  && decide (([e,f]:List Expr).length+([]:List Keyword).length+(if ([]:List Keyword).isEmpty then 0 else 1) < 30))=true
 line:(apos.endLine==cpos.line)=true
 trees:backTo cpos (starEach [e,f] X.env)=[(false,eval e X.env),(false,eval f X.env)]
def KU (H:Hp)(a:Addr):Prop:=(∃kvs,Rd H a (.dK kvs))∨∃kvs,Rd H a (.dT kvs)
theorem G1 {X:Cx}{pins:Of}{σ:St}{H:Hp}{s:Shared}{a:Addr}(I:Inv X pins σ H s)(d:KU H a) :
  s.TypeIs (.ref a) "dict"/\(∀b,Value.ref a=.ref b->∃ob,s.heap.get? b=some ob/\ob.dict=none)/\(a==sysModules)=false:=by
 rcases d with ⟨kvs,e⟩|⟨kvs,e⟩
 · obtain⟨_,hd,vs,_,dd⟩:=vB I.bw e;refine⟨dd.typeIs,λb q=>?_,hd⟩;cases q;obtain⟨ob,_,_,h1,h2,_⟩:=dd;exact⟨ob,h1,h2.2.1⟩
 · obtain⟨_,hd,xs,_,dd⟩:=uC I.bw e;refine⟨dd.typeIs,λb q=>?_,hd⟩;cases q;obtain⟨ob,_,_,h1,h2,_⟩:=dd;exact⟨ob,h1,h2.2.1⟩
section
variable {X:Cx}{pins:Of}{σ:St}{H:Hp}{s:Shared}{a:Addr}{y d:V}{u r:Value}{o:Option V}{A:Around}{E:Od}
theorem HH {Q:Od} (hu:A.units+1 < cLine) (I:Inv X pins σ H s) (g:gi H a y o) (ry:RelV y u) (rd:RelV d r) (h:∀w' s',Inv X pins σ H s'->RelV (o.getD d) w'->Q w' s') :
  wpAny (model X.prog X.w) A (call (.builtin "dict.get") [.ref a,u,r]) Q E s:=by
 rcases g with ⟨kvs,k,e,ey,l⟩|⟨kvs,k,b,e,ey,eb,l⟩
 · subst ey;obtain⟨z,hd,vs,rel,dd⟩:=vB I.bw e;refine call_meetsIn PySem.F.slot_dict_get dd.typeIs PySem.F.entry_dict_get (PySem.F.args_dict_get_3 _ _ _) (meets_dict_get_default (cp X.prog X.w) a (oK ry) hd r) ⟨_,dd.mapOf,h _ _ (I.tok _) ?_⟩;rw[l];exact (rel.val k).getD rd
 · subst ey;cases (show u=Value.ref b from ry);obtain⟨z,hd,xs,rel,dd⟩:=uC I.bw e;refine call_meetsIn PySem.F.slot_dict_get dd.typeIs PySem.F.entry_dict_get (PySem.F.args_dict_get_3 _ _ _) (meetsH_dict_get_default (tupleKind (cp X.prog X.w)) a b hd r) ⟨N6 hu,k,xs,o8 I.bw eb,dd,h _ _ (I.tok _) ?_⟩;rw[l];exact (rel.val k).getD rd
end
def GU (td ty tx:TE):TE:=λσ H Q=>td σ H λx H1=>∃a,x=.ref a/\KU H1 a/\ty σ H1 λy H2=>tx σ H2 λz H3=>∃o,gi H3 a y o/\Q (o.getD z) H3
section
variable {X:Cx}{o e f:Expr}{apos cpos:Pos}{td ty tx:TE}
theorem vL (hu:X.A.units+1 < cLine) (ho:PE X o td) (he:PE X e ty) (hf:PE X f tx) (m:M2 X o "get" apos e f cpos):PE X (.Call (.Attribute o "get" apos) [e,f] [] cpos) (GU td ty tx):=by
 intro pins s σ H Q I h;refine wpAny_Call_method m.base m.vw m.line PySem.F.plainAttrs_dict PySem.F.slot_dict_get PySem.F.type_dict_get (bB (ho pins s σ H _ I h) λu s1 ⟨x,H1,I1,rx,a,ex,d,q1⟩=>?_);subst ex;obtain rfl:u=Value.ref a:=rx;obtain⟨t1,t2,_⟩:=G1 I1 d;refine⟨t1,t2,?_⟩;rw[m.trees];refine NP rfl (Calls.evalArgs_plain (N_ (bB (he pins s1 σ H1 _ I1 q1) λiv s2 ⟨y,H2,I2,ry,q2⟩ =>
  N_ (bB (hf pins s2 σ H2 _ I2 q2) λfv s3 ⟨z,H3,I3,rz,ov,g,q3⟩=>Calls.spliced_nil ?_))))
 exact HH hu I3 g ry rz λw' s4 I4 rw'=>⟨_,H3,I4,rw',q3⟩
end
section
variable {X:Cx}{pins:Of}{σ:St}{H:Hp}{s:Shared}{a:Addr}{kvs:List (Key×V)}{A:Around}{E:Od}
end
section
variable {X:Cx}{pins:Of}{σ:St}{H:Hp}{s:Shared}{a:Addr}{y:V}{u:Value}{A:Around}{E:Od}
end
section
variable {prog:Program}{w:World}{A:Around}{E:Od}
end
section
variable {X:Cx}
end
section
variable {X:Cx}{pins:Of}{σ:St}{H:Hp}{s:Shared}{h':Heap}
theorem Inv.DF {t':Nat} {ch:List Addr} (I:Inv X pins σ H s) (k:∀b o,b∉ch->s.heap.get? b=some o->h'.get? b=some o) (hf:∀b∈ch,mZ X pins H b):Inv X pins σ H {s with heap:=h',toks:=t'}:=by
 have nit:∀b u,H b=some u->b∉ch:=λb u e z=>by
  have q:=(hf b z).1;rw[q] at e;cases e
 refine I.step (g':=s.gens) (d':=s.drawn) (ch:=ch) (λb hb=>⟨(hf b hb).2.2.2.1,(hf b hb).2.1,(hf b hb).2.2.2.2.1,(hf b hb).2.2.2.2.2⟩) (λb o _ _ hc e _=>k b o hc e) (λb o _ _ hc e _=>⟨o.slots,k b o hc e⟩)
  (λ_ _ _ _ n=>n) (λb o hc e=>⟨o,k b o hc e⟩) (λ_ _ e=>e) (λ_ _ _ e=>e) (λb ps e=>⟨#[],by rw[e];simp⟩) (λm hm=>?_) (λb u e=>?_) I.bare
 · obtain⟨o,es,ep,ho,r⟩:=hm;exact⟨o,es,ep,k _ o (λz=>(hf _ z).2.1 rfl) ho,r⟩
 · refine (I.bw b u e).kH (λc v hc q=>k c v ?_ q) (λ_ q=>q) λ_ _ q=>q;rcases hc with z|z
   · rw[z];exact nit b u e
   · exact nit c _ z
theorem Inv.qS {t':Nat}{ch:List Addr}{T:Addr}{ob:HO}(I:Inv X pins σ H s)(k:∀b o,b∉ch->s.heap.get? b=some o->h'.get? b=some o)(hf:∀b∈ch,mZ X pins H b)(hT:s.heap.objs.size<=T)
  (new:bN X.prog X.w (upd H T ob) h' T ob):Inv X pins σ (upd H T ob) {s with heap:=h',toks:=t'}:=by
 have hn:H T=none:=I.bw.fresh hT;have nit:∀b u,H b=some u->b∉ch:=λb u e z=>by
  have q:=(hf b z).1;rw[q] at e;cases e
 refine I.step (g':=s.gens) (d':=s.drawn) (ch:=ch) (λb hb=>⟨(hf b hb).2.2.2.1,(hf b hb).2.1,(hf b hb).2.2.2.2.1,(hf b hb).2.2.2.2.2⟩) (λb o _ _ hc e _=>k b o hc e) (λb o _ _ hc e _=>⟨o.slots,k b o hc e⟩)
  (λb o _ e n=>?_) (λb o hc e=>⟨o,k b o hc e⟩) (λb xs e=>?_) (λb o u e=>?_) (λb ps e=>⟨#[],?_⟩) (λm hm=>?_) (λb u e=>?_) I.bare
 · rw[aq (L0 (L5 (LA e) hT))];exact n
 · rw[aq (ao e hn)];exact e
 · rw[aq (ao e hn)];exact e
 · rw[aq (ao e hn),e];simp
 · obtain⟨o,es,ep,ho,r⟩:=hm;exact⟨o,es,ep,k _ o (λz=>(hf _ z).2.1 rfl) ho,r⟩
 · by_cases hb:b=T
   · subst hb;rw[ae] at e;cases e;exact new
   · rw[aq hb] at e;refine (I.bw b u e).kH (λc v hc q=>k c v ?_ q) (λc q=>by rw[aq (ao q hn)];exact q) λc xs q=>by rw[aq (ao q hn)];exact q
     rcases hc with z|z
     · rw[z];exact nit b u e
     · exact nit c _ z
end
section
variable {X:Cx}
theorem xB {tg:Expr} {pins:Of} {σ:St} {H:Hp} {s:Shared} {R:It->Hp->Prop} {J:It} {tn:Nat->Heap->Prop} {tk:Nat} (I:Inv X pins σ H s) (o:Obj)
  (T:Turn X.prog X.w X.K tg J [s.heap.objs.size] s.heap.objs.size tn) (st:tn 0 (s.heap.push o)) (q:R J H):KN X pins σ tg R (.ref s.heap.objs.size) {s with heap:=s.heap.push o,toks:=tk}:=by
 refine⟨s.heap.objs.size,[s.heap.objs.size],tn,J,H,rfl,I.kept λb ob e=>Lq _ e,T,st,λb hb=>?_,q⟩;have e:b=s.heap.objs.size:=by simpa using hb
 subst e;exact I.v8 (Lx _) (I.bw.fresh (Lx _))
end
def HZ (lo c:Int)(n:Nat):It:=⟨λi _=>i < n,λi H x H'=>H'=H/\x=.int (lo+(i:Nat)*c),λi _=>n<=i⟩
theorem vG {P:Program}{w:World}{K:Oc}{tg:Expr}(it:Addr)(lo c:Int)(n:Nat):Turn P w K tg (HZ lo c n) [it] it (λi h=>IsRangeIter h it (lo+(i:Nat)*c) ((n:Int) - (i:Nat)) c) where
 mem:=by simp
 obj:=λi h st b hb=>by
  have e:b=it:=by simpa using hb
  subst e;exact⟨_,st,λv z=>nomatch z⟩
 keep:=λi h h' st k=>k it (by simp) _ st
 item:=by
  intro X hP hw hK hc i pins s σ H E I hf st hg;subst hP hw hK;obtain⟨f0,f1,f2,f3,f4,f5⟩:=hf it (by simp);have W:=Walks.range (prog:=X.prog) (w:=X.w) (I.ok.hd hc) it lo c n;refine W.item i s _ _ hg st λv h' tk hv st' kk=>?_;obtain⟨t,rfl⟩:=hv;have I1:Inv X pins σ H {s with heap:=h',toks:=tk}:=I.turned (λb o hb e=>kk b o (by simpa using hb) e) f0 f1 f3 f4 f5;exact⟨_,rfl,uE (s:={s with heap:=h',toks:=tk}) (n:="range_iterator") st' rfl rfl (by decide) ⟨.int (lo+(i:Nat)*c),H,I1,⟨t,rfl⟩,⟨rfl,rfl⟩,st',λb hb=>(hf b hb).1⟩⟩
 done:=by
  intro X hP hw hK hc i pins s σ H E I hf st hg;subst hP hw hK;obtain⟨f0,f1,f2,f3,f4,f5⟩:=hf it (by simp);exact wpAny_pyNext_range_end (I.ok.hd hc) st (by have:n<=i:=hg;omega) λh' eb=>⟨rfl,I.turned (t':=s.toks) (λb o hb e=>eb b o hb e) f0 f1 f3 f4 f5⟩
 self:=λA i s Q E st h=>wpAny_pyIter_rangeiter st h
def Jo (i j c:Int)(n:Nat):Prop:=c≠0/\c.natAbs < 1073741824/\Builtin.Range.small i j c=true/\Builtin.Range.rangeSize i j c=n
theorem Jo.neg {i j:Int}(ha:-(2 ^ 62)<=i)(ha':i < 2 ^ 62)(hb:-(2 ^ 62)<=j)(hb':j < 2 ^ 62):Jo i j (-1) (i - j).toNat :=
 ⟨by decide,by decide,PySem.W.small_down ha ha' hb hb',PySem.W.rangeSize_downNat i j⟩
def Fi (ta:TA):TI:=λσ H R=>ta σ H λvs H1=>∃(i j c:Int) (n:Nat),vs=[.int i,.int j,.int c]/\Jo i j c n/\R (HZ i c n) H1
section
variable {X:Cx}{tg:Expr}
theorem qU {a b c:Expr} {ta:TA} {p pos:Pos} (hg:Gl X "range") (hm:X.mg "range"=none) (ha:PA X [a,b,c] ta)
  (hs:starEach [a,b,c] X.env=(false,eval a X.env)::starEach [b,c] X.env:=by rfl) (hpl:(backTo pos (starEach [b,c] X.env)).any (·.1)=false:=by rfl) :
  PI X tg (.Call (.Name "range" p) [a,b,c] [] pos) (Fi ta):=by
 intro pins s σ H R I h;refine Call_ (lj I hg hm boot_range (MO (bB (ha pos pins s σ H _ I h) λus s1 ⟨vs,H1,I1,r1,q1⟩=>?_) hs hpl));obtain⟨i,j,k,n,e,⟨c0,c1,c2,c3⟩,q⟩:=q1;subst e;cases r1 with
 |cons r rr =>
  cases rr with
  |cons r' rr =>
   cases rr with
   |cons r'' rr =>
    cases rr;obtain⟨t,rfl⟩:=r;obtain⟨t',rfl⟩:=r';obtain⟨t'',rfl⟩:=r'';refine call_range_3 c0 ?_ (.inl (PyProof.noPylong_small c1));refine wpAny_pyIter_range (IsRange.new ..) c2 ?_;have I2:Inv X pins σ H1 {s1 with heap:=s1.heap.push {cls:=.type "range",data:=.fields #[.int i t,.int j t',.int k t'']}}:=I1.kept (t':=s1.toks) λb o e=>Lq _ e;refine xB (tk:=s1.toks) I2 _ (vG _ i k n) ?_ q;have e1:i+((0:Nat):Int)*k=i:=by simp
    have e2:(n:Int) - ((0:Nat):Int)=Builtin.Range.rangeSize i j k:=by rw[c3];simp
    show IsRangeIter _ _ (i+((0:Nat):Int)*k) ((n:Int) - ((0:Nat):Int)) k;rw[e1,e2];exact LD _ rfl
end
theorem p_ {lo c:Int}{n:Nat}{g:TG}{tb:TS}{D:Ends}{σ:St}{H:Hp}(Pv:Nat->St->Hp->Prop)(h0:Pv 0 σ H)
  (hs:∀i σ H,i < n->Pv i σ H->g (.int (lo+(i:Nat)*c)) σ H λσ2 H2=>tb {D with nx:=Pv (i+1),ct:=Pv (i+1),bk:=D.nx} σ2 H2)(hd:∀σ H,Pv n σ H->D.nx σ H) :
  ∃W:Nat->Nat->St->Hp->Prop,(∃m,W 0 m σ H)/\∀i m σ H,W i m σ H ->
   ((HZ lo c n).stop i H/\D.nx σ H)∨((HZ lo c n).go i H/\∃N:St->Hp->Prop,(∀σ' H',N σ' H'->∃m',m' < m/\W (i+1) m' σ' H')/\∀x H',(HZ lo c n).vU i H x H'->g x σ H' λσ2 H2=>tb {D with nx:=N,ct:=N,bk:=D.nx} σ2 H2):=by
 refine⟨λi m σ H=>m=n - i/\i<=n/\Pv i σ H,⟨n,by simp,LV _,h0⟩,?_⟩;rintro i m σ H ⟨rfl,hi,p⟩;by_cases hlt:i < n
 · refine .inr ⟨hlt,Pv (i+1),λσ' H' p'=>⟨n - (i+1),by omega,rfl,hlt,p'⟩,λx H' y=>?_⟩;obtain⟨e,y⟩:=y;subst e y;exact hs i σ _ hlt p
 · have e:i=n:=by omega
   subst e;exact .inl ⟨Lx _,hd σ H p⟩
section
variable {X:Cx}{tg:Expr}
end
def JA (x:Str):It:=⟨λi _=>i < x.cps.size,λi H v H'=>H'=H/\∃c,x.cps[i]?=some c/\v=.str ⟨#[c]⟩,λi _=>x.cps.size<=i⟩
theorem vC {P:Program}{w:World}{K:Oc}{tg:Expr}(it:Addr)(x:Str)(t:Tok)(ty:String)(hty:ty="str_ascii_iterator"∨ty="str_iterator") :
  Turn P w K tg (JA x) [it] it (λi h=>h.IsStrIter it ty x t i) where
 mem:=by simp
 obj:=λi h st b hb=>by
  have e:b=it:=by simpa using hb
  subst e;obtain⟨o,e,c,d⟩:=st;exact⟨o,e,λv z=>by rw[d] at z;cases z⟩
 keep:=λi h h' st k=>let ⟨o,ho,r⟩:=st;⟨o,k it (by simp) o ho,r⟩
 item:=by
  intro X hP hw hK hc i pins s σ H E I hf st hg;subst hP hw hK;obtain⟨f0,f1,f2,f3,f4,f5⟩:=hf it (by simp);have W:Walks X.prog X.w X.A it [it] [it] x.cps.size (SignAt x) (λi h=>h.IsStrIter it ty x t i):=by
   rcases hty with e|e
   · rw[e];exact Walks.strAscii (I.ok.hd hc) it x t
   · rw[e];exact Walks.strWide (I.ok.hd hc) it x t
  have hno:["enumerate","zip","dict_itemiterator","dict_reverseitemiterator","odict_iterator","itertools.zip_longest","itertools.pairwise"].contains ty=false:=by
   rcases hty with e|e
   · rw[e];decide
   · rw[e];decide
  refine W.item i s _ _ hg st λv h' tk hv st' kk=>?_;obtain⟨c,u,hcx,rfl⟩:=hv;have I1:Inv X pins σ H {s with heap:=h',toks:=tk}:=I.turned (λb o hb e=>kk b o (by simpa using hb) e) f0 f1 f3 f4 f5;obtain⟨oi,e,cc,dd⟩:=id st';exact⟨_,rfl,uE (s:={s with heap:=h',toks:=tk}) e cc dd hno ⟨.str ⟨#[c]⟩,H,I1,⟨u,rfl⟩,⟨rfl,c,hcx,rfl⟩,st',λb hb=>(hf b hb).1⟩⟩
 done:=by
  intro X hP hw hK hc i pins s σ H E I hf st hg;subst hP hw hK;obtain⟨f0,f1,f2,f3,f4,f5⟩:=hf it (by simp);have hx:x.cps[i]?=none:=Array.getElem?_eq_none hg;rcases hty with e|e
  · rw[e] at st;exact wpAny_pyNext_ascii_end (I.ok.hd hc) st hx λh' eb=>⟨rfl,I.turned (t':=s.toks) (λb o hb e=>eb b o hb e) f0 f1 f3 f4 f5⟩
  · rw[e] at st;exact wpAny_pyNext_wide_end (I.ok.hd hc) st hx λh' eb=>⟨rfl,I.turned (t':=s.toks) (λb o hb e=>eb b o hb e) f0 f1 f3 f4 f5⟩
 self:=λA i s Q E st h=>by
  rcases hty with e|e
  · rw[e] at st;exact wpAny_pyIter_striter_ascii st h
  · rw[e] at st;exact wpAny_pyIter_striter_wide st h
def Kq (te:TE):TI:=λσ H R=>te σ H λv H1=>∃x,v=.str x/\R (JA x) H1
theorem HS {X:Cx}{tg e:Expr}{te:TE}(he:PE X e te):PI X tg e (Kq te):=by
 intro pins s σ H R I h;refine bB (he pins s σ H _ I h) λv s1 ⟨y,H1,I1,r1,x,ex,q⟩=>?_;subst ex;obtain⟨t,rfl⟩:=r1;cases ha:x.cps.all (· < 128)
 · exact wpAny_pyIter_wide ha (xB (tk:=s1.toks) I1 _ (vC _ x t "str_iterator" (.inr rfl)) ⟨_,LD _ rfl,rfl,rfl⟩ q)
 · exact wpAny_pyIter_ascii ha (xB (tk:=s1.toks) I1 _ (vC _ x t "str_ascii_iterator" (.inl rfl)) ⟨_,LD _ rfl,rfl,rfl⟩ q)
section
variable {prog:Program}{w:World}{A:Around}{E:Od}{s:Shared}
theorem zR {d:Addr} {o:Obj} {es:Array DictEntry} {ep:Nat} {Q:Od} (hd:(d==sysModules)=false) (ho:s.heap.get? d=some o) (hc:o.ExactDict) (hdat:o.data=.dict es ep)
  (hQ:Q (.ref s.heap.objs.size) {s with heap:=s.heap.push {cls:=.type "dict_keyiterator",data:=.fields #[.ref d,.int 0 0,.int es.size 0,.int ep 0]}}) :
  wpAny (model prog w) A (pyIter (.ref d)) Q E s:=by
 have hT:s.TypeIs (.ref d) "dict":=⟨o,ho,hc.1⟩;refine wpAny_pyIter_slot hT F.slot_dict_iter (MJ F.slot_dict_iter hT F.entry_dict_iter ?_ (F.args_dict_iter_1 _));unfold Builtin.«dict.__iter__»;refine Lm ?_;unfold Builtin.Dict.dictSlotNone;refine Lm (wpAny_notOrdered_dict hT ?_);show wpAny _ _ (pure (Value.ref d)) _ _ s;refine Lu ?_;show wpAny _ _ (Builtin.Dict.showsAll d >>= _) _ _ s;unfold Builtin.Dict.showsAll;rw[Lo (by rw[hd];exact LN)];refine Lm (Lu ?_);refine Lm (wpAny_dictEntries ho hdat ?_);refine Lm (wpAny_dictEpoch ho hdat ?_);refine Lm (MP (Lu ⟨_,rfl,"dict_keyiterator",_,⟨_,LD _ rfl,rfl⟩,MY.lookup,?_⟩));simpa [rawInt] using hQ
theorem qL {it d:Addr}{i n ep:Nat}{od:Obj}{es:Array DictEntry}{en:DictEntry}{Q:Option Value->Shared->Prop}(hit:s.heap.IsKeyIter it d i n ep)(hod:s.heap.get? d=some od)(hdd:od.data=.dict es ep)
  (hsz:es.size=n)(hx:es[i]?=some en)(hQ:∀h',h'.IsKeyIter it d (i+1) n ep->Heap.SameBut it s.heap h'->Q (some en.key) {s with heap:=h'}):wpAny (model prog w) A (pyNext (.ref it)) Q E s:=by
 obtain⟨o,ho,hc,hd⟩:=id hit;unfold pyNext;refine Lm (wpAny_attempt (MD (name:=Str.ofString "__next__") hit.typeIs MY
  (MJ MY hit.typeIs F.entry_dict_keyiterator_next ?_ (F.args_dict_keyiterator_next_1 _))))
 refine Lm (Lu ?_);refine Lm ?_;refine Lm ?_
 first|refine Lm (Nh hit.typeIs (Lu ?_))|refine Lm (NA hit.typeIs (Lu ?_))
 refine Lm (wpAny_fieldsOf ho hd ?_);have hown:Builtin.Dict_items.ownsTuple "dict_keyiterator"=false:=by decide
 simp only[hown,MN,Nm];show wpAny _ _ (if (Value.ref d==Value.none)=true then _ else _) _ _ s;rw[Lo (show ¬((Value.ref d==Value.none)=true) from LN)];refine Lm (Lu ?_);refine Lm (wpAny_dictEntries hod hdd ?_);rw[Lo (by rw[hsz];simp)];refine Lm (Lu ?_);refine Lm (wpAny_dictEpoch hod hdd ?_);rw[Lo (by simp)];refine Lu ?_;obtain⟨hlt',hen⟩:=Array.getElem?_eq_some_iff.mp hx;simp only[show ¬((i:Int) < 0) from by omega,Nm,L9,Array.getElem?_eq_getElem hlt'];refine Lm ?_
 first|refine Lm (Nh hit.typeIs (Lu ?_))|refine Lm (NA hit.typeIs (Lu ?_))
 refine Lm (wpAny_isOneOf_keyiter hit.typeIs ?_);show wpAny _ _ (setField (.ref it) 1 (rawInt ((i:Int)+1)) >>= _) _ _ s;refine Lm (wpAny_setField ho hd (by simp) ?_);have hit':(s.heap.update it (Obj.mapFields (·.setIfInBounds 1 (rawInt ((i:Int)+1))))).IsKeyIter it d (i+1) n ep :=
  ⟨_,Mn _ ho (Obj.isFreed_of_fields (Obj.data_mapFields hd _)),(Obj.cls_mapFields ..).trans hc,by rw[Obj.data_mapFields hd];simp[rawInt]⟩
 refine Lm (Np ?_);refine Lm (wpAny_isOneOf_keyiter (s:={s with heap:=s.heap.update it (Obj.mapFields (·.setIfInBounds 1 (rawInt ((i:Int)+1))))}) hit'.typeIs ?_);show wpAny _ _ (pure es[i].key) _ _ _;rw[hen];exact Lu (Lu ⟨_,rfl,Lu (hQ _ hit' (LO ..))⟩)
theorem sF {it d:Addr}{i n ep:Nat}{od:Obj}{es:Array DictEntry}{Q:Option Value->Shared->Prop}(hh:A.handled=none)(hit:s.heap.IsKeyIter it d i n ep)(hod:s.heap.get? d=some od)(hdd:od.data=.dict es ep)
  (hsz:es.size=n)(hge:n<=i)(hQ:∀h',Heap.ExtBut it s.heap h'->Q none {s with heap:=h'}):wpAny (model prog w) A (pyNext (.ref it)) Q E s:=by
 obtain⟨o,ho,hc,hd⟩:=id hit;unfold pyNext;refine Lm (wpAny_attempt (MD (name:=Str.ofString "__next__") hit.typeIs MY
  (MJ MY hit.typeIs F.entry_dict_keyiterator_next ?_ (F.args_dict_keyiterator_next_1 _))))
 refine Lm (Lu ?_);refine Lm ?_;refine Lm ?_
 first|refine Lm (Nh hit.typeIs (Lu ?_))|refine Lm (NA hit.typeIs (Lu ?_))
 refine Lm (wpAny_fieldsOf ho hd ?_);have hown:Builtin.Dict_items.ownsTuple "dict_keyiterator"=false:=by decide
 simp only[hown,MN,Nm];show wpAny _ _ (if (Value.ref d==Value.none)=true then _ else _) _ _ s;rw[Lo (show ¬((Value.ref d==Value.none)=true) from LN)];refine Lm (Lu ?_);refine Lm (wpAny_dictEntries hod hdd ?_);rw[Lo (by rw[hsz];simp)];refine Lm (Lu ?_);refine Lm (wpAny_dictEpoch hod hdd ?_);rw[Lo (by simp)];refine Lu ?_;have hge':es.size<=i:=by rw[hsz];exact hge
 simp only[show ¬((i:Int) < 0) from by omega,Nm,L9,Array.getElem?_eq_none hge'];refine Lm ?_
 first|refine Lm (Nh hit.typeIs (Lu ?_))|refine Lm (NA hit.typeIs (Lu ?_))
 show wpAny _ _ (setField (.ref it) 0 .none >>= _) _ _ s;refine Lm (wpAny_setField ho hd (by simp) ?_);show wpAny _ _ (newExc (.type "StopIteration") [] >>= _) _ _ _;refine Lm ?_;simp only[newExc,newTuple];refine Lm (MP ?_ (by size_fits));refine Lm (m:=firstArgMember _ _) (wpAny_of_eq (a:=Value.none) (by first|rfl|(simp only[firstArgMember];rfl)) ?_);refine MP ?_ (by size_fits);simp only[raiseNew];refine Lm (wpAny_handled ?_);rw[show A.in1.handled=none from hh];refine Lm (Lu (wpAny_throw ?_));refine Lm (wpAny_isInstance (T:="StopIteration") (b:=true) ⟨_,LD _ rfl,rfl⟩ isSubtype_stop ?_);exact Lu (hQ _ (((LO ..).extBut.push _).push _))
end
theorem wD {α β:Type}{G:α->β->Prop}{l₁:List α}{l₂:List β}(h:Paired G l₁ l₂):∀{i:Nat} {a:α},l₁[i]?=some a->∃b,l₂[i]?=some b/\G a b:=by
 induction h with
 |nil=>intro i a e;simp at e
 |@cons a b l₁ l₂ r t ih =>
  intro i a' e;cases i with
  |zero =>
   simp only[List.getElem?_cons_zero,Option.some.injEq] at e;subst e;exact⟨b,rfl,r⟩
  |succ j =>
   simp only[List.getElem?_cons_succ] at e ⊢;exact ih e
section
variable {X:Cx}{pins:Of}{σ:St}{H:Hp}{s:Shared}{d:Addr}{o:Obj}
end
section
variable {P:Program}{w:World}{K:Oc}{tg:Expr}{d:Addr}{o:Obj}{es:Array DictEntry}{ep:Nat}
end
section
variable {X:Cx}{tg e:Expr}{td:TE}{apos cpos:Pos}
end
def Fx (K:Oc)(a:Addr):It :=
 ⟨λi H=>∃(xs:List V) (x:V),aS K H a xs/\xs[i]?=some x,λi H v H'=>∃T x,v=.ref T/\H T=none/\H'=upd H T (.tup [.int (i:Nat),x])/\∀xs,aS K H a xs->xs[i]?=some x,λi H=>∃xs:List V,aS K H a xs/\xs.length<=i⟩
theorem Ac {P:Program}{w:World}{K:Oc}{elts:List Expr}{kk:Nat}{tpos:Pos}(a e it:Addr) :
  Turn P w K (.Tuple elts kk tpos) (Fx K a) [e,it] e (λi h=>(∃old,IsEnum h e it ((i:Nat):Int) old)/\h.IsListIter it a i/\e≠it) where
 mem:=by simp
 obj:=λi h st b hb=>by
  obtain⟨⟨old,he⟩,⟨o,ho,hc,hd⟩,_⟩:=st;have e':b=e∨b=it:=by simpa using hb
  rcases e' with z|z
  · rw[z];exact⟨_,he,λv q=>nomatch q⟩
  · rw[z];exact⟨o,ho,λv q=>by rw[hd] at q;cases q⟩
 keep:=λi h h' st k=>let ⟨⟨old,he⟩,hi,hne⟩:=st;⟨⟨old,k e (by simp) _ he⟩,hi.at λo q=>k it (by simp) o q,hne⟩
 item:=by
  intro X hP hw hK hc i pins s σ H E I hf st hg;subst hP hw hK;obtain⟨⟨old,he⟩,hit,hne⟩:=st;obtain⟨xs,x,hq,hx⟩:=hg;obtain⟨its,rv,p,hz⟩:=I.list hq;obtain⟨u,hu,ru⟩:=rv.get hx;have hel:e < s.heap.objs.size:=LA he;have hil:it < s.heap.objs.size:=by obtain⟨_,q,_⟩:=hit;exact LA q
  refine wpAny_pyNext_enum_item he hit p.isList (x:=u) (by simpa using hu) hne λh' ho hit' hT hsz hk=>?_;refine⟨_,rfl,wpAny_letOwnedTupleGo_enum (s:={s with heap:=h',toks:=s.toks+1}) ho λh'' he' sb=>?_⟩;have hT2:h''.get? s.heap.objs.size=some {cls:=.type "tuple",data:=.seq #[.int i s.toks,u]}:=(sb.2 _ (Nat.ne_of_gt hel)).trans hT;have new:bN X.prog X.w (upd H s.heap.objs.size (.tup [.int (i:Nat),x])) h'' s.heap.objs.size (.tup [.int (i:Nat),x]) :=
   ⟨by show 2<=sizeLine;decide,[.int i s.toks,u],.cons ⟨_,rfl⟩ (.cons ru .nil),⟨_,hT2,rfl,_,rfl⟩⟩
  have I1:Inv X pins σ (upd H s.heap.objs.size (.tup [.int (i:Nat),x])) {s with heap:=h'',toks:=s.toks+1} :=
   I.qS (ch:=[e,it]) (λb ob hb q=>(sb.2 b (λz=>hb (by simp[z]))).trans (hk b ob (λz=>hb (by simp[z])) (λz=>hb (by simp[z])) q)) hf (Lx _) new
  refine⟨.ref s.heap.objs.size,_,I1,rfl,⟨_,x,rfl,I.bw.fresh (Lx _),rfl,λys hy=>by rw[I.qD hy hq];exact hx⟩,⟨⟨u,?_⟩,hit'.at λo q=>(sb.2 it (N4 hne)).trans q,hne⟩,λb hb=>?_⟩
  · have e1:((i+1:Nat):Int)=(i:Int)+1:=by omega
    rw[e1];exact he'
  · have hb':b < s.heap.objs.size:=by
     have e':b=e∨b=it:=by simpa using hb
     rcases e' with z|z
     · rw[z];exact hel
     · rw[z];exact hil
    rw[aq (L0 hb')];exact (hf b hb).1
 done:=by
  intro X hP hw hK hc i pins s σ H E I hf st hg;subst hP hw hK;obtain⟨⟨old,he⟩,hit,hne⟩:=st;obtain⟨xs,hq,hx⟩:=hg;obtain⟨its,rv,p,hz⟩:=I.list hq;obtain⟨f0,f1,f2,f3,f4,f5⟩:=hf it (by simp);have hl:=rv.length;exact wpAny_pyNext_enum_end (I.ok.hd hc) he hit p.isList (by simp;omega) λh' eb=>⟨rfl,I.turned (t':=s.toks) (λb o hb q=>eb b o hb q) f0 f1 f3 f4 f5⟩
 self:=λA i s Q E st h=>let ⟨⟨_,he⟩,_⟩:=st;wpAny_pyIter_enum he h
def Ji (K:Oc)(ta:TA):TI:=λσ H R=>ta σ H λvs H1=>∃a xs,vs=[.ref a]/\aS K H1 a xs/\R (Fx K a) H1
theorem tq {X:Cx}{e:Expr}{ta:TA}{p pos tpos:Pos}{elts:List Expr}{kk:Nat}(hg:Gl X "enumerate")(hm:X.mg "enumerate"=none)(ha:PA X [e] ta)(hs:starEach [e] X.env=[(false,eval e X.env)]:=by rfl) :
  PI X (.Tuple elts kk tpos) (.Call (.Name "enumerate" p) [e] [] pos) (Ji X.K ta):=by
 intro pins s σ H R I h;refine Call_ (lj I hg hm boot_enumerate (MO (bB (ha pos pins s σ H _ I h) λus s1 ⟨vs,H1,I1,r1,q1⟩=>?_) hs rfl));obtain⟨a,xs,ex,hq,q⟩:=q1;subst ex;cases r1 with
 |cons r rr =>
  cases rr;cases r;obtain⟨its,rv,p',hz⟩:=I1.list hq;refine call_enumerate_list p'.isList λh' he hit hsz hk=>wpAny_pyIter_enum he ?_;have I2:Inv X pins σ H1 {s1 with heap:=h'}:=I1.kept (t':=s1.toks) hk;refine⟨s1.heap.objs.size+1,[s1.heap.objs.size+1,s1.heap.objs.size],_,_,H1,rfl,I2,Ac a (s1.heap.objs.size+1) s1.heap.objs.size,⟨⟨.none,he⟩,hit,Nat.succ_ne_self _⟩,λb hb=>?_,q⟩;have e':b=s1.heap.objs.size+1∨b=s1.heap.objs.size:=by simpa using hb
  have hle:s1.heap.objs.size<=b:=by
   rcases e' with z|z
   · rw[z];exact NT _ _
   · rw[z];exact Lx _
  exact I1.v8 hle (I1.bw.fresh hle)
theorem Am:bootBuiltins "zip"=some (.type "zip"):=by decide +kernel
end L2
section
namespace Bits
open PySem PyProof.Rows
end Bits
end
section
namespace TL
open PySem PySem.Builtin PySem.Builtin.Str PySem.StrLaws
abbrev tl (x:Str):Ob:=x.cps.toList
theorem lF (x:Str):x.length=(tl x).length:=by simp[tl,Str.length]
theorem wj {x y:Str}(h:tl x=tl y):x=y:=Str.ext' (Array.toList_inj.mp h)
theorem rk (x y:Str):tl (x++y)=tl x++tl y:=by
 show (x++y).cps.toList=_;rw[Str.cps_append,Array.toList_append]
theorem qy:∀{l m:List Str},l.map tl=m.map tl->l=m
 |[],[],_=>rfl
 |[],_::_,h=>by simp at h
 |_::_,[],h=>by simp at h
 |x::l,y::m,h=>by
  rw[LF,LF] at h;injection h with h1 h2;rw[wj h1,qy h2]
theorem gR (s:String):tl (Str.ofString s)=s.toList.map Char.toNat:=PyProof.Rows.signs_ofString s
def pre (S l:Ob):Bool:=l.take S.length==S
def nI (S:Ob):Nat->Ob->Ob->Oa
 |_,acc,[]=>[acc]
 |0,acc,c::r=>if pre S (c::r)=true then acc::nI S (S.length - 1) [] r else nI S 0 (acc++[c]) r
 |k+1,acc,_::r=>nI S k acc r
theorem oo (S:Ob)(k:Nat)(acc:Ob):nI S k acc []=[acc]:=by cases k <;> rfl
theorem yf {S acc r:Ob}{c:Nat}(h:pre S (c::r)=true):nI S 0 acc (c::r)=acc::nI S (S.length - 1) [] r:=by
 show (if pre S (c::r)=true then acc::nI S (S.length - 1) [] r else nI S 0 (acc++[c]) r)=_;rw[Lp h]
theorem uD {S acc r:Ob}{c:Nat}(h:pre S (c::r)=false):nI S 0 acc (c::r)=nI S 0 (acc++[c]) r:=by
 show (if pre S (c::r)=true then acc::nI S (S.length - 1) [] r else nI S 0 (acc++[c]) r)=_;rw[Lo (by rw[h];exact LN)]
theorem vI (S:Ob):∀(k:Nat) (acc l:Ob),nI S k acc l=nI S 0 acc (l.drop k)
 |0,_,_=>by rw[List.drop_zero]
 |k+1,acc,[]=>by rw[List.drop_nil,oo,oo]
 |k+1,acc,c::r=>by
  show nI S k acc r=nI S 0 acc (r.drop k);exact vI S k acc r
theorem mB {S:Ob}(hS:S≠[]):pre S []=false:=by
 cases S with
 |nil=>exact absurd rfl hS
 |cons s S=>rfl
theorem vQ {s c:Nat}(S r:Ob)(h:c≠s):pre (s::S) (c::r)=false:=by
 cases hp:pre (s::S) (c::r) with
 |false=>rfl
 |true =>
  have e:(c::r).take (s::S).length=s::S:=MR hp;rw[Lz,List.take_succ_cons] at e;injection e with e1 e2;exact absurd e1 h
theorem mH {L:Ob}{a:Nat}(h:a < L.length):∃c,L.drop a=c::L.drop (a+1):=⟨L[a],MK h⟩
theorem sJ (S L:Ob):∀(m a:Nat) (acc:Ob),a+m<=L.length->(∀k,a<=k->k < a+m->pre S (L.drop k)=false) ->
  nI S 0 acc (L.drop a)=nI S 0 (acc++(L.drop a).take m) (L.drop (a+m))
 |0,a,acc,_,_=>by rw[List.take_zero,Mq,Nat.add_zero]
 |m+1,a,acc,h,hn=>by
  have hlt:a < L.length:=by omega
  obtain⟨c,e⟩:=mH hlt;have h0:=hn a (Lx _) (by omega);have ih:=sJ S L m (a+1) (acc++[c]) (by omega) (λk h1 h2=>hn k (by omega) (by omega));have e2:a+1+m=a+(m+1):=by omega
  rw[e2] at ih;rw[e] at h0;rw[e,uD h0,ih,List.take_succ_cons,MQ] <;> rfl
theorem BC (L:Ob)(a b:Nat):(L.drop a).drop b=L.drop (a+b):=by
 first
  |rw[List.drop_drop]
  |rw[List.drop_drop,Nat.add_comm]
theorem G9 {S L:Ob}(hS:S≠[]){c:Nat}{acc:Ob}(h:pre S (L.drop c)=true):nI S 0 acc (L.drop c)=acc::nI S 0 [] (L.drop (c+S.length)):=by
 rw[←BC];cases e:L.drop c with
 |nil=>rw[e,mB hS] at h;cases h
 |cons d r =>
  rw[e] at h;rw[yf h,vI];cases S with
  |nil=>exact absurd rfl hS
  |cons s S=>rfl
theorem BQ {x y:Str}(hy:tl y≠[])(i:Nat):At x y x.length i↔pre (tl y) ((tl x).drop i)=true:=by
 have hx:=lF x;have hl:=lF y;constructor
 · intro h;have h2:=h.2;rw[subAt_eq,hl] at h2;exact h2
 · intro h;have e:((tl x).drop i).take (tl y).length=tl y:=MR h;have e1:=Mu List.length e;rw[LM,Mf] at e1;have e2:0 < (tl y).length:=Ms.mpr hy;refine⟨by omega,?_⟩;rw[subAt_eq,hl];exact h
theorem FV {x y:Str}(hy:tl y≠[]){i:Nat}(h:¬At x y x.length i):pre (tl y) ((tl x).drop i)=false:=by
 cases hp:pre (tl y) ((tl x).drop i) with
 |false=>rfl
 |true=>exact absurd ((BQ hy i).mpr hp) h
theorem Ki {y:Str}(hy:tl y≠[]):1<=y.length:=by
 have e2:0 < (tl y).length:=Ms.mpr hy;rw[lF y];exact e2
theorem sh (x:Str)(i j:Nat):tl (strSub x i j)=((tl x).drop i).take (j - i):=strSub_toList x i j
theorem qJ (x:Str)(i:Nat):tl (strSub x i x.length)=(tl x).drop i:=by
 rw[sh,lF x];exact Mj (by rw[Mf] <;> omega)
theorem rM {x y:Str}(hy:tl y≠[]):∀(cuts:Ob) (a f:Nat),a<=(tl x).length->ChainG x y x.length a cuts f->(∀k,f<=k->¬At x y x.length k) ->
  (partsFrom x y.length a cuts).map tl=nI (tl y) 0 [] ((tl x).drop a)
 |[],a,f,ha,h,hn=>by
  have e:f=a:=h;subst e;show [tl (strSub x f x.length)]=_;have run:=sJ (tl y) (tl x) ((tl x).length - f) f [] (by omega) (λk h1 _=>FV hy (hn k h1));have e2:f+((tl x).length - f)=(tl x).length:=by omega
  rw[e2,Ng,oo,Mi,Mj (by rw[Mf] <;> omega)] at run;rw[run,qJ]
 |c::r,a,f,ha,h,hn=>by
  obtain⟨h1,h2,h3,h4⟩:=h;have hc:c+y.length<=x.length:=h2.1;have hx:=lF x;have hl:=lF y;have ih:=rM hy r (c+y.length) f (by omega) h4 hn;show tl (strSub x a c)::(partsFrom x y.length (c+y.length) r).map tl=_;have run:=sJ (tl y) (tl x) (c - a) a [] (by omega) (λk k1 k2=>FV hy (h3 k k1 (by omega)));have e2:a+(c - a)=c:=by omega
  rw[e2,Mi,G9 hy ((BQ hy c).mp h2)] at run;rw[run,ih,sh,hl]
theorem zT (x y:Str)(hy:tl y≠[])(hk:¬Builtin.Str.strKind x < Builtin.Str.strKind y):(Txt.split x y).map tl=nI (tl y) 0 [] (tl x):=by
 obtain⟨f,g,hn⟩:=occ_tight x y (Ki hy);have key:=rM hy _ 0 f (LV _) g hn;rw[List.drop_zero] at key;have none_case:occurrences x y 0 x.length (x.length+1)=[]->[x].map tl=nI (tl y) 0 [] (tl x):=λho=>by
  rw[ho] at key;rw[←key];show [tl x]=[tl (strSub x 0 x.length)];rw[sub_whole]
 unfold Txt.split;by_cases h1:(decide (x.length < y.length)||decide (Builtin.Str.strKind x < Builtin.Str.strKind y))=true
 · rw[Lp h1];have hlt:x.length < y.length:=by
    simp only[Mo,Lw] at h1;rcases h1 with h|h
    · exact h
    · exact absurd h hk
   refine none_case ?_;cases ho:occurrences x y 0 x.length (x.length+1) with
   |nil=>rfl
   |cons c r =>
    rw[ho] at g;have hc:c+y.length<=x.length:=g.2.1.1;omega
 · rw[Lo h1];by_cases h2:(occurrences x y 0 x.length (x.length+1)).isEmpty=true
   · rw[Lp h2];exact none_case (MZ.mp h2)
   · rw[Lo h2,partsBetween_eq];exact key
theorem EI {x y:Str}(h:y.cps.all (· < 256)=true):¬Builtin.Str.strKind x < Builtin.Str.strKind y:=by
 have e:Builtin.Str.strKind y=1:=by unfold PySem.Builtin.Str.strKind;rw[Lp h]
 rw[e];unfold PySem.Builtin.Str.strKind;split
 · omega
 · split <;> omega
def dJ (S:Ob):Oa->Ob
 |[]=>[]
 |[p]=>p
 |p::q::r=>p++(S++dJ S (q::r))
theorem yc (y:Str):∀parts:List Str,tl (Str.join y parts)=dJ (tl y) (parts.map tl)
 |[]=>rfl
 |[_]=>rfl
 |x::z::r=>by
  show tl (x++y++Str.join y (z::r))=tl x++(tl y++dJ (tl y) ((z::r).map tl));rw[rk,rk,yc y (z::r),MQ]
theorem join_eq (y:Str)(parts:List Str):Txt.join y parts=Str.join y parts:=glued_eq_join y parts
end TL
end
namespace L2
open PySem PySem.Spec PyProof.Rows
theorem rS:∀l:List (Str×Tok),Vals ((l.map (·.1)).map V.str) (strValues l)
 |[]=>.nil
 |p::r=>.cons ⟨p.2,rfl⟩ (rS r)
theorem iT:∀{ys:List Str} {us:Og},Vals (ys.map V.str) us->StrsAre us ys
 |[],_,.nil=>.nil
 |y::ys,_,.cons r t=>by
  obtain⟨k,rfl⟩:=r;exact .cons y k (iT t)
def qu (ys:List Str):Hp->VK->Prop:=λH Q=>∀p,H p=none->Q (.ref p) (upd H p (.lst (ys.map V.str)))
section
variable {X:Cx}{pins:Of}{σ:St}{H:Hp}{s:Shared}{Q:VK}
theorem mX {l:List (Str×Tok)} {ys:List Str} {k:Nat} (I:Inv X pins σ H s) (e:l.map (·.1)=ys) (hz:ys.length<=sizeLine) (h:qu ys H Q) :
  EP X pins σ Q (.ref s.heap.objs.size) {s with toks:=k,heap:=s.heap.push {cls:=.type "list",data:=.seq (strValues l).toArray}}:=by
 have hp:=I.bw.fresh (Lx _);refine⟨.ref s.heap.objs.size,upd H s.heap.objs.size (.lst (ys.map V.str)),I.laid (λb u q=>Lq _ q) (Lx _) ⟨by rw[Ln];exact hz,strValues l,_,?_,LD _ rfl⟩,rfl,h _ hp⟩;rw[←e];exact rS l
end
section
variable {X:Cx}
theorem AQ:Ba X "str.split" (λx xs H Q=>∃a b,x=.str a/\xs=[.str b]/\(b.length==0)=false/\a.length+2<=sizeLine/\qu (Txt.split a b) H Q):=by
 intro pins s σ H x xs v us Q I rx rs h;obtain⟨a,b,rfl,rfl,hb,hz,h⟩:=h;obtain⟨t,rfl⟩:=rx;cases rs with
 |cons r1 rs =>
  cases rs;obtain⟨u,rfl⟩:=r1;have hl:(Txt.split a b).length<=sizeLine:=Ma (PyProof.Rows.split_le a b) hz;have hn:(Builtin.Str.partsBetween a (Builtin.Str.occurrences a b 0 a.length (a.length+1)) b.length).length<=sizeLine:=by
   have e1:=StrLaws.occ_length_le a b 0 a.length (a.length+1);rw[length_partsBetween];omega
  cases h1:(decide (a.length < b.length)||decide (Builtin.Str.strKind a < Builtin.Str.strKind b))
  · cases hf:(Builtin.Str.occurrences a b 0 a.length (a.length+1)).isEmpty
    · refine call_meets F.slot_str_split (NR _ _ _) F.entry_str_split (F.args_str_split_2 _ _) (meets_str_split_sep a b t u h1 hb hf (by omega) hn) ?_;show EP X pins σ Q (.ref s.heap.objs.size) {s with toks:=_,heap:=s.heap.push {cls:=.type "list",data:=.seq (strsFrom s.toks (Builtin.Str.partsBetween a (Builtin.Str.occurrences a b 0 a.length (a.length+1)) b.length)).toArray}};rw[strsFrom_eq];exact mX (ys:=Txt.split a b) I ((numbered_texts _ _).trans ((Lo (ne_true_of_eq_false h1)).trans (Lo (ne_true_of_eq_false hf))).symm) hl h
    · refine call_meets F.slot_str_split (NR _ _ _) F.entry_str_split (F.args_str_split_2 _ _) (meets_str_split_not_found a b t u h1 hb hf) ?_;exact mX (l:=[(a,t)]) (ys:=Txt.split a b) (k:=s.toks) I ((Lo (ne_true_of_eq_false h1)).trans (Lp hf)).symm hl h
  · refine call_meets F.slot_str_split (NR _ _ _) F.entry_str_split (F.args_str_split_2 _ _) (meets_str_split_cannot_occur a b t u h1) ?_;exact mX (l:=[(a,t)]) (ys:=Txt.split a b) (k:=s.toks) I (Lp h1).symm hl h
theorem EO:Ba X "str.join" (λx xs H Q=>∃a p,∃ys:List Str,x=.str a/\xs=[.ref p]/\(aS X.K H p (ys.map V.str)∨bZ X.K H p (ys.map V.str)) /\
  (ys.map (·.length)).sum+ys.length*a.length<=16777216/\Q (.str (Txt.join a ys)) H):=by
 intro pins s σ H x xs v us Q I rx rs h;obtain⟨a,p,ys,rfl,rfl,hp,hz,h⟩:=h;obtain⟨t,rfl⟩:=rx;cases rs with
 |cons r1 rs =>
  cases rs;cases r1;rcases hp with hp|hp
  · obtain⟨its,r,⟨o,n,ho,hc,_,hd⟩,_⟩:=I.list hp;exact PyProof.Rows.join_list (items:=its.toArray) ⟨o,ho,hc,n,hd⟩ (by rw[List.toList_toArray];exact iT r) hz λt' k=>⟨.str _,H,I.tok k,⟨t',rfl⟩,h⟩
  · obtain⟨its,r,ht,_⟩:=I.tuple hp;exact PyProof.Rows.join_tuple (items:=its.toArray) ht (by rw[List.toList_toArray];exact iT r) hz λt' k=>⟨.str _,H,I.tok k,⟨t',rfl⟩,h⟩
theorem Lh {id:String}{C:Str->Prop}{g:Str->V}(rule:∀(a:Str) (t:Tok) (s:Shared) (Q:Od),C a->(∀(u:Value) (k:Nat),RelV (g a) u->Q u {s with toks:=k}) ->
  wpAny (model X.prog X.w) X.A (call (.builtin id) [.str a t]) Q X.xe s):Ba X id (λx xs H Q=>∃a,x=.str a/\xs=[]/\C a/\Q (g a) H):=by
 intro pins s σ H x xs v us Q I rx rs h;obtain⟨a,rfl,rfl,hc,h⟩:=h;obtain⟨t,rfl⟩:=rx;cases rs;exact rule a t s _ hc λu k r=>⟨g a,H,I.tok k,r,h⟩
theorem wA:Ba X "str.isdigit" (λx xs H Q=>∃a,x=.str a/\xs=[]/\True/\Q (.bl (Txt.isdigit a)) H) :=
 Lh (C:=λ_=>True) (g:=λa=>.bl (Txt.isdigit a)) λ_ _ s _ _ h=>PySem.SC.isdigit (h _ s.toks rfl)
theorem K1 {id:String}{g:Str->Str->V}(rule:∀(a b:Str) (t u:Tok) (s:Shared) (Q:Od),(∀(v:Value) (k:Nat),RelV (g a b) v->Q v {s with toks:=k}) ->
  wpAny (model X.prog X.w) X.A (call (.builtin id) [.str a t,.str b u]) Q X.xe s):Ba X id (λx xs H Q=>∃a b,x=.str a/\xs=[.str b]/\Q (g a b) H):=by
 intro pins s σ H x xs v us Q I rx rs h;obtain⟨a,b,rfl,rfl,h⟩:=h;obtain⟨t,rfl⟩:=rx;cases rs with
 |cons r1 rs =>
  cases rs;obtain⟨u,rfl⟩:=r1;exact rule a b t u s _ λv k r=>⟨g a b,H,I.tok k,r,h⟩
theorem vR:Ba X "str.endswith" (λx xs H Q=>∃a b,x=.str a/\xs=[.str b]/\Q (.bl (Txt.endswith a b)) H) :=
 K1 (g:=λa b=>.bl (Txt.endswith a b)) λ_ _ _ _ s _ h=>PySem.SC.endswith (h _ s.toks rfl)
theorem tU:iA X (.type "int") (λxs H Q=>∃a n,xs=[.str a]/\PySem.intText? a=some n/\a.length<=640/\Q (.int n) H):=by
 intro pins s σ H xs us Q I rs h;obtain⟨a,n,rfl,hn,hl,h⟩:=h;cases rs with
 |cons r1 rs =>
  cases rs;obtain⟨t,rfl⟩:=r1;exact PySem.W.KIN.call_text hn hl ⟨.int n,H,I.tok _,⟨_,rfl⟩,h⟩
end
section
variable {X:Cx}{o e:Expr}{to te:TE}
def KW (r:V->List V->Hp->VK->Prop) (to:TE):TE:=λσ H Q=>to σ H λx H1=>(∃a,x=.str a)/\r x [] H1 Q
def KA (r:V->List V->Hp->VK->Prop)(to te:TE):TE:=λσ H Q=>to σ H λx H1=>(∃a,x=.str a)/\te σ H1 λy H2=>r x [y] H2 Q
theorem Jv {id:String}{name:Str}{apos pos:Pos}{r:V->List V->Hp->VK->Prop}(slot:Slot "str" name id)(ty:typeOf (.builtin id)=pure (.type "method_descriptor"))(rule:Ba X id r)(ho:PE X o to)
  (hbase:attributeBase o name X.env (eval o X.env)=eval o X.env:=by rfl)(hline:(apos.endLine==pos.line)=true:=by rfl):PE X (.Call (.Attribute o name apos) [] [] pos) (KW r to):=by
 intro pins s σ H Q I h;refine PySem.Call_method0 hbase hline (bB (ho pins s σ H _ I h) λv s1 ⟨x,H1,I1,r1,q1⟩=>?_);obtain⟨⟨a,rfl⟩,q1⟩:=q1;obtain⟨t,rfl⟩:=_root_.id r1;exact⟨"str",_,F.plainAttrs_str,slot,ty,NR _ _ _,(λ_ e=>nomatch e),NP rfl (PySem.evalArgs_none (rule pins s1 σ H1 _ [] _ [] Q I1 r1 .nil q1))⟩
theorem BF {id:String}{name:Str}{apos pos:Pos}{r:V->List V->Hp->VK->Prop}(slot:Slot "str" name id)(ty:typeOf (.builtin id)=pure (.type "method_descriptor"))(rule:Ba X id r)(ho:PE X o to)(he:PE X e te)
  (hs:starEach [e] X.env=[(false,eval e X.env)]:=by rfl)(hbase:attributeBase o name X.env (eval o X.env)=eval o X.env:=by rfl)(hline:(apos.endLine==pos.line)=true:=by rfl) :
  PE X (.Call (.Attribute o name apos) [e] [] pos) (KA r to te):=by
 intro pins s σ H Q I h;refine PySem.Call_method1 hbase hs hline (bB (ho pins s σ H _ I h) λv s1 ⟨x,H1,I1,r1,q1⟩=>?_);obtain⟨⟨a,rfl⟩,q1⟩:=q1;obtain⟨t,rfl⟩:=_root_.id r1;refine⟨"str",_,F.plainAttrs_str,slot,ty,NR _ _ _,(λ_ e=>nomatch e),NP rfl (Calls.evalArgs_plain (N_ ?_))⟩;exact bB (he pins s1 σ H1 _ I1 q1) λu s2 ⟨y,H2,I2,r2,q2⟩=>Calls.spliced_nil (rule pins s2 σ H2 _ [y] _ [u] Q I2 r1 (.cons r2 .nil) q2)
theorem mw {apos pos:Pos}(ho:PE X o to)(he:PE X e te)(hs:starEach [e] X.env=[(false,eval e X.env)]:=by rfl)(hbase:attributeBase o "split" X.env (eval o X.env)=eval o X.env:=by rfl)(hline:(apos.endLine==pos.line)=true:=by rfl) :
  PE X (.Call (.Attribute o "split" apos) [e] [] pos) (KA (λx xs H Q=>∃a b,x=.str a/\xs=[.str b]/\(b.length==0)=false/\a.length+2<=sizeLine/\qu (Txt.split a b) H Q) to te) :=
 BF F.slot_str_split F.type_str_split AQ ho he hs hbase hline
theorem EZ {apos pos:Pos}(ho:PE X o to)(he:PE X e te)(hs:starEach [e] X.env=[(false,eval e X.env)]:=by rfl)(hbase:attributeBase o "join" X.env (eval o X.env)=eval o X.env:=by rfl)(hline:(apos.endLine==pos.line)=true:=by rfl) :
  PE X (.Call (.Attribute o "join" apos) [e] [] pos) (KA (λx xs H Q=>∃a p,∃ys:List Str,x=.str a/\xs=[.ref p]/\(aS X.K H p (ys.map V.str)∨bZ X.K H p (ys.map V.str)) /\
   (ys.map (·.length)).sum+ys.length*a.length<=16777216/\Q (.str (Txt.join a ys)) H) to te) :=
 BF F.slot_str_join F.type_str_join EO ho he hs hbase hline
end
section
variable {X:Cx}
theorem pd:jP X (compareOp .In) (λx y H Q=>∃(c:Nat) (z:Str),x=.str ⟨#[c]⟩/\y=.str z/\Q (.bl (decide (c∈z.cps.toList))) H):=by
 intro pins s σ H x y v u Q I rx ry h;obtain⟨c,z,rfl,rfl,q⟩:=h;obtain⟨t,rfl⟩:=rx;obtain⟨t',rfl⟩:=ry;exact PyProof.Rows.in_str (bu I q (PySem.StrLaws.found_one z c).symm)
theorem qI:jP X (compareOp .NotIn) (λx y H Q=>∃(c:Nat) (z:Str),x=.str ⟨#[c]⟩/\y=.str z/\Q (.bl (!decide (c∈z.cps.toList))) H):=by
 intro pins s σ H x y v u Q I rx ry h;obtain⟨c,z,rfl,rfl,q⟩:=h;obtain⟨t,rfl⟩:=rx;obtain⟨t',rfl⟩:=ry;exact PyProof.Rows.notIn_str (bu I q (Mu Bool.not (PySem.StrLaws.found_one z c).symm))
end
theorem IsPart.raw {v:Value}{o:Option Int}(p:IsPart v o):∃l:Option (Int×Tok),v=partValue l/\l.map (·.1)=o:=by
 cases p with
 |none=>exact⟨none,rfl,rfl⟩
 |int i t=>exact⟨some (i,t),rfl,rfl⟩
def uY (n d:Nat):Option Int->Int
 |none=>(d:Int)
 |some i=>max 0 (min (if i < 0 then i+(n:Int) else i) (n:Int))
theorem vy (n d:Nat)(o:Option Int):uY n d o=((HT.b_ n d o:Nat):Int):=by
 cases o with
 |none=>rfl
 |some v =>
  show max (0:Int) (min (if v < 0 then v+(n:Int) else v) (n:Int))=(((if v < 0 then (v+(n:Int)).toNat else min v.toNat n):Nat):Int);by_cases hv:v < 0
  · simp only[Lp hv];omega
  · simp only[Lo hv];omega
theorem zZ (a b:Option Int)(n:Nat):Builtin.Str.strSliceIndices a b 1 n=sliceRange (uY n 0 a) (uY n n b) 1:=by
 have h1:((1:Int) > 0)=True:=by simp
 cases a <;> cases b <;> first
  |rfl
  |(simp only[Builtin.Str.strSliceIndices,uY,h1,M7];rfl)
  |simp[Builtin.Str.strSliceIndices,uY]
theorem Km (a b:Option Int)(n:Nat):Builtin.Str.strSliceIndices a b 1 n=(List.range (HT.b_ n n b - HT.b_ n 0 a)).map (λk=>HT.b_ n 0 a+k):=by
 rw[zZ,vy,vy];generalize HT.b_ n 0 a=p;generalize HT.b_ n n b=q;simp only[sliceRange,show ((1:Int) > 0)=True from by simp,M7];by_cases hlt:(p:Int) < q
 · have e3:(((q:Int) - p+1 - 1) / 1).toNat=q - p:=by first|omega|(simp;done)|(simp;omega)
   simp only[hlt,M7,e3];refine Mg λk _=>?_;omega
 · have:q - p=0:=by omega
   simp[hlt,this]
def zJ (z:Str)(lo hi:Option Int):Str :=
 ⟨((z.cps.toList.drop (HT.b_ z.length 0 lo)).take (HT.b_ z.length z.length hi - HT.b_ z.length 0 lo)).toArray⟩
theorem kM (z:Str)(lo hi:Option Int):PySem.StrLaws.sliceText z lo hi=zJ z lo hi:=by
 have h1:HT.b_ z.length 0 lo<=z.length:=HT.wK _ _ (LV _) _;have h2:HT.b_ z.length z.length hi<=z.length:=HT.wK _ _ (Lx _) _;have hp:HT.b_ z.length 0 lo<=max (HT.b_ z.length 0 lo) (HT.b_ z.length z.length hi):=Nat.le_max_left _ _;have hq:max (HT.b_ z.length 0 lo) (HT.b_ z.length z.length hi)<=z.length:=Nat.max_le.mpr ⟨h1,h2⟩;have hd:max (HT.b_ z.length 0 lo) (HT.b_ z.length z.length hi) - HT.b_ z.length 0 lo=HT.b_ z.length z.length hi - HT.b_ z.length 0 lo:=by omega
 have e:Builtin.Str.strSliceIndices lo hi 1 z.length =
   Builtin.Str.strSliceIndices (some ((HT.b_ z.length 0 lo:Nat):Int)) (some ((max (HT.b_ z.length 0 lo) (HT.b_ z.length z.length hi):Nat):Int)) 1 z.length:=by
  rw[PySem.StrLaws.strSliceIndices_plain hp hq,hd,Km]
 have e2:PySem.StrLaws.sliceText z lo hi =
   PySem.StrLaws.sliceText z (some ((HT.b_ z.length 0 lo:Nat):Int)) (some ((max (HT.b_ z.length 0 lo) (HT.b_ z.length z.length hi):Nat):Int)):=by
  unfold PySem.StrLaws.sliceText;rw[e]
 rw[e2,PySem.StrLaws.sliceText_nat z hp hq,hd];rfl
theorem nQ (z:Str)(lo hi:Option Int):(zJ z lo hi).length<=z.length:=by
 show (((z.cps.toList.drop (HT.b_ z.length 0 lo)).take (HT.b_ z.length z.length hi - HT.b_ z.length 0 lo)).toArray).size<=z.cps.size;rw[LJ,LM,Mf,M9];omega
def JX:V->Option Int->Option Int->Hp->VK->Prop:=λx lo hi H Q=>∃z,x=.str z/\z.length<=sizeLine/\Q (.str (zJ z lo hi)) H
theorem HI {X:Cx}:IL X JX:=by
 intro pins s σ H x v vl vu lo hi sl Q I rx hs pl pu h;obtain⟨z,rfl,hz,q⟩:=h;obtain⟨t,rfl⟩:=rx;obtain⟨os,hos,hcs,hds⟩:=hs;obtain⟨l,rfl,rfl⟩:=IsPart.raw pl;obtain⟨u,rfl,rfl⟩:=IsPart.raw pu;refine⟨"str",_,F.slot_str_getitem.lookup,NR _ _ _,?_⟩;refine wpAny_getItem_str_slice (l:=l) (u:=u) (st:=none) ⟨os,hos,hcs,hds⟩ rfl ?_;have hl:(PySem.StrLaws.sliceText z (l.map (·.1)) (u.map (·.1))).length<=sizeLine:=by
  rw[kM];exact Ma (nQ z _ _) hz
 rw[←kM] at q;unfold PySem.StrLaws.sliceText at q hl;show Made.post (if ((1:Int)==1&&(Builtin.Str.strSliceIndices (l.map (·.1)) (u.map (·.1)) 1 z.length).length==z.length)=true then Made.val (.str z t)
  else Made.str ⟨((Builtin.Str.strSliceIndices (l.map (·.1)) (u.map (·.1)) 1 z.length).filterMap (z.cps[·]?)).toArray⟩) (EP X pins σ Q) s
 by_cases c:((1:Int)==1&&(Builtin.Str.strSliceIndices (l.map (·.1)) (u.map (·.1)) 1 z.length).length==z.length)=true
 · rw[Lp c] at q ⊢;exact⟨.str z,H,I,⟨t,rfl⟩,q⟩
 · rw[Lo c] at q hl ⊢;exact⟨hl,.str _,H,I.tok _,⟨_,rfl⟩,q⟩
end L2
namespace Att
open PySem PySem.W PySem.Calls PyProof.Rows
section
variable {prog:Program}{w:World}{A:Around}{E:Od}{s:Shared}{K:Frag}
end
end Att
namespace L2
open PySem PySem.Spec PyProof.Rows
end L2
section
set_option Elab.async false
set_option linter.all false
set_option maxRecDepth 100000
set_option maxHeartbeats 2000000
namespace L2
open PySem PySem.Spec PyProof.Rows
open PySem.W (WData Codec OpenSpec Well WellAll ReadsW ReadsAllW)
mutual
inductive Dw (K:Oc)(H:Hp):V->WData->Prop
 |b8:Dw K H .b8 .none
 |bl (b:Bool):Dw K H (.bl b) (.bool b)
 |int (i:Int):Dw K H (.int i) (.int i)
 |str (x:Str):Dw K H (.str x) (.str x)
 |vV (b:Array UInt8):Dw K H (.vV b) (.bytes b.toList)
 |lst {a:Addr} {xs:List V} {ds:List WData}:aS K H a xs->iw K H xs ds->Dw K H (.ref a) (.list ds)
 |tup {a:Addr} {xs:List V} {ds:List WData}:bZ K H a xs->iw K H xs ds->Dw K H (.ref a) (.tuple ds)
inductive iw (K:Oc)(H:Hp):List V->List WData->Prop
 |nil:iw K H [] []
 |cons {v:V} {vs:List V} {d:WData} {ds:List WData}:Dw K H v d->iw K H vs ds->iw K H (v::vs) (d::ds)
end
theorem y_ {K:Oc}{H:Hp}:∀ns:List Int,iw K H (ns.map V.int) (ns.map WData.int)
 |[]=>.nil
 |n::r=>.cons (.int n) (y_ r)
theorem tw {K:Oc}{H:Hp}:∀(ns:List Int) (xs:List V),iw K H xs (ns.map WData.int)->xs=ns.map V.int
 |[],xs,h=>by
  cases h;rfl
 |n::r,xs,h=>by
  cases h with
  |cons h1 h2 =>
   cases h1;rw[tw r _ h2] <;> rfl
section
variable {P:Program}{w:World}{K:Oc}{H:Hp}{h:Heap}{R:PySem.W.WRecords}{cl:Str->Option Addr}
theorem He {a:Addr} {xs:List V} (bw:ir P w H h) (KX:K.In h) (q:aS K H a xs):∃(its:Og) (o:Obj) (n:Nat),Vals xs its/\h.get? a=some o/\o.cls=.type "list"/\o.data=.seq its.toArray n:=by
 rcases q with q|⟨o,its,n,e,hc,_,hd,_,hv⟩
 · obtain⟨_,its,n,hv,e⟩:=(show bN P w H h a (.lst xs) from q.ok bw);exact⟨its,_,n,hv,e,rfl,rfl⟩
 · exact⟨its.toList,o,n,hv,KX _ _ e,hc,by simp[hd]⟩
theorem Hh {a:Addr}{xs:List V}(bw:ir P w H h)(KX:K.In h)(q:bZ K H a xs):∃(its:Og) (o:Obj) (n:Nat),Vals xs its/\h.get? a=some o/\o.cls=.type "tuple"/\o.data=.seq its.toArray n:=by
 rcases q with q|⟨o,its,n,e,hc,hd,_,hv⟩
 · obtain⟨_,its,hv,o,e,hc,n,hd⟩:=(show bN P w H h a (.tup xs) from q.ok bw);exact⟨its,o,n,hv,e,hc,hd⟩
 · exact⟨its.toList,o,n,hv,KX _ _ e,hc,by simp[hd]⟩
mutual
theorem Dw.reads (bw:ir P w H h)(KX:K.In h):∀(d:WData) (v:V) (u:Value),Dw K H v d->RelV v u->∃as,ReadsW R cl h u d as
 |.none,_,_,x,r=>by
  cases x;cases r;exact⟨_,ReadsW.none⟩
 |.bool b,_,_,x,r=>by
  cases x;cases r;exact⟨_,ReadsW.bool b⟩
 |.int i,_,_,x,r=>by
  cases x;obtain⟨t,rfl⟩:=r;exact⟨_,ReadsW.int i t⟩
 |.str s,_,_,x,r=>by
  cases x;obtain⟨t,rfl⟩:=r;exact⟨_,ReadsW.str s t⟩
 |.bytes b,_,_,x,r=>by
  cases x;obtain⟨t,rfl⟩:=r;exact⟨_,ReadsW.bytes _ t⟩
 |.list ds,_,_,x,r=>by
  cases x with
  |lst hs ha =>
   cases r;obtain⟨its,o,n,rv,ho,hc,hd⟩:=He bw KX hs;obtain⟨as,hr⟩:=Dw.readsAll bw KX ds _ its ha rv;exact⟨_,ReadsW.list ho hc hd hr⟩
 |.tuple ds,_,_,x,r=>by
  cases x with
  |tup hs ha =>
   cases r;obtain⟨its,o,n,rv,ho,hc,hd⟩:=Hh bw KX hs;obtain⟨as,hr⟩:=Dw.readsAll bw KX ds _ its ha rv;exact⟨_,ReadsW.tuple ho hc hd hr⟩
 |.float _,_,_,x,_=>by cases x
 |.dict _,_,_,x,_=>by cases x
 |.bytearray _,_,_,x,_=>by cases x
 |.set _,_,_,x,_=>by cases x
 |.frozenset _,_,_,x,_=>by cases x
 |.obj _ _,_,_,x,_=>by cases x
theorem Dw.readsAll (bw:ir P w H h)(KX:K.In h):∀(ds:List WData) (vs:List V) (us:Og),iw K H vs ds->Vals vs us->∃as,ReadsAllW R cl h us ds as
 |[],_,_,x,r=>by
  cases x;cases r;exact⟨_,ReadsAllW.nil⟩
 |d::ds,_,_,x,r=>by
  cases x with
  |cons h1 h2 =>
   cases r with
   |cons r1 r2 =>
    obtain⟨as,q1⟩:=Dw.reads bw KX d _ _ h1 r1;obtain⟨bs,q2⟩:=Dw.readsAll bw KX ds _ _ h2 r2;exact⟨_,ReadsAllW.cons q1 q2⟩
end
end
mutual
def y8:WData->Bool
 |.none=>true
 |.bool _=>true
 |.int _=>true
 |.str _=>true
 |.bytes _=>true
 |.list xs=>nZ xs
 |.tuple xs=>nZ xs
 |_=>false
def nZ:List WData->Bool
 |[]=>true
 |x::r=>y8 x&&nZ r
end
theorem u7 {α:Type}{f:α->WData}(h:∀a,y8 (f a)=true):∀l:List α,nZ (l.map f)=true
 |[]=>rfl
 |x::r=>by
  show (y8 (f x)&&nZ (r.map f))=true;rw[h x,u7 h r] <;> rfl
theorem jO:∀(c:Codec) (a:c.denote),y8 (c.enc a)=true
 |.unit,_=>rfl
 |.bool,_=>rfl
 |.int _ _,_=>rfl
 |.nat _ _,_=>rfl
 |.u8,_=>rfl
 |.bytes _ _,_=>rfl
 |.text _ _ _ _,_=>rfl
 |.list _ _ c,a=>u7 (λx=>jO c x) a
 |.pair c d,a=>by
  show (y8 (c.enc a.1)&&(y8 (d.enc a.2)&&true))=true;rw[jO c a.1,jO d a.2] <;> rfl
 |.triple c d e,a=>by
  show (y8 (c.enc a.1)&&(y8 (d.enc a.2.1)&&(y8 (e.enc a.2.2)&&true)))=true;rw[jO c a.1,jO d a.2.1,jO e a.2.2] <;> rfl
 |.option c,none=>rfl
 |.option c,some x=>jO c x
theorem qQ:∀(cs:List Codec) (a:Codec.denoteAll cs),nZ (Codec.encAll cs a)=true
 |[],_=>rfl
 |c::cs,a=>by
  show (y8 (c.enc a.1)&&nZ (Codec.encAll cs a.2))=true;rw[jO c a.1,qQ cs a.2] <;> rfl
theorem k8:∀{xs:List WData} {d:WData},d∈xs->d.weight<=WData.weightAll xs
 |[],d,h=>absurd h (by simp)
 |x::r,d,h=>by
  show d.weight<=x.weight+1+WData.weightAll r;rcases Lr.mp h with e|m
  · rw[e];omega
  · have z:=k8 m;omega
def toV:Value->V
 |.none=>.b8
 |.bool b=>.bl b
 |.int i _=>.int i
 |.str x _=>.str x
 |.bytes b _=>.vV b
 |.ref a=>.ref a
 |_=>.b8
def Al (A:List Addr):Value->Prop
 |.none=>True
 |.bool _=>True
 |.int _ _=>True
 |.str _ _=>True
 |.bytes _ _=>True
 |.ref a=>a∈A
 |_=>False
theorem Al.mono {A B:List Addr}(h:∀a∈A,a∈B):∀{u:Value},Al A u->Al B u:=λ{u} x=>by
 cases u with
 |ref a=>exact h a x
 |none=>trivial
 |bool b=>trivial
 |int i t=>trivial
 |str s t=>trivial
 |bytes b t=>trivial
 |_=>exact False.elim x
theorem AI {A:List Addr}{u:Value}(x:Al A u):RelV (toV u) u:=by
 cases u with
 |ref a=>rfl
 |none=>rfl
 |bool b=>rfl
 |int i t=>exact⟨t,rfl⟩
 |str s t=>exact⟨t,rfl⟩
 |bytes b t=>exact⟨t,rfl⟩
 |_=>exact False.elim x
theorem iC {A:List Addr}:∀{vs:Og},(∀u∈vs,Al A u)->Vals (vs.map toV) vs
 |[],_=>.nil
 |u::r,h=>.cons (AI (h u (L_ ..))) (iC λx hx=>h x (LG _ hx))
def jm (h:Heap)(A:List Addr)(a:Addr):Prop:=∃vs:Og,vs.length<=sizeLine/\(∀u∈vs,Al A u) /\
 (h.get? a=some {cls:=.type "list",data:=.seq vs.toArray}∨h.get? a=some {cls:=.type "tuple",data:=.seq vs.toArray})
theorem jm.mono {h:Heap}{A B:List Addr}{a:Addr}(k:∀a∈A,a∈B)(x:jm h A a):jm h B a:=by
 obtain⟨vs,h1,h2,h3⟩:=x;exact⟨vs,h1,λu hu=>(h2 u hu).mono k,h3⟩
theorem gS {P:Params}{h:Heap}:∀{vs:Og} {ds:List WData},WellAll P h vs ds->vs.length=ds.length
 |_,_,.nil=>rfl
 |_,_,.cons _ b=>by
  show _+1=_+1;rw[gS b]
theorem rX {P:Params}{h:Heap}{v:Value}{ds:List WData}(x:Well P h v (.list ds)):∃(a:Addr) (vs:Og),v=.ref a/\h.get? a=some {cls:=.type "list",data:=.seq vs.toArray}/\WellAll P h vs ds:=by
 cases x with
 |list ho hall=>exact⟨_,_,rfl,ho,hall⟩
theorem pD {P:Params}{h:Heap}{v:Value}{ds:List WData}(x:Well P h v (.tuple ds)):∃(a:Addr) (vs:Og),v=.ref a/\h.get? a=some {cls:=.type "tuple",data:=.seq vs.toArray}/\WellAll P h vs ds:=by
 cases x with
 |tuple ho hall=>exact⟨_,_,rfl,ho,hall⟩
theorem rH {P:Params}{h:Heap}{us:Og}{d:WData}{ds:List WData}(x:WellAll P h us (d::ds)):∃(v:Value) (vs:Og),us=v::vs/\Well P h v d/\WellAll P h vs ds:=by
 cases x with
 |cons a b=>exact⟨_,_,rfl,a,b⟩
theorem yo {n:Nat}(h:n<=1048576):n<=sizeLine:=Ma h (by decide)
section
variable {P:Params}{h:Heap}
mutual
theorem Ct:∀(d:WData) (v:Value),Well P h v d->y8 d=true->d.weight<=1048576->∃A:List Addr,Al A v/\∀a∈A,jm h A a
 |.none,_,x,_,_=>by
  cases x;exact⟨[],trivial,λa m=>absurd m (by simp)⟩
 |.bool b,_,x,_,_=>by
  cases x;exact⟨[],trivial,λa m=>absurd m (by simp)⟩
 |.int i,_,x,_,_=>by
  cases x;exact⟨[],trivial,λa m=>absurd m (by simp)⟩
 |.str s,_,x,_,_=>by
  cases x;exact⟨[],trivial,λa m=>absurd m (by simp)⟩
 |.bytes b,_,x,_,_=>by
  cases x;exact⟨[],trivial,λa m=>absurd m (by simp)⟩
 |.list ds,_,x,p,z=>by
  obtain⟨a,vs,rfl,ho,hall⟩:=rX x;have z2:WData.weightAll ds<=1048576:=z;obtain⟨A,h1,h2⟩:=mz ds _ hall p λd hd=>Ma (k8 hd) z2;have k:∀b∈A,b∈a::A:=λb hb=>LG _ hb;refine⟨a::A,L_ ..,λb hb=>?_⟩;rcases Lr.mp hb with e|m
  · rw[e];exact⟨vs,yo (by rw[gS hall];exact Ma (PySem.W.length_le_weightAllW ds) z2),λu hu=>(h1 u hu).mono k,.inl ho⟩
  · exact (h2 b m).mono k
 |.tuple ds,_,x,p,z=>by
  obtain⟨a,vs,rfl,ho,hall⟩:=pD x;have z2:WData.weightAll ds<=1048576:=z;obtain⟨A,h1,h2⟩:=mz ds _ hall p λd hd=>Ma (k8 hd) z2;have k:∀b∈A,b∈a::A:=λb hb=>LG _ hb;refine⟨a::A,L_ ..,λb hb=>?_⟩;rcases Lr.mp hb with e|m
  · rw[e];exact⟨vs,yo (by rw[gS hall];exact Ma (PySem.W.length_le_weightAllW ds) z2),λu hu=>(h1 u hu).mono k,.inr ho⟩
  · exact (h2 b m).mono k
 |.float _,_,_,p,_=>Bool.noConfusion (show false=true from p)
 |.dict _,_,_,p,_=>Bool.noConfusion (show false=true from p)
 |.bytearray _,_,_,p,_=>Bool.noConfusion (show false=true from p)
 |.set _,_,_,p,_=>Bool.noConfusion (show false=true from p)
 |.frozenset _,_,_,p,_=>Bool.noConfusion (show false=true from p)
 |.obj _ _,_,_,p,_=>Bool.noConfusion (show false=true from p)
theorem mz:∀(ds:List WData) (vs:Og),WellAll P h vs ds->nZ ds=true->(∀d∈ds,d.weight<=1048576)->∃A:List Addr,(∀u∈vs,Al A u)/\∀a∈A,jm h A a
 |[],_,x,_,_=>by
  cases x;exact⟨[],λu m=>absurd m (by simp),λa m=>absurd m (by simp)⟩
 |d::ds,_,x,p,z=>by
  obtain⟨v,vs,rfl,x1,x2⟩:=rH x;have q:y8 d=true/\nZ ds=true:=NX.mp p;obtain⟨A,a1,a2⟩:=Ct d v x1 q.1 (z d (L_ ..));obtain⟨B,b1,b2⟩:=mz ds vs x2 q.2 λe he=>z e (LG _ he);have kA:∀b∈A,b∈A++B:=λb hb=>Mc.mpr (.inl hb);have kB:∀b∈B,b∈A++B:=λb hb=>Mc.mpr (.inr hb);refine⟨A++B,λu hu=>?_,λb hb=>?_⟩
  · rcases Lr.mp hu with e|m
    · rw[e];exact a1.mono kA
    · exact (b1 u m).mono kB
  · rcases Mc.mp hb with m|m
    · exact (a2 b m).mono kA
    · exact (b2 b m).mono kB
end
end
def Dy (o:Obj):Option HO:=match o.data with
 |.seq vs _=>if (o.cls==Value.type "list")=true then some (.frz o (.lst (vs.toList.map toV))) else some (.frz o (.tup (vs.toList.map toV)))
 |_=>none
def iJ (K:Oc)(h:Heap)(A:List Addr):Hp:=λb=>if b∈A then (if (K.lookup b).isNone=true then (h.get? b).bind Dy else none) else none
def uI (H:Hp):Prop:=∀b,H b=none∨∃o u,H b=some (.frz o u)
theorem vt (vs:Og):Dy {cls:=.type "list",data:=.seq vs.toArray}=some (.frz {cls:=.type "list",data:=.seq vs.toArray} (.lst (vs.map toV))):=by
 show (if (Value.type "list"==Value.type "list")=true then some (HO.frz {cls:=.type "list",data:=.seq vs.toArray} (.lst (vs.toArray.toList.map toV))) else some (HO.frz {cls:=.type "list",data:=.seq vs.toArray} (.tup (vs.toArray.toList.map toV))))=_;rw[Lp (beq_self_eq_true _)]
theorem uL (vs:Og):Dy {cls:=.type "tuple",data:=.seq vs.toArray}=some (.frz {cls:=.type "tuple",data:=.seq vs.toArray} (.tup (vs.map toV))):=by
 show (if (Value.type "tuple"==Value.type "list")=true then some (HO.frz {cls:=.type "tuple",data:=.seq vs.toArray} (.lst (vs.toArray.toList.map toV))) else some (HO.frz {cls:=.type "tuple",data:=.seq vs.toArray} (.tup (vs.toArray.toList.map toV))))=_;rw[Lo (by decide)]
section
variable {P:Program}{w:World}{K:Oc}{h:Heap}{A:List Addr}
theorem oz {b:Addr} {o:Obj} (hb:b∈A) (hk:K.lookup b=none) (e:h.get? b=some o):iJ K h A b=Dy o:=by
 unfold iJ;rw[Lp hb,hk,Lp (show (none:Option Obj).isNone=true from rfl),e] <;> rfl
theorem Ek {b:Addr}{u:HO}(q:iJ K h A b=some u):b∈A/\K.lookup b=none:=by
 unfold iJ at q;by_cases hb:b∈A
 · rw[Lp hb] at q;cases hk:K.lookup b with
   |none=>exact⟨hb,rfl⟩
   |some o =>
    rw[hk,Lo (by simp)] at q;cases q
 · rw[Lo hb] at q;cases q
theorem oF (ar:∀a∈A,jm h A a){b:Addr}{u:HO}(q:iJ K h A b=some u):K.lookup b=none/\∃vs:Og,vs.length<=sizeLine/\(∀u∈vs,Al A u) /\
  ((h.get? b=some {cls:=.type "list",data:=.seq vs.toArray}/\u=.frz {cls:=.type "list",data:=.seq vs.toArray} (.lst (vs.map toV))) ∨
   (h.get? b=some {cls:=.type "tuple",data:=.seq vs.toArray}/\u=.frz {cls:=.type "tuple",data:=.seq vs.toArray} (.tup (vs.map toV)))):=by
 obtain⟨hb,hk⟩:=Ek q;obtain⟨vs,h1,h2,h3⟩:=ar b hb;refine⟨hk,vs,h1,h2,?_⟩;rcases h3 with e|e
 · rw[oz hb hk e,vt] at q;exact .inl ⟨e,(L1 q).symm⟩
 · rw[oz hb hk e,uL] at q;exact .inr ⟨e,(L1 q).symm⟩
theorem Au (ar:∀a∈A,jm h A a):uI (iJ K h A):=λb=>by
 cases q:iJ K h A b with
 |none=>exact .inl rfl
 |some u =>
  obtain⟨_,vs,_,_,⟨_,e⟩|⟨_,e⟩⟩:=oF ar q
  · exact .inr ⟨_,_,by rw[e]⟩
  · exact .inr ⟨_,_,by rw[e]⟩
theorem D_ (ar:∀a∈A,jm h A a):ir P w (iJ K h A) h:=λb u q=>by
 obtain⟨_,vs,h1,h2,⟨e,rfl⟩|⟨e,rfl⟩⟩:=oF ar q
 · exact⟨e,by rw[Ln];exact h1,vs,_,iC h2,e⟩
 · exact⟨e,by rw[Ln];exact h1,vs,iC h2,_,e,rfl,_,rfl⟩
theorem ox {c c':Value}{vs us:Og}(e:(some {cls:=c,data:=.seq vs.toArray}:Option Obj)=some {cls:=c',data:=.seq us.toArray}):c=c'/\vs=us:=by
 have e1:=L1 e;have e2:c=c':=Mu Obj.cls e1;have e3:Data.seq vs.toArray=Data.seq us.toArray:=Mu Obj.data e1;injection e3 with e4;refine⟨e2,?_⟩;have e5:=Mu Array.toList e4;simpa using e5
theorem KH (KX:K.In h)(ar:∀a∈A,jm h A a){a:Addr}{vs:Og}(ha:a∈A)(e:h.get? a=some {cls:=.type "list",data:=.seq vs.toArray}):(∀u∈vs,Al A u)/\aS K (iJ K h A) a (vs.map toV):=by
 obtain⟨us,h1,h2,h3⟩:=ar a ha;have hu:us=vs:=by
  rcases h3 with q|q
  · rw[e] at q;exact (ox q).2.symm
  · rw[e] at q;exact absurd (Value.type.inj (ox q).1) (by decide)
 subst hu;refine⟨h2,?_⟩;cases hk:K.lookup a with
 |none=>exact .inl (.inr ⟨_,by rw[oz ha hk e,vt]⟩)
 |some o =>
  have e2:=KX a o hk;rw[e] at e2;obtain rfl:=L1 e2;exact .inr ⟨_,us.toArray,_,hk,rfl,rfl,rfl,by rw[LJ];exact h1,by simpa using iC h2⟩
theorem J6 (KX:K.In h)(ar:∀a∈A,jm h A a){a:Addr}{vs:Og}(ha:a∈A)(e:h.get? a=some {cls:=.type "tuple",data:=.seq vs.toArray}):(∀u∈vs,Al A u)/\bZ K (iJ K h A) a (vs.map toV):=by
 obtain⟨us,h1,h2,h3⟩:=ar a ha;have hu:us=vs:=by
  rcases h3 with q|q
  · rw[e] at q;exact absurd (Value.type.inj (ox q).1) (by decide)
  · rw[e] at q;exact (ox q).2.symm
 subst hu;refine⟨h2,?_⟩;cases hk:K.lookup a with
 |none=>exact .inl (.inr ⟨_,by rw[oz ha hk e,uL]⟩)
 |some o =>
  have e2:=KX a o hk;rw[e] at e2;obtain rfl:=L1 e2;exact .inr ⟨_,us.toArray,_,hk,rfl,rfl,by rw[LJ];exact h1,by simpa using iC h2⟩
mutual
theorem HQ {Pm:Params}(KX:K.In h)(ar:∀a∈A,jm h A a):∀(d:WData) (v:Value),Well Pm h v d->y8 d=true->Al A v->Dw K (iJ K h A) (toV v) d
 |.none,_,x,_,_=>by
  cases x;exact .b8
 |.bool b,_,x,_,_=>by
  cases x;exact .bl b
 |.int i,_,x,_,_=>by
  cases x;exact .int i
 |.str s,_,x,_,_=>by
  cases x;exact .str s
 |.bytes b,_,x,_,_=>by
  cases x;have z:=Dw.vV (K:=K) (H:=iJ K h A) b.toArray;exact z
 |.list ds,_,x,p,hu=>by
  obtain⟨a,vs,rfl,ho,hall⟩:=rX x;obtain⟨h2,hs⟩:=KH KX ar hu ho;exact .lst hs (ua KX ar ds _ hall p h2)
 |.tuple ds,_,x,p,hu=>by
  obtain⟨a,vs,rfl,ho,hall⟩:=pD x;obtain⟨h2,hs⟩:=J6 KX ar hu ho;exact .tup hs (ua KX ar ds _ hall p h2)
 |.float _,_,_,p,_=>Bool.noConfusion (show false=true from p)
 |.dict _,_,_,p,_=>Bool.noConfusion (show false=true from p)
 |.bytearray _,_,_,p,_=>Bool.noConfusion (show false=true from p)
 |.set _,_,_,p,_=>Bool.noConfusion (show false=true from p)
 |.frozenset _,_,_,p,_=>Bool.noConfusion (show false=true from p)
 |.obj _ _,_,_,p,_=>Bool.noConfusion (show false=true from p)
theorem ua {Pm:Params}(KX:K.In h)(ar:∀a∈A,jm h A a):∀(ds:List WData) (vs:Og),WellAll Pm h vs ds->nZ ds=true->(∀u∈vs,Al A u)->iw K (iJ K h A) (vs.map toV) ds
 |[],_,x,_,_=>by
  cases x;exact .nil
 |d::ds,_,x,p,hu=>by
  obtain⟨v,vs,rfl,x1,x2⟩:=rH x;have q:y8 d=true/\nZ ds=true:=NX.mp p;exact .cons (HQ KX ar d v x1 q.1 (hu _ (L_ ..))) (ua KX ar ds vs x2 q.2 λu m=>hu u (LG _ m))
end
end
theorem zP {P:Program}{w:World}{K:Oc}{mg mb:Oe}{CX:mr}{k:Nat}{fa:Addr}{fd:FuncData}{ps:List Str}{sp:Sp}{s₁:Shared}{vals:Og}{ds:List WData}{R:PySem.W.WRecords}{cl:Str->Option Addr}{d0:WData}
  (KX:K.In s₁.heap)(hns:s₁.heap.Ns mainGlobals mg)(hb:s₁.heap.Ns builtinsNs mb)(hbb:∀x:Str,x≠"__name__"->mb x=bootBuiltins x)(hlim:s₁.heap.NoLimit)(hg:s₁.gens=#[])
  (hwl:WellAll w.params s₁.heap vals ds)(hpl:nZ ds=true)(hwt:∀d∈ds,d.weight<=1048576)(hr:c_ k callerA)
  (F:∀base:Heap,K.In base->base.Ns mainGlobals mg->bf P w K mg base CX k fa fd ps sp)(hbind:∀(s:Shared) (us:Og),us.length=ps.length->BindsTo s fd ⟨us,[]⟩ (ps.zip us))(hlen:ds.length=ps.length)
  (hsp:∀(H:Hp) (xs:List V),uI H->iw K H xs ds->sp xs H (λv H'=>Dw K H' v d0) λ_ _ _=>False)
  (hCX:∀H e s',CX [] H s₁ (λ_ _ _=>False) e s'->False) :
  codeAny (model P w) callerA (.call (.ref fa) ⟨vals,[]⟩) (λr s'=>∃u as,r=.ok (.ret u)/\ReadsW R cl s'.heap u d0 as/\OldK s₁.heap s'.heap/\s'.os=s₁.os/\AllBare s'.gens) s₁:=by
 obtain⟨A,ho,ar⟩:=mz ds vals hwl hpl hwt;have hO:uI (iJ K s₁.heap A):=Au ar;have bw:ir P w (iJ K s₁.heap A) s₁.heap:=D_ ar;have hS:=ua KX ar ds vals hwl hpl ho;have hV:=iC ho;have hK:∀b u,iJ K s₁.heap A b=some u->K.lookup b=none:=λb u q=>(oF ar q).1;have noA:∀{b:Addr} {o:Obj} {es:Array DictEntry} {ep:Nat},s₁.heap.get? b=some o->o.data=.dict es ep->iJ K s₁.heap A b=none:=λ{b o es ep} e d=>by
  cases q:iJ K s₁.heap A b with
  |none=>rfl
  |some u =>
   obtain⟨_,vs,_,_,⟨e2,_⟩|⟨e2,_⟩⟩:=oF ar q
   · rw[e2] at e;cases e;have d':Data.seq vs.toArray _=Data.dict es ep:=d;cases d'
   · rw[e2] at e;cases e;have d':Data.seq vs.toArray _=Data.dict es ep:=d;cases d'
 generalize iJ K s₁.heap A=H at hO bw hS hK noA;have base_of:∀{b:Addr} {o:Obj},s₁.heap.get? b=some o->H b=none->(tZ s₁.heap H).get? b=some o:=λe n=>Cq e n;have C1:∀{b:Addr} {m:Oe},s₁.heap.Ns b m->(tZ s₁.heap H).Ns b m:=λ{b m} ⟨o,es,ep,e,d,r⟩=>⟨o,es,ep,base_of e (noA e d),d,r⟩;have nK:∀b o,K.lookup b=some o->H b=none:=λb o e=>by
  cases q:H b with
  |none=>rfl
  |some u =>
   rw[hK b u q] at e;cases e
 have hKb:K.In (tZ s₁.heap H):=λb o e=>base_of (KX b o e) (nK b o e);have hM:Mod K mg (tZ s₁.heap H):=⟨hKb,C1 hns,⟨mb,C1 hb,hbb⟩,let ⟨mc,h1,h2⟩:=hlim;⟨mc,C1 h1,h2⟩⟩;have e0:wX P w K mg (tZ s₁.heap H) callerA [] s₁ H:=⟨rfl,hM,λb o e=>EM e,N5 (zX _ _),trivial,λb hb=>absurd (show b∈([]:List Addr) from hb) (by simp),bw,.of_eq hg⟩;have hl:vals.length=ps.length:=by rw[gS hwl];exact hlen
 refine N3 ((F _ hKb (C1 hns)).run callerA [] s₁ H ⟨vals,[]⟩ vals (vals.map toV) _ _ hr e0 (hbind s₁ vals hl) hV (hsp H _ hO hS)) λr s' x=>?_;cases r with
 |error e=>exact (hCX H e s' x).elim
 |ok fl =>
  cases fl with
  |next=>exact False.elim x
  |brk=>exact False.elim x
  |cont=>exact False.elim x
  |ret u =>
   obtain⟨v,H',os,bare,un,hok',r',q⟩:=x;have kept:∀b o,s₁.heap.get? b=some o->s'.heap.get? b=some o:=λb o e=>by
    cases q2:H b with
    |none=>exact un.keep b o e q2 (by intro z;exact absurd (show b∈([]:List Addr) from z) (by simp)) (by simp)
    |some u2 =>
     rcases hO b with z|⟨ob,u3,z⟩
     · rw[q2] at z;cases z
     · have z2:=un.m8 b ob _ z;obtain⟨e1,_⟩:=bw b _ z;obtain⟨e2,_⟩:=hok' b _ z2;rw[e] at e1;cases e1;exact e2
   have KX':K.In s'.heap:=λb o e=>kept b o (KX b o e);obtain⟨as,hrd⟩:=Dw.reads (R:=R) (cl:=cl) hok' KX' d0 v u q r';exact⟨u,as,rfl,hrd,OldK.of_keep kept,os,bare⟩
theorem pU {ds:List WData}(h:WData.layableAll ds=true):∀d∈ds,d.weight<=1048576:=λd hd =>
 (PySem.W.layableW_iff.mp (LU.mp h d hd)).2.2
theorem o7:∀(cs:List Codec) (a:Codec.denoteAll cs),(Codec.encAll cs a).length=cs.length
 |[],_=>rfl
 |c::cs,a=>by
  show (Codec.encAll cs a.2).length+1=cs.length+1;rw[o7 cs a.2]
theorem zi {r:OpenSpec}{k:Nat}{q:Program}{loose:List Str}{XP:(Str->Option Value)->Heap->Prop}{YP:World->Heap->Prop}{d:DefRec}{K:Params->Oc}{CX:World->mr}{ps:List Str}{sp:World->Sp}
  (hwell:r.wellSaid=true)(hdf:d.params.defaults=[])(hlen:r.args.length=ps.length)(hr:c_ k callerA)
  (hY:∀(w:World) (h:Heap),YP w h->(K w.params).In h)
  (F:∀(w:World) (mg:Oe) (fa:Addr) (h:Heap),YP w h->(K w.params).In h->h.Ns mainGlobals mg->mg d.name=some (.ref fa) ->
   ∃fd:FuncData,(∀(s:Shared) (us:Og),us.length=ps.length->BindsTo s fd ⟨us,[]⟩ (ps.zip us)) /\
    ∀base:Heap,(K w.params).In base->base.Ns mainGlobals mg->bf r.prog w (K w.params) mg base (CX w) k fa fd ps (sp w))
  (hsp:∀(w:World) (H:Hp) (xs:List V) (a:Codec.denoteAll r.args),uI H->Codec.withinAll r.args a=true->Codec.app r.args r.asked a=true->iw (K w.params) H xs (Codec.encAll r.args a) ->
   sp w xs H (λv H'=>Dw (K w.params) H' v (r.ret.enc (Codec.app r.args r.f a))) λ_ _ _=>False)
  (hCX:∀(w:World) (H:Hp) (s:Shared) (e:Value) (s':Shared),CX w [] H s (λ_ _ _=>False) e s'->False) :
  PySem.W.WalkOS q loose XP YP r d [] (λf vs=>PySem.call f vs):=by
 intro w kJ s₁ mg mb G Y fa o pm cd doc dV kV ho hd hcd hD hmg hg args vals as hpre hlay hrd hwl hlo;obtain⟨a,e1,e2⟩:=PySem.W.os_pre_some hpre;obtain⟨e3,hwi⟩:=Codec.encAll_of_decAll r.args args a e1;subst e3;have KX:=hY w _ Y;obtain⟨fd,hb,hF⟩:=F w mg fa _ Y KX G.T.g hmg;refine PySem.W.enter_call (N3 (zP (R:=[]) (cl:=classAt kJ.heap) (d0:=r.ret.enc (Codec.app r.args r.f a)) KX G.T.g G.T.b G.T.builtins G.T.nolimit hg hwl (qQ _ _) (pU hlay) hr hF hb (by rw[o7];exact hlen)
  (λH xs hO hS=>hsp w H xs a hO hwi e2 hS) λH e s'=>hCX w H s₁ e s') λr' s' hq=>?_)
 obtain⟨u,as',rfl,h1,h2,h3,h4⟩:=hq;exact⟨.inl ⟨u,_,as',rfl,λ_=>rfl,h1,(OpenSpec.post_iff hwell hwi _ _).mpr rfl,λz=>Bool.noConfusion (show false=true from z)⟩,h2,h3,h4⟩
theorem xu {r:OpenSpec}{k:Nat}{q:Program}{loose:List Str}{XP:(Str->Option Value)->Heap->Prop}{YP:World->Heap->Prop}{d:DefRec}{K:Params->Oc}{CX:mr}{ps:List Str}{sp:Oc->Sp}
  (hwell:r.wellSaid=true)(hdf:d.params.defaults=[])(hlen:r.args.length=ps.length)(hr:c_ k callerA)
  (hY:∀(w:World) (h:Heap),YP w h->(K w.params).In h)
  (F:∀(w:World) (mg:Oe) (fa:Addr) (h:Heap),YP w h->(K w.params).In h->h.Ns mainGlobals mg->mg d.name=some (.ref fa) ->
   ∃fd:FuncData,(∀(s:Shared) (us:Og),us.length=ps.length->BindsTo s fd ⟨us,[]⟩ (ps.zip us)) /\
    ∀base:Heap,(K w.params).In base->base.Ns mainGlobals mg->bf r.prog w (K w.params) mg base CX k fa fd ps (sp (K w.params)))
  (hsp:∀(K:Oc) (H:Hp) (xs:List V) (a:Codec.denoteAll r.args),uI H->Codec.withinAll r.args a=true->Codec.app r.args r.asked a=true->iw K H xs (Codec.encAll r.args a) ->
   sp K xs H (λv H'=>Dw K H' v (r.ret.enc (Codec.app r.args r.f a))) λ_ _ _=>False)
  (hCX:∀(H:Hp) (s:Shared) (e:Value) (s':Shared),CX [] H s (λ_ _ _=>False) e s'->False) :
  PySem.W.WalkOS q loose XP YP r d [] (λf vs=>PySem.call f vs) :=
 zi (K:=K) (CX:=λ_=>CX) (sp:=λw=>sp (K w.params)) hwell hdf hlen hr hY F (λw H xs a h1 h2 h3 h4=>hsp (K w.params) H xs a h1 h2 h3 h4) λ_ H s e s'=>hCX H s e s'
end L2
end
namespace L2
open PySem PySem.Spec PyProof.Rows
abbrev bJ:mr:=λ_ _ _ _ _ _=>False
abbrev E0:XK:=λ_ _ _=>False
theorem bh {X:Cx}:Passes bJ X E0:=λ_ _ _ _ _ _ _ h=>h.elim
structure dI (K:Oc)(x qual:Str)(st:Stmt)(f:Addr)(fd:FuncData):Prop where
 ex:∃(oc:Value) (od:Option Addr) (kV doc pm:Value) (an:Option Addr) (cdv ct:Value) (osl:Array (Option Value)),
  fd=PySem.W.fnOf x qual (cU st) (ck st) (ax st) .none kV doc pm an cdv ct/\K.lookup f=some ⟨oc,od,.func fd,osl⟩/\PySem.W.codeIn K cdv qual=true
 kp:PySem.W.keepIn K (.ref f)=true
section
variable {P:Program}{w:World}{K:Oc}{mg:Oe}{base:Heap}
theorem dI.ok {x qual:Str} {st:Stmt} {f:Addr} {fd:FuncData} {N ps:List Str} {k:Nat} {sp:Sp} (F:dI K x qual st f fd) (S:aI N ps (ax st)) (len:∀vs H Q E,sp vs H Q E->vs.length=ps.length)
  (hbody:∀(cdv:Value) (A:Around) (outer:List Env) (s:Shared) (H:Hp) (vs:List V) (Q:VK) (E:XK),c_ k (A.deeper (envOfC qual (ax st) s.heap.objs.size f cdv))->sp vs H Q E ->
   ∃t,ur (n_ bJ P w K mg base N qual (ax st) f cdv A outer s H E).H_ (ck st) t/\t {nx:=λ_ H'=>Q .b8 H',rt:=Q} (start N vs) H):bf P w K mg base bJ (k+1) f fd ps sp:=by
 obtain⟨oc,od,kV,doc,pm,an,cdv,ct,osl,rfl,lk,hcd⟩:=F.ex;refine Fz lk hcd S len λA outer s H vs Q E hr hsp=>?_;obtain⟨t,h,q⟩:=hbody cdv A outer s H vs Q E hr hsp;exact⟨t,h.H_,q⟩
theorem dI.binds {x qual:Str}{st:Stmt}{f:Addr}{fd:FuncData}{ps:List Str}(F:dI K x qual st f fd)
  (h:∀(kV doc pm:Value) (an:Option Addr) (cdv ct:Value) (us:Og),us.length=ps.length->bindArgs (PySem.W.fnOf x qual (cU st) (ck st) (ax st) .none kV doc pm an cdv ct) ⟨us,[]⟩=pure (ps.zip us)):Binds K fd ps []:=by
 obtain⟨oc,od,kV,doc,pm,an,cdv,ct,osl,rfl,lk,hcd⟩:=F.ex;exact .all (h kV doc pm an cdv ct)
theorem tS {x qual:Str}{st:Stmt}{f:Addr}{oc:Value}{od an:Option Addr}{osl:Array (Option Value)}{kV doc pm cdv ct:Value}(l:K.lookup f=some ⟨oc,od,.func (PySem.W.fnOf x qual (cU st) (ck st) (ax st) .none kV doc pm an cdv ct),osl⟩)
  (c:PySem.W.codeIn K cdv qual=true)(k:PySem.W.keepIn K (.ref f)=true):dI K x qual st f (PySem.W.fnOf x qual (cU st) (ck st) (ax st) .none kV doc pm an cdv ct):=⟨⟨oc,od,kV,doc,pm,an,cdv,ct,osl,rfl,l,c⟩,k⟩
end
theorem vg {A:Around}{k:Nat}(hr:c_ k A):A.units+1 < cLine:=Nat.lt_of_le_of_lt (Nat.add_le_add_left (by decide:1<=64) _) hr.units
section
variable {X:Cx}
theorem pv (i:Nat) {x:Str} {pos:Pos} (hN:X.N[i]?=some x:=by rfl) (hv:Ib X.env.scope x:=by first|exact Or.inl rfl|exact Or.inr (Or.inl rfl)|exact Or.inr (Or.inr rfl)) (hd:(x==("__debug__":Str))=false:=by decide)
  (hcd:(x==("__classdict__":Str))=false:=by decide):PE X (.Name x pos) (cH i):=HW hN hv hd hcd
end
theorem t7 {A B:Prop}(h:B):if false=true then A else B:=by
 rw[Lo LN];exact h
theorem n8 {A B:Prop}(h:A):if true=true then A else B:=by
 rw[Lp rfl];exact h
theorem gH {c A B:Prop} [Decidable c] (h1:c->A)(h2:¬c->B):if c then A else B:=by
 by_cases h:c
 · rw[Lp h];exact h1 h
 · rw[Lo h];exact h2 h
def au (H H':Hp):Prop:=∀b o,H b=some o->H' b=some o
theorem au.refl (H:Hp):au H H:=λ_ _ h=>h
theorem au.trans {H H1 H2:Hp}(a:au H H1)(b:au H1 H2):au H H2:=λc o h=>b c o (a c o h)
theorem au.free {H H':Hp}(e:au H H'){l:Addr}(h:H' l=Option.none):H l=Option.none:=by
 cases q:H l with
 |none=>rfl
 |some o =>
  rw[e l o q] at h;cases h
theorem au.seq {K:Oc}{H H':Hp}{a:Addr}{xs:List V}(e:au H H')(h:aS K H a xs):aS K H' a xs:=by
 rcases h with (h|⟨o,h⟩)|h
 · exact .inl (.inl (e _ _ h))
 · exact .inl (.inr ⟨o,e _ _ h⟩)
 · exact .inr h
section
variable {κ:Type} [DecidableEq κ]
end
end L2
end
set_option autoImplicit false
set_option linter.all false
set_option maxRecDepth 100000
set_option maxHeartbeats 2000000
namespace BwX
open PySem PySem.Calls PySem.Spec PyProof.Rows
structure Nt (fs ch:List Addr)(h g:Heap):Prop where
 keep:∀b o,h.get? b=some o->b∉fs->b∉ch->g.get? b=some o
 slot:∀b o,h.get? b=some o->b∉ch->∃sl,g.get? b=some {o with slots:=sl}
section
variable {fs ch fs' ch':List Addr}{h g k:Heap}
theorem Nt.refl (fs ch:List Addr) (h:Heap):Nt fs ch h h:=⟨λ_ _ e _ _=>e,λ_ o e _=>⟨o.slots,e⟩⟩
theorem Nt.trans (a:Nt fs ch h g)(b:Nt fs ch g k):Nt fs ch h k where
 keep:=λc o e hf hc=>b.keep c o (a.keep c o e hf hc) hf hc
 slot:=λc o e hc=>by
  obtain⟨_,e1⟩:=a.slot c o e hc;obtain⟨sl,e2⟩:=b.slot c _ e1 hc;exact⟨sl,e2⟩
theorem Nt.mono (a:Nt fs ch h g)(hf:∀b∈fs,b∈fs')(hc:∀b∈ch,b∈ch'):Nt fs' ch' h g :=
 ⟨λb o e n m=>a.keep b o e (λz=>n (hf b z)) λz=>m (hc b z),λb o e m=>a.slot b o e λz=>m (hc b z)⟩
theorem Nt.push (o:Obj):Nt fs ch h (h.push o):=⟨λ_ _ e _ _=>Lq o e,λ_ u e _=>⟨u.slots,Lq o e⟩⟩
theorem Nt.upd {a:Addr}{f:Obj->Obj}(ha:a∈ch):Nt fs ch h (h.update a f):=by
 have kH:∀b,b∉ch->(h.update a f).get? b=h.get? b:=λb m=>Nk _ _ λz=>m (z ▸ ha);exact⟨λb o e _ m=>(kH b m).trans e,λb o e m=>⟨o.slots,(kH b m).trans e⟩⟩
theorem Nt.slots (so:Heap.SlotsOnly fs h g):Nt fs ch h g:=⟨λb o e n _=>(so.2.1 b n).trans e,λb o e _=>so.2.2 b o e⟩
end
def Rec (h:Heap)(a:Addr)(k:Value)(d:Option Addr)(vs:Array Value):Prop:=∃o,h.get? a=some o/\(o.cls=k/\o.dict=d)/\o.data=.fields vs
section
variable {M:Model}{A:Around}{E:Od}{s:Shared}{h g:Heap}{a:Addr}{k x:Value}{d:Option Addr}{vs:Array Value}{i:Nat}
theorem Rec.put (r:Rec h a k d vs):Rec (h.update a (Obj.mapFields (·.setIfInBounds i x))) a k d (vs.setIfInBounds i x):=by
 obtain⟨⟨oc,od,dt,sl⟩,e,c,dd⟩:=r;cases dd;exact⟨_,Mn _ e rfl,c,rfl⟩
theorem Rec.over {fs ch:List Addr}(r:Rec h a k d vs)(N:Nt fs ch h g)(m:a∉ch):Rec g a k d vs:=by
 obtain⟨o,e,c,dd⟩:=r;obtain⟨sl,e'⟩:=N.slot a o e m;exact⟨_,e',c,dd⟩
theorem Rec.read {Q:Od}(r:Rec s.heap a k d vs)(hi:vs[i]?=some x)(q:Q x s):wpAny M A (field (.ref a) i) Q E s:=by
 obtain⟨o,e,_,dd⟩:=r;exact wpAny_field e dd hi q
theorem Rec.write {Q:Unit->Shared->Prop}(r:Rec s.heap a k d vs)(hi:i < vs.size)(q:Q () {s with heap:=s.heap.update a (Obj.mapFields (·.setIfInBounds i x))}):wpAny M A (setField (.ref a) i x) Q E s:=by
 obtain⟨o,e,_,dd⟩:=r;exact wpAny_setField e dd hi q
end
def kI (h0 h:Heap)(e:Addr)(k:Value)(dx:Addr)(p:Option (Addr×Value)):Prop :=
 ∃vs,(Rec h e k (some dx) vs/\h0.get? e=none) /\
  match p with
  |none=>vs[1]?=some .none
  |some (T,fl)=>vs[1]?=some (.ref T)/\T≠e/\h0.get? T=none/\∃c d ts,Rec h T c d ts/\ts[3]?=some fl
def jV (e:Addr)(p:Option (Addr×Value)):List Addr:=e::p.toList.map (·.1)
section
variable {h0 h1 h:Heap}{e dx:Addr}{k:Value}{p:Option (Addr×Value)}
theorem kI.x_ (F:kI h0 h e k dx p):∀b∈jV e p,h0.get? b=none/\∃c d vs,Rec h b c d vs:=by
 obtain⟨vs,⟨r,n⟩,q⟩:=F;intro b hb;cases p with
 |none =>
  obtain rfl:b=e:=by simpa [jV] using hb
  exact⟨n,_,_,_,r⟩
 |some p =>
  obtain⟨_,_,nT,c,d,ts,rT,_⟩:=q;have hb:b=e∨b=p.1:=by simpa [jV] using hb
  rcases hb with rfl|rfl
  · exact⟨n,_,_,_,r⟩
  · exact⟨nT,c,d,ts,rT⟩
theorem kI.low (F:kI h0 h e k dx p)(hm:∀b,h0.get? b=none->h1.get? b=none):kI h1 h e k dx p:=by
 obtain⟨vs,⟨r,n⟩,q⟩:=F;cases p with
 |none=>exact⟨vs,⟨r,hm _ n⟩,q⟩
 |some p =>
  obtain⟨q1,q2,q3,q4⟩:=q;exact⟨vs,⟨r,hm _ n⟩,q1,q2,hm _ q3,q4⟩
end
section
variable {M:Model}{A:Around}{E:Od}{s:Shared}{base:Heap}{env:Env}{outer:List Env}{L e dx:Addr}{k:Value}{h0:Heap}
theorem entry {vs:Array Value} {hd0:Value} {nx:Bool} {Q:Unit->Shared->Prop} (fr:A.frames=some (env::outer)) (ff:s.heap.FunFrames base (env::outer)) (hf:env.frame=some L) (r:Rec s.heap e k (some dx) vs) (hz:1 < vs.size)
  (fin:∀g T c d ts,s.heap.objs.size<=T->T≠e->Nt ((env::outer).filterMap (·.frame)) [e] s.heap g->Rec g e k (some dx) (vs.setIfInBounds 1 (.ref T))->Rec g T c d ts->ts[3]?=some (rawInt L)->Q () {s with heap:=g}) :
  wpAny M A (frameOf env >>= λa=>entryPlaceOf L nx >>= λpl=>EntryCells.newEntry hd0 a .none (rawInt L) .none pl >>= λb=>setField (.ref e) 1 b) Q E s:=by
 refine Lm (wpAny_frameOf_fun fr ff hf λg so=>Lm (wpAny_entryPlaceOf λpl ip=>Lm ?_));simp only[EntryCells.newEntry,newFields];refine MP ?_ (ip.sizeOk5 _ _ _ _ _);have h3:(([hd0,Value.ref L,Value.none,rawInt L,Value.none]++(if pl.isEmpty then List.replicate 6 Value.none else pl)).toArray)[3]?=some (rawInt L):=by simp
 generalize ([hd0,Value.ref L,Value.none,rawInt L,Value.none]++(if pl.isEmpty then List.replicate 6 Value.none else pl)).toArray=ts at h3;have r2:Rec (g.push {cls:=.type "traceback",dict:=none,data:=.fields ts}) e k (some dx) vs:=r.over ((Nt.slots so).trans (Nt.push _):Nt _ [] _ _) (by simp);have ne:g.objs.size≠e:=by
  obtain⟨o,eo,_⟩:=r.over (Nt.slots so:Nt _ [] _ _) (by simp);exact Nat.ne_of_gt (LA eo)
 have rT:Rec (g.push {cls:=.type "traceback",dict:=none,data:=.fields ts}) g.objs.size (.type "traceback") none ts:=⟨_,LD g rfl,⟨rfl,rfl⟩,rfl⟩;have up:Nt ((env::outer).filterMap (·.frame)) [e] (g.push {cls:=.type "traceback",dict:=none,data:=.fields ts}) _:=Nt.upd (f:=Obj.mapFields (·.setIfInBounds 1 (Value.ref g.objs.size))) (LC.mpr rfl);exact Rec.write (s:={s with heap:=g.push {cls:=.type "traceback",dict:=none,data:=.fields ts}}) r2 hz
  (fin _ g.objs.size _ _ ts (N5 so.1.symm) ne (((Nt.slots so).trans (Nt.push _)).trans up) r2.put (rT.over up λz=>ne (LC.mp z)) h3)
theorem fc {vs:Array Value}{i:Nat}{x:Value}(h:vs[i]?=some x):i < vs.size:=(Array.getElem?_eq_some_iff.mp h).1
theorem w8 {p:Option (Addr×Value)}{Q:Unit->Shared->Prop}(fr:A.frames=some (env::outer))(ff:s.heap.FunFrames base (env::outer))(hf:env.frame=some L)(F:kI h0 s.heap e k dx p)(hst:∀b,s.heap.get? b=none->h0.get? b=none)
  (hp:∀T fl,p=some (T,fl)->fl=.none∨fl=rawInt L)
  (fin:∀g T,kI h0 g e k dx (some (T,rawInt L))->(T∈jV e p∨s.heap.objs.size<=T)->Nt ((env::outer).filterMap (·.frame)) (jV e p) s.heap g->Q () {s with heap:=g}):wpAny M A (noteFrame (.ref e) env) Q E s:=by
 obtain⟨vs,⟨r,n⟩,q⟩:=F;have made:∀(h:Heap),h.objs.size=s.heap.objs.size->∀g T c d ts,h.objs.size<=T->T≠e->Rec g e k (some dx) (vs.setIfInBounds 1 (.ref T))->Rec g T c d ts->ts[3]?=some (rawInt L)->1 < vs.size->kI h0 g e k dx (some (T,rawInt L)):=λh hs g T c d ts hT ne r1 rT h3 hz =>
  ⟨_,⟨r1,n⟩,by simp[hz],ne,hst T (Heap.get?_none_of_le (hs ▸ hT)),c,d,ts,rT,h3⟩
 simp only[noteFrame,hf];cases p with
 |none =>
  refine Lm (r.read q ?_);exact entry fr ff hf r (fc q) λg T c d ts hT ne N r1 rT h3=>fin g T (made _ rfl g T c d ts hT ne r1 rT h3 (fc q)) (.inr hT) N
 |some p =>
  obtain⟨T,fl⟩:=p;obtain⟨h1,ne,nT,c,d,ts,rT,h3⟩:=q;refine Lm (r.read h1 (Lm (rT.read h3 ?_)));rcases hp T fl rfl with rfl|rfl
  · have N1:Nt ((env::outer).filterMap (·.frame)) [T] s.heap _:=Nt.upd (f:=Obj.mapFields (·.setIfInBounds 3 Value.none)) (LC.mpr rfl);have r1:=r.over N1 λz=>ne (LC.mp z).symm;have hs:(s.heap.update T (Obj.mapFields (·.setIfInBounds 3 Value.none))).objs.size=s.heap.objs.size:=Heap.size_after_update ..;have f1:(s.heap.update T (Obj.mapFields (·.setIfInBounds 3 Value.none))).FunFrames base (env::outer):=ff.of_keeps λb o eb nb=>by
     obtain⟨sl,z⟩:=N1.slot b o eb λz=>by
      obtain⟨u,eu,_,du⟩:=rT;rw[LC.mp z,eu] at eb;cases eb;exact nb ts du
     exact⟨_,z,rfl⟩
    refine Lm (rT.write (fc h3) ?_);refine entry (s:={s with heap:=s.heap.update T (Obj.mapFields (·.setIfInBounds 3 Value.none))}) fr f1 hf r1 (fc h1) λg T' c' d' ts' hT ne' N r2 rT' h3'=>?_;refine fin g T' (made _ hs g T' c' d' ts' hT ne' r2 rT' h3' (fc h1)) (.inr (Ma (N5 hs.symm) hT)) ?_;exact (N1.mono (λ_ z=>z) λb z=>by simp at z;simp[jV,z]).trans (N.mono (λ_ z=>z) λb z=>by simp at z;simp[jV,z])
  · have same:(rawInt L==rawInt L)=true:=by first|exact beq_self_eq_true _|simp
    rw[Lp same];exact Lu (fin s.heap T ⟨vs,⟨r,n⟩,h1,ne,nT,c,d,ts,rT,h3⟩ (.inl (by simp[jV])) (Nt.refl _ _ _))
theorem wI {T:Addr}{fl:Value}{v:Option Addr}{fs:List Addr}{Q:Unit->Shared->Prop}(F:kI h0 s.heap e k dx (some (T,fl)))
  (fin:∀g,kI h0 g e k dx (some (T,v.elim .none λf=>rawInt f))->Nt fs (jV e (some (T,fl))) s.heap g->Q () {s with heap:=g}) :
  wpAny M A (setFlight (.ref e) v) Q E s:=by
 obtain⟨vs,⟨r,n⟩,h1,ne,nT,c,d,ts,rT,h3⟩:=F;have N1:Nt fs [T] s.heap _:=Nt.upd (f:=Obj.mapFields (·.setIfInBounds 3 (v.elim Value.none λf=>rawInt f))) (LC.mpr rfl);simp only[setFlight];refine Lm (r.read h1 (rT.write (fc h3) (fin _ ⟨vs,⟨r.over N1 λz=>ne (LC.mp z).symm,n⟩,h1,ne,nT,c,d,_,rT.put,by simp[fc h3]⟩ ?_)));exact N1.mono (λ_ z=>z) λb z=>by simp at z;simp[jV,z]
end
end BwX
namespace BwX
open PySem PySem.Calls PySem.W Builtin Builtin.ObjectAttr
abbrev qP:Og:=[.type "Exception",.type "BaseException",.type "object"]
def cJ (o:Obj)(C N:Addr):Prop:=∃nm q bs sn sub ab col dd k0 k1 k2 k3 k5,o=excClassObj nm q C N bs qP true sn sub ab col dd k0 k1 k2 k3 k5 "Exception.__new__"
section
variable {M:Model}{h:Heap}{a C N:Addr}{oC:Obj}{d:Option Addr}{vs:Array Value}
theorem Rec.type {k:Value} (r:Rec h a k d vs):Looks M h (typeOf (.ref a)) k:=by
 obtain⟨o,e,⟨c,_⟩,_⟩:=r;exact c ▸ (Looks.ld e).andThen .now
theorem cJ.data (Z:cJ oC C N)(e:h.get? C=some oC):∃cd:ClassData,Looks M h (classData C) cd/\cd.mro=.ref C::qP/\cd.hasDict=true:=by
 obtain⟨nm,q,bs,sn,sub,ab,col,dd,k0,k1,k2,k3,k5,rfl⟩:=Z;exact⟨_,(Looks.ld (part:=none) e).andThen .now,rfl,rfl⟩
theorem cJ.mro (Z:cJ oC C N)(e:h.get? C=some oC):Looks M h (mroOf (.ref C)) (.ref C::qP):=by
 obtain⟨cd,l,m,_⟩:=Z.data (M:=M) e;exact l.andThen (m ▸ .now)
theorem cJ.sub (Z:cJ oC C N)(e:h.get? C=some oC){b:Value}{r:Bool}(hb:(Value.ref C::qP).contains b=r):Looks M h (isSubtype (.ref C) b) r:=by
 unfold isSubtype;refine (Z.mro e).andThen ?_;dsimp only;rw[hb];exact .now
theorem cJ.meta (Z:cJ oC C N)(e:h.get? C=some oC):Looks M h (typeOf (.ref C)) (.type "type"):=by
 obtain⟨nm,q,bs,sn,sub,ab,col,dd,k0,k1,k2,k3,k5,rfl⟩:=Z;exact (Looks.ld e).andThen .now
theorem Rec.IT {k:Value}(r:Rec h a k d vs):Looks M h (isType (.ref a)) false:=by
 obtain⟨o,e,_,dt⟩:=r;refine (Looks.ld e).andThen ?_;rw[dt];exact .now
end
section
variable {M:Model}{A:Around}{E:Od}{s:Shared}{env:Env}
theorem xf {x:Sem Value} {Q:Flow->Shared->Prop} (hh:A.handled=none)
  (h:wpAny M A x (λv s1=>∃e C N oC d vs,v=.ref e/\Rec s1.heap e (.ref C) d vs/\vs[1]?=some .none/\s1.heap.get? C=some oC/\cJ oC C N/\E (.ref e) s1) E s) :
  wpAny M A (raiseStmt env (some x) none) Q E s:=by
 refine Lm (MF h (λv s1 q=>?_) λ_ _ z=>z);obtain⟨e,C,N,oC,d,vs,rfl,r,h1,eC,Z,hE⟩:=q;obtain⟨hp,g,dr,tk,os⟩:=s1;have r:Rec hp e (.ref C) d vs:=r;have eC:hp.get? C=some oC:=eC;have l0:=r.type (M:=M);have l1:=Z.sub (M:=M) eC (b:=.type "BaseException") (r:=true) (by rw[List.contains_cons];exact Bool.or_eq_true_iff.mpr (.inr (by decide)));have l2:=Z.meta (M:=M) eC;have l3:=r.IT (M:=M);have lE:Looks M hp (isExcClass (.ref e)) false:=l3.andThen .now;have lI:Looks M hp (isInstance (.ref e) (.type "BaseException")) true:=l0.andThen l1;have l4:Looks M hp (excFromValue (.ref e) "exceptions must derive from BaseException") (.ref e):=lE.andThen (lI.andThen .now);have l5:Looks M hp (raisedInstance (.ref e)) (.ref e):=l0.andThen (l2.andThen .now);refine Lm (Lu (Lm (Np (l4.at ?_))));refine Lm (l3.at (Lm (l5.at (Lm ?_))));refine Lm (r.read (s:=⟨hp,g,dr,tk,os⟩) h1 (Lu ?_));exact wpAny_raiseNew_none hh hE
end
theorem DZ {o:Obj}{es:Array DictEntry}{ep:Nat}{f:Str}{v:Value}(d:o.data=.dict es ep)(e:nsFind es f=some v):lookIn f o=some (some v):=by
 unfold lookIn;rw[d];unfold nsFind findBy at e;rw[←Array.find?_toList] at e;dsimp only;split
 · rename_i en he;rw[he] at e;exact Mu some e
 · rename_i he;rw[he] at e;cases e
section
variable {prog:Program}{w:World}{A:Around}{E:Od}{K:Frag}{h:Heap}{g:Array GenState}{dr:Drawn}{tk:Nat}{os:OsState}{a C N dx:Addr}{oC:Obj}{vs:Array Value}{f:Str}{v:Value}{mA:Oe}{b:Bool}
theorem vJ {Q:Od} (X:K.In h) (eC:K.lookup C=some oC) (Z:cJ oC C N) (ga:findIn K (.ref C) "__getattribute__"=some (some (.builtin "BaseException.__getattribute__"))) (gt:findIn K (.ref C) "__getattr__"=some none) (nf:findIn K (.ref C) f=some none)
  (r:Rec h a (.ref C) (some dx) vs) (n:h.Ns1 dx mA) (hv:mA f=some v) (hh:handedOut v=pure v) (q:Q v ⟨h,g,dr,tk+1,os⟩):wpAny (model prog w) A (getAttr (.ref a) f b) Q E ⟨h,g,dr,tk,os⟩:=by
 obtain⟨o,e,⟨c,d⟩,dt⟩:=id r;obtain⟨od,es,ep,e1,e2,_,_,e3⟩:=n;obtain⟨nm,q',bs,sn,sub,ab,col,dd,k0,k1,k2,k3,k5,rfl⟩:=id Z;have I:InstAt h a o C (some od):=⟨e,c,by unfold notCls;rw[dt],by rw[d];exact e1⟩;have fo:findObj K C (some od) f=some (.value v):=by
  obtain⟨cd,hc,hd⟩:∃cd,clsIn K C=some cd/\cd.hasDict=true:=⟨_,by unfold clsIn;rw[eC],rfl⟩;have ho:ownOf cd (some od) f=some (some v):=(Lp hd).trans (DZ e2 ((e3 f).trans hv));unfold findObj;rw[hc,nf];show (ownOf cd (some od) f).bind _=_;rw[ho];rfl
 have FB:=F.attrBase_Exception;have l0:=I.type (M:=model prog w);have l1:=looks_findIn (M:=model prog w) X ga;have l2:=looks_findIn (M:=model prog w) X gt;have l3:=looks_find (M:=model prog w) X I fo;refine Lm (wpAny_mkText (Np (Lm (l0.at (Lm (l1.at ?_))))));show wpAny _ _ (getAttrByItsOwn (.ref a) (.str f tk) (.ref C) (.builtin "BaseException.__getattribute__") true b) _ _ _;refine Lm (l2.at (Lm (wpAny_attempt (Np ?_))));have hcall:callGetattribute (.ref a) (.str f tk) (.builtin "BaseException.__getattribute__") b=call (.builtin "BaseException.__getattribute__") [.ref a,.str f tk]:=by
  have hb:callGetattribute (.ref a) (.str f tk) (.builtin "BaseException.__getattribute__") b=boundAndCalled (.builtin "BaseException.__getattribute__") (.ref a) (.str f tk):=by cases b <;> rfl
  rw[hb];unfold boundAndCalled;rw[FB.ga.bind];rfl
 rw[hcall];refine wpAny_call (codeAny_call_builtin FB.ga.plain F.entry_bexc_ga (wpAny_check_ga_own FB (X _ _ eC) .base e c ?_));refine Lm (Lu (Lm (Lu (Lm (l0.at (Lm (l3.at (Lu ?_))))))));show wpAny _ _ (handedOut v) _ _ _;rw[hh];exact Lu q
theorem uN {sl:Array (Option Value)}{Q:Unit->Shared->Prop}(X:K.In h)(eC:K.lookup C=some oC)(Z:cJ oC C N)(sa:findIn K (.ref C) "__setattr__"=some (some (.builtin "object.__setattr__")))(nf:findIn K (.ref C) f=some none)
  (e:h.get? a=some ⟨.ref C,none,.fields vs,sl⟩)
  (fin:∀g' tk',g'.get? a=some ⟨.ref C,some h.objs.size,.fields vs,sl⟩->g'.Ns1 h.objs.size (λy=>if y=f then some v else none)->(∀b o,b≠a->h.get? b=some o->g'.get? b=some o)->Q () ⟨g',g,dr,tk',os⟩) :
  wpAny (model prog w) A (setAttr (.ref a) f v) Q E ⟨h,g,dr,tk,os⟩:=by
 have SF:=F.store_Exception;have r:Rec h a (.ref C) none vs:=⟨_,e,⟨rfl,rfl⟩,rfl⟩;have eC':=X _ _ eC;have l0:=r.type (M:=model prog w);have l1:=looks_findIn (M:=model prog w) X sa;have l2:=looks_findIn (M:=model prog w) X nf;have l3:=Z.mro (M:=model prog w) eC';obtain⟨cd,l4,_,hd⟩:=Z.data (M:=model prog w) eC';have ne:a≠h.objs.size:=L0 (LA e);obtain⟨nm,q',bs,sn,sub,ab,col,dd,k0,k1,k2,k3,k5,rfl⟩:=id Z;refine Lm (wpAny_mkText (Lm (Lm (Lm (l0.at (l1.at ?_))))));refine Np (Lm ?_);rw[SF.slot.bind];refine Lu (Lm (wpAny_call ?_));refine codeAny_call_builtin SF.slot.plain SF.entry ?_;show wpAny _ _ (checkBuiltinCall "object.__setattr__" ⟨[.ref a,.str f tk,v],[]⟩) _ _ _;refine PySem.wpAny_check_sa (sa:="object.__setattr__") (owner:="object") (B:="Exception") (bm:=qP) SF (x:=a) (C:=C) eC' e rfl ?_;show wpAny _ _ (Builtin.«object.__setattr__» ⟨[.ref a,.str f tk,v],[]⟩) _ _ _;rw[osa_eq,refuse_eq];refine Lm (Lm (l0.at (Lm (l3.at ?_))));rw[refuseLoop_ref,SF.passes];refine Lu (Lm (l0.at (Lm (l2.at (Lm (Lu ?_))))));show wpAny _ _ (storeInOwnDict (.ref a) (.ref C) (.str f tk) f v false) _ _ _;have dic:∀(A':Around) (E':Od) (Q':Option Addr->Shared->Prop) (tk':Nat),Q' (some h.objs.size) ⟨(h.push {cls:=.type "dict",data:=.dict #[]}).update a λo=>{o with dict:=some h.objs.size},g,dr,tk',os⟩ ->
   wpAny (model prog w) A' (ownDictForStores (.ref a)) Q' E' ⟨h,g,dr,tk',os⟩:=λA' E' Q' tk' z=>by
  refine Lm (wpAny_loadPart e (Lm (l4.at ?_)));rw[hd];exact Lm (wpAny_alloc (Lm (wpAny_update (Lq _ e) (Lu z))))
 refine Lm (Lu (Lm (dic _ _ _ _ ?_)));have atA:((h.push {cls:=.type "dict",data:=.dict #[]}).update a λo=>{o with dict:=some h.objs.size}).get? a=some ⟨.ref C,some h.objs.size,.fields vs,sl⟩:=Mn _ (Lq _ e) rfl;have atD:((h.push {cls:=.type "dict",data:=.dict #[]}).update a λo=>{o with dict:=some h.objs.size}).get? h.objs.size=some {cls:=.type "dict",data:=.dict #[]}:=(Nk _ _ ne).trans (LD h rfl);have old:∀b o,b≠a->h.get? b=some o->((h.push {cls:=.type "dict",data:=.dict #[]}).update a λo=>{o with dict:=some h.objs.size}).get? b=some o:=λb o n eb=>(Nk _ _ (N4 n)).trans (Lq _ eb);generalize ((h.push {cls:=.type "dict",data:=.dict #[]}).update a λo=>{o with dict:=some h.objs.size})=h1 at atA atD old;have n1:h1.Ns1 h.objs.size (λ_=>none):=⟨_,#[],_,atD,rfl,λy hy=>by simp at hy,by unfold UniqKeys;simp,λ_=>rfl⟩;show wpAny _ _ (storeInDict h.objs.size (.str f tk) f v) _ _ _;refine Lm (Lu (Lm (wpAny_nsSet1 n1 λh2 n2 same=>?_)));obtain⟨oD,esD,epD,hoD,hdD,vw⟩:=n2.count (Within.cons f v Within.nil);refine Lm (wpAny_lookBehind hoD (by rw[hdD];exact pastItsLine_dict (Ma vw (by show 1<=sizeLine+1;decide))) (Lu ?_));refine Lu (Lu (fin h2 _ ((same.2 a ne).trans atA) n2 λb o n eb=>(same.2 b (L0 (LA eb))).trans (old b o n eb)))
end
end BwX
namespace L2
open PySem PySem.Spec PyProof.Rows BwX
def ff (k p:Int):List (Str×V):=[("kind",.int k),("place",.int p)]
def rY (dx:Addr)(fs:List (Str×V)):HO:=.ext λh=>∃mA,h.Ns1 dx mA/\∀f,iK (fs.lookup f) (mA f)
def Rz (C:Addr)(E:XK)(k p:Int):Prop:=∀(H:Hp) (dx:Addr),H dx=some (rY dx (ff k p))->E (.ref C) (some dx) H
def eX (P:Program)(w:World)(C:Addr):mr:=λouter H s E e s' =>
 ∃(a dx T:Addr) (H':Hp) (k p:Int),(e=.ref a/\s'.os=s.os/\AllBare s'.gens/\Un (vT outer) [] H H' s.heap s'.heap/\ir P w H' s'.heap) /\
  kI s.heap s'.heap a (.ref C) dx (some (T,.none))/\(∀b∈jV a (some (T,Value.none)),H' b=none)/\H' dx=some (rY dx (ff k p))/\Rz C E k p
def XF (X:Cx)(C:Addr)(E:XK):Value->Shared->Prop:=λe s' =>
 ∃(σ:St) (H:Hp) (a dx:Addr) (t:Option (Addr×Value)) (k p:Int),(e=.ref a/\Inv X [] σ H s')/\kI X.kJ.heap s'.heap a (.ref C) dx t/\(∀b∈jV a t,H b=none) /\
  (∀T fl,t=some (T,fl)->fl=.none∨fl=rawInt X.env.locals)/\H dx=some (rY dx (ff k p))/\Rz C E k p
structure mn (X:Cx):Prop where
 FY:X.stack=X.env::X.outer
 frame:X.env.frame=some X.env.locals
 pn:X.pn=[]
 ex:X.ex=[]
section
variable {X:Cx}{pins:Of}{σ:List (Option V)}{H H':Hp}{s:Shared}{h':Heap}
theorem Inv.gone (I:Inv X pins σ H s) (O:mn X):∀b,s.heap.get? b=none->X.kJ.heap.get? b=none:=λb e=>by
 cases q:X.kJ.heap.get? b with
 |none=>rfl
 |some o =>
  obtain⟨o',z⟩:=I.base.there b o q (by rw[O.ex];simp);rw[e] at z;cases z
end
section
variable {X:Cx}{σ:St}{H:Hp}{s:Shared}{C a dx:Addr}{E:XK}{M:Model}
theorem Inv.FG {g:Heap} {ch:List Addr} (I:Inv X [] σ H s) (O:mn X) (nt:Nt (vT X.stack) ch s.heap g) (hch:∀b∈ch,X.kJ.heap.get? b=none/\∃c d vs,Rec s.heap b c d vs) (hH:∀b∈ch,H b=none):Inv X [] σ H {s with heap:=g}:=by
 refine I.F8 (s':={s with heap:=g}) (ch:=ch) rfl ⟨λb o e _ hb hc=>nt.keep b o e hb hc,λb o e _ _ hc=>nt.slot b o e hc,λ_ _ _ n _=>n,λb o e hc=>(let ⟨_,z⟩:=nt.slot b o e hc;⟨_,z⟩),λ_ _ e=>e,λ_ _ _ e=>e,λb ps e=>⟨#[],by rw[e];simp⟩⟩ (λb u e=>?_) I.bare (λb hb=>?_)
 · refine (I.bw b u e).kH (λc v hc q=>?_) (λ_ q=>q) λ_ _ q=>q;have tr:H c≠none:=by
    rcases hc with rfl|hc
    · rw[e];simp
    · rw[hc];simp
   exact nt.keep c v q (λz=>tr (I.sM c z)) λz=>tr (hH c z)
 · obtain⟨h1,c,d,vs,o,ho,_,hd⟩:=hch b hb;refine⟨.inr h1,?_,?_,?_⟩
   · rintro rfl;obtain⟨m,⟨o',es,ep,ho',hd',_⟩,_⟩:=I.loc;rw[ho'] at ho;cases ho;rw[hd'] at hd;cases hd
   · rintro x c e rfl;obtain⟨v,o',ho',hd'⟩:=I.cell x c e;rw[ho'] at ho;cases ho;rw[hd'] at hd;cases hd
   · intro p hp;rw[O.pn] at hp;simp at hp
theorem wB {t:Option (Addr×Value)}{k:Value}{E':Od}{Q:Unit->Shared->Prop}(O:mn X)(I:Inv X [] σ H s)(F:kI X.kJ.heap s.heap a k dx t)(hH:∀b∈jV a t,H b=none)
  (hfl:∀T fl,t=some (T,fl)->fl=.none∨fl=rawInt X.env.locals)
  (fin:∀g T,Inv X [] σ H {s with heap:=g}->kI X.kJ.heap g a k dx (some (T,rawInt X.env.locals))->(∀b∈jV a (some (T,rawInt X.env.locals)),H b=none)->Q () {s with heap:=g}) :
  wpAny M X.A (noteFrame (.ref a) X.env) Q E' s:=by
 have fr:=I.ok.frames;have ff:=I.stack;rw[O.FY] at fr ff;refine w8 (base:=X.base) fr ff O.frame F (I.gone O) hfl λg T F' hT N=>fin g T (I.FG O (by rw[O.FY];exact N) F.x_ hH) F' λb hb=>?_;rcases Lr.mp hb with rfl|hb
 · exact hH _ (L_ ..)
 · have:b=T:=by simpa using hb
   subst this;rcases hT with hT|hT
   · exact hH _ hT
   · exact I.bw.fresh hT
theorem lZ {T:Addr}{fl k:Value}{v:Option Addr}{E':Od}{Q:Unit->Shared->Prop}{A:Around}(O:mn X)(I:Inv X [] σ H s)(F:kI X.kJ.heap s.heap a k dx (some (T,fl)))(hH:∀b∈jV a (some (T,fl)),H b=none)
  (fin:∀g,Inv X [] σ H {s with heap:=g}->kI X.kJ.heap g a k dx (some (T,v.elim .none λf=>rawInt f))->Q () {s with heap:=g}) :
  wpAny M A (setFlight (.ref a) v) Q E' s :=
 wI (fs:=vT X.stack) F λg F' N=>fin g (I.FG O N F.x_ hH) F'
theorem Fg {P:Program}{w:World}{e:Value}{Q:Unit->Shared->Prop}{E':Od}(O:mn X)(hP:X.prog=P)(hw:X.w=w)(h:XF X C E e s)(fin:∀s',eX P w C X.outer X.HY X.kJ E e s'->Q () s'):wpAny M X.A (leaving X.env e) Q E' s:=by
 obtain⟨σ,H,a,dx,t,k,p,⟨rfl,I⟩,F,hH,hfl,hx,hz⟩:=h;unfold leaving;refine Lm (wB O I F hH hfl λg T I1 F1 H1=>lZ O I1 F1 H1 λg2 I2 F2=>fin _ ?_);have b:=I2.base;rw[O.ex] at b;exact⟨a,dx,T,H,k,p,⟨rfl,I2.os,I2.bare,b,hP ▸ hw ▸ I2.bw⟩,F2,H1,hx,hz⟩
theorem yi (O:mn X):PassesOwn M X.A X.env (XF X C E):=by
 rintro e s' ⟨σ,H,a,dx,t,k,p,⟨rfl,I⟩,F,hH,hfl,hx,hz⟩;refine wB O I F hH hfl λg T I1 F1 H1=>?_;unfold cameBackBy;obtain⟨vs,⟨r,_⟩,h1,_⟩:=id F1;refine Lm (Rec.read (s:={s' with heap:=g}) r h1 ?_);rw[Lo (by simp)];refine lZ O I1 F1 H1 λg2 I2 F2=>?_;refine⟨σ,H,a,dx,_,k,p,⟨rfl,I2⟩,F2,H1,λT' fl' q=>?_,hx,hz⟩;rw[O.frame] at q;injection q with q;injection q with _ q;exact .inr q.symm
theorem bS {P:Program}{w:World}(O:mn X)(hP:X.prog=P)(hw:X.w=w):Passes (eX P w C) (X.iB (XF X C E)) E:=by
 rintro pins σ H s e s' I ⟨a,dx,T,H',k,p,⟨rfl,os,bare,un,bw⟩,F,hH,hx,hz⟩;subst hP hw;have I1:Inv X pins σ H s:=I.dm;have I2:Inv X pins σ H' s':=I1.Fq (ch:=[]) os un bw bare (λb z=>absurd z (by simp));refine⟨σ,H',a,dx,_,k,p,⟨rfl,I2.lQ (pins':=[]) (λp hp=>absurd hp (by simp))⟩,F.low (I1.gone O),hH,λT' fl' q=>?_,hx,hz⟩;injection q with q;injection q with _ q;exact .inl q.symm
end
section
variable {P:Program}{w:World}{K:Oc}{mg:Oe}{base:Heap}
theorem aJ {CX:mr} {N:List Str} {qual:Str} {scope:Scope} {f:Addr} {cd:Value} {A:Around} {outer:List Env} {s:Shared} {H:Hp} {E:XK}:mn (n_ CX P w K mg base N qual scope f cd A outer s H E):=⟨rfl,rfl,rfl,rfl⟩
abbrev Ld (C:Addr)(P:Program)(w:World)(K:Oc)(mg:Oe)(base:Heap)(N:List Str)(qual:Str)(scope:Scope)(f:Addr)(cd:Value)(A:Around)(outer:List Env)(s:Shared)(H:Hp)(E:XK):Cx :=
 (n_ (eX P w C) P w K mg base N qual scope f cd A outer s H E).iB (XF (n_ (eX P w C) P w K mg base N qual scope f cd A outer s H E) C E)
theorem dI.zb {x qual:Str}{st:Stmt}{f C:Addr}{fd:FuncData}{N ps:List Str}{k:Nat}{sp:Sp}(F:dI K x qual st f fd)(S:aI N ps (ax st))(len:∀vs H Q E,sp vs H Q E->vs.length=ps.length)
  (hbody:∀(cdv:Value) (A:Around) (outer:List Env) (s:Shared) (H:Hp) (vs:List V) (Q:VK) (E:XK),c_ k (A.deeper (envOfC qual (ax st) s.heap.objs.size f cdv))->sp vs H Q E ->
   ∃t,ur (Ld C P w K mg base N qual (ax st) f cdv A outer s H E) (ck st) t/\t {nx:=λ_ H'=>Q .b8 H',rt:=Q} (start N vs) H):bf P w K mg base (eX P w C) (k+1) f fd ps sp:=by
 obtain⟨oc,od,kV,doc,pm,an,cdv,ct,osl,rfl,lk,hcd⟩:=F.ex;refine Fz lk hcd S len λA outer s H vs Q E hr hsp=>?_;obtain⟨t,h,q⟩:=hbody cdv A outer s H vs Q E hr hsp;refine⟨t,λpins s1 σ H1 D I hw=>?_,q⟩;refine MF (h pins s1 σ H1 D (I.iB _) hw) (λ_ _ q=>q.dm) λe s' z=>?_;exact Fg aJ rfl rfl z λs'' z=>z
end
def ic (K:Oc)(N:Addr):Bool:=match K.lookup N with
 |some ⟨_,_,.dict es _,_⟩=>es.toList.all λe=>match e.key with
  |.str _ _=>true
  |_=>false
 |_=>false
def C1 (K:Oc)(N:Addr)(x:Str):Option Value:=match K.lookup N with
 |some ⟨_,_,.dict es _,_⟩=>nsFind es x
 |_=>none
theorem BM {K:Oc}{N:Addr}{h:Heap}(X:K.In h)(e:ic K N=true):h.Ns N (C1 K N):=by
 unfold ic at e;split at e
 · rename_i c d es n sl q;refine⟨_,es,n,X _ _ q,rfl,λy hy=>?_,λname=>?_⟩
   · have z:=LU.mp e y (Array.mem_toList_iff.mpr hy);split at z
     · rename_i a b w;exact⟨a,b,w⟩
     · cases z
   · unfold C1;rw[q]
 · cases e
theorem ug {K:Oc}{N:Addr}{x:Str}{r:Option Value}(e:PySem.W.nsIn K N x=some r):C1 K N x=r:=by
 unfold PySem.W.nsIn at e;unfold C1;split at e
 · rename_i c d es n sl q;rw[q];show nsFind es x=r;unfold nsFind findBy;rw[←Array.find?_toList];split at e
   · rename_i y w;rw[w];exact L1 e
   · rename_i w;rw[w];split at e
     · cases e
     · exact L1 e
 · cases e
structure oU (K:Oc)(C N fI:Addr):Prop where
 cls:∃oC,K.lookup C=some oC/\cJ oC C N
 keys:ic K N=true
 init:PySem.W.nsIn K N "__init__"=some (some (.ref fI))
 fn:PySem.W.isFn K (.ref fI)=true
 kp:PySem.W.keepIn K (.ref C)=true
 Bz:PySem.W.nsIn K N "__setattr__"=some none
 KJ:PySem.W.nsIn K N "kind"=some none
 JW:PySem.W.nsIn K N "place"=some none
 sa:PySem.W.findIn K (.ref C) "__setattr__"=some (some (.builtin "object.__setattr__"))
 ga:PySem.W.findIn K (.ref C) "__getattribute__"=some (some (.builtin "BaseException.__getattribute__"))
 gt:PySem.W.findIn K (.ref C) "__getattr__"=some none
 fK:PySem.W.findIn K (.ref C) "kind"=some none
 fP:PySem.W.findIn K (.ref C) "place"=some none
theorem K4:typeLookup (.type "Exception") "kind"=pure none:=by rw[typeLookup_type,builtinLookup_eq_fast];kernel_rfl
theorem La:typeLookup (.type "Exception") "place"=pure none:=by rw[typeLookup_type,builtinLookup_eq_fast];kernel_rfl
def uq (a C t:Addr)(od:Option Addr):HO:=.ext λh=>h.get? a=some {cls:=.ref C,dict:=od,data:=.fields #[.ref t,.none,.none,.none,.bool false,.none]}
theorem bN.there {P:Program}{w:World}{H:Hp}{h:Heap}{a:Addr}{o:HO}(x:bN P w H h a o):∃u,h.get? a=some u:=by
 cases o with
 |lst xs=>obtain⟨_,_,_,_,e⟩:=x;exact⟨_,e⟩
 |tup xs=>obtain⟨_,_,_,o,e,_⟩:=x;exact⟨_,e⟩
 |dK kvs=>obtain⟨_,_,_,_,o,_,_,e,_⟩:=x;exact⟨_,e⟩
 |dT kvs=>obtain⟨_,_,_,_,o,_,_,e,_⟩:=x;exact⟨_,e⟩
 |set S n=>obtain⟨o,_,_,_,e,_⟩:=x;exact⟨_,e⟩
 |ins C dx fs=>obtain⟨_,_,_,e,_⟩:=x;exact⟨_,e⟩
 |own y=>exact x
 |xd fs=>obtain⟨_,⟨_,_,_,e,_⟩,_⟩:=x;exact⟨_,e⟩
 |rng lo hi=>obtain⟨_,_,_,e⟩:=x;exact⟨_,e⟩
 |frz ob u=>obtain⟨e,_⟩:=x;exact⟨_,e⟩
 |tbl ps=>exact⟨_,show h.get? a=some _ from x⟩
 |met f y=>exact⟨_,show h.get? a=some _ from x⟩
 |ext φ=>obtain⟨_,e,_⟩:=x;exact e
theorem ir.gone {P:Program}{w:World}{H:Hp}{h:Heap}{a:Addr}(x:ir P w H h)(e:h.get? a=none):H a=none:=by
 cases q:H a with
 |none=>rfl
 |some o =>
  obtain⟨u,z⟩:=(x a o q).there;rw[e] at z;cases z
theorem BE {P:Program}{w:World}{H:Hp}{h:Heap}{dx:Addr}{fs:List (Str×V)}{mA:Oe}(n:h.Ns1 dx mA)(r:∀f,iK (fs.lookup f) (mA f)):bN P w H h dx (rY dx fs):=by
 obtain⟨o,es,ep,e,c⟩:=id n;refine⟨⟨mA,n,r⟩,⟨o,e⟩,?_⟩;rintro h1 h2 ⟨m,⟨o,es,ep,e,c⟩,r⟩ k;exact⟨m,⟨o,es,ep,k _ e,c⟩,r⟩
theorem AK {P:Program}{w:World}{H:Hp}{h:Heap}{a C t:Addr}{od:Option Addr}(e:h.get? a=some {cls:=.ref C,dict:=od,data:=.fields #[.ref t,.none,.none,.none,.bool false,.none]}):bN P w H h a (uq a C t od) :=
 ⟨e,⟨_,e⟩,λ_ _ e k=>k _ e⟩
section
variable {X:Cx}{pins:Of}{σ:St}{H:Hp}{s:Shared}{a C N fI t dx:Addr}{fs:List (Str×V)}{f:Str}{v:V}{u:Value}{A:Around}{E':Od}{Q:Unit->Shared->Prop}
theorem Jp (I:Inv X pins σ H s) (Z:oU X.K C N fI) (nf:PySem.W.findIn X.K (.ref C) f=some none) (ea:H a=some (uq a C t none)) (r:RelV v u)
  (h:∀s' dx,H dx=none->dx≠a->Inv X pins σ (upd (upd H dx (rY dx [(f,v)])) a (uq a C t (some dx))) s'->Q () s'):wpAny (model X.prog X.w) A (setAttr (.ref a) f u) Q E' s:=by
 obtain⟨oC,hC,hF⟩:=Z.cls;obtain⟨φ,_,_⟩:=I.bw a _ ea;have hK:=I.mQ;obtain⟨hp,ga,d,tk,os⟩:=s;refine uN hK hC hF Z.sa nf φ λg tk' h1 h2 h3=>?_;have fr:H hp.objs.size=none:=I.bw.fresh (Lx _);have ne:hp.objs.size≠a:=λz=>by rw[z,ea] at fr;cases fr
 refine h ⟨g,ga,d,tk',os⟩ hp.objs.size fr ne ?_;have at_:∀b o,H b=some o->b≠a->(upd (upd H hp.objs.size (rY hp.objs.size [(f,v)])) a (uq a C t (some hp.objs.size))) b=some o:=λb o e n=>by
  rw[aq n,aq (λz=>by rw[z,fr] at e;cases e)];exact e
 have no:∀b o,H b=some o->(∀φ,o≠.ext φ)->b≠a:=λb o e n z=>by
  rw[z,ea] at e;exact n _ (L1 e).symm
 refine I.un (h':=g) (t':=tk') ⟨λb o e n _ _=>?_,λb o e n _ _=>?_,λb o e n _=>?_,λb o e _=>?_,λb xs e=>at_ b _ e (no b _ e λ_ z=>by cases z),λb o u e=>at_ b _ e (no b _ e λ_ z=>by cases z),λb ps e=>⟨#[],by rw[at_ b _ e (no b _ e λ_ z=>by cases z)];simp⟩⟩ (λb u e=>?_)
 · exact h3 b o (λz=>by rw[z,ea] at n;cases n) e
 · exact⟨o.slots,h3 b o (λz=>by rw[z,ea] at n;cases n) e⟩
 · rw[aq (λz=>by rw[z,ea] at n;cases n),aq (L0 (LA e))];exact n
 · by_cases z:b=a
   · exact⟨_,z ▸ h1⟩
   · exact⟨o,h3 b o z e⟩
 · by_cases z:b=a
   · subst z;rw[ae] at e;cases e;exact AK h1
   · rw[aq z] at e;by_cases z2:b=hp.objs.size
     · subst z2;rw[ae] at e;cases e;refine BE h2 λy=>?_;by_cases hy:y=f
       · subst hy;simp only[List.lookup,beq_self_eq_true,M7];exact r
       · have hb:(y==f)=false:=LW.mpr hy;simp only[List.lookup,hb,Lo hy]
         trivial
     · rw[aq z2] at e;refine (I.bw b u e).kH (λc w' hc q=>h3 c w' ?_ q) (λc q=>at_ c _ q (no c _ q λ_ z=>by cases z)) λc xs q=>at_ c _ q (no c _ q λ_ z=>by cases z);rcases hc with rfl|hc
       · exact z
       · exact no c _ hc λ_ z=>by cases z
theorem II (I:Inv X pins σ H s)(Z:oU X.K C N fI)(hn:PySem.W.nsIn X.K N f=some none)(hB:typeLookup (.type "Exception") f=pure none)(ea:H a=some (uq a C t (some dx)))(ed:H dx=some (rY dx fs))(ne:dx≠a)(hl:fs.length < 1000)(r:RelV v u)
  (h:∀s',Inv X pins σ (upd H dx (rY dx (eK f v fs))) s'->Q () s'):wpAny (model X.prog X.w) A (setAttr (.ref a) f u) Q E' s:=by
 obtain⟨_,hC,nm,q,bs,sn,sub,ab,col,dd,k0,k1,k2,k3,k5,rfl⟩:=Z.cls;have hC':=I.mQ _ _ hC;have hN:=BM I.mQ Z.keys;have nC:a≠C:=λz=>by
  have:=(I.bs C _ (I.ok.mod.FE _ _ hC)).2;rw[←z,ea] at this;cases this
 obtain⟨φ,_,_⟩:=I.bw a _ ea;obtain⟨⟨mA,n1,rl⟩,_,_⟩:=I.bw dx _ ed;obtain⟨hp,ga,d,tk,os⟩:=s;have wi:Within mA (fs.map (·.1)):=λy hy=>by
  have q:=rl y;cases e:fs.lookup y with
  |none =>
   rw[e] at q;cases e2:mA y with
   |none=>exact absurd e2 hy
   |some w'=>rw[e2] at q;exact q.elim
  |some w'=>exact LX.mpr ⟨(y,w'),PySem.mem_of_lookup e,rfl⟩
 refine store_attr F.store_Exception hC' hN (ug Z.Bz) (ug hn) hB nC ⟨_,φ,rfl,(λc q=>by cases q),Or.inr ⟨dx,rfl,ne,n1⟩⟩ (λh' tk' J keep same=>?_) wi (by rw[Ln,LQ];omega);obtain⟨o1,e1,c1,d1,s1,x1⟩:=same _ φ;have x1:o1.dict=some dx:=x1 dx rfl;obtain⟨o2,e2,_,_,r2⟩:=J;rw[e1] at e2;cases e2;have n2:h'.Ns1 dx (λy=>if y=f then some u else mA y):=by
  rcases r2 with ⟨z,_⟩|⟨d',z,_,w'⟩
  · rw[x1] at z;cases z
  · rw[x1] at z;cases z;exact w'
 refine h ⟨h',ga,d,tk',os⟩ (I.write (h':=h') (t':=tk') (x:=dx) (e:=dx) (by rw[ed];trivial) (.inl rfl) (λb o hb e=>?_) ?_ (BE n2 λy=>?_))
 · by_cases z:b=a
   · subst z;rw[φ] at e;cases e;rw[e1];obtain⟨p1,p2,p3,p4⟩:=o1;simp only at c1 d1 s1 x1;rw[c1,d1,s1,x1]
   · exact keep b o z (λo₀ dx' w0 w1=>by
      rw[φ] at w0;cases w0;cases w1;exact hb) e
 · obtain⟨o,_,_,e,_⟩:=n2;exact⟨o,e⟩
 · rw[jF];by_cases hy:y=f
   · simp only[Lp hy];exact r
   · simp only[Lo hy];exact rl y
end
def Je (C:Addr)(ta tv:TE)(f:Str):TS:=λD σ H=>tv σ H λy H1=>ta σ H1 λx H2=>∃a t,x=.ref a /\
 ((H2 a=some (uq a C t none)/\∀dx,H2 dx=none->dx≠a->D.nx σ (upd (upd H2 dx (rY dx [(f,y)])) a (uq a C t (some dx)))) ∨
  ∃dx fs,H2 a=some (uq a C t (some dx))/\H2 dx=some (rY dx fs)/\dx≠a/\fs.length < 1000/\D.nx σ (upd H2 dx (rY dx (eK f y fs))))
theorem yM {X:Cx}{C N fI:Addr}{o value:Expr}{f:Str}{pos pos':Pos}{ta tv:TE}(Z:oU X.K C N fI)(nf:PySem.W.findIn X.K (.ref C) f=some none)(hn:PySem.W.nsIn X.K N f=some none)(hB:typeLookup (.type "Exception") f=pure none)(ha:PE X o ta)(hv:PE X value tv)
  (hs:swapsWith value (some (.Attribute o f pos')) pos.line X.env=pure false):PS X (.Assign [.Attribute o f pos'] value pos) (Je C ta tv f):=by
 intro pins s σ H D I h;refine plainObj_wpAny_Assign_Attribute (bB (hv pins s σ H _ I h) λu s1 ⟨y,H1,I1,ry,q⟩=>bB (ha pins s1 σ H1 _ I1 q) λov s2 ⟨x,H2,I2,rx,a,t,ex,q2⟩=>?_) hs;subst ex;obtain rfl:ov=Value.ref a:=rx;rcases q2 with ⟨ea,q2⟩|⟨dx,fs,ea,ed,ne,hl,q2⟩
 · exact Jp I2 Z nf ea ry λs3 dx fr ne I3=>⟨σ,_,I3,q2 dx fr ne⟩
 · exact II I2 Z hn hB ea ed ne hl ry λs3 I3=>⟨σ,_,I3,q2⟩
def Hu (C:Addr):Sp:=λvs H Q _=>∃(a t:Addr) (k p:Int),vs=[.ref a,.int k,.int p]/\H a=some (uq a C t none) /\
 ∀(dx:Addr),H dx=none->dx≠a->Q .b8 (upd (upd H dx (rY dx (ff k p))) a (uq a C t (some dx)))
section
variable {X:Cx}{pins:Of}{σ:St}{H:Hp}{s:Shared}
theorem Inv.grown {a:Addr} {o:HO} {h':Heap} {t':Nat} (I:Inv X pins σ H s) (k:∀b u,s.heap.get? b=some u->h'.get? b=some u) (hp:s.heap.get? a=none) (new:bN X.prog X.w (upd H a o) h' a o):Inv X pins σ (upd H a o) {s with heap:=h',toks:=t'}:=by
 have fr:H a=none:=I.bw.gone hp;have at_:∀b u,H b=some u->(upd H a o) b=some u:=λb u e=>by rw[aq (ao e fr)];exact e
 refine I.un (h':=h') (t':=t') ⟨λb u e n _ _=>k b u e,λb u e n _ _=>⟨u.slots,k b u e⟩,λb u e n _=>?_,λb u e _=>⟨u,k b u e⟩,λb xs e=>at_ b _ e,λb u v e=>at_ b _ e,λb ps e=>⟨#[],by rw[at_ b _ e];simp⟩⟩ λb u e=>?_
 · rw[aq (λz=>by rw[z,hp] at e;cases e)];exact n
 · by_cases z:b=a
   · subst z;rw[ae] at e;cases e;exact new
   · rw[aq z] at e;exact (I.bw b u e).kH (λc v _ q=>k c v q) (λc q=>at_ c _ q) λc xs q=>at_ c _ q
def JR (H:Hp)(a:Addr):Hp:=λb=>if b=a then none else H b
theorem qi {a:Addr}:JR H a a=none:=Lp rfl
theorem ub {a b:Addr}(h:b≠a):JR H a b=H b:=Lo h
theorem Inv.dropped {a:Addr}{φ:Heap->Prop}(I:Inv X pins σ H s)(e:H a=some (.ext φ)):Inv X pins σ (JR H a) s:=by
 have at_:∀b u,H b=some u->(∀ψ,u≠.ext ψ)->JR H a b=some u:=λb u q n=>by
  rw[ub (λz=>by rw[z,e] at q;exact n _ (L1 q).symm)];exact q
 refine I.un (h':=s.heap) (t':=s.toks) ⟨λb u q n _ _=>q,λb u q n _ _=>⟨u.slots,q⟩,λb u q n _=>?_,λb u q _=>⟨u,q⟩,λb xs q=>at_ b _ q (λ_ z=>by cases z),λb u v q=>at_ b _ q (λ_ z=>by cases z),λb ps q=>⟨#[],by rw[at_ b _ q (λ_ z=>by cases z)];simp⟩⟩ λb u q=>?_
 · by_cases z:b=a
   · rw[z];exact qi
   · rw[ub z];exact n
 · by_cases z:b=a
   · rw[z,qi] at q;cases q
   · rw[ub z] at q;exact (I.bw b u q).kH (λc v _ w=>w) (λc w=>at_ c _ w λ_ z=>by cases z) λc xs w=>at_ c _ w λ_ z=>by cases z
theorem Inv.seen {a:Addr}{φ:Heap->Prop}(I:Inv X pins σ H s)(O:mn X)(h0:X.kJ.heap.get? a=none)(fr:H a=none)(nL:a≠X.env.locals)(nC:∀x c,X.env.cells.lookup x=some c->c≠a)(npn:pins=[])(nf:a∉X.fs)(new:bN X.prog X.w (upd H a (.ext φ)) s.heap a (.ext φ)) :
  Inv X pins σ (upd H a (.ext φ)) s:=by
 have at_:∀b u,H b=some u->(upd H a (.ext φ)) b=some u:=λb u q=>by rw[aq (ao q fr)];exact q
 refine⟨I.ok,I.os,I.bare,⟨I.base.keep,I.base.slot,λb o q n hx=>?_,I.base.there,λb xs q=>at_ b _ (I.base.n9 b xs q),λb u v q=>at_ b _ (I.base.m8 b u v q),λb ps q=>?_⟩,I.loc,I.cell,?_,λx c q=>?_,λp hp=>?_,λb u q=>?_,I.len⟩
 · rw[aq (λz=>by rw[z,h0] at q;cases q)];exact I.base.free b o q n hx
 · obtain⟨m,w⟩:=I.base.og b ps q;exact⟨m,at_ b _ w⟩
 · rw[aq nL.symm];exact I.free
 · rw[aq (nC x c q)];exact I.gE x c q
 · rw[O.pn,npn] at hp;simp at hp
 · by_cases z:b=a
   · subst z;rw[ae] at q;cases q;exact new
   · rw[aq z] at q;exact (I.bw b u q).kH (λc v _ w=>w) (λc w=>at_ c _ w) λc xs w=>at_ c _ w
end
def J4 (C:Addr)(E:XK)(t:TA):TS:=λ_ σ H=>t σ H λvs _=>∃k p,vs=[.int k,.int p]/\Rz C E k p
theorem BY {X:Cx}{C N fI:Addr}{E:XK}{x:Str}{np cpos pos:Pos}{e:Expr}{es:List Expr}{t:TA}{j:Nat}{fdI:FuncData}(O:mn X)(Z:oU X.K C N fI)(FI:bf X.prog X.w X.K X.mg X.base bJ j fI fdI ["self","kind","place"] (Hu C))(hr:c_ (j+1) X.A)
  (bI:Binds X.K fdI ["self","kind","place"] [])(hg:Gl X x)(hm:X.mg x=some (.ref C))(ha:PA (X.iB (XF X C E)) (e::es) t)(hdb:(x==("__debug__":Str))=false:=by decide)
  (he:starEach (e::es) X.env=(false,eval e X.env)::starEach es X.env:=by rfl)(hpl:(backTo cpos (starEach es X.env)).any (·.1)=false:=by rfl) :
  PS (X.iB (XF X C E)) (.Raise (some (.Call (.Name x np) (e::es) [] cpos)) none pos) (J4 C E t):=by
 intro pins s σ H D I h;obtain⟨oC,hC,hF⟩:=Z.cls;rw[arm_exec_Raise];refine Lm (wpAny_standAt (xf hr.hd (Lm (MF ?_ (λv s1 q=>Lm (wpAny_standAt (Lu q))) λ_ _ z=>z))));refine NF (lR (X:=X) I.dm hg hm ?_ hdb);refine PySem.W.callWith_K (h₀:=X.base) I.ok.mod.FE Z.kp (bB (ha cpos pins s σ H _ I h) λus s2 ⟨vs,H1,I1,r,k,p,ev,hz⟩=>⟨I1.mQ,?_⟩) he hpl;subst ev;have I1:Inv X pins σ H1 s2:=I1.dm;obtain⟨u1,u2,rfl,r1,r2⟩:=vals2 r;obtain⟨oI,hfo,hfc⟩:∃oI,s2.heap.get? fI=some oI/\oI.cls=.type "function":=by
  have z:=Md.mp Z.fn;unfold PySem.W.typeIn at z;cases q:X.K.lookup fI with
  |none=>simp[q] at z
  |some o =>
   simp[q] at z;exact⟨o,I1.mQ _ _ q,z⟩
 obtain⟨nm,q,bs,sn,sub,ab,col,dd,k0,k1,k2,k3,k5,hF'⟩:=id hF;obtain⟨hp,ga,d,tk,os⟩:=s2;refine wpAny_call_exc_init F.excBase_Exception (hF' ▸ I1.mQ _ _ hC) (BM I1.mQ Z.keys) (ug Z.init) hfo hfc (λh' a M=>?_) (by show 2<=sizeLine;decide);obtain⟨keep,fresh,t0,hget,_,_⟩:=M;have I2:Inv X pins σ (upd H1 a (uq a C t0 none)) (⟨h',ga,d,tk,os⟩:Shared):=I1.grown keep fresh (AK hget);have rv:Vals [V.ref a,V.int k,V.int p] [Value.ref a,u1,u2]:=.cons rfl r;refine wpAny_call (N3 (FI.run _ X.stack _ _ ⟨[Value.ref a,u1,u2],[]⟩ [Value.ref a,u1,u2] [V.ref a,V.int k,V.int p]
  (λv H'=>v=.b8/\∃dx,(upd H1 a (uq a C t0 none)) dx=none/\dx≠a/\H'=upd (upd (upd H1 a (uq a C t0 none)) dx (rY dx (ff k p))) a (uq a C t0 (some dx))) E0 (hr.make C [u1,u2] []) (I2.Gq.make C [u1,u2] []) ?_ rv ⟨a,t0,k,p,rfl,ae,λdx h1 h2=>⟨rfl,dx,h1,h2,rfl⟩⟩) λr s3 hq=>?_)
 · have z:=bI (⟨h',ga,d,tk,os⟩:Shared) [Value.ref a,u1,u2] I2.mQ rfl;rw[Mq] at z;exact z
 cases r with
 |error e=>exact False.elim hq
 |ok fl =>
  cases fl with
  |next=>exact False.elim hq
  |brk=>exact False.elim hq
  |cont=>exact False.elim hq
  |ret u =>
   obtain⟨v,H',I3,rv,ev,dx,hdx,ne,eH⟩:=I2.after hq;subst ev eH;have ea:(upd (upd (upd H1 a (uq a C t0 none)) dx (rY dx (ff k p))) a (uq a C t0 (some dx))) a=some (uq a C t0 (some dx)):=ae;obtain⟨φ,_,_⟩:=I3.bw a _ ea;refine⟨rv,a,C,N,oC,some dx,_,rfl,⟨_,φ,⟨rfl,rfl⟩,rfl⟩,rfl,I3.mQ _ _ hC,hF,σ,_,a,dx,none,k,p,⟨rfl,(I3.dropped ea).lQ (pins':=[]) λp hp=>absurd hp (by simp)⟩,⟨_,⟨⟨_,φ,⟨rfl,rfl⟩,rfl⟩,I1.gone O a fresh⟩,rfl⟩,λb hb=>?_,λT fl z=>(nomatch z),?_,hz⟩
   · have:b=a:=by simpa [jV] using hb
     rw[this];exact qi
   · rw[ub ne,aq ne,ae]
section
variable {X:Cx}{st:Stmt}{rest:List Stmt}{t u:TS}
theorem PS.zero (h:PS X st t):Kz X st t:=λs σ H D I q=>h [] s σ H D I q
theorem ur.zero (h:ur X rest t):BA X rest t:=λs σ H D I q=>h [] s σ H D I q
theorem iG (h1:Kz X st t)(h2:BA X rest u):BA X (st::rest) (EY t u):=by
 intro s σ H D I h;refine wpAny_execs_cons (bB (h1 s σ H {D with nx:=u D} I h) λf s1 q=>?_);cases f with
 |next =>
  obtain⟨σ',H',I',q⟩:=q;exact h2 s1 σ' H' D I' q
 |ret v=>exact q
 |brk=>exact q
 |cont=>exact q
end
section
variable {P:Program}{w:World}{K:Oc}{mg:Oe}{base:Heap}
theorem dI.J3 {x qual:Str} {st:Stmt} {f:Addr} {fd:FuncData} {N ps:List Str} {k:Nat} {sp:Sp} (F:dI K x qual st f fd) (S:aI N ps (ax st)) (len:∀vs H Q E,sp vs H Q E->vs.length=ps.length)
  (hbody:∀(cdv:Value) (A:Around) (outer:List Env) (s:Shared) (H:Hp) (vs:List V) (Q:VK) (E:XK),c_ k (A.deeper (envOfC qual (ax st) s.heap.objs.size f cdv))->sp vs H Q E ->
   ∃t,BA (n_ bJ P w K mg base N qual (ax st) f cdv A outer s H E).H_ (ck st) t/\t {nx:=λ_ H'=>Q .b8 H',rt:=Q} (start N vs) H):bf P w K mg base bJ (k+1) f fd ps sp:=by
 obtain⟨oc,od,kV,doc,pm,an,cdv,ct,osl,rfl,lk,hcd⟩:=F.ex;refine CC lk hcd S len λA outer s H vs Q E hr hsp=>?_;obtain⟨t,h,q⟩:=hbody cdv A outer s H vs Q E hr hsp;exact⟨t,λs1 σ H1 D I hw=>MF (h s1 σ H1 D (I.iB _) hw) (λ_ _ q=>q.dm) λ_ _ z=>False.elim z,q⟩
end
def JS (a C dx:Addr):HO:=.ext λh=>∃(oe:Obj) (vs:Array Value),h.get? a=some oe/\oe.cls=.ref C/\oe.dict=some dx/\oe.data=.fields vs
theorem Gr {P:Program}{w:World}{H:Hp}{h:Heap}{a C dx:Addr}{oe:Obj}{vs:Array Value}(e:h.get? a=some oe)(c:oe.cls=.ref C)(x:oe.dict=some dx)(d:oe.data=.fields vs):bN P w H h a (JS a C dx) :=
 ⟨⟨oe,vs,e,c,x,d⟩,⟨_,e⟩,λh1 h2 ⟨o,vs,e,r⟩ k=>⟨o,vs,k _ e,r⟩⟩
def JC (C:Addr)(ta:TE)(f:Str):TE:=λσ H Q=>ta σ H λx H1=>∃a dx fs v,x=.ref a/\H1 a=some (JS a C dx)/\H1 dx=some (rY dx fs)/\fs.lookup f=some v/\Q v H1
theorem za {X:Cx}{C N fI:Addr}{e:Expr}{f:Str}{pos:Pos}{ta:TE}(Z:oU X.K C N fI)(nf:PySem.W.findIn X.K (.ref C) f=some none)(he:PE X e ta)(hb:attributeBase e f X.env (eval e X.env)=eval e X.env):PE X (.Attribute e f pos) (JC C ta f):=by
 intro pins s σ H Q I h;obtain⟨oC,hC,hF⟩:=Z.cls;refine yI hb (bB (he pins s σ H _ I h) λu s1 ⟨x,H1,I1,rx,a,dx,fs,v,ex,ea,ed,l,q⟩=>?_);subst ex;obtain rfl:u=Value.ref a:=rx;obtain⟨⟨oe,vs,e1,c1,x1,d1⟩,_,_⟩:=I1.bw a _ ea;obtain⟨⟨mA,n1,rl⟩,_,_⟩:=I1.bw dx _ ed;have rv:=rl f;rw[l] at rv;obtain⟨u,hu,ru⟩:=iK.some_of rv;have hK:=I1.mQ;obtain⟨hp,ga,d,tk,os⟩:=s1;exact vJ hK hC hF Z.ga Z.gt nf ⟨oe,e1,⟨c1,x1⟩,d1⟩ n1 hu (PySem.W.handedOut_of (rj ru)) ⟨v,H1,I1.tok _,ru,q⟩
def EE (R:Int->Int->Prop):XK:=λ_ odx H=>∃dx k p,odx=some dx/\H dx=some (rY dx (ff k p))/\R k p
theorem Ij {C:Addr}{R:Int->Int->Prop}{k p:Int}(h:R k p):Rz C (EE R) k p:=λ_ dx e=>⟨dx,k,p,rfl,e,h⟩
abbrev Cx.Fy (X:Cx)(a:Addr):Cx:={X with A:=X.A.mark (some (.ref a)),calm:=false,xe:=λ_ _=>False}
section
variable {X:Cx}{pins:Of}{σ:St}{H:Hp}{s:Shared}
theorem Inv.Fy (I:Inv X pins σ H s) (a:Addr):Inv (X.Fy a) pins σ H s :=
 ⟨⟨I.ok.mod,I.ok.kind,I.ok.glob,I.ok.blt,I.ok.above,I.ok.inj,I.ok.has,I.ok.Ic,λz=>(by cases z),I.ok.frames,I.ok.FY,I.ok.Jw,I.ok.bs,I.ok.C2,I.ok.Ak,I.ok.zC,I.ok.mi,I.ok.F7⟩,I.os,I.bare,I.base,I.loc,I.cell,I.free,I.gE,I.pin,I.bw,I.len⟩
theorem Inv.JB {a:Addr}(I:Inv (X.Fy a) pins σ H s)(ok:X.Ok):Inv X pins σ H s:=⟨ok,I.os,I.bare,I.base,I.loc,I.cell,I.free,I.gE,I.pin,I.bw,I.len⟩
theorem Inv.GS {h':Heap}{m':Oe}{t':Nat}(I:Inv X [] σ H s)(O:mn X)(hn:h'.Ns X.env.locals m')(sb:Heap.SameBut X.env.locals s.heap h'):Inv X [] (List.replicate X.N.length none) H {s with heap:=h',toks:=t'}:=by
 refine⟨I.ok,I.os,I.bare,⟨λb o e n hb hx=>?_,λb o e n hb hx=>?_,I.base.free,λb o e hx=>?_,I.base.n9,I.base.m8,I.base.og⟩,⟨m',hn,λi x v e1 e2 _=>?_⟩,λx c e=>?_,I.free,I.gE,λp hp=>?_,λb u e=>?_,by simp⟩
 · exact (sb.2 b (L0 (L5 (LA e) I.ok.above))).trans (I.base.keep b o e n hb hx)
 · obtain⟨sl,z⟩:=I.base.slot b o e n hb hx;exact⟨sl,(sb.2 b (L0 (L5 (LA e) I.ok.above))).trans z⟩
 · obtain⟨o',z⟩:=I.base.there b o e hx;exact⟨o',(sb.2 b (L0 (L5 (LA e) I.ok.above))).trans z⟩
 · rw[List.getElem?_replicate] at e2;split at e2 <;> cases e2
 · obtain⟨v,z⟩:=I.cell x c e;exact⟨v,z.sameBut sb (I.FJ x c e)⟩
 · rw[O.pn] at hp;simp at hp
 · refine (I.bw b u e).kH (λc v hc q=>(sb.2 c ?_).trans q) (λ_ q=>q) λ_ _ q=>q;rintro rfl;have fr:=I.free;rcases hc with rfl|hc
   · rw[fr] at e;cases e
   · rw[fr] at hc;cases hc
end
def K9 (X:Cx)(pins:Of)(D:Ends)(f:Flow)(s':Shared):Prop:=match f with
 |.ret u=>SP X [] D (.ret u) s'
 |f=>SP X pins D f s'
def KS (X:Cx)(st:Stmt)(t:TS):Prop:=∀(pins:Of) (s:Shared) (σ:St) (H:Hp) (D:Ends),Inv X pins σ H s->t D σ H->wpAny (model X.prog X.w) X.A (exec st X.env) (K9 X pins D) X.xe s
theorem Dx {X:Cx}{tg iter:Expr}{st:Stmt}{wi:TI}{g:TG}{tb:TS}{pos:Pos}(hp:PassesOwn (model X.prog X.w) X.A X.env X.xe)(hc:X.calm=true)(hi:PI X tg iter wi)(hg:PG X tg g)(hb:KS X st tb)
  (hs:∀x,foldedSetIterable iter X.env x=pure x:=by intro _;rfl):Kz X (.For tg iter [st] [] pos) (Hs wi g tb):=by
 intro s σ H D I h;refine wpAny_For (bB (hi [] s σ H _ I h) λv s1 h1=>bB h1 λitv s2 h2=>?_) hs;obtain⟨it,fp,tn,J,H2,e,I2,T,st2,f2,W,⟨m0,w0⟩,turn⟩:=h2;subst e;have stat:∀{H':Hp},(∀b∈fp,H' b=none)->∀b∈fp,mZ X [] H' b:=λhn b hb=>⟨hn b hb,(f2 b hb).2⟩;refine codeAny_forLoop_any (λn s'=>∃i σ' H',Inv X [] σ' H' s'/\tn i s'.heap/\(∀b∈fp,H' b=none)/\W i n σ' H') ?_ m0 ⟨0,σ,H2,I2,st2,λb hb=>(f2 b hb).1,w0⟩;rintro n s3 ⟨i,σ3,H3,I3,st3,fr3,w3⟩;rcases turn i n σ3 H3 w3 with ⟨stop,qn⟩|⟨go,N,hN,step⟩
 · refine MH hp (bB (T.done X rfl rfl rfl hc i [] s3 σ3 H3 X.xe I3 (stat fr3) st3 stop) λr s4 ⟨hr,I4⟩=>?_);subst hr;exact Nl ⟨σ3,H3,I4,qn⟩
 · refine MH hp (bB (T.item X rfl rfl rfl hc i [] s3 σ3 H3 X.xe I3 (stat fr3) st3 go) λr s4 ⟨u,hr,h4⟩=>?_);subst hr;refine MH hp (bB h4 λ_ s5 ⟨x,H5,I5,r5,y5,st5,fr5⟩=>?_);have I5':=I5.pinned (stat fr5) (T.obj _ _ st5);refine MH hp (bB (hg _ s5 σ3 H5 x u _ I5' r5 (step x H5 y5)) λ_ s6 ⟨σ6,H6,I6,q6⟩=>?_);refine MH hp (wpAny_execs_cons (bB (hb _ s6 σ6 H6 _ I6 q6) λf s7 q7=>?_));have again:∀{σ7:St} {H7:Hp},Inv X ([]++mL fp s5.heap) σ7 H7 s7->N σ7 H7->∃m,m < n/\∃i σ' H',Inv X [] σ' H' s7/\tn i s7.heap/\(∀b∈fp,H' b=none)/\W i m σ' H':=λ{σ7 H7} I7 n7=>by
    obtain⟨m',hm,w7⟩:=hN σ7 H7 n7;refine⟨m',hm,i+1,σ7,H7,I7.ij,T.keep _ _ _ st5 λb hb o e=>(I7.pin (b,o) (Mm _ (Mm _ (gj hb e)))).1,λb hb=>?_,w7⟩;obtain⟨o,e,d⟩:=T.obj _ _ st5 b hb;exact (I7.pin (b,o) (Mm _ (Mm _ (gj hb e)))).2.1
   cases f with
   |next=>obtain⟨σ7,H7,I7,n7⟩:=q7;exact Nl (again I7 n7)
   |cont=>obtain⟨σ7,H7,I7,n7⟩:=q7;exact again I7 n7
   |brk=>obtain⟨σ7,H7,I7,q7⟩:=q7;exact⟨σ7,H7,I7.ij,q7⟩
   |ret v=>exact q7
def KP (C:Addr)(i:Nat)(R:Int->Int->Prop)(tb th:TS):TS:=λD σ H=>tb D σ H /\
 ∀(σ':St) (H':Hp) (a dx:Addr) (k p:Int),R k p->σ'[i]?=some (some (.ref a))->H' a=some (JS a C dx)->H' dx=some (rY dx (ff k p))->th {nx:=λ_ _=>False,rt:=D.rt} σ' H'
theorem HB {X:Cx}{C N fI:Addr}{R:Int->Int->Prop}{x n:Str}{np hpos pos:Pos}{body suite:List Stmt}{b0:Stmt}{i:Nat}{tb th:TS}(O:mn X)(Z:oU X.K C N fI)(hg:Gl X x)(hm:X.mg x=some (.ref C))(hN:X.N.Nodup)(hi:X.N[i]?=some n)
  (hl:X.env.scope.names.lookup n=some .local)(hb:ur (X.iB (XF X C (EE R))) body tb)(hh:∀a,ur (X.Fy a) (b0::suite) th)(hdb:(x==("__debug__":Str))=false:=by decide) :
  KS X (.Try body [.ExceptHandler (some (.Name x np)) (some n) (b0::suite) hpos] [] [] pos) (KP C i R tb th):=by
 rintro pins s σ H D I ⟨hq,hth⟩;obtain⟨oC,hC,hF⟩:=Z.cls;refine wpAny_Try_except (MF (hb pins s σ H D (I.iB _) hq) (λf s1 q=>?_) λe s1 z=>?_)
 · cases f with
   |next=>exact Nl q.dm
   |brk=>exact q.dm
   |cont=>exact q.dm
   |ret u =>
    obtain⟨v,σ',H',I',r⟩:=q.dm;exact⟨v,σ',H',I'.lQ (pins':=[]) λp hp=>absurd hp (by simp),r⟩
 obtain⟨σ1,H1,a,dx,t,k,p,⟨rfl,I1⟩,F1,hH,hfl,hx,hz⟩:=z;obtain⟨dx',k',p',e1,e2,hR⟩:=hz H1 dx hx;cases e1;refine wB O I1 F1 hH hfl λg T I2 F2 H2=>?_;refine lZ (v:=none) O I2 F2 H2 λg2 I3 F3=>?_;obtain⟨vs3,⟨⟨oe3,ge3,⟨ce3,xe3⟩,de3⟩,_⟩,_⟩:=id F3;obtain⟨_,_,_,_,_,_,_,_,_,_,_,_,_,hF'⟩:=id hF;refine wpAny_handleBy_cons (codeAny_handlers_test (lR (X:=X.Fy a) (I3.Fy a) hg hm ?_ hdb)) (by intro z;cases z);refine wpAny_excMatches_sub_self (hF' ▸ I3.mQ _ _ hC) ge3 ce3 (by decide) (codeAny_handlers_suite_as ?_);have H3:∀b∈jV a (some (T,(none:Option Addr).elim Value.none λf=>rawInt f)),H1 b=none:=H2;refine lZ (v:=none) O I3 F3 H3 λg4 I4 F4=>?_;obtain⟨vs4,⟨⟨oe4,ge4,⟨ce4,xe4⟩,de4⟩,z4⟩,_⟩:=id F4;have nL:a≠X.env.locals:=by
  rintro rfl;obtain⟨m,⟨o',es,ep,ho',hd',_⟩,_⟩:=I4.loc;rw[ho'] at ge4;cases ge4;rw[hd'] at de4;cases de4
 have nC:∀x c,X.env.cells.lookup x=some c->c≠a:=by
  rintro x c e rfl;obtain⟨v,o',ho',hd'⟩:=I4.cell x c e;rw[ho'] at ge4;cases ge4;rw[hd'] at de4;cases de4
 have nf:a∉X.fs:=λz=>by
  obtain⟨_,o',ho',hd'⟩:=I4.mi.mem z;rw[ho'] at ge4;cases ge4;exact hd' _ de4
 have I5:Inv X [] σ1 (upd H1 a (JS a C dx)) _:=I4.seen O z4 (hH a (L_ ..)) nL nC rfl nf (Gr ge4 ce4 xe4 de4);have nd:dx≠a:=λz=>by
  have:=hH a (L_ ..);rw[←z,hx] at this;cases this
 refine ma (X:=X.Fy a) (v:=V.ref a) (I5.Fy a) hN hi (.inl hl) rfl (λs6 I6=>?_) (.inr hl);have li:i < σ1.length:=by rw[I4.len];exact (LB.mp hi).1
 refine MF (hh a [] s6 _ _ {nx:=λ_ _=>False,rt:=D.rt} I6 (hth _ _ a dx k' p' hR (NK li) ae (by rw[aq nd];exact e2))) (λf s7 z=>?_) λ_ _ z=>False.elim z;cases f with
 |next=>obtain⟨_,_,_,z⟩:=z;exact False.elim z
 |brk=>obtain⟨_,_,_,z⟩:=z;exact False.elim z
 |cont=>obtain⟨_,_,_,z⟩:=z;exact False.elim z
 |ret u =>
  obtain⟨v,σ8,H8,I8,rv,z⟩:=z;have I8:Inv X [] σ8 H8 s7:=I8.JB I.ok;obtain⟨m,hn,_⟩:=id I8.loc;refine wpAny_nameGoes hl hn (by rw[I.ok.kind];rfl) λh' m' hn' sb=>?_;exact⟨v,_,H8,I8.GS O hn' sb,rv,z⟩
end L2
namespace L2
open PySem PySem.Spec PyProof.Rows
section
variable {X:Cx}
theorem xA:iA X (.builtin "sorted") (λxs H Q=>∃(t:Addr) (ns:List Int),xs=[.ref t]/\bZ X.K H t (ns.map V.int)/\ns.length < 64 /\
  ∀(ms:List Int) (p:Addr),ms.Perm ns->ms.Pairwise (·<=·)->H p=none->Q (.ref p) (upd H p (.lst (ms.map V.int)))):=by
 rintro pins s σ H xs us Q I r ⟨t,ns,rfl,ht,h64,q⟩;rw[Vals.xm r];obtain⟨its,rv,⟨o,ho,hc,n,hd⟩,hz⟩:=I.tuple ht;have hi:=rv.ints;have vw:its.length < 64:=by rw[hi.length];exact h64
 have line:its.length<=sizeLine:=y9 vw;refine PySem.Calls.call_function_entry kind_sorted plain_sorted entry_sorted (args_sorted1 _) ?_;show wpAny _ _ (checkCount "sorted" 1 1 1 >>= λ_=>collect (.ref t) >>= λvs=>newList vs >>= λl=>holding [l] (call (.builtin "list.sort") [l] []) >>= λ_=>ret l) _ _ _;refine Lm (Lu (Lm (wpAny_collect_seq t (.inr rfl) ho hc hd (λh1 k1=>Lm (wpAny_newList (Lm (Np ?_)) ?_)) ?_)))
 ·
  have new:(h1.push {cls:=.type "list",data:=.seq its.toArray.toList.toArray}).get? h1.objs.size=some (seqObj "list" its.toArray 0):=LD h1 rfl;refine MJ slot_list_sort ⟨_,new,rfl⟩ entry_list_sort (list_sort_tree new hi vw λout ms p1 p2 p3=>⟨.none,rfl,Lu ⟨_,rfl,?_⟩⟩) (args_list_sort _);have none0:s.heap.get? h1.objs.size=none:=by
   cases z:s.heap.get? h1.objs.size with
   |none=>rfl
   |some u=>exact absurd (LA (k1 _ _ z)) (MI _)
  obtain⟨ep,at_⟩:=sortedHeap_at (vs:=its) (out:=out) new;have keep:∀b u,s.heap.get? b=some u->(sortedHeap (h1.push {cls:=.type "list",data:=.seq its.toArray.toList.toArray}) h1.objs.size its out).get? b=some u:=λb u e=>by
   have e1:=Lq {cls:=.type "list",data:=.seq its.toArray.toList.toArray} (k1 b u e);rw[sortedHeap_old (λz=>by rw[z,none0] at e;cases e) (LA e1)];exact e1
  have len:(ms.map V.int).length<=sizeLine:=by rw[Ln,p2.length_eq];exact y9 h64
  exact⟨.ref _,upd H h1.objs.size (.lst (ms.map V.int)),I.grown (t':=s.toks) keep none0 ⟨len,out.toList,ep,mD p1,at_⟩,rfl,q ms _ p2 p3 (I.bw.gone none0)⟩
 · simpa using line
 · simpa using line
end
end L2
namespace BwX
open PySem
section
variable {P:Program}{w:World}{A:Around}{E:Od}{s:Shared}
theorem BB {it t:Addr} {k:Nat} {its:Array Value} {x:Value} {Q:Od} (hi:s.heap.IsTupleIter it t k) (ht:s.heap.IsTuple t its) (hx:its[k]?=some x)
  (q:∀h',h'.IsTupleIter it t (k+1)->Heap.SameBut it s.heap h'->Q x {s with heap:=h'}):wpAny (model P w) A (Builtin.SmallTypes.nextOf (.ref it)) Q E s:=by
 have ty:=hi.typeIs;obtain⟨⟨c1,d1,f1,l1⟩,g1,rfl,rfl⟩:=hi;obtain⟨⟨c2,d2,f2,l2⟩,g2,rfl,n,rfl⟩:=ht;unfold Builtin.SmallTypes.nextOf;refine Lm (MD (name:=Str.ofString "__next__") ty Nr (MJ Nr ty F.entry_tuple_iterator_next ?_ (F.args_tuple_iterator_next_1 _)));obtain⟨hp,ga,d,tk,os⟩:=s;show wpAny _ _ (Builtin.«tuple_iterator.__next__» _) _ _ _
 wp_walk
 rw[L9,hx];refine Lm (wpAny_setField g1 rfl (by simp) (Lu ⟨x,rfl,Lu (q _ ⟨_,Mn _ g1 rfl,rfl,?_⟩ (LO ..))⟩));simp[Obj.mapFields,rawInt]
theorem A3 {it t:Addr}{k:Nat}{its:Array Value}{Q:Od}(hh:A.handled=none)(hi:s.heap.IsTupleIter it t k)(ht:s.heap.IsTuple t its)(hx:its[k]?=none)
  (q:∀h' e,Heap.ExtBut it s.heap h'->(∃o,h'.get? e=some o/\o.cls=.type "StopIteration")->E (.ref e) {s with heap:=h'}):wpAny (model P w) A (Builtin.SmallTypes.nextOf (.ref it)) Q E s:=by
 have ty:=hi.typeIs;obtain⟨⟨c1,d1,f1,l1⟩,g1,rfl,rfl⟩:=hi;obtain⟨⟨c2,d2,f2,l2⟩,g2,rfl,n,rfl⟩:=ht;unfold Builtin.SmallTypes.nextOf;refine Lm (MD (name:=Str.ofString "__next__") ty Nr (MJ Nr ty F.entry_tuple_iterator_next ?_ (F.args_tuple_iterator_next_1 _)));obtain⟨hp,ga,d,tk,os⟩:=s;have h1:A.in1.handled=none:=hh;show wpAny _ _ (Builtin.«tuple_iterator.__next__» _) _ _ _
 wp_walk
 rw[L9,hx]
 wp_walk
 unfold raiseNew
 wp_walk
 exact q _ _ (((LO ..).extBut.push _).push _) ⟨_,LD _ rfl,rfl⟩
end
structure Src (P:Program)(w:World)(i:Addr)(T:Nat->Heap->Prop)(xs:Array Value)(fp:List Addr):Prop where
 item:∀(A:Around) (k:Nat) (x:Value) (s:Shared) (Q:Od) (E:Od),T k s.heap->xs[k]?=some x->(∀h',T (k+1) h'->Heap.SameBut i s.heap h'->Q x {s with heap:=h'})->wpAny (model P w) A (Builtin.SmallTypes.nextOf (.ref i)) Q E s
 stop:∀(A:Around) (k:Nat) (s:Shared) (Q:Od) (E:Od),A.handled=none->T k s.heap->xs[k]?=none->(∀h' e,Heap.ExtBut i s.heap h'->(∃o,h'.get? e=some o/\o.cls=.type "StopIteration")->E (.ref e) {s with heap:=h'})->wpAny (model P w) A (Builtin.SmallTypes.nextOf (.ref i)) Q E s
 keep:∀k h h',T k h->(∀b∈fp,∀o,h.get? b=some o->h'.get? b=some o)->T k h'
 mem:i∈fp
theorem yQ {P:Program}{w:World}{it t:Addr}{its:Array Value}(ne:t≠it):Src P w it (λk h=>h.IsTupleIter it t k/\h.IsTuple t its) its [it,t] where
 item:=λA k x s Q E st hx q=>BB st.1 st.2 hx λh' z sb=>q h' ⟨z,st.2.extBut sb.extBut ne⟩ sb
 stop:=λA k s Q E hh st hx q=>A3 hh st.1 st.2 hx q
 keep:=λk h h' st z=>⟨st.1.at λo e=>z it (by simp) o e,by
  obtain⟨o,e,r⟩:=st.2;exact⟨o,z t (by simp) o e,r⟩⟩
 mem:=by simp
theorem yW {P:Program}{w:World}{it t:Addr}{its:Array Value}(ne:t≠it):Src P w it (λk h=>h.IsListIter it t k/\h.IsList t its) its [it,t] where
 item:=λA k x s Q E st hx q=>wpAny_nextOf_list_item st.1 st.2 hx λh' z sb=>q h' ⟨z,st.2.extBut sb.extBut ne⟩ sb
 stop:=λA k s Q E hh st hx q=>wpAny_nextOf_list_end hh st.1 st.2 hx q
 keep:=λk h h' st z=>⟨st.1.at λo e=>z it (by simp) o e,st.2.at λo e=>z t (by simp) o e⟩
 mem:=by simp
structure Zp (z TI TO i1 i2:Addr)(p1 p2:List Addr)(T1 T2:Nat->Heap->Prop)(f0:Value)(k1 k2:Nat)(h:Heap):Prop where
 zp:IsZip h z TI TO f0
 ti:IsPair h TI (.ref i1) (.ref i2)
 to:∃a b,IsPair h TO a b
 s1:T1 k1 h
 s2:T2 k2 h
 n1:¬z∈p1/\¬TO∈p1/\¬i2∈p1
 n2:¬z∈p2/\¬TO∈p2/\¬i1∈p2
 nz:TI≠z/\TO≠z/\TI≠TO/\TI≠i1/\TI≠i2/\TO≠i1/\TO≠i2/\i1≠z/\i2≠z
section
variable {P:Program}{w:World}{A:Around}{E:Od}{s:Shared}{z TI TO i1 i2:Addr}{p1 p2:List Addr}{T1 T2:Nat->Heap->Prop}{k1 k2:Nat}{xs ys:Array Value}
theorem Er {x y:Value} {Q:Od} (S1:Src P w i1 T1 xs p1) (S2:Src P w i2 T2 ys p2) (Z:Zp z TI TO i1 i2 p1 p2 T1 T2 .none k1 k2 s.heap) (hx:xs[k1]?=some x) (hy:ys[k2]?=some y)
  (q:∀h',Zp z TI TO i1 i2 p1 p2 T1 T2 (rawInt s.heap.objs.size) (k1+1) (k2+1) h'->IsPair h' s.heap.objs.size x y->(∀c o,c≠z->c≠TO->c≠i1->c≠i2->s.heap.get? c=some o->h'.get? c=some o)->Q (.ref s.heap.objs.size) {s with heap:=h'}) :
  wpAny (model P w) A (Builtin.«zip.__next__» ⟨[.ref z],[]⟩) (λfin s'=>∃v,fin=.done (.ret v)/\Q v s') E s:=by
 obtain⟨hz,hTI,⟨a,b,hTO⟩,t1,t2,n1,n2,nz⟩:=Z;obtain⟨hp,ga,d,tk,os⟩:=s;have d1:∀(h:Heap) (Q:Od) (E:Od),(∀h',T1 (k1+1) h'->Heap.SameBut i1 h h'->Q x ⟨h',ga,d,tk,os⟩)->T1 k1 h->wpAny (model P w) A (Builtin.SmallTypes.nextOf (.ref i1)) Q E ⟨h,ga,d,tk,os⟩:=λh Q E c t=>S1.item A k1 x ⟨h,ga,d,tk,os⟩ Q E t hx c;have d2:∀(h:Heap) (Q:Od) (E:Od),(∀h',T2 (k2+1) h'->Heap.SameBut i2 h h'->Q y ⟨h',ga,d,tk,os⟩)->T2 k2 h->wpAny (model P w) A (Builtin.SmallTypes.nextOf (.ref i2)) Q E ⟨h,ga,d,tk,os⟩:=λh Q E c t=>S2.item A k2 y ⟨h,ga,d,tk,os⟩ Q E t hy c;obtain⟨z1,z2,z3,z4,z5,z6,z7,z8,z9⟩:=nz;have o1:∀b∈p1,b≠z/\b≠TO/\b≠i2:=λb hb=>⟨λe=>n1.1 (e ▸ hb),λe=>n1.2.1 (e ▸ hb),λe=>n1.2.2 (e ▸ hb)⟩;have o2:∀b∈p2,b≠z/\b≠TO/\b≠i1:=λb hb=>⟨λe=>n2.1 (e ▸ hb),λe=>n2.2.1 (e ▸ hb),λe=>n2.2.2 (e ▸ hb)⟩;have z12:i1≠i2:=(o1 i1 S1.mem).2.2
 wp_walk using wpAny_onRaise,d1
 rotate_left
 · exact S1.keep k1 _ _ t1 λb hb o e=>((LO ..).2 b (o1 b hb).1).trans e
 intro h1 t1' sb1;have up0:∀b,b≠z->(hp.update z (Obj.mapFields λx=>x.setIfInBounds 0 Value.ellipsis)).get? b=hp.get? b:=λb n=>(LO ..).2 b n;have hz1:IsZip h1 z TI TO .ellipsis:=(sb1.2 z z8.symm).trans (Mn _ hz rfl);have hTO1:IsPair h1 TO a b:=(sb1.2 TO z6).trans ((up0 TO z2).trans hTO);have kp1:∀b o,b≠z->b≠i1->hp.get? b=some o->h1.get? b=some o:=λb o n m e=>(sb1.2 b m).trans ((up0 b n).trans e);have l1:h1.objs.size=hp.objs.size:=sb1.1.trans (LO ..).1;clear up0 sb1 d1
 wp_walk using wpAny_onRaise,d2
 rotate_left
 · exact S2.keep k2 _ _ t2 λb hb o e=>((LO ..).2 b (o2 b hb).2.1).trans (kp1 b o (o2 b hb).1 (o2 b hb).2.2 e)
 intro h2 t2' sb2;have up1:∀b,b≠TO->(h1.update TO (Obj.mapSeq λv=>v.setIfInBounds 0 x)).get? b=h1.get? b:=λb n=>(LO ..).2 b n;have hz2:IsZip h2 z TI TO .ellipsis:=(sb2.2 z z9.symm).trans ((up1 z z2.symm).trans hz1);have hTO2:IsPair h2 TO x b:=(sb2.2 TO z7).trans (Mn _ hTO1 rfl);have kp2:∀b o,b≠TO->b≠i2->h1.get? b=some o->h2.get? b=some o:=λb o n m e=>(sb2.2 b m).trans ((up1 b n).trans e);have l2:h2.objs.size=hp.objs.size:=(sb2.1.trans (LO ..).1).trans l1;clear up1 sb2 d2
 wp_walk
 have hTO3:IsPair (h2.update TO (Obj.mapSeq λx=>x.setIfInBounds (0+1) y)) TO x y:=Mn _ hTO2 rfl;have kp3:∀b o,b≠TO->h2.get? b=some o->(h2.update TO (Obj.mapSeq λx=>x.setIfInBounds (0+1) y)).get? b=some o:=λb o n e=>((LO ..).2 b n).trans e;have l3:(h2.update TO (Obj.mapSeq λx=>x.setIfInBounds (0+1) y)).objs.size=hp.objs.size:=(LO ..).1.trans l2;refine⟨_,rfl,?_⟩;generalize h2.update TO (Obj.mapSeq λx=>x.setIfInBounds (0+1) y)=h3 at hTO3 kp3 l3 ⊢;dsimp only at q;rw[←l3] at q;have zn:z≠h3.objs.size:=L0 (by rw[l3];exact LA hz);have g4:∀b o,h3.get? b=some o->(h3.push {cls:=.type "tuple",data:=.seq #[x,y]}).get? b=some o:=λb o e=>Lq _ e;have gn:(h3.push {cls:=.type "tuple",data:=.seq #[x,y]}).get? h3.objs.size=some {cls:=.type "tuple",data:=.seq #[x,y]}:=LD _ rfl;show Q _ ⟨((h3.push {cls:=.type "tuple",data:=.seq #[x,y]}).update z _).update z _,ga,d,tk,os⟩;generalize h3.push {cls:=.type "tuple",data:=.seq #[x,y]}=h4 at g4 gn ⊢;have hz4:IsZip h4 z TI TO .ellipsis:=g4 _ _ (kp3 _ _ z2.symm hz2);have kz:∀b o,b≠z->h4.get? b=some o->((h4.update z (Obj.mapFields λv=>v.setIfInBounds 0 (rawInt (h3.objs.size:Nat)))).update z (Obj.mapFields λv=>v.setIfInBounds 1 (.bool false))).get? b=some o:=λb o n e=>((LO ..).2 b n).trans (((LO ..).2 b n).trans e);have kp:∀b o,b≠z->b≠TO->b≠i1->b≠i2->hp.get? b=some o->((h4.update z (Obj.mapFields λv=>v.setIfInBounds 0 (rawInt (h3.objs.size:Nat)))).update z (Obj.mapFields λv=>v.setIfInBounds 1 (.bool false))).get? b=some o:=λb o n1 n2 n3 n4 e=>kz b o n1 (g4 b o (kp3 b o n2 (kp2 b o n2 n4 (kp1 b o n1 n3 e))));have hz5:IsZip (h4.update z (Obj.mapFields λv=>v.setIfInBounds 0 (rawInt (h3.objs.size:Nat)))) z TI TO (rawInt (h3.objs.size:Nat)):=Mn _ hz4 rfl;refine q _ ⟨Mn _ hz5 rfl,kp _ _ z1 z3 z4 z5 hTI,⟨x,y,kz _ _ z2 (g4 _ _ hTO3)⟩,S1.keep _ _ _ t1' λb hb o e=>kz b o (o1 b hb).1 (g4 b o (kp3 b o (o1 b hb).2.1 (kp2 b o (o1 b hb).2.1 (o1 b hb).2.2 e))),S2.keep _ _ _ t2' λb hb o e=>kz b o (o2 b hb).1 (g4 b o (kp3 b o (o2 b hb).2.1 e)),n1,n2,⟨z1,z2,z3,z4,z5,z6,z7,z8,z9⟩⟩ (kz _ _ zn.symm gn) kp
theorem EK {Q:Fin->Shared->Prop}(hh:A.handled=none)(S1:Src P w i1 T1 xs p1)(S2:Src P w i2 T2 ys p2)(Z:Zp z TI TO i1 i2 p1 p2 T1 T2 .none k1 k2 s.heap)(he:xs[k1]?=none∨ys[k2]?=none)
  (q:∀h' e,(∀c o,c≠z->c≠TO->c≠i1->c≠i2->s.heap.get? c=some o->h'.get? c=some o)->(∃o,h'.get? e=some o/\o.cls=.type "StopIteration")->E (.ref e) {s with heap:=h'}) :
  wpAny (model P w) A (Builtin.«zip.__next__» ⟨[.ref z],[]⟩) Q E s:=by
 obtain⟨hz,hTI,⟨a,b,hTO⟩,t1,t2,n1,n2,nz⟩:=Z;obtain⟨hp,ga,d,tk,os⟩:=s;obtain⟨z1,z2,z3,z4,z5,z6,z7,z8,z9⟩:=nz;have o1:∀b∈p1,b≠z:=λb hb e=>n1.1 (e ▸ hb);have o2:∀b∈p2,b≠z/\b≠TO/\b≠i1:=λb hb=>⟨λe=>n2.1 (e ▸ hb),λe=>n2.2.1 (e ▸ hb),λe=>n2.2.2 (e ▸ hb)⟩;have zs:∀(h:Heap) (e:Addr),IsZip h z TI TO .ellipsis->(∃o,h.get? e=some o/\o.cls=.type "StopIteration")->∃o,(h.update z (Obj.mapFields λv=>v.setIfInBounds 0 .none)).get? e=some o/\o.cls=.type "StopIteration":=λh e hz ⟨o,ho,hc⟩=>by
  refine⟨o,((LO ..).2 e ?_).trans ho,hc⟩;rintro rfl;rw[hz] at ho;cases ho;simp at hc
 cases hx:xs[k1]? with
 |none =>
  have d1:∀(h:Heap) (Q:Od) (E:Od),(∀h' e,Heap.ExtBut i1 h h'->(∃o,h'.get? e=some o/\o.cls=.type "StopIteration")->E (.ref e) ⟨h',ga,d,tk,os⟩)->T1 k1 h->wpAny (model P w) A (Builtin.SmallTypes.nextOf (.ref i1)) Q E ⟨h,ga,d,tk,os⟩:=λh Q E c t=>S1.stop A k1 ⟨h,ga,d,tk,os⟩ Q E hh t hx c
  wp_walk using wpAny_onRaise,d1
  rotate_left
  · exact S1.keep k1 _ _ t1 λb hb o e=>((LO ..).2 b (o1 b hb)).trans e
  intro h1 e eb st;have hz1:IsZip h1 z TI TO .ellipsis:=eb z _ z8.symm (Mn _ hz rfl);have kp:∀b o,b≠z->b≠i1->hp.get? b=some o->h1.get? b=some o:=λb o n m q=>eb b o m (((LO ..).2 b n).trans q)
  wp_walk
  exact q _ e (λc o c1 c2 c3 c4 w=>((LO ..).2 c c1).trans (kp c o c1 c3 w)) (zs h1 e hz1 st)
 |some x =>
  have hy:ys[k2]?=none:=he.resolve_left (by rw[hx];simp);have d1:∀(h:Heap) (Q:Od) (E:Od),(∀h',T1 (k1+1) h'->Heap.SameBut i1 h h'->Q x ⟨h',ga,d,tk,os⟩)->T1 k1 h->wpAny (model P w) A (Builtin.SmallTypes.nextOf (.ref i1)) Q E ⟨h,ga,d,tk,os⟩:=λh Q E c t=>S1.item A k1 x ⟨h,ga,d,tk,os⟩ Q E t hx c;have d2:∀(h:Heap) (Q:Od) (E:Od),(∀h' e,Heap.ExtBut i2 h h'->(∃o,h'.get? e=some o/\o.cls=.type "StopIteration")->E (.ref e) ⟨h',ga,d,tk,os⟩)->T2 k2 h->wpAny (model P w) A (Builtin.SmallTypes.nextOf (.ref i2)) Q E ⟨h,ga,d,tk,os⟩:=λh Q E c t=>S2.stop A k2 ⟨h,ga,d,tk,os⟩ Q E hh t hy c
  wp_walk using wpAny_onRaise,d1
  rotate_left
  · exact S1.keep k1 _ _ t1 λb hb o e=>((LO ..).2 b (o1 b hb)).trans e
  intro h1 t1' sb1;have hz1:IsZip h1 z TI TO .ellipsis:=(sb1.2 z z8.symm).trans (Mn _ hz rfl);have kp1:∀b o,b≠z->b≠i1->hp.get? b=some o->h1.get? b=some o:=λb o n m e=>(sb1.2 b m).trans (((LO ..).2 b n).trans e);have hTO1:IsPair h1 TO a b:=kp1 _ _ z2 z6 hTO;clear sb1 d1
  wp_walk using wpAny_onRaise,d2
  rotate_left
  · exact S2.keep k2 _ _ t2 λb hb o e=>((LO ..).2 b (o2 b hb).2.1).trans (kp1 b o (o2 b hb).1 (o2 b hb).2.2 e)
  intro h2 e eb st;have hz2:IsZip h2 z TI TO .ellipsis:=eb z _ z9.symm (((LO ..).2 z z2.symm).trans hz1);have kp2:∀b o,b≠TO->b≠i2->h1.get? b=some o->h2.get? b=some o:=λb o n m q=>eb b o m (((LO ..).2 b n).trans q)
  wp_walk
  exact q _ e (λc o c1 c2 c3 c4 w=>((LO ..).2 c c1).trans (kp2 c o c2 c4 (kp1 c o c1 c3 w))) (zs h2 e hz2 st)
abbrev Zt (z TI TO i1 i2 t l:Addr)(xs ys:Array Value)(f0:Value)(k:Nat)(h:Heap):Prop:=Zp z TI TO i1 i2 [i1,t] [i2,l] (λk h=>h.IsTupleIter i1 t k/\h.IsTuple t xs) (λk h=>h.IsListIter i2 l k/\h.IsList l ys) f0 k k h
theorem G7 (t l:Addr)(xs ys:Array Value):Meets (Builtin.«zip.__new__» ⟨[.type "zip",.ref t,.ref l],[]⟩) (λ_ R s=>s.heap.IsTuple t xs/\s.heap.IsList l ys /\
  ∀h',Zt (s.heap.objs.size+4) (s.heap.objs.size+2) (s.heap.objs.size+3) s.heap.objs.size (s.heap.objs.size+1) t l xs ys .none 0 h'->(∀c o,s.heap.get? c=some o->h'.get? c=some o)->R (.ok (.ret (.ref (s.heap.objs.size+4)))) {s with heap:=h'}):=by
 refine .of_wp λP w A R s c=>?_;obtain⟨ht,hl,q⟩:=c;obtain⟨hp,ga,d,tk,os⟩:=s;have sz:=sub_zip;have t0:(Shared.heap ⟨hp,ga,d,tk,os⟩).IsTuple t xs:=ht;have l0:(Shared.heap ⟨hp.push {cls:=.type "tuple_iterator",data:=.fields #[.ref t,.int 0 0]},ga,d,tk,os⟩).IsList l ys:=hl.push _;have nt:@LT.lt Nat _ t hp.objs.size:=by obtain⟨_,e,_⟩:=ht;exact LA e
 have nl:@LT.lt Nat _ l hp.objs.size:=by obtain⟨_,e,_⟩:=hl;exact LA e
 wp_walk using wpAny_pyIter_tuple t0,wpAny_pyIter_list l0
 refine⟨_,rfl,?_⟩;have z1:(hp.push {cls:=.type "tuple_iterator",data:=.fields #[.ref t,.int 0 0]}).objs.size=hp.objs.size+1:=Mw ..;have g1:(hp.push {cls:=.type "tuple_iterator",data:=.fields #[.ref t,.int 0 0]}).get? hp.objs.size=some {cls:=.type "tuple_iterator",data:=.fields #[.ref t,.int 0 0]}:=LD _ rfl;have k1:∀c o,hp.get? c=some o->(hp.push {cls:=.type "tuple_iterator",data:=.fields #[.ref t,.int 0 0]}).get? c=some o:=λc o e=>Lq _ e;dsimp only;generalize hp.push {cls:=.type "tuple_iterator",data:=.fields #[.ref t,.int 0 0]}=h1 at z1 g1 k1 ⊢;have z2:(h1.push {cls:=.type "list_iterator",data:=.fields #[.ref l,.int 0 0]}).objs.size=hp.objs.size+2:=(Mw ..).trans (by rw[z1]);have g2:(h1.push {cls:=.type "list_iterator",data:=.fields #[.ref l,.int 0 0]}).get? h1.objs.size=some {cls:=.type "list_iterator",data:=.fields #[.ref l,.int 0 0]}:=LD _ rfl;have k2:∀c o,h1.get? c=some o->(h1.push {cls:=.type "list_iterator",data:=.fields #[.ref l,.int 0 0]}).get? c=some o:=λc o e=>Lq _ e;generalize h1.push {cls:=.type "list_iterator",data:=.fields #[.ref l,.int 0 0]}=h2 at z2 g2 k2 ⊢;rw[z1] at g2 ⊢;show R (.ok (.ret (.ref ((h2.push {cls:=.type "tuple",data:=.seq #[.ref hp.objs.size,.ref (hp.objs.size+1)]}).push {cls:=.type "tuple",data:=.seq #[.none,.none]}).objs.size))) ⟨((h2.push {cls:=.type "tuple",data:=.seq #[.ref hp.objs.size,.ref (hp.objs.size+1)]}).push {cls:=.type "tuple",data:=.seq #[.none,.none]}).push {cls:=.type "zip",data:=.fields #[.none,.bool false,.bool false,.ref h2.objs.size,.ref (h2.push {cls:=.type "tuple",data:=.seq #[.ref hp.objs.size,.ref (hp.objs.size+1)]}).objs.size]},ga,d,tk,os⟩;have z3:(h2.push {cls:=.type "tuple",data:=.seq #[.ref hp.objs.size,.ref (hp.objs.size+1)]}).objs.size=hp.objs.size+3:=(Mw ..).trans (by rw[z2]);have g3:(h2.push {cls:=.type "tuple",data:=.seq #[.ref hp.objs.size,.ref (hp.objs.size+1)]}).get? h2.objs.size=some {cls:=.type "tuple",data:=.seq #[.ref hp.objs.size,.ref (hp.objs.size+1)]}:=LD _ rfl;have k3:∀c o,h2.get? c=some o->(h2.push {cls:=.type "tuple",data:=.seq #[.ref hp.objs.size,.ref (hp.objs.size+1)]}).get? c=some o:=λc o e=>Lq _ e;generalize h2.push {cls:=.type "tuple",data:=.seq #[.ref hp.objs.size,.ref (hp.objs.size+1)]}=h3 at z3 g3 k3 ⊢;rw[z2] at g3 ⊢;have z4:(h3.push {cls:=.type "tuple",data:=.seq #[.none,.none]}).objs.size=hp.objs.size+4:=(Mw ..).trans (by rw[z3]);have g4:(h3.push {cls:=.type "tuple",data:=.seq #[.none,.none]}).get? h3.objs.size=some {cls:=.type "tuple",data:=.seq #[.none,.none]}:=LD _ rfl;have k4:∀c o,h3.get? c=some o->(h3.push {cls:=.type "tuple",data:=.seq #[.none,.none]}).get? c=some o:=λc o e=>Lq _ e;generalize h3.push {cls:=.type "tuple",data:=.seq #[.none,.none]}=h4 at z4 g4 k4 ⊢;rw[z3] at g4 ⊢;have g5:∀o:Obj,o.isFreed=false->(h4.push o).get? (hp.objs.size+4)=some o:=λo f=>by rw[←z4];exact LD _ f
 rw[z4];have k5:∀c o u,h4.get? c=some o->(h4.push u).get? c=some o:=λc o u e=>Lq _ e;refine q _ ⟨g5 _ rfl,k5 _ _ _ (k4 _ _ g3),⟨_,_,k5 _ _ _ g4⟩,⟨⟨_,k5 _ _ _ (k4 _ _ (k3 _ _ (k2 _ _ g1))),rfl,rfl⟩,?_⟩,⟨⟨_,k5 _ _ _ (k4 _ _ (k3 _ _ g2)),rfl,rfl⟩,?_⟩,?_,?_,?_⟩ λc o e=>k5 _ _ _ (k4 _ _ (k3 _ _ (k2 _ _ (k1 _ _ e))))
 · obtain⟨o,e,r⟩:=ht;exact⟨o,k5 _ _ _ (k4 _ _ (k3 _ _ (k2 _ _ (k1 _ _ e)))),r⟩
 · exact hl.at λo e=>k5 _ _ _ (k4 _ _ (k3 _ _ (k2 _ _ (k1 _ _ e))))
 · refine⟨?_,?_,?_⟩ <;> simp only[Lr,Na,or_false,not_or] <;> exact⟨by intro e;have e:(_:Nat)=_:=e;omega,by intro e;have e:(_:Nat)=_:=e;omega⟩
 · refine⟨?_,?_,?_⟩ <;> simp only[Lr,Na,or_false,not_or] <;> exact⟨by intro e;have e:(_:Nat)=_:=e;omega,by intro e;have e:(_:Nat)=_:=e;omega⟩
 · refine⟨?_,?_,?_,?_,?_,?_,?_,?_,?_⟩ <;> intro e <;> have e:(_:Nat)=_:=e <;> omega
theorem Dh {t l:Addr}{xs ys:Array Value}{Q:Od}(ht:s.heap.IsTuple t xs)(hl:s.heap.IsList l ys)
  (q:∀h',Zt (s.heap.objs.size+4) (s.heap.objs.size+2) (s.heap.objs.size+3) s.heap.objs.size (s.heap.objs.size+1) t l xs ys .none 0 h'->(∀c o,s.heap.get? c=some o->h'.get? c=some o)->Q (.ref (s.heap.objs.size+4)) {s with heap:=h'}):wpAny (model P w) A (call (.type "zip") [.ref t,.ref l]) Q E s :=
 callType_new F.called_zip (by decide) (F.typeCall_zip_2 _ _) (F.newCall_zip_2 _ _) (λo=>F.args_object_init_3 o _ _) F.entry_zip_new (G7 t l xs ys) ⟨ht,hl,λh' Z k=>⟨⟨_,Z.zp,rfl⟩,q h' Z k⟩⟩
theorem tu {t l:Addr}{xs ys:Array Value}{k:Nat}{x y:Value}{Q:Option Value->Shared->Prop}(n1:t≠i1)(n2:l≠i2)(Z:Zt z TI TO i1 i2 t l xs ys .none k s.heap)(hx:xs[k]?=some x)(hy:ys[k]?=some y)
  (q:∀h',Zt z TI TO i1 i2 t l xs ys (rawInt s.heap.objs.size) (k+1) h'->IsPair h' s.heap.objs.size x y->(∀c o,c≠z->c≠TO->c≠i1->c≠i2->s.heap.get? c=some o->h'.get? c=some o)->Q (some (.ref s.heap.objs.size)) {s with heap:=h'}):wpAny (model P w) A (pyNext (.ref z)) Q E s:=by
 have ty:s.TypeIs (.ref z) "zip":=⟨_,Z.zp,rfl⟩;unfold pyNext;exact Lm (wpAny_attempt (MD (name:=Str.ofString "__next__") ty F.slot_zip_next (MJ F.slot_zip_next ty F.entry_zip_next (Er (yQ n1) (yW n2) Z hx hy λh' a b c=>Lu (q h' a b c)) (F.args_zip_next_1 _))))
theorem uk {t l:Addr}{xs ys:Array Value}{k:Nat}{Q:Option Value->Shared->Prop}(hh:A.handled=none)(n1:t≠i1)(n2:l≠i2)(Z:Zt z TI TO i1 i2 t l xs ys .none k s.heap)(he:xs[k]?=none∨ys[k]?=none)
  (q:∀h',(∀c o,c≠z->c≠TO->c≠i1->c≠i2->s.heap.get? c=some o->h'.get? c=some o)->Q none {s with heap:=h'}):wpAny (model P w) A (pyNext (.ref z)) Q E s:=by
 have ty:s.TypeIs (.ref z) "zip":=⟨_,Z.zp,rfl⟩;unfold pyNext;refine Lm (wpAny_attempt (MD (name:=Str.ofString "__next__") ty F.slot_zip_next (MJ F.slot_zip_next ty F.entry_zip_next (EK hh (yQ n1) (yW n2) Z he λh' e kp st=>?_) (F.args_zip_next_1 _))));obtain⟨o,e1,e2⟩:=st;exact Lm (wpAny_isInstance (T:="StopIteration") (b:=true) ⟨o,e1,e2⟩ isSubtype_stop (Lu (q _ kp)))
end
end BwX
namespace BwX
open PySem PyProof.Rows
section
variable {P:Program}{w:World}{A:Around}{E:Od}{s:Shared}
theorem B6 {S t:Addr} {its:Array Value} {ns:List Int} {R:Result->Shared->Prop} {led:Bool} (hh:A.handled=none) (ht:s.heap.IsTuple t its) (hi:IntsAre its.toList ns) (hb:its.size+1 < scanBound) (ne:t≠S)
  (hS:s.heap.get? S=some {cls:=.type "set",dict:=none,data:=.set #[] 0 (.fresh 0 0 led)})
  (q:∀(h':Heap) (tk:Nat),h'.SetOf (intKind P w) S (λk=>(firstMet (λi=>ns.getD i 0) its.size).any (·==k)) (firstMet (λi=>ns.getD i 0) its.size).length->(∀b o,b≠S->s.heap.get? b=some o->h'.get? b=some o)->R (.ok (.ret .none)) {s with heap:=h',toks:=tk}) :
  codeAny (model P w) A (.builtin "set.__init__" ⟨[.ref S,.ref t],[]⟩) R s:=by
 have ty:=ht.typeIs;have hT:s.TypeIs (.ref S) "set":=⟨_,hS,rfl⟩;have b1:=F.sub_tuple_set;have b2:=F.sub_tuple_frozenset;have pl:plainId "set.__init__"=true:=by decide +kernel
 refine codeAny_builtin F.entry_set_init ?_;rw[Around.under_plainId pl _];obtain⟨hp,ga,d,tk,os⟩:=s;have t0:(Shared.heap ⟨hp,ga,d,tk,os⟩).IsTuple t its:=ht
 wp_walk using wpAny_pyIter_tuple t0
 have lt:t < hp.objs.size:=by obtain⟨_,e,_⟩:=ht;exact LA e
 have lS:S < hp.objs.size:=LA hS;have hh1:A.in1.in1.handled=none:=by simp[hh]
 refine codeAny_set_update_loopS ((Walks.tuple hh1 hp.objs.size t (L0 lt) its).toS) S (by simp only[Lr,Na,or_false,not_or];exact⟨L0 lS,ne.symm⟩) (λi=>ns.getD i 0) (λi v hv=>IntsAre.int_at hi i v (by rw[Array.getElem?_toList];exact hv)) hb its.size 0 _ (by omega) (LV _) ?_ ?_ ?_
 · exact⟨⟨_,LD _ rfl,rfl,rfl⟩,ht.push _⟩
 · exact SetOf_congr ((setObjOf_fresh led).setOf (Lq _ hS) (by decide)) (λ_=>rfl) rfl
 · rintro⟨h',g',d',tk',os'⟩ mv hq;obtain rfl:g'=ga:=mv.gens;obtain rfl:d'=d:=mv.drawn;obtain rfl:os'=os:=mv.os
   wp_walk
   refine q h' tk' hq λb o n e=>mv.heap b o ?_ (Lq _ e);simp only[Lr,Na,or_false,not_or];exact⟨n,L0 (LA e)⟩
def Gy (o:Obj):Prop:=∃led:Bool,o={cls:=.type "set",dict:=none,data:=.set #[] 0 (.fresh 0 0 led)}
theorem Ae {t:Addr}{its:Array Value}{ns:List Int}{Q:Od}(hh:A.handled=none)(ht:s.heap.IsTuple t its)(hi:IntsAre its.toList ns)(hb:its.size+1 < scanBound)
  (q:∀(h':Heap) (tk:Nat),h'.SetOf (intKind P w) s.heap.objs.size (λk=>(firstMet (λi=>ns.getD i 0) its.size).any (·==k)) (firstMet (λi=>ns.getD i 0) its.size).length->(∀b o,s.heap.get? b=some o->h'.get? b=some o)->Q (.ref s.heap.objs.size) {s with heap:=h',toks:=tk}) :
  wpAny (model P w) A (call (.type "set") [.ref t]) Q E s:=by
 have c1:=NO.notType;have c2:=NO.canCreate;have c3:=NO.made;have c4:=NO.sub;have c5:=F.typeCall_set_1 (.ref t);obtain⟨_,_,c6⟩:=NO.mro;refine wpAny_call (codeAny_of_tree (Lu ⟨Code.quiet_builtin _ (by decide +kernel),codeAny_builtin F.entry_type_call ?_⟩));rw[Around.under_plain (weight_type_call_type "set" [.ref t] []) rfl]
 wp_walk
 refine N3 (code_set_new_1 (.ref t) (E:=E) (Q₁:=λv s1=>∃g o,v=.ref s.heap.objs.size/\s1={s with heap:=g}/\g.get? s.heap.objs.size=some o/\Gy o/\∀b u,s.heap.get? b=some u->g.get? b=some u) λled=>⟨_,_,rfl,rfl,LD _ rfl,⟨led,rfl⟩,λb u e=>Lq _ e⟩) λr s1 z=>?_
 match r,z with
 |.error e,z=>exact z
 |.ok (.ret v),z =>
  obtain⟨g,_,rfl,rfl,at0,⟨led,rfl⟩,kept⟩:=z;have ty:Shared.TypeIs {s with heap:=g} (.ref s.heap.objs.size) "set":=⟨_,at0,rfl⟩;have c7:=NO.init.lookup;have c8:=NO.init.bind (.ref s.heap.objs.size)
  wp_walk
  have there:g.IsTuple t its:=ht.at λo e=>kept t o e;have apart:t≠s.heap.objs.size:=by obtain⟨_,e,_⟩:=ht;exact L0 (LA e)
  refine codeAny_call_builtin_code (plainId_quiet (by decide +kernel) _) (check_set_init_1 ty (B6 (A:=A.in1) (ns:=ns) (by simp[hh]) there hi hb apart at0 λh' tk hq kp=>?_))
  wp_walk
  exact q h' tk hq λb o e=>kp b o (L0 (LA e)) (kept b o e)
end
end BwX
namespace Bw
open PySem PySem.Spec PyProof.Rows L2
def Fn (P:Program)(w:World)(K:Oc)(mg:Oe)(base:Heap)(CX:mr)(k:Nat)(x:Str)(ps:List Str)(sp:Sp):Prop :=
 ∃(f:Addr) (fd:FuncData),mg x=some (.ref f)/\PySem.W.keepIn K (.ref f)=true/\Binds K fd ps []/\bf P w K mg base CX k f fd ps sp
def g_ (K:Oc)(mg:Oe)(x:Str)(st:Stmt):Prop:=∃(f:Addr) (fd:FuncData),mg x=some (.ref f)/\dI K x x st f fd
section
variable {X:Cx}{CX:mr}{k:Nat}{x:Str}{ps:List Str}{sp:Sp}{E:XK}{p pos:Pos}{e:Expr}{es:List Expr}{t:TA}
theorem aZ (F:Fn X.prog X.w X.K X.mg X.base CX k x ps sp) (hr:c_ k X.A) (hx:Passes CX X E) (ha:PA X (e::es) t) (hg:Gl X x:=by rfl) (hdb:(x==("__debug__":Str))=false:=by decide) (he:starEach (e::es) X.env=(false,eval e X.env)::starEach es X.env:=by rfl) (hpl:(backTo pos (starEach es X.env)).any (·.1)=false:=by rfl) :
  PE X (.Call (.Name x p) (e::es) [] pos) (nH sp [] E t):=by
 obtain⟨f,fd,hm,hk,hb,F⟩:=F;exact Ed F hr hg hm hk hb .nil hx ha hdb he hpl
end
section
variable {P:Program}{w:World}{K:Oc}{mg:Oe}{base:Heap}
theorem g_.mk {CX:mr} {x:Str} {st:Stmt} {ps:List Str} {k:Nat} {sp:Sp} (D:g_ K mg x st)
  (hb:∀(kV doc pm:Value) (an:Option Addr) (cdv ct:Value) (us:Og),us.length=ps.length->bindArgs (PySem.W.fnOf x x (cU st) (ck st) (ax st) .none kV doc pm an cdv ct) ⟨us,[]⟩=pure (ps.zip us))
  (ok:∀f fd,dI K x x st f fd->bf P w K mg base CX k f fd ps sp):Fn P w K mg base CX k x ps sp:=by
 obtain⟨f,fd,hm,F⟩:=D;exact⟨f,fd,hm,F.kp,F.binds hb,ok f fd F⟩
theorem Fn.mono {CX:mr}{x:Str}{ps:List Str}{j k:Nat}{sp:Sp}(F:Fn P w K mg base CX j x ps sp)(h:j<=k):Fn P w K mg base CX k x ps sp:=by
 obtain⟨f,fd,hm,hk,hb,F⟩:=F;exact⟨f,fd,hm,hk,hb,F.mono h⟩
end
def st (w:W):Str:=⟨w.toArray⟩
theorem qo (w:W):TL.tl (st w)=w:=rfl
theorem b6 (w:W):(st w).length=w.length:=by rw[TL.lF,qo]
theorem js {v w:W}:st v=st w↔v=w:=⟨λh=>by have:=Mu TL.tl h;exact this,λh=>by rw[h]⟩
theorem kK {s:String}:Str.ofString s=st (cd s):=TL.wj (by rw[TL.gR,qo];rfl)
def Gv (mg:Oe)(x:Str)(v:V):Prop:=∃u,mg x=some u/\RelV v u
theorem bg {X:Cx}{x:Str}{v:V}{pos:Pos}(h:Gv X.mg x v)(hg:Gl X x:=by rfl)(hd:(x==("__debug__":Str))=false:=by decide):PE X (.Name x pos) (tC v):=by
 obtain⟨u,hm,r⟩:=h;exact D7 hg hm r hd
theorem fs {N P:List Str}{sc:Scope}(a:sc.kind=.function:=by rfl)(b:sc.isCoroutine=false:=by rfl)(c:sc.isGenerator=false:=by rfl)(d:N.Nodup:=by decide +kernel)(e:N.take P.length=P:=by rfl)(f:∀x∈P,sc.names.lookup x=some .local∨sc.names.lookup x=some .cell:=by decide +kernel)(g:∀y∈sc.names,y.2≠.free:=by decide +kernel):aI N P sc:=⟨a,b,c,d,e,f,g⟩
end Bw
namespace L2
open PySem PySem.Spec PyProof.Rows
def Ev (t:TE)(σ:St)(H:Hp)(v:V):Prop:=∀R:VK,R v H->t σ H R
def Tv (t:TT)(σ:St)(H:Hp)(b:Bool):Prop:=∀R:Bool->Hp->Prop,R b H->t σ H R
section
variable {σ:St}{H:Hp}{ta tb tc te:TE}{t u:TT}{x y v:V}{i j k:Int}{b c:Bool}{K:Oc}{a p:Addr}{xs ys:List V}
theorem ag {n:Nat} (h:σ[n]?=some (some v)):Ev (cH n) σ H v:=λ_ r=>⟨v,h,r⟩
theorem aE:Ev (tC v) σ H v:=λ_ r=>r
theorem l_ {f:Int->Int->V}(ha:Ev ta σ H (.int i))(hb:Ev tb σ H (.int j)):Ev (kG (qF f) ta tb) σ H (f i j):=λ_ r=>ha _ (hb _ ⟨i,j,rfl,rfl,r⟩)
theorem yZ {C:Int->Int->Prop}{f:Int->Int->V}(ha:Ev ta σ H (.int i))(hb:Ev tb σ H (.int j))(h:C i j):Ev (kG (rI C f) ta tb) σ H (f i j):=λ_ r=>ha _ (hb _ ⟨i,j,rfl,rfl,h,r⟩)
theorem b9 (ha:Ev ta σ H x)(hb:Ev tb σ H y)(s:C7 x y=true:=by rfl):Ev (kG JT ta tb) σ H (.bl (decide (x=y))):=λ_ r=>ha _ (hb _ ⟨s,r⟩)
theorem pA (ha:Ev ta σ H x)(hb:Ev tb σ H y)(s:C7 x y=true:=by rfl):Ev (kG KY ta tb) σ H (.bl (!decide (x=y))):=λ_ r=>ha _ (hb _ ⟨s,r⟩)
theorem tM (ha:Ev ta σ H x):Ev (kG (λx y H Q=>y=.b8/\Q (.bl (decide (x=.b8))) H) ta (tC .b8)) σ H (.bl (decide (x=.b8))):=λ_ r=>ha _ ⟨rfl,r⟩
theorem B5 {n:Nat}{z:Str}(ha:Ev ta σ H (.str ⟨#[n]⟩))(hb:Ev tb σ H (.str z)):Ev (kG (λx y H Q=>∃(c:Nat) (z:Str),x=.str ⟨#[c]⟩/\y=.str z/\Q (.bl (decide (c∈z.cps.toList))) H) ta tb) σ H (.bl (decide (n∈z.cps.toList))):=λ_ r=>ha _ (hb _ ⟨n,z,rfl,rfl,r⟩)
theorem E7 {n:Nat}{z:Str}(ha:Ev ta σ H (.str ⟨#[n]⟩))(hb:Ev tb σ H (.str z)):Ev (kG (λx y H Q=>∃(c:Nat) (z:Str),x=.str ⟨#[c]⟩/\y=.str z/\Q (.bl (!decide (c∈z.cps.toList))) H) ta tb) σ H (.bl (!decide (n∈z.cps.toList))):=λ_ r=>ha _ (hb _ ⟨n,z,rfl,rfl,r⟩)
theorem lH {neg:Bool}(ha:Ev ta σ H x)(hb:Ev tb σ H (.ref p))(s:aS K H p xs∨bZ K H p xs)(f:dO x=true)(fs:xs.all dO=true):Ev (kG (Gx K neg) ta tb) σ H (.bl (if neg then !oa x xs else oa x xs)):=λ_ r=>ha _ (hb _ ⟨p,xs,rfl,s,f,fs,r⟩)
theorem tX {z:Str}{n:Nat}(ha:Ev ta σ H (.str z))(hb:Ev tb σ H (.int i))(hz:z.length<=sizeLine)(e:nN z.cps.toList i=some n):Ev (kG Jg ta tb) σ H (.str ⟨#[n]⟩):=λ_ r=>ha _ (hb _ ⟨z,i,n,rfl,rfl,hz,e,r⟩)
theorem a_ (ha:Ev ta σ H (.ref p))(hb:Ev tb σ H (.int i))(s:aS K H p xs)(e:nN xs i=some v):Ev (kG (Ar K) ta tb) σ H v:=λ_ r=>ha _ (hb _ ⟨p,xs,i,v,rfl,rfl,s,e,r⟩)
theorem AE (ha:Ev ta σ H (.ref p))(hb:Ev tb σ H (.int i))(s:bZ K H p xs)(e:nN xs i=some v):Ev (kG (Jy K) ta tb) σ H v:=λ_ r=>ha _ (hb _ ⟨p,xs,i,v,rfl,rfl,s,e,r⟩)
theorem bc {C dx:Addr}{fs:List (Str×V)}{f:Str}(ha:Ev ta σ H (.ref a))(e:H a=some (.ins C dx fs))(c:yn K C)(n:hX K C f)(l:fs.lookup f=some v):Ev (uZ K ta f) σ H v:=λ_ r=>ha _ ⟨a,C,dx,fs,v,rfl,e,c,n,l,r⟩
theorem aY (ha:Ev ta σ H (.ref p))(s:aS K H p xs∨bZ K H p xs):Ev (Ie (λxs H Q=>∃p ys,xs=[.ref p]/\(aS K H p ys∨bZ K H p ys)/\Q (.int ys.length) H) (cM ta fe)) σ H (.int xs.length):=λ_ r=>ha _ ⟨p,xs,rfl,s,r⟩
theorem sQ {z:Str}(ha:Ev ta σ H (.str z))(hz:z.length<=sizeLine):Ev (Ie (λxs H Q=>∃z,xs=[.str z]/\z.length<=sizeLine/\Q (.int z.length) H) (cM ta fe)) σ H (.int z.length):=λ_ r=>ha _ ⟨z,rfl,hz,r⟩
theorem Ju (ha:Ev ta σ H (.bl b))(hb:b=false->Ev tb σ H (.bl c)):Ev (JL ta tb) σ H (.bl (b||c)):=λR r=>ha _ ⟨b,rfl,by
 cases b with
 |false=>exact t7 (hb rfl _ r)
 |true=>exact n8 r⟩
theorem aL (h:Ev te σ H (.bl b)):Tv (qv te) σ H b:=λ_ r=>h _ ⟨b,rfl,r⟩
theorem KL (h:Ev te σ H (.bl b)):Tv (tB te) σ H b:=λ_ r=>h _ ⟨b,rfl,r⟩
theorem B1 {p q:Int->Int->Bool}(ha:Ev ta σ H (.int i))(hb:Ev tb σ H (.int j))(hc:Ev tc σ H (.int k)):Ev (wx (qF λi j=>.bl (p i j)) (qF λi j=>.bl (q i j)) ta tb tc) σ H (.bl (p i j&&q j k)):=λR r=>ha _ (hb _ ⟨i,j,rfl,rfl,p i j,rfl,by
 cases h:p i j with
 |false=>rw[h] at r;exact t7 r
 |true=>rw[h] at r;exact n8 (hc _ ⟨j,k,rfl,rfl,r⟩)⟩)
theorem cG {p q:Int->Int->Bool}(ha:Ev ta σ H (.int i))(hb:Ev tb σ H (.int j))(hc:Ev tc σ H (.int k)):Tv (qv (wx (qF λi j=>.bl (p i j)) (qF λi j=>.bl (q i j)) ta tb tc)) σ H (p i j&&q j k):=aL (B1 ha hb hc)
theorem jy {p:Int->Int->Bool}(ha:Ev ta σ H (.int i))(hb:Ev tb σ H (.int j)):Tv (qv (kG (qF λi j=>.bl (p i j)) ta tb)) σ H (p i j):=λ_ r=>ha _ (hb _ ⟨i,j,rfl,rfl,_,rfl,r⟩)
theorem fb (h:Tv t σ H b):Tv (Ig t) σ H (!b):=λ_ r=>h _ r
theorem oR (h:Tv t σ H b)(h2:b=true->Tv u σ H c):Tv (Iu t u) σ H (b&&c):=λR r=>h _ (by
 cases b with
 |false=>exact t7 r
 |true=>exact n8 (h2 rfl _ r))
theorem gN (h:Tv t σ H b)(h2:b=false->Tv u σ H c):Tv (K0 t u) σ H (b||c):=λR r=>h _ (by
 cases b with
 |false=>exact t7 (h2 rfl _ r)
 |true=>exact n8 r)
theorem tj (ha:Ev ta σ H (.int i)):Ev (KR (rU λi=>.int (-i)) ta) σ H (.int (-i)):=λ_ r=>ha _ ⟨i,rfl,r⟩
theorem Jm {z:Str}{r:V->List V->Hp->VK->Prop}(ha:Ev ta σ H (.str z))(h:∀R,R v H->r (.str z) [] H R):Ev (KW r ta) σ H v:=λR q=>ha _ ⟨⟨z,rfl⟩,h R q⟩
theorem a6 {D:Ends}{s1 s2:TS}(h:Tv t σ H b)(q1:b=true->s1 D σ H)(q2:b=false->s2 D σ H):IC t s1 s2 D σ H:=h _ (by
 cases b with
 |false=>exact t7 (q2 rfl)
 |true=>exact n8 (q1 rfl))
theorem bW {D:Ends}(h:Ev te σ H v)(q:D.rt v H):EN te D σ H:=h _ q
theorem cx {D:Ends}{n:Nat}(h:Ev te σ H v)(q:D.nx (σ.set n (some v)) H):zK te (gg n) D σ H:=h _ q
theorem Gz {D:Ends}{s1 s2:TS}(q:s1 {D with nx:=s2 D} σ H):EY s1 s2 D σ H:=q
end
theorem au.laid {H H':Hp}{p:Addr}{o:HO}(e:au H H')(h:H p=none):au H (upd H' p o):=λb u q=>by
 rw[aq (ao q h)];exact e b u q
section
variable {σ:St}{H:Hp}{ta tb tc:TE}{i j c:Int}
theorem yV {n:Nat} {R:It->Hp->Prop} (ha:Ev ta σ H (.int i)) (hb:Ev tb σ H (.int j)) (hc:Ev tc σ H (.int c)) (rg:Jo i j c n) (q:R (HZ i c n) H):Fi (cM ta (cM tb (cM tc fe))) σ H R:=ha _ (hb _ (hc _ ⟨i,j,c,n,rfl,rg,q⟩))
theorem yF {R:It->Hp->Prop}(ha:Ev ta σ H (.int i))(hb:Ev tb σ H (.int j))(rg:-(2 ^ 62)<=i/\i < 2 ^ 62/\-(2 ^ 62)<=j/\j < 2 ^ 62)(q:R (Ax i (j - i).toNat) H):FQ (cM ta (cM tb fe)) σ H R:=ha _ (hb _ ⟨i,j,rfl,rg,q⟩)
theorem sP {R:It->Hp->Prop}(ha:Ev ta σ H (.int j))(h1:-(2 ^ 62)<=j)(h2:j < 2 ^ 62)(q:R (Ax 0 j.toNat) H):Bj (cM ta fe) σ H R:=ha _ ⟨j,rfl,h1,h2,q⟩
theorem pK {wi:TI}{g:TG}{tb:TS}{D:Ends}(h:wi σ H λJ H1=>∃W:Nat->Nat->St->Hp->Prop,(∃m,W 0 m σ H1)/\∀i m σ H,W i m σ H ->
  (J.stop i H/\D.nx σ H)∨(J.go i H/\∃N:St->Hp->Prop,(∀σ' H',N σ' H'->∃m',m' < m/\W (i+1) m' σ' H')/\∀x H',J.vU i H x H'->g x σ H' λσ2 H2=>tb {D with nx:=N,ct:=N,bk:=D.nx} σ2 H2)):Hs wi g tb D σ H:=h
end
theorem Gp {z:Str}{g:TG}{tt:TT}{te:TE}{vs:Ob}{σ:St}{H1:Hp}{D:Addr}{Qd:Hp->Prop}(Pv:Nat->Hp->Prop)(h0:Pv 0 (upd H1 D (.lst [])))
  (hs:∀i c H,z.cps.toList[i]?=some c->Pv i H->g (.str ⟨#[c]⟩) (wipe σ vs) H λσ2 H2=>wipe σ2 vs=wipe σ vs/\tt σ2 H2 λb H3 =>
   if b=true then te σ2 H3 λy H4=>∃acc,H4 D=some (.lst acc)/\acc.length < sizeLine/\Pv (i+1) (upd H4 D (.lst (acc++[y]))) else Pv (i+1) H3) (hd:∀H,Pv z.cps.toList.length H->Qd H) :
  ∃W:Nat->Nat->Hp->Prop,(∃m,W 0 m (upd H1 D (.lst [])))/\∀i m H,W i m H ->
   ((JA z).stop i H/\Qd H)∨((JA z).go i H/\∃Nx:Hp->Prop,(∀H',Nx H'->∃m',m' < m/\W (i+1) m' H')/\∀x H',(JA z).vU i H x H'->g x (wipe σ vs) H' λσ2 H2=>wipe σ2 vs=wipe σ vs/\tt σ2 H2 λb H3 =>
    if b=true then te σ2 H3 λy H4=>∃acc,H4 D=some (.lst acc)/\acc.length < sizeLine/\Nx (upd H4 D (.lst (acc++[y]))) else Nx H3):=by
 have sz:z.cps.toList.length=z.cps.size:=M9;refine⟨λi m H=>m=z.cps.size - i/\i<=z.cps.size/\Pv i H,⟨z.cps.size,by simp,LV _,h0⟩,?_⟩;rintro i m H ⟨rfl,hi,p⟩;by_cases hlt:i < z.cps.size
 · refine .inr ⟨hlt,Pv (i+1),λH' p'=>⟨z.cps.size - (i+1),by omega,rfl,hlt,p'⟩,λx H' y=>?_⟩;obtain⟨e,c,hc,rfl⟩:=y;subst e;exact hs i c _ (by rw[Array.getElem?_toList];exact hc) p
 · have e:i=z.cps.size:=by omega
   subst e;exact .inl ⟨Lx _,hd H (by rw[sz];exact p)⟩
end L2
namespace Bw
open PySem PySem.Spec PyProof.Rows L2
abbrev zt:Str:=Str.ofString "abcdefghijklmnopqrstuvwxyz"
abbrev zW:Str:=Str.ofString "0123456789"
structure GW (mg:Oe):Prop where
 um:Gv mg "LETTERS" (.str zt)
 digits:Gv mg "DIGITS" (.str zW)
 most:Gv mg "MOST_NAME" (.int 12)
 IG:Gv mg "MOST_DIGITS" (.int 7)
 len:mg "len"=none
 all:mg "all"=none
 int:mg "int"=none
theorem B4:TL.tl zt=(List.range 26).map (·+97):=by rw[TL.gR];decide +kernel
theorem CO:TL.tl zW=(List.range 10).map (·+48):=by rw[TL.gR];decide +kernel
theorem HD {c:Nat}(h1:97<=c)(h2:c<=122):nN (zt.cps.toList) ((c:Int) - 97)=some c:=by
 have e:((c:Int) - 97)=((c - 97:Nat):Int):=by omega
 rw[e];refine cj ?_;have q:zt.cps.toList=(List.range 26).map (·+97):=B4;rw[q,Ls,M8 (by omega)];simp;omega
theorem Gu {c:Nat}(h1:48<=c)(h2:c<=57):nN (zW.cps.toList) ((c:Int) - 48)=some c:=by
 have e:((c:Int) - 48)=((c - 48:Nat):Int):=by omega
 rw[e];refine cj ?_;have q:zW.cps.toList=(List.range 10).map (·+48):=CO;rw[q,Ls,M8 (by omega)];simp;omega
theorem xO (c:Nat):decide (c∈zt.cps.toList)=isLet c:=by
 have q:zt.cps.toList=(List.range 26).map (·+97):=B4;rw[q,L3];unfold isLet;simp only[Lw,Lv,LX,Nb];constructor
 · rintro⟨x,hx,rfl⟩;omega
 · rintro⟨h1,h2⟩;exact⟨c - 97,by omega,by omega⟩
theorem Gf (c:Nat):decide (c∈zW.cps.toList)=bX c:=by
 have q:zW.cps.toList=(List.range 10).map (·+48):=CO;rw[q,L3];unfold bX;simp only[Lw,Lv,LX,Nb];constructor
 · rintro⟨x,hx,rfl⟩;omega
 · rintro⟨h1,h2⟩;exact⟨c - 48,by omega,by omega⟩
def BW:Sp:=λvs H Q _=>∃c:Nat,vs=[.int c]/\Q (.str (st [sg c])) H
theorem DJ {c:Nat}(h:97<=c/\c<=122):sg c=c:=by unfold sg t9 isLet;simp[h]
theorem D3 {c:Nat}(h:48<=c/\c<=57):sg c=c:=by unfold sg t9 bX;simp[h]
theorem IB {c:Nat}(h1:¬(97<=c/\c<=122))(h2:¬(48<=c/\c<=57))(h3:c≠32)(h4:c≠10)(h5:c≠44)(h6:c≠47):sg c=63:=by
 unfold sg t9 isLet bX;have e1:(decide (97<=c)&&decide (c<=122))=false:=by simp;omega
 have e2:(decide (48<=c)&&decide (c<=57))=false:=by simp;omega
 rw[e1,e2];simp[h3,h4,h5,h6]
section
variable {P:Program}{w:World}{K:Oc}{mg:Oe}{base:Heap}
theorem DR:aI ["code"] ["code"] (ax jZ):=fs
theorem D9 (G:GW mg){f:Addr}{fd:FuncData}(F:dI K "sign_of" "sign_of" jZ f fd):bf P w K mg base bJ 1 f fd ["code"] BW:=by
 refine F.ok DR (λvs H Q E h=>?_) (λcdv A outer s H vs Q E hr h=>?_)
 · obtain⟨c,rfl,_⟩:=h;rfl
 · obtain⟨c,rfl,q⟩:=h;refine⟨_,af (aT (cA cf cf aw (pv 0) aw) (ak (aA (bq tQ (bg G.um) (bK fF (pv 0) aw) (λ_ _=>rfl)))) aC)
    (af (aT (cA cf cf aw (pv 0) aw) (ak (aA (bq tQ (bg G.digits) (bK fF (pv 0) aw) (λ_ _=>rfl)))) aC)
    (af (aT (aB cg (pv 0) aw (aM _)) (ak (aA bt)) aC)
    (af (aT (aB cg (pv 0) aw (aM _)) (ak (aA bt)) aC)
    (af (aT (aB cg (pv 0) aw (aM _)) (ak (aA bt)) aC)
    (af (aT (aB cg (pv 0) aw (aM _)) (ak (aA bt)) aC)
    (ak (aA bt))))))),?_⟩
   refine a6 (cG aE (ag rfl) aE) (λh=>?_) (λh1=>?_)
   · simp only[Lv,Lw] at h;refine bW (tX aE (l_ (ag rfl) aE) (by decide +kernel) (HD (c:=c) (by omega) (by omega))) ?_;rw[DJ (by omega)] at q;exact q
   refine a6 (cG aE (ag rfl) aE) (λh=>?_) (λh2=>?_)
   · simp only[Lv,Lw] at h;refine bW (tX aE (l_ (ag rfl) aE) (by decide +kernel) (Gu (c:=c) (by omega) (by omega))) ?_;rw[D3 (by omega)] at q;exact q
   have step:∀(n:Nat) (b:Bool),b=decide (V.int (c:Int)=V.int (n:Int))->(b=true->c=n)/\(b=false->c≠n):=λn b e=>by
    rw[bb] at e;subst e;constructor
    · intro z;have:=MR z;omega
    · intro z z2;subst z2;simp at z
   refine a6 (aL (b9 (ag rfl) aE)) (λh=>?_) (λh3=>?_)
   · have e:=(step 32 _ rfl).1 h;subst e;exact bW aE q
   refine a6 (aL (b9 (ag rfl) aE)) (λh=>?_) (λh4=>?_)
   · have e:=(step 10 _ rfl).1 h;subst e;exact bW aE q
   refine a6 (aL (b9 (ag rfl) aE)) (λh=>?_) (λh5=>?_)
   · have e:=(step 44 _ rfl).1 h;subst e;exact bW aE q
   refine a6 (aL (b9 (ag rfl) aE)) (λh=>?_) (λh6=>?_)
   · have e:=(step 47 _ rfl).1 h;subst e;exact bW aE q
   rw[IB (λz=>by simp at h1;omega) (λz=>by simp at h2;omega) ((step 32 _ rfl).2 h3) ((step 10 _ rfl).2 h4) ((step 44 _ rfl).2 h5) ((step 47 _ rfl).2 h6)] at q;exact q
def sW (K:Oc):Sp:=λvs H Q _=>∃(a:Addr) (cs:Ob),vs=[.ref a]/\aS K H a (cs.map λc=>V.int (c:Nat))/\cs.length<=70000/\∀H',au H H'->Q (.str (st (cs.map sg))) H'
theorem take_snoc {α:Type}{l:List α}{i:Nat}{x:α}(h:l[i]?=some x):l.take (i+1)=l.take i++[x]:=by
 rw[List.take_add_one,h];rfl
theorem xa (l:Ob):Txt.join (Str.ofString "") (l.map λc=>st [c])=st l:=by
 rw[TL.join_eq];refine TL.wj ?_;rw[TL.yc,TL.gR,qo];show TL.dJ [] ((l.map λc=>st [c]).map TL.tl)=l;rw[LP]
 induction l with
 |nil=>rfl
 |cons c l ih =>
  cases l with
  |nil=>rfl
  |cons d l =>
   have ih:TL.dJ [] ((d::l).map (TL.tl ∘ λc=>st [c]))=d::l:=ih;show [c]++([]++TL.dJ [] ((d::l).map (TL.tl ∘ λc=>st [c])))=c::d::l;rw[ih];rfl
theorem tJ:aI ["codes","code"] ["codes"] (ax j0):=fs
theorem Du {k:Nat}(FS:Fn P w K mg base bJ k "sign_of" ["code"] BW){f:Addr}{fd:FuncData}(F:dI K "text_of" "text_of" j0 f fd):bf P w K mg base bJ (k+1) f fd ["codes"] (sW K):=by
 refine F.ok tJ (λvs H Q E h=>?_) (λcdv A outer s H vs Q E hr h=>?_)
 · obtain⟨a,cs,rfl,_⟩:=h;rfl
 · obtain⟨a,cs,rfl,hS,hl,q⟩:=h;refine⟨_,ak (aA (EZ bt (fC rfl tJ.nd (bG (pv 0)) (bA (own:=[("code",1)]) rfl) (λ_ _ _ _ _=>aK (i:=1) tJ.nd rfl (Or.inl rfl)) (λ_ _ _ _ _=>cn)
    (λ_ _ _ _ _=>aZ FS hr bh (aa (pv 1) ah))))),?_⟩
   refine⟨⟨_,rfl⟩,_,rfl,a,rfl,⟨_,hS⟩,λD hD=>jd (K:=K) (a:=a) (xs:=cs.map λc=>V.int (c:Nat)) (λi H'=>au H H'/\H' D=some (.lst ((cs.take i).map λc=>V.str (st [sg c]))))
    ⟨(au.refl H).laid hD,ae⟩ (λi H' _ h=>h.1.seq hS) ?_ ?_⟩
   · rintro i x H' hi ⟨h1,h2⟩;rw[Ls] at hi;obtain⟨c,hc,rfl⟩:=LZ.mp hi;refine⟨rfl,_,rfl,c,rfl,_,h2,?_,?_⟩
     · rw[Ln,LM,LQ];omega
     · refine⟨λb u z=>?_,?_⟩
       · rw[aq (ao z hD)];exact h1 b u z
       · rw[ae,take_snoc hc,LH];rfl
   · rintro H' ⟨h1,h2⟩;rw[Ln,Ml] at h2;refine⟨_,D,(cs.map sg).map (λc=>st [c]),rfl,rfl,.inl (aS.of ?_),?_,?_⟩
     · rw[h2,LP,LP];rfl
     · have e:(((cs.map sg).map (λc=>st [c])).map (·.length)).sum=cs.length:=by
        rw[LP,LP];clear h2 hS q hl
        induction cs with
        |nil=>rfl
        |cons c cs ih =>
         rw[LF,MU,ih,Lz];show 1+cs.length=_;omega
       have e2:(Str.ofString "").length=0:=by decide +kernel
       rw[e,e2];omega
     · rw[xa];exact q H' h1
def lN:Sp:=λvs H Q _=>∃wd:W,vs=[.str (st wd)]/\wd.length<=70000/\∀H',au H H'->Q (.bl (eD wd)) H'
theorem yj {wd:W}(h:wd≠[]):nN (st wd).cps.toList ((0:Int))=some (wd.headD 0):=by
 refine cj (j:=0) ?_;show wd[0]?=some (wd.headD 0);cases wd with
 |nil=>exact absurd rfl h
 |cons c r=>rfl
theorem nc:aI ["word","sign"] ["word"] (ax j3):=fs
theorem zE (G:GW mg){f:Addr}{fd:FuncData}(F:dI K "is_name" "is_name" j3 f fd):bf P w K mg base bJ 1 f fd ["word"] lN:=by
 refine F.ok nc (λvs H Q E h=>?_) (λcdv A outer s H vs Q E hr h=>?_)
 · obtain⟨a,rfl,_⟩:=h;rfl
 · obtain⟨wd,rfl,hl,q⟩:=h;have hz:(st wd).length<=sizeLine:=by rw[b6,LQ];omega
   refine⟨_,af (aT (PW.pt (d9 (cz (cA cf cf aw (aG fS (by rfl) G.len PySem.boot_len (aa (pv 0) ah)) (bg G.most)))
     (cS (aB qI (bq tQ (pv 0) aw (λ_ _=>rfl)) (bg G.um) (by with_unfolding_all rfl))))) (ak (aA mJ)) aC)
    (ak (aA (aG (w_ rfl) (by rfl) G.all PyProof.Rows.boot_all (aa (fC rfl nc.nd (HS (pv 0)) (bA (own:=[("sign",1)]) rfl) (λ_ _ _ _ _=>aK (i:=1) nc.nd rfl (Or.inl rfl)) (λ_ _ _ _ _=>cn)
     (λ_ _ _ _ _=>IX (fm pd (pv 1) (bg G.um) (by with_unfolding_all rfl)) (vX (fm pd (pv 1) (bg G.digits) (by with_unfolding_all rfl))))) ah)))),?_⟩
   refine a6 (gN (fb (cG aE (sQ (ag rfl) hz) aE)) λh0=>aL (E7 (tX (ag rfl) aE hz (yj ?_)) aE)) (λh=>?_) (λh=>?_)
   · rintro rfl;simp at h0;rw[b6] at h0;simp at h0
   · rw[xO] at h;refine bW aE ?_;have e:eD wd=false:=by
      unfold eD;rw[b6] at h;simp only[Mo,Me,ML,L6] at h;rcases h with (h|h)|h
      · have:¬1<=wd.length:=λz=>h (by omega);simp[this]
      · have:¬wd.length<=12:=λz=>h (by omega);simp[this]
      · rw[h];simp
     rw[←e];exact q H (au.refl H)
   · rw[xO,b6] at h;simp only[My,Mh,Lv,Lw] at h;obtain⟨⟨h1,h2⟩,h3⟩:=h;have e:eD wd=wd.all λc=>isLet c||bX c:=by
      unfold eD;have z1:decide (1<=wd.length)=true:=L4 (by omega);have z2:decide (wd.length<=12)=true:=L4 (by omega);rw[z1,z2,h3];simp
     refine⟨_,rfl,_,rfl,λD hD=>Gp (z:=st wd) (λi H'=>au H H'/\H' D=some (.lst ((wd.take i).map λc=>V.bl (isLet c||bX c)))) ⟨(au.refl H).laid hD,ae⟩ ?_ ?_⟩
     · rintro i c H' hi ⟨k1,k2⟩;have hi:wd[i]?=some c:=hi;refine⟨rfl,?_⟩;refine (Ju (B5 (ag rfl) aE) λ_=>B5 (ag rfl) aE) _ ⟨_,k2,?_,?_⟩
       · rw[Ln,LM,LQ];omega
       · rw[xO,Gf];refine⟨λb u z=>?_,?_⟩
         · rw[aq (ao z hD)];exact k1 b u z
         · rw[ae,take_snoc hi,LH];rfl
     · rintro H' ⟨k1,k2⟩;have k2:H' D=some (.lst ((wd.take wd.length).map λc=>V.bl (isLet c||bX c))):=k2;rw[Ml] at k2;refine⟨D,wd.map λc=>isLet c||bX c,rfl,aS.of (by rw[k2,LP];rfl),?_⟩;have e2:((wd.map λc=>isLet c||bX c).all id)=eD wd:=by rw[e,Ny];rfl
       rw[e2];exact q H' k1
def kR:Sp:=λvs H Q _=>∃wd:W,vs=[.str (st wd)]/\wd.length<=70000/\(∀c∈wd,c < 128)/\Q (.int (ay wd)) H
theorem yX:∀c:Nat,c < 128->Unicode.isDigit c=bX c:=by decide +kernel
theorem oV {wd:W}(h:∀c∈wd,c < 128):Txt.isdigit (st wd)=(!wd.isEmpty&&wd.all bX):=by
 unfold Txt.isdigit;have e:(st wd).cps.all Unicode.isDigit=wd.all bX:=by
  show wd.toArray.all Unicode.isDigit=_;rw[List.all_toArray,L3,LU,LU];exact⟨λz c hc=>by rw[←yX c (h c hc)];exact z c hc,λz c hc=>by rw[yX c (h c hc)];exact z c hc⟩
 rw[e,b6];cases wd with
 |nil=>rfl
 |cons c r=>simp
theorem xw (wd:W):NumText.digitsVal wd=wV wd:=by
 unfold NumText.digitsVal wV;congr 1;funext n c;omega
theorem GK {wd:W}(h0:wd≠[])(h1:wd.all bX=true)(h2:wd.length<=7):intText? (st wd)=some ((wV wd:Nat):Int):=by
 rw[←xw];refine intText_digits (x:=st wd) (λc hc=>?_) h0 (by rw[b6];omega);have:=LU.mp h1 c hc;unfold bX at this;simpa using this
theorem Hf:aI ["word"] ["word"] (ax gP):=fs
theorem HA (G:GW mg){f:Addr}{fd:FuncData}(F:dI K "number_of" "number_of" gP f fd):bf P w K mg base bJ 1 f fd ["word"] kR:=by
 refine F.ok Hf (λvs H Q E h=>?_) (λcdv A outer s H vs Q E hr h=>?_)
 · obtain⟨a,rfl,_⟩:=h;rfl
 · obtain⟨wd,rfl,hl,ha,q⟩:=h;have hz:(st wd).length<=sizeLine:=by rw[b6,LQ];omega
   refine⟨_,af (aT (PW.pt (d9 (aB kN (aG fS (by rfl) G.len PySem.boot_len (aa (pv 0) ah)) (bg G.IG) (aM _)) (cS (cz (hU (Jv PySem.F.slot_str_isdigit PySem.F.type_str_isdigit wA (pv 0))))))) (ak (aA (u5 pG aw))) aC)
    (af (aT (PW.pt (t8 (aB cg (bq tQ (pv 0) aw (λ_ _=>rfl)) bt (aM _)) (oE (aB qg (pv 0) bt (aM _))))) (ak (aA (u5 pG aw))) aC)
    (ak (aA (ki tU (by rfl) G.int PyProof.Rows.boot_int (aa (pv 0) ah))))),?_⟩
   refine a6 (gN (aL (l_ (sQ (ag rfl) hz) aE)) λh0=>fb (KL (Jm (ag rfl) λR r=>⟨_,rfl,rfl,trivial,r⟩))) (λh=>?_) (λh=>?_)
   · refine bW (tj aE) ?_;have e:ay wd=-1:=by
      unfold ay;rw[Lp];rw[oV ha,b6] at h;simp only[Mo,Me,ML,Lw] at h;rcases h with h|h|h
      · exact .inl (by omega)
      · exact .inr (.inl (by cases wd with|nil=>rfl|cons c r=>simp at h))
      · exact .inr (.inr h)
     rw[e] at q;exact q
   · rw[oV ha,b6] at h;simp only[My,Mh,Lv,L6] at h;obtain⟨h1,h2,h3⟩:=h;have hne:wd≠[]:=by rintro rfl;simp at h2
     have e0:ay wd=if wd.headD 0=48/\wd≠[48] then -1 else (wV wd:Int):=by
      unfold ay;rw[Lo];rintro (z|z|z)
      · exact h1 (by omega)
      · exact hne z
      · rw[h3] at z;cases z
     refine a6 (oR (aL (b9 (tX (ag rfl) aE hz (yj hne)) aE)) λh0=>aL (pA (ag rfl) aE)) (λh=>?_) (λh=>?_)
     · refine bW (tj aE) ?_;rw[Lp] at e0
       · rw[e0] at q;exact q
       · simp only[Lv,Lw,Me,L6] at h;refine⟨?_,λz=>h.2 ?_⟩
         · have:=h.1;injection this with this;have:=Mu TL.tl this;have:[wd.headD 0]=[48]:=this;injection this
         · rw[z];rfl
     · rw[Lo] at e0
       · rw[e0] at q;exact⟨_,rfl,_,_,rfl,GK hne h3 (by omega),by rw[b6];omega,q⟩
       · rintro⟨z1,z2⟩;simp only[ML,L6,Mh,Lw] at h;rcases h with h|h
         · exact h (by rw[z1];rfl)
         · injection h with h;have h:=Mu TL.tl h;exact z2 h
end
end Bw
namespace L2
open PySem PySem.Spec PyProof.Rows
structure yG (P:Program)(w:World)(K:Oc)(d:Addr)(vs:List (Key×Value)):Prop where
 dd:∀h:Heap,K.In h->h.DictOf (cp P w) d vs
 ne:(d==sysModules)=false
section
variable {X:Cx}{d:Addr}{vs:List (Key×Value)}{o i:Expr}{td ty:TE}{pos:Pos}
def F_ (d:Addr) (vs:List (Key×Value)) (td ty:TE):TE:=λσ H Q=>td σ H λx H1=>ty σ H1 λy H2=>∃k v u,x=.ref d/\y=kV k/\valueAt vs k=some u/\RelV v u/\Q v H2
def IM (d:Addr)(vs:List (Key×Value))(ty td:TE):TE:=λσ H Q=>ty σ H λy H1=>td σ H1 λx H2=>∃k,x=.ref d/\y=kV k/\Q (.bl (valueAt vs k).isSome) H2
theorem CZ (D:yG X.prog X.w X.K d vs)(ho:PE X o td)(hi:PE X i ty)(hs:Jc i):PE X (.Subscript o i pos) (F_ d vs td ty):=by
 intro pins s σ H Q I h;refine DK PySem.F.slot_dict_getitem.lookup hs (bB (ho pins s σ H _ I h) λu s1 ⟨x,H1,I1,rx,q1⟩=>bB (hi pins s1 σ H1 _ I1 q1) λiv s2 ⟨y,H2,I2,ry,k,v,u',ex,ey,hv,rv,q2⟩=>?_);subst ex ey;obtain rfl:u=Value.ref d:=rx;have dd:=D.dd s2.heap I2.mQ;obtain⟨ob,es,ep,e1,e2,_⟩:=id dd;exact⟨⟨ob,e1,e2.1⟩,wpAny_getItem_of (oK ry) dd.mapOf hv ⟨v,H2,I2.tok _,rv,q2⟩⟩
theorem DC (D:yG X.prog X.w X.K d vs)(hi:PE X i ty)(ho:PE X o td):PC X .In i o (IM d vs ty td):=by
 intro pins s σ H Q I h;refine bB (hi pins s σ H _ I h) λiv s1 ⟨y,H1,I1,ry,q1⟩=>bB (ho pins s1 σ H1 _ I1 q1) λu s2 ⟨x,H2,I2,rx,k,ex,ey,q2⟩=>?_;subst ex ey;obtain rfl:u=Value.ref d:=rx;have dd:=D.dd s2.heap I2.mQ;exact wpAny_in_of (oK ry) D.ne dd.mapOf ⟨.bl _,H2,I2.tok _,rfl,q2⟩
end
theorem au.tup {K:Oc}{H H':Hp}{a:Addr}{xs:List V}(e:au H H')(h:bZ K H a xs):bZ K H' a xs:=by
 rcases h with (h|⟨o,h⟩)|h
 · exact .inl (.inl (e _ _ h))
 · exact .inl (.inr ⟨o,e _ _ h⟩)
 · exact .inr h
section
variable {α β γ:Type}{F G:α->β->Prop}
theorem Paired.qG:∀{l₁:List α} {l₂:List β} {i:Nat} {x:α},Paired F l₁ l₂->l₁[i]?=some x->∃y,l₂[i]?=some y/\F x y
 |_,_,_,_,.nil,e=>by simp at e
 |_,_,0,_,.cons r _,e=>by simp at e;subst e;exact⟨_,rfl,r⟩
 |_,_,i+1,x,.cons _ t,e=>by
  obtain⟨y,h1,h2⟩:=Paired.qG (i:=i) (x:=x) t (by simpa using e);exact⟨y,by simpa using h1,h2⟩
theorem Paired.at2:∀{l₁:List α} {l₂:List β} {i:Nat} {y:β},Paired F l₁ l₂->l₂[i]?=some y->∃x,l₁[i]?=some x/\F x y
 |_,_,_,_,.nil,e=>by simp at e
 |_,_,0,_,.cons r _,e=>by simp at e;subst e;exact⟨_,rfl,r⟩
 |_,_,i+1,y,.cons _ t,e=>by
  obtain⟨x,h1,h2⟩:=Paired.at2 (i:=i) (y:=y) t (by simpa using e);exact⟨x,by simpa using h1,h2⟩
theorem Paired.tk:∀{l₁:List α} {l₂:List β} (n:Nat),Paired F l₁ l₂->Paired F (l₁.take n) (l₂.take n)
 |_,_,0,_=>.nil
 |_,_,_+1,.nil=>.nil
 |_,_,n+1,.cons r t=>.cons r (Paired.tk n t)
theorem Paired.dp:∀{l₁:List α} {l₂:List β} (n:Nat),Paired F l₁ l₂->Paired F (l₁.drop n) (l₂.drop n)
 |_,_,0,r=>r
 |_,_,_+1,.nil=>.nil
 |_,_,n+1,.cons _ t=>Paired.dp n t
theorem Paired.rep {a:α}{b:β}(h:F a b):∀n:Nat,Paired F (List.replicate n a) (List.replicate n b)
 |0=>.nil
 |n+1=>.cons h (Paired.rep h n)
end
end L2
namespace Bw
open PySem PySem.Spec PyProof.Rows L2 Tote
def sV (ws:List W):List V:=ws.map λw=>V.str (st w)
def nV (ns:Ob):List V:=ns.map λn=>V.int (n:Nat)
def ia (K:Oc)(H:Hp)(a:Addr)(ns:Ob):Prop:=aS K H a (nV ns)
def bE (K:Oc)(H:Hp)(a:Addr)(rs:Oa):Prop:=∃as:List Addr,aS K H a (as.map V.ref)/\Paired (ia K H) as rs
def lG (H:Hp)(a:Addr)(rs:Oa):Prop:=∃as:List Addr,H a=some (.lst (as.map V.ref))/\Paired (λb ns=>H b=some (.lst (nV ns))) as rs
section
variable {K:Oc}{H H':Hp}{a:Addr}
theorem lG.lists {rs:Oa} (h:lG H a rs):bE K H a rs:=by
 obtain⟨as,h1,h2⟩:=h;exact⟨as,aS.of h1,Paired.d8 h2 λ_ _ z=>aS.of z⟩
theorem lG.same {rs:Oa}(h:lG H a rs)(e:au H H'):lG H' a rs:=by
 obtain⟨as,h1,h2⟩:=h;exact⟨as,e _ _ h1,Paired.d8 h2 λ_ _ z=>e _ _ z⟩
theorem ia.same {ns:Ob}(h:ia K H a ns)(e:au H H'):ia K H' a ns:=e.seq h
theorem jc {as:List Addr}{rs:Oa}(h:Paired (ia K H) as rs)(e:au H H'):Paired (ia K H') as rs:=Paired.d8 h λ_ _ z=>z.same e
theorem bE.same {rs:Oa}(h:bE K H a rs)(e:au H H'):bE K H' a rs:=by
 obtain⟨as,h1,h2⟩:=h;exact⟨as,e.seq h1,jc h2 e⟩
theorem dH (ws:List W):(sV ws).length=ws.length:=Ln ..
theorem aP (ws:Ob):(nV ws).length=ws.length:=Ln ..
theorem Ck {ws:List W}{i:Nat}{x:W}(h:ws[i]?=some x):(sV ws)[i]?=some (.str (st x)):=by
 unfold sV;rw[Ls,h];rfl
end
structure CK (K:Oc)(mg:Oe)(x:Str)(fs:List Str)(C:Addr):Prop where
 cl:yn K C
 no:∀f∈fs,hX K C f
 mg:mg x=some (.ref C)
def Dm (K:Oc)(C:Addr)(m qual:Str)(st:Stmt):Prop:=∃(f:Addr) (fd:FuncData),Meth K C m f/\dI K m qual st f fd
def Di (K:Oc)(C:Addr)(qual:Str)(st:Stmt):Prop:=∃(f:Addr) (fd:FuncData),Mk K C f/\dI K "__init__" qual st f fd
def xn (P:Program)(w:World)(K:Oc)(mg:Oe)(base:Heap)(CX:mr)(k:Nat)(C:Addr)(ps:List Str)(sp:Sp):Prop :=
 ∃(f:Addr) (fd:FuncData),Mk K C f/\Binds K fd ps []/\bf P w K mg base CX k f fd ps sp
def pQ (P:Program)(w:World)(K:Oc)(mg:Oe)(base:Heap)(CX:mr)(k:Nat)(C:Addr)(m:Str)(ps:List Str)(sp:Sp):Prop :=
 ∃(f:Addr) (fd:FuncData),Meth K C m f/\Binds K fd ps []/\bf P w K mg base CX k f fd ps sp
section
variable {X:Cx}{CX:mr}{k:Nat}{x:Str}{ps:List Str}{sp:Sp}{E:XK}{p pos:Pos}{e:Expr}{es:List Expr}{t:TA}{C:Addr}
theorem pX (F:xn X.prog X.w X.K X.mg X.base CX k C ps sp) (hr:c_ (k+1) X.A) (hm:X.mg x=some (.ref C)) (hx:Passes CX X E) (ha:PA X (e::es) t) (hg:Gl X x:=by rfl) (hdb:(x==("__debug__":Str))=false:=by decide) (he:starEach (e::es) X.env=(false,eval e X.env)::starEach es X.env:=by rfl)
  (hpl:(backTo pos (starEach es X.env)).any (·.1)=false:=by rfl):PE X (.Call (.Name x p) (e::es) [] pos) (Fh C sp [] E t):=by
 obtain⟨f,fd,M,hb,F⟩:=F;exact EV M F hr hg hm hb .nil hx ha hdb he hpl
end
theorem bT {f:Str}{v:V}:eK f v []=[(f,v)]:=rfl
theorem bo {f g:Str}{v x:V}{r:List (Str×V)}(h:g≠f):eK f v ((g,x)::r)=(g,x)::eK f v r:=by
 show (if g=f then (g,v)::r else (g,x)::eK f v r)=_;rw[Lo h]
theorem bC {f:Str}{v:V}{r:List (Str×V)}:List.lookup f ((f,v)::r)=some v:=by simp[List.lookup]
theorem aU {f g:Str}{v:V}{r:List (Str×V)}(h:f≠g):List.lookup f ((g,v)::r)=List.lookup f r:=by
 have:(f==g)=false:=LW.mpr h;simp[List.lookup,this]
def jj (nm kd fa u:V):List (Str×V):=[("name",nm),("kind",kd),("fields",fa),("unit",u)]
abbrev hZ:List Str:=["name","kind","fields","unit"]
theorem lu {a b c d:V}:(jj a b c d).lookup ("name":Str)=some a:=bC
theorem iU {a b c d:V}:(jj a b c d).lookup ("kind":Str)=some b:=by unfold jj;rw[aU (by decide +kernel)];exact bC
theorem mK {a b c d:V}:(jj a b c d).lookup ("fields":Str)=some c:=by unfold jj;rw[aU (by decide +kernel),aU (by decide +kernel)];exact bC
theorem xk {a b c d:V}:(jj a b c d).lookup ("unit":Str)=some d:=by unfold jj;rw[aU (by decide +kernel),aU (by decide +kernel),aU (by decide +kernel)];exact bC
def dj (K:Oc)(C:Addr)(H:Hp)(a:Addr)(p:aO):Prop:=∃dx fa,H a=some (.ins C dx (jj (.str (st p.name)) (.str (st (cd (kindS p.kind)))) (.ref fa) (.int (p.unit:Nat))))/\bE K H fa p.fields
def cW (K:Oc)(C:Addr)(H:Hp)(a:Addr)(ps:List aO):Prop:=∃as:List Addr,aS K H a (as.map V.ref)/\Paired (dj K C H) as ps
section
variable {K:Oc}{H H':Hp}{C a:Addr}
theorem dj.same {p:aO} (h:dj K C H a p) (e:au H H'):dj K C H' a p:=by
 obtain⟨dx,fa,h1,h2⟩:=h;exact⟨dx,fa,e _ _ h1,h2.same e⟩
theorem oZ {as:List Addr}{ps:List aO}(h:Paired (dj K C H) as ps)(e:au H H'):Paired (dj K C H') as ps:=Paired.d8 h λ_ _ z=>z.same e
theorem cW.same {ps:List aO}(h:cW K C H a ps)(e:au H H'):cW K C H' a ps:=by
 obtain⟨as,h1,h2⟩:=h;exact⟨as,e.seq h1,oZ h2 e⟩
end
def uj (C:Addr):Sp:=λvs H Q _=>∃(x dx:Addr) (a b c d:V),vs=[.ref x,a,b,c,d]/\H x=some (.ins C dx [])/\Q .b8 (upd H x (.ins C dx (jj a b c d)))
section
variable {P:Program}{w:World}{K:Oc}{mg:Oe}{base:Heap}
theorem Bh:aI ["self","name","kind","fields","unit"] ["self","name","kind","fields","unit"] (ax gU):=fs
theorem Bu {C:Addr}(T:CK K mg "Pool" hZ C){f:Addr}{fd:FuncData}(F:dI K "__init__" "Pool.__init__" gU f fd):bf P w K mg base bJ 1 f fd ["self","name","kind","fields","unit"] (uj C):=by
 refine F.ok Bh (λvs H Q E h=>?_) (λcdv A outer s H vs Q E hr h=>?_)
 · obtain⟨x,dx,a,b,c,d,rfl,_⟩:=h;rfl
 · obtain⟨x,dx,a,b,c,d,rfl,hx,q⟩:=h;refine⟨_,af (cD (pv 0) (pv 1) rfl) (af (cD (pv 0) (pv 2) rfl) (af (cD (pv 0) (pv 3) rfl) (ak (cD (pv 0) (pv 4) rfl)))),?_⟩;refine⟨_,rfl,_,rfl,x,C,dx,[],rfl,hx,T.cl,T.no _ (by simp),(by show 0 < 1000;decide),?_⟩;refine⟨_,rfl,_,rfl,x,C,dx,_,rfl,ae,T.cl,T.no _ (by simp),(by show 1 < 1000;decide),?_⟩;refine⟨_,rfl,_,rfl,x,C,dx,_,rfl,ae,T.cl,T.no _ (by simp),(by repeat (first|rw[bT]|rw[bo (by decide +kernel)]);show 2 < 1000;decide),?_⟩;refine⟨_,rfl,_,rfl,x,C,dx,_,rfl,ae,T.cl,T.no _ (by simp),(by repeat (first|rw[bT]|rw[bo (by decide +kernel)]);show 3 < 1000;decide),?_⟩;rw[cu,cu,cu]
   repeat (first|rw[bT]|rw[bo (by decide +kernel)])
   exact q
end
end Bw
namespace L2
open PySem PySem.Spec PyProof.Rows
theorem kl {α β:Type}{F:α->β->Prop}:∀{l₁:List α} {l₂:List β},l₁.length=l₂.length->(∀(i:Nat) x y,l₁[i]?=some x->l₂[i]?=some y->F x y)->Paired F l₁ l₂
 |[],[],_,_=>.nil
 |x::l₁,y::l₂,h,g=>.cons (g 0 x y rfl rfl) (kl (by simpa using h) λi a b h1 h2=>g (i+1) a b (by simpa using h1) (by simpa using h2))
 |[],_::_,h,_=>by simp at h
 |_::_,[],h,_=>by simp at h
section
variable {X:Cx}
end
end L2
namespace HT
open PySem PySem.Spec PyProof.Rows
theorem ml {P:Program}{w:World}{A:Around}{E:Od}{s:Shared}{t sl:Addr}{items:Array Value}{vl vu:Value}{lo hi:Option Int}{Q:Od}(ht:IsTup s.heap t items)(hs:s.heap.IsSliceOf sl vl vu .none)(pl:IsPart vl lo)(pu:IsPart vu hi)
  (hw:b_ items.size 0 lo=0/\b_ items.size items.size hi=items.size)(h:Q (.ref t) s):wpAny (model P w) A (getItem (.ref t) (.ref sl)) Q E s:=by
 obtain⟨os,hos,hcs,hds⟩:=id hs;have ty:s.TypeIs (.ref sl) "slice":=⟨os,hos,hcs⟩;unfold getItem
 try with_reducible refine Np ?_
 first|refine Lm (Lu ?_)|skip
 refine Lm (wpAny_sequenceKey ht.typeIs (by decide) ?_);refine Lm (MD (name:=Str.ofString "__getitem__") ht.typeIs ME (MJ ME ht.typeIs entry_tuple_getitem ?_ (args_tuple_getitem _ _)));show wpAny _ _ (Builtin.Tuple.tupleItemsOf (.ref t) >>= _) _ _ s;refine Lm (tupleItemsOf_ ht (Lm (wpAny_typeOf ty ?_)));rw[Lp (by decide)];refine Lm (iE hs pl pu ?_);rw[hw.1,hw.2];show wpAny _ _ (if (((0:Nat):Int)==0&&(1:Int)==1&&(items.size - 0)==items.size)=true then _ else _) _ _ s;rw[Lp (by simp)];have t0:s.heap.IsTuple t items:=ht;obtain⟨⟨c,dd,f,l⟩,g,rfl,n,rfl⟩:=ht;obtain⟨hp,ga,d,tk,os⟩:=s
 wp_walk
 exact⟨_,rfl,Lu h⟩
end HT
namespace L2
open PySem PySem.Spec PyProof.Rows
section
variable {X:Cx}
def Kj:V->Option Int->Option Int->Hp->VK->Prop:=λx lo hi H Q=>∃a xs,x=.ref a/\H a=some (.tup xs)/\∀p H',au H H'->H' p=some (.tup (fw xs lo hi))->Q (.ref p) H'
theorem Dl:IL X Kj:=by
 intro pins s σ H x v vl vu lo hi sl Q I rx hs pl pu h;obtain⟨a,xs,rfl,hx,q⟩:=h;by_cases hw:HT.b_ xs.length 0 lo=0/\HT.b_ xs.length xs.length hi=xs.length
 · cases rx;obtain⟨its,r,ht,hz⟩:=I.tuple (bZ.of hx);have hlen:its.toArray.size=xs.length:=by rw[LJ];exact r.length.symm
   refine⟨"tuple",_,ME.lookup,ht.typeIs,HT.ml ht hs pl pu (by rw[hlen];exact hw) ⟨.ref a,H,I,rfl,q a H (au.refl H) ?_⟩⟩;rw[hx];unfold fw;rw[hw.1,hw.2];simp
 · exact Hw pins s σ H _ v vl vu lo hi sl Q I rx hs pl pu ⟨a,xs,rfl,bZ.of hx,hw,λp hp=>q p _ ((au.refl H).laid hp) ae⟩
theorem m9:∀(l acc:List Int),(l.foldl step_dedup acc).length<=acc.length+l.length/\((l.foldl step_dedup acc).length=acc.length+l.length↔l.Nodup/\∀x∈l,¬x∈acc)
 |[],acc=>by simp
 |v::l,acc=>by
  rw[MS];by_cases h:v∈acc
  · have e:step_dedup acc v=acc:=by unfold step_dedup;rw[Lp (by simpa using h)]
    rw[e];have:=(m9 l acc).1;rw[Lz];refine⟨by omega,λz=>by omega,λz=>absurd h (z.2 v (by simp))⟩
  · have e:step_dedup acc v=acc++[v]:=by unfold step_dedup;rw[Lo (by simpa using h)]
    rw[e];obtain⟨i1,i2⟩:=m9 l (acc++[v]);rw[LK,MB] at i1 i2;rw[Lz];refine⟨by omega,?_⟩;rw[show acc.length+(l.length+1)=acc.length+1+l.length by omega,i2,Mz,NW];simp only[Mc,LC,not_or];constructor
    · rintro⟨a,b⟩;exact⟨⟨λm=>(b v m).2 rfl,a⟩,h,λx hx=>(b x hx).1⟩
    · rintro⟨⟨a,b⟩,_,c⟩;exact⟨b,λx hx=>⟨c x hx,λz=>a (z ▸ hx)⟩⟩
theorem Df (ns:List Int):firstMet (λi=>ns.getD i 0) ns.length=ns.foldl step_dedup []:=by
 unfold firstMet;congr 1;refine NM λi=>?_;rw[Ls];by_cases h:i < ns.length
 · rw[M8 h,Ly h];simp[h]
 · rw[Mr (by simpa using h),Mr (by omega)];rfl
theorem Eg (hc:X.calm=true):iA X (.type "set") (λxs H Q=>∃(t:Addr) (ns:List Int),xs=[.ref t]/\bZ X.K H t (ns.map V.int)/\ns.length<=1000/\∀p S n,H p=none->n<=ns.length->(n=ns.length↔ns.Nodup)->Q (.ref p) (upd H p (.set S n))):=by
 intro pins s σ H xs us Q I r h;obtain⟨t,ns,rfl,ht,hl,q⟩:=h;rw[Vals.xm r];obtain⟨its,rv,pt,_⟩:=I.tuple ht;have hn:its.length=ns.length:=by rw[←rv.length,Ln]
 have hi:IntsAre its.toArray.toList ns:=intsAre_of rv;obtain⟨d1,d2⟩:=m9 ns [];rw[MX,Nat.zero_add] at d1 d2;refine BwX.Ae (I.ok.hd hc) (show s.heap.IsTuple t its.toArray from pt) hi (by rw[LJ,hn];show ns.length+1 < 4096;omega) λh' tk hS kp=>?_;have hz:its.toArray.size=ns.length:=by rw[LJ,hn]
 rw[hz,Df] at hS;refine⟨.ref s.heap.objs.size,_,I.laid (t':=tk) kp (Lx _) (show bN X.prog X.w _ h' _ (.set _ _) from hS),rfl,q _ _ _ (I.bw.fresh (Lx _)) d1 (d2.trans ⟨λz=>z.1,λz=>⟨z,by simp⟩⟩)⟩
theorem D4:iA X (.builtin "len") (λxs H Q=>∃p S n,xs=[.ref p]/\H p=some (.set S n)/\n<=1000/\Q (.int (n:Nat)) H):=by
 intro pins s σ H xs us Q I r h;obtain⟨p,S,n,rfl,hp,hn,q⟩:=h;rw[Vals.xm r];obtain⟨o,es,ep,t,ho,hx,hd,_,_,_,hf,rfl⟩:=I.bw p _ hp;exact call_len_set ho hx hd hf (by omega) ⟨.int _,H,I.tok _,⟨_,rfl⟩,q⟩
end
def C0 (K:Oc)(a b:Addr):It :=
 ⟨λi H=>∃(xs ys:List V) (x y:V),bZ K H a xs/\aS K H b ys/\xs[i]?=some x/\ys[i]?=some y,
  λi H v H'=>∃T x y,v=.ref T/\H T=none/\H'=upd H T (.tup [x,y])/\(∀xs,bZ K H a xs->xs[i]?=some x)/\∀ys,aS K H b ys->ys[i]?=some y,
  λi H=>∃xs ys:List V,bZ K H a xs/\aS K H b ys/\(xs.length<=i∨ys.length<=i)⟩
structure ZA (z TI TO i1 i2 a b:Addr):Prop where
 n1:¬z∈[i1,a]/\¬TO∈[i1,a]/\¬i2∈[i1,a]
 n2:¬z∈[i2,b]/\¬TO∈[i2,b]/\¬i1∈[i2,b]
 nz:TI≠z/\TO≠z/\TI≠TO/\TI≠i1/\TI≠i2/\TO≠i1/\TO≠i2/\i1≠z/\i2≠z
 na:a≠i1
 nb:b≠i2
theorem EL {P:Program}{w:World}{K:Oc}{elts:List Expr}{kk:Nat}{tpos:Pos}{a b z TI TO i1 i2:Addr}(D:ZA z TI TO i1 i2 a b) :
  Turn P w K (.Tuple elts kk tpos) (C0 K a b) [z,TI,TO,i1,i2] z (λi h=>IsZip h z TI TO .none/\IsPair h TI (.ref i1) (.ref i2)/\(∃x y,IsPair h TO x y)/\h.IsTupleIter i1 a i/\h.IsListIter i2 b i) where
 mem:=by simp
 obj:=λi h st c hc=>by
  obtain⟨hz,hTI,⟨x,y,hTO⟩,⟨o1,e1,_,d1⟩,⟨o2,e2,_,d2⟩⟩:=st;have e':c=z∨c=TI∨c=TO∨c=i1∨c=i2:=by simpa using hc
  rcases e' with q|q|q|q|q
  · rw[q];exact⟨_,hz,λv q=>nomatch q⟩
  · rw[q];exact⟨_,hTI,λv q=>nomatch q⟩
  · rw[q];exact⟨_,hTO,λv q=>nomatch q⟩
  · rw[q];exact⟨o1,e1,λv q=>by rw[d1] at q;cases q⟩
  · rw[q];exact⟨o2,e2,λv q=>by rw[d2] at q;cases q⟩
 keep:=λi h h' st k=>by
  obtain⟨hz,hTI,⟨x,y,hTO⟩,h1,h2⟩:=st;exact⟨k z (by simp) _ hz,k TI (by simp) _ hTI,⟨x,y,k TO (by simp) _ hTO⟩,h1.at λo q=>k i1 (by simp) o q,h2.at λo q=>k i2 (by simp) o q⟩
 item:=by
  intro X hP hw hK hc i pins s σ H E I hf st hg;subst hP hw hK;obtain⟨hz,hTI,hTO,h1,h2⟩:=st;obtain⟨xs,ys,x,y,hqx,hqy,hx,hy⟩:=hg;obtain⟨its,rv,p,_⟩:=I.tuple hqx;obtain⟨its2,rv2,p2,_⟩:=I.list hqy;obtain⟨u,hu,ru⟩:=rv.get hx;obtain⟨u2,hu2,ru2⟩:=rv2.get hy;have hzl:z < s.heap.objs.size:=LA hz;refine BwX.tu (x:=u) (y:=u2) D.na D.nb ⟨hz,hTI,hTO,⟨h1,p⟩,⟨h2,p2.isList⟩,D.n1,D.n2,D.nz⟩ (by simpa using hu) (by simpa using hu2) λh' Z hT hk=>?_;refine⟨_,rfl,wpAny_letOwnedTupleGo_zip (s:={s with heap:=h'}) Z.zp λh'' z'' sb=>?_⟩;have hT2:h''.get? s.heap.objs.size=some {cls:=.type "tuple",data:=.seq #[u,u2]}:=(sb.2 _ (Nat.ne_of_gt hzl)).trans hT;have new:bN X.prog X.w (upd H s.heap.objs.size (.tup [x,y])) h'' s.heap.objs.size (.tup [x,y]) :=
   ⟨by show 2<=sizeLine;decide,[u,u2],.cons ru (.cons ru2 .nil),⟨_,hT2,rfl,_,rfl⟩⟩
  have I1:Inv X pins σ (upd H s.heap.objs.size (.tup [x,y])) {s with heap:=h''} :=
   I.qS (t':=s.toks) (ch:=[z,TI,TO,i1,i2]) (λc o hb q=>(sb.2 c (λq'=>hb (by simp[q']))).trans (hk c o (λq'=>hb (by simp[q'])) (λq'=>hb (by simp[q'])) (λq'=>hb (by simp[q'])) (λq'=>hb (by simp[q'])) q)) hf (Lx _) new
  obtain⟨z1,z2,z3,z4,z5,z6,z7,z8,z9⟩:=D.nz;obtain⟨x',y',hTO'⟩:=Z.to;refine⟨.ref s.heap.objs.size,_,I1,rfl,⟨_,x,y,rfl,I.bw.fresh (Lx _),rfl,λl hl=>by rw[I.rG hl hqx];exact hx,λl hl=>by rw[I.qD hl hqy];exact hy⟩,⟨z'',(sb.2 _ z1).trans Z.ti,⟨x',y',(sb.2 _ z2).trans hTO'⟩,Z.s1.1.at λo q=>(sb.2 _ z8).trans q,Z.s2.1.at λo q=>(sb.2 _ z9).trans q⟩,λc hcm=>?_⟩;have hlt:c < s.heap.objs.size:=by
   have e':c=z∨c=TI∨c=TO∨c=i1∨c=i2:=by simpa using hcm
   obtain⟨_,_,hTO⟩:=hTO;rcases e' with q|q|q|q|q
   · rw[q];exact hzl
   · rw[q];exact LA hTI
   · rw[q];exact LA hTO
   · rw[q];obtain⟨_,e1,_⟩:=h1;exact LA e1
   · rw[q];obtain⟨_,e2,_⟩:=h2;exact LA e2
  rw[aq (L0 hlt)];exact (hf c hcm).1
 done:=by
  intro X hP hw hK hc i pins s σ H E I hf st hg;subst hP hw hK;obtain⟨hz,hTI,hTO,h1,h2⟩:=st;obtain⟨xs,ys,hqx,hqy,hend⟩:=hg;obtain⟨its,rv,p,_⟩:=I.tuple hqx;obtain⟨its2,rv2,p2,_⟩:=I.list hqy;have l1:=rv.length;have l2:=rv2.length;have he:its.toArray[i]?=none∨its2.toArray[i]?=none:=by
   rcases hend with q|q
   · exact .inl (by simp;omega)
   · exact .inr (by simp;omega)
  exact BwX.uk (I.ok.hd hc) D.na D.nb ⟨hz,hTI,hTO,⟨h1,p⟩,⟨h2,p2.isList⟩,D.n1,D.n2,D.nz⟩ he λh' hk=>⟨rfl,I.DF (t':=s.toks) (ch:=[z,TI,TO,i1,i2]) (λc o hb q =>
   hk c o (λq'=>hb (by simp[q'])) (λq'=>hb (by simp[q'])) (λq'=>hb (by simp[q'])) (λq'=>hb (by simp[q'])) q) hf⟩
 self:=λA i s Q E st h=>wpAny_pyIter_zip st.1 h
def Iz (K:Oc)(ta:TA):TI:=λσ H R=>ta σ H λvs H1=>∃a b xs ys,vs=[.ref a,.ref b]/\bZ K H1 a xs/\aS K H1 b ys/\R (C0 K a b) H1
theorem Eh {X:Cx}{e e2:Expr}{ta:TA}{p pos tpos:Pos}{elts:List Expr}{kk:Nat}(hg:Gl X "zip")(hm:X.mg "zip"=none)(ha:PA X [e,e2] ta)
  (hs:starEach [e,e2] X.env=(false,eval e X.env)::starEach [e2] X.env:=by rfl)(hpl:(backTo pos (starEach [e2] X.env)).any (·.1)=false:=by rfl) :
  PI X (.Tuple elts kk tpos) (.Call (.Name "zip" p) [e,e2] [] pos) (Iz X.K ta):=by
 intro pins s σ H R I h;refine Call_ (lj I hg hm Am (MO (bB (ha pos pins s σ H _ I h) λus s1 ⟨vs,H1,I1,r1,q1⟩=>?_) hs hpl));obtain⟨a,b,xs,ys,ex,hqx,hqy,q⟩:=q1;subst ex;cases r1 with
 |cons r rr =>
  cases rr with
  |cons r' rr =>
   cases rr;cases r;cases r';obtain⟨its,rv,p1,_⟩:=I1.tuple hqx;obtain⟨its2,rv2,p2,_⟩:=I1.list hqy;refine BwX.Dh p1 p2.isList λh' Z hk=>wpAny_pyIter_zip Z.zp ?_;have I2:Inv X pins σ H1 {s1 with heap:=h'}:=I1.kept (t':=s1.toks) hk;have na:a≠s1.heap.objs.size:=by obtain⟨_,e,_⟩:=p1;exact L0 (LA e)
   have nb:b≠s1.heap.objs.size+1:=L0 (Nat.lt_succ_of_lt p2.lt);refine⟨s1.heap.objs.size+4,[s1.heap.objs.size+4,s1.heap.objs.size+2,s1.heap.objs.size+3,s1.heap.objs.size,s1.heap.objs.size+1],_,_,H1,rfl,I2,EL ⟨Z.n1,Z.n2,Z.nz,na,nb⟩,⟨Z.zp,Z.ti,Z.to,Z.s1.1,Z.s2.1⟩,λc hcm=>?_,q⟩;have e':c=s1.heap.objs.size+4∨c=s1.heap.objs.size+2∨c=s1.heap.objs.size+3∨c=s1.heap.objs.size∨c=s1.heap.objs.size+1:=by simpa using hcm
   have hle:s1.heap.objs.size<=c:=by
    rcases e' with z|z|z|z|z
    · rw[z];exact NT _ _
    · rw[z];exact NT _ _
    · rw[z];exact NT _ _
    · rw[z];exact Lx _
    · rw[z];exact NT _ _
   exact I1.v8 hle (I1.bw.fresh hle)
theorem Ii {K:Oc}{a b:Addr}{xs ys:List V}{g:TG}{tt:TT}{te:TE}{vs:Ob}{σ:St}{H1:Hp}{D:Addr}{Qd:Hp->Prop}(hle:xs.length<=ys.length)(Pv:Nat->Hp->Prop)(h0:Pv 0 (upd H1 D (.lst [])))(hl:∀i H,i<=xs.length->Pv i H->bZ K H a xs/\aS K H b ys)
  (hs:∀i x y H T,xs[i]?=some x->ys[i]?=some y->Pv i H->H T=none->g (.ref T) (wipe σ vs) (upd H T (.tup [x,y])) λσ2 H2=>wipe σ2 vs=wipe σ vs/\tt σ2 H2 λb H3 =>
   if b=true then te σ2 H3 λy H4=>∃acc,H4 D=some (.lst acc)/\acc.length < sizeLine/\Pv (i+1) (upd H4 D (.lst (acc++[y]))) else Pv (i+1) H3) (hd:∀H,Pv xs.length H->Qd H) :
  ∃W:Nat->Nat->Hp->Prop,(∃m,W 0 m (upd H1 D (.lst [])))/\∀i m H,W i m H ->
   ((C0 K a b).stop i H/\Qd H)∨((C0 K a b).go i H/\∃Nx:Hp->Prop,(∀H',Nx H'->∃m',m' < m/\W (i+1) m' H')/\∀x H',(C0 K a b).vU i H x H'->g x (wipe σ vs) H' λσ2 H2=>wipe σ2 vs=wipe σ vs/\tt σ2 H2 λb H3 =>
    if b=true then te σ2 H3 λy H4=>∃acc,H4 D=some (.lst acc)/\acc.length < sizeLine/\Nx (upd H4 D (.lst (acc++[y]))) else Nx H3):=by
 refine⟨λi m H=>m=xs.length - i/\i<=xs.length/\Pv i H,⟨xs.length,by simp,LV _,h0⟩,?_⟩;rintro i m H ⟨rfl,hi,p⟩;obtain⟨q1,q2⟩:=hl i H hi p;by_cases hlt:i < xs.length
 · refine .inr ⟨⟨xs,ys,xs[i],ys[i],q1,q2,by simp[hlt],by simp⟩,Pv (i+1),λH' p'=>⟨xs.length - (i+1),by omega,rfl,hlt,p'⟩,λx H' w=>?_⟩;obtain⟨T,v,u,rfl,hT,rfl,hx,hy⟩:=w;exact hs i v u _ T (hx xs q1) (hy ys q2) p hT
 · have e:i=xs.length:=by omega
   subst e;exact .inl ⟨⟨xs,ys,q1,q2,.inl (Lx _)⟩,hd H p⟩
section
variable {σ:St}{H:Hp}{ta tb te:TE}{t u:TT}{x y v:V}{b c:Bool}
theorem yr {Q:VK} (h:Ev ta σ H (.bl b)) (q1:b=true->tb σ H Q) (q2:b=false->Q (.bl false) H):Fp ta tb σ H Q:=h _ ⟨b,rfl,by
 cases b with
 |false=>exact t7 (q2 rfl)
 |true=>exact n8 (q1 rfl)⟩
end
end L2
namespace Bw
open PySem PySem.Spec PyProof.Rows L2 Tote
def m7 (ws:List W):Prop:=ws.length<=70000/\∀w∈ws,w.length<=70000/\∀c∈w,c < 128
theorem i_ {w:W}{s:String}:decide (V.str (st w)=V.str (Str.ofString s))=decide (w=cd s):=by
 rw[M_,kK];constructor
 · intro h;injection h with h;exact js.mp h
 · intro h;rw[h]
theorem Fs {ws:List W}{i:Nat}(h:i < ws.length):ws[i]?=some (ws.getD i []):=by
 rw[L7,Ly h];rfl
theorem dG {ws:List W}{i:Nat}(h:i < ws.length):nN (sV ws) ((i:Nat):Int)=some (.str (st (ws.getD i []))):=cj (Ck (Fs h))
theorem m7.getD {ws:List W}(o:m7 ws)(i:Nat):(ws.getD i []).length<=70000/\∀c∈ws.getD i [],c < 128:=by
 by_cases h:i < ws.length
 · exact o.2 _ (LR (Fs h))
 · rw[L7,Mr (by omega)];exact⟨LV _,λc hc=>by simp at hc⟩
abbrev eW:List (Nat×W):=[(0,cd "pool"),(4,cd "from"),(6,cd "take"),(8,cd "break"),(10,cd "least"),(12,cd "unit"),(14,cd "none")]
abbrev sizeOf:Tote.Kind->Int×Int
 |.place=>(1,4)
 |.order=>(2,4)
 |.any=>(2,3)
 |.legs=>(2,6)
structure GC (P:Program)(w:World)(K:Oc)(mg:Oe)(dS aF:Addr):Prop where
 races:Gv mg "MOST_RACES" (.int 16)
 pools:Gv mg "MOST_POOLS" (.int 64)
 couples:Gv mg "MOST_COUPLES" (.int 8)
 runners:Gv mg "MOST_RUNNERS" (.int 24)
 words:Gv mg "POOL_WORDS" (.int 16)
 Fm:Gv mg "SIZES" (.ref dS)
 fixed:Gv mg "FIXED" (.ref aF)
 AG:∃ts:Tote.Kind->Addr,yG P w K dS [(.inr (st (cd "place")),.ref (ts .place)),(.inr (st (cd "order")),.ref (ts .order)),(.inr (st (cd "any")),.ref (ts .any)),(.inr (st (cd "legs")),.ref (ts .legs))]/\∀(k:Tote.Kind) (H:Hp),bZ K H (ts k) [.int (sizeOf k).1,.int (sizeOf k).2]
 HF:∃ts:List Addr,(∀H,bZ K H aF (ts.map V.ref))/\Paired (λt (p:Nat×W)=>∀H,bZ K H t [.int (p.1:Nat),.str (st p.2)]) ts eW
 range:mg "range"=none
section
variable {P:Program}{w:World}{K:Oc}{mg:Oe}{base:Heap}
def CQ (K:Oc):Sp:=λvs H Q _=>∃(a:Addr) (ws:List W),vs=[.ref a]/\aS K H a (sV ws)/\m7 ws/\∀H',au H H'->Q (.bl (iu ws)) H'
theorem GV:aI ["words"] ["words"] (ax mq):=fs
theorem Gk (G:GW mg){k:Nat}(FN:Fn P w K mg base bJ k "is_name" ["word"] lN){f:Addr}{fd:FuncData}(F:dI K "is_day" "is_day" mq f fd):bf P w K mg base bJ (k+1) f fd ["words"] (CQ K):=by
 refine F.ok GV (λvs H Q E h=>?_) (λcdv A outer s H vs Q E hr h=>?_)
 · obtain⟨a,ws,rfl,_⟩:=h;rfl
 · obtain⟨a,ws,rfl,hS,ok,q⟩:=h;refine⟨_,ak (aA (xS (fm cg (aG az (by rfl) G.len PySem.boot_len (aa (pv 0) ah)) aw (aM _)) (xS (fm cg (bq aR (pv 0) aw (λ_ _=>rfl)) bt (aM _))
    (vX (aZ FN hr bh (aa (bq aR (pv 0) aw (λ_ _=>rfl)) ah)))))),?_⟩
   refine yr (b9 (aY (ag rfl) (.inl hS)) aE) (λh=>?_) (λh=>?_)
   · rw[bb,dH] at h;have hl:ws.length=2:=by have:=MR h;omega
     refine yr (b9 (a_ (ag rfl) aE hS (dG (i:=0) (by omega))) aE) (λh=>?_) (λh=>?_)
     · rw[i_] at h;refine (a_ (ag rfl) aE hS (dG (i:=1) (by omega))) _ ⟨_,rfl,(ok.getD 1).1,λH' e=>?_⟩;have:iu ws=eD (ws.getD 1 []):=by
        unfold iu;rw[hl,LI h];simp
       rw[←this];exact q H' e
     · rw[i_] at h;have:iu ws=false:=by
        unfold iu;have z:(ws.getD 0 []==cd "day")=false:=by
         rw[LW];exact L8 h
        rw[z];simp
       rw[←this];exact q H (au.refl H)
   · rw[bb,dH] at h;have:iu ws=false:=by
      unfold iu;have z:(ws.length==2)=false:=by
       rw[LW] at h ⊢;exact λz=>h (by rw[z];rfl)
      rw[z];rfl
     rw[←this];exact q H (au.refl H)
def fE (ws:List W):Bool:=ws.length==16&&(eW.all λp=>ws.getD p.1 []==p.2)&&eD (ws.getD 1 [])&&(dD (ws.getD 2 [])).isSome
def xT (K:Oc):Sp:=λvs H Q _=>∃(a:Addr) (ws:List W),vs=[.ref a]/\aS K H a (sV ws)/\m7 ws/\∀H',au H H'->Q (.bl (fE ws)) H'
theorem uT {ts:Tote.Kind->Addr}{w:W}:valueAt [((.inr (st (cd "place")):Key),Value.ref (ts .place)),(.inr (st (cd "order")),.ref (ts .order)),(.inr (st (cd "any")),.ref (ts .any)),(.inr (st (cd "legs")),.ref (ts .legs))] (.inr (st w))=(dD w).map λk=>Value.ref (ts k):=by
 have key:∀s:W,((Sum.inr (st s):Key)=Sum.inr (st w))↔s=w:=λs=>⟨λh=>js.mp (Sum.inr.inj h),λh=>by rw[h]⟩;unfold valueAt dD;simp only[M1,List.find?_nil,key];by_cases h1:w=cd "place"
 · subst h1;simp
 · rw[Mb (λz=>h1 z.symm),Lo h1];by_cases h2:w=cd "order"
   · subst h2;simp
   · rw[Mb (λz=>h2 z.symm),Lo h2];by_cases h3:w=cd "any"
     · subst h3;simp
     · rw[Mb (λz=>h3 z.symm),Lo h3];by_cases h4:w=cd "legs"
       · subst h4;simp
       · rw[Mb (λz=>h4 z.symm),Lo h4];rfl
theorem ot:aI ["words","at","word"] ["words"] (ax dR):=fs
theorem Ef {dS aF:Addr}(G:GW mg)(GC:GC P w K mg dS aF){k:Nat}(FN:Fn P w K mg base bJ k "is_name" ["word"] lN){f:Addr}{fd:FuncData}(F:dI K "has_pool_form" "has_pool_form" dR f fd) :
  bf P w K mg base bJ (k+1) f fd ["words"] (xT K):=by
 refine F.ok ot (λvs H Q E h=>?_) (λcdv A outer s H vs Q E hr h=>?_)
 · obtain⟨a,ws,rfl,_⟩:=h;rfl
 · obtain⟨a,ws,rfl,hS,ok,q⟩:=h;obtain⟨ts,hD,hT⟩:=GC.AG;obtain⟨fs,hF,hP⟩:=GC.HF;refine⟨_,af (aT (aB qg (aG az (by rfl) G.len PySem.boot_len (aa (pv 0) ah)) (bg GC.words) (aM _)) (ak (aA mJ)) aC)
    (af (aT (cz (hU (aG (w_ rfl) (by rfl) G.all PyProof.Rows.boot_all (aa (fC (g:=DH K 2 (qB (gg 1) (qB (gg 2) Fb))) (te:=kG JT (kG (Ar K) (cH 0) (cH 1)) (cH 2)) rfl ot.nd (HJ (bg GC.fixed)) (bA (own:=[("at",1),("word",2)]) rfl)
      (λ_ _ _ _ _=>ly rfl (b7 (aK (i:=1) ot.nd rfl (Or.inl rfl) (Or.inr rfl)) (b7 (aK (i:=2) ot.nd rfl (Or.inl rfl) (Or.inr rfl)) i7))) (λ_ _ _ _ _=>cn)
      (λ_ _ _ _ _=>fm cg (bq aR (pv 0) (pv 1) (λ_ _=>rfl)) (pv 2) (aM _))) ah)))) (ak (aA mJ)) aC)
    (ak (aA (xS (aZ FN hr bh (aa (bq aR (pv 0) aw (λ_ _=>rfl)) ah)) (vX (G8 (DC hD (bq aR (pv 0) aw (λ_ _=>rfl)) (bg GC.Fm)))))))),?_⟩
   refine a6 (aL (pA (aY (ag rfl) (.inl hS)) aE)) (λh=>?_) (λh=>?_)
   · rw[bb,dH] at h;refine bW aE ?_;have:fE ws=false:=by
      unfold fE;have z:(ws.length==16)=false:=by
       rw[Me,LW] at h;rw[LW];exact λz=>h (by rw[z];rfl)
      rw[z];rfl
     rw[←this];exact q H (au.refl H)
   · rw[bb,dH] at h;have hl:ws.length=16:=by
      rw[Mh] at h;have:=MR h;omega
     have lenF:fs.length=7:=by rw[Paired.length hP];rfl
     refine⟨aF,rfl,⟨_,hF H⟩,λD hD0=>G4 (K:=K) (a:=aF) (xs:=fs.map V.ref) (λi H'=>au H H'/\H' D=some (.lst ((eW.take i).map λp=>V.bl (decide (ws.getD p.1 []=p.2)))))
      ⟨(au.refl H).laid hD0,ae⟩ (λi H' _ h=>hF H') ?_ ?_⟩
     · rintro i x H' hi ⟨k1,k2⟩;rw[Ls] at hi;obtain⟨t,ht,rfl⟩:=LZ.mp hi;obtain⟨⟨n,wd⟩,hp,hs⟩:=Paired.qG hP ht;have hn:n < 16:=by
        have:=LR hp;simp at this;omega
       refine⟨t,_,rfl,hs H',rfl,_,_,rfl,_,_,rfl,rfl,rfl,?_⟩;refine (b9 (a_ (ag rfl) (ag rfl) (k1.seq hS) (dG (i:=n) (by omega))) (ag rfl)) _ ⟨_,k2,?_,?_⟩
       · rw[Ln,LM,LQ];have:eW.length=7:=rfl;omega
       · refine⟨λb u z=>?_,?_⟩
         · rw[aq (ao z hD0)];exact k1 b u z
         · rw[ae,take_snoc hp,LH];have:decide (V.str (st (ws.getD n []))=V.str (st wd))=decide (ws.getD n []=wd):=by
            rw[M_];exact⟨λh=>js.mp (by injection h),λh=>by rw[h]⟩
           rw[this];rfl
     · rintro H' ⟨k1,k2⟩;have k2:H' D=some (.lst ((eW.take (fs.map V.ref).length).map λp=>V.bl (decide (ws.getD p.1 []=p.2)))):=k2;rw[Ln,lenF] at k2;have eA:((eW.map λp=>decide (ws.getD p.1 []=p.2)).all id)=eW.all λp=>ws.getD p.1 []==p.2:=by
        rw[Ny];congr 1;funext p;show decide (ws.getD p.1 []=p.2)=(ws.getD p.1 []==p.2);rw[L3,Lw,Md]
       refine⟨D,eW.map λp=>decide (ws.getD p.1 []=p.2),rfl,aS.of (by rw[k2,LP];rfl),_,rfl,?_⟩;rw[eA];refine gH (λh=>?_) (λh=>?_)
       · refine bW aE ?_;have:fE ws=false:=by
          unfold fE;rw[Me] at h;rw[h];simp
         rw[←this];exact q H' k1
       · have hA:(eW.all λp=>ws.getD p.1 []==p.2)=true:=by simpa using h
         refine (a_ (ag rfl) aE (k1.seq hS) (dG (i:=1) (by omega))) _ ⟨_,rfl,(ok.getD 1).1,λH2 e2=>⟨_,rfl,?_⟩⟩;have eF:fE ws=(eD (ws.getD 1 [])&&(dD (ws.getD 2 [])).isSome):=by
          unfold fE;rw[hA,hl];simp
         refine gH (λh=>?_) (λh=>?_)
         · refine (a_ (ag rfl) aE ((k1.trans e2).seq hS) (dG (i:=2) (by omega))) _ ⟨Sum.inr (st (ws.getD 2 [])),rfl,rfl,?_⟩;rw[uT];have:((dD (ws.getD 2 [])).map λk=>Value.ref (ts k)).isSome=fE ws:=by
            rw[eF,h,Option.isSome_map];rfl
           rw[this];exact q H2 (k1.trans e2)
         · have:fE ws=false:=by
            rw[eF];have:eD (ws.getD 1 [])=false:=by simpa using h
            rw[this];rfl
           rw[←this];exact q H2 (k1.trans e2)
end
theorem gD {σ:L2.St}{H:Hp}{te:TE}{wd:W}(h:Ev te σ H (.str (st wd)))(ok:wd.length<=70000/\∀c∈wd,c < 128):Ev (nH kR [] E0 (cM te fe)) σ H (.int (ay wd)):=λ_ r=>h _ ⟨wd,rfl,ok.1,ok.2,r⟩
theorem yg {xs:List V}{i j:Nat}(h:j<=xs.length):fw xs (some (i:Int)) (some (j:Int))=(xs.drop i).take (j - i):=by
 unfold fw;rw[HT.i6,HT.i6,Nn h];by_cases hi:i<=xs.length
 · rw[Nn hi]
 · rw[Nat.min_eq_right (by omega),Nj (Lx _),Nj (by omega)];simp
section
variable {P:Program}{w:World}{K:Oc}{mg:Oe}{base:Heap}
def eY (ws:List W):Bool :=
 !(!(decide (0<=ay (ws.getD 7 []))&&decide (ay (ws.getD 7 [])<=400))||!(decide (1<=ay (ws.getD 9 []))&&decide (ay (ws.getD 9 [])<=1000))) &&
 (!(!(decide (1<=ay (ws.getD 13 []))&&decide (ay (ws.getD 13 [])<=10000))||!(decide (ay (ws.getD 11 [])=0)||(decide (ay (ws.getD 13 [])<=ay (ws.getD 11 []))&&decide (ay (ws.getD 11 [])<=2*ay (ws.getD 13 []))))) &&
 (if ws.getD 15 []=cd "fewer" then !decide (ws.getD 2 []=cd "place") else decide (ws.getD 15 []=cd "refund")||decide (ws.getD 15 []=cd "carry")))
def tT (K:Oc):Sp:=λvs H Q _=>∃(a:Addr) (ws:List W),vs=[.ref a]/\aS K H a (sV ws)/\m7 ws/\ws.length=16/\∀H',au H H'->Q (.bl (eY ws)) H'
theorem qw:aI ["words","least","unit"] ["words"] (ax dz):=fs
theorem A1 {k:Nat}(FN:Fn P w K mg base bJ k "number_of" ["word"] kR){f:Addr}{fd:FuncData}(F:dI K "are_terms_good" "are_terms_good" dz f fd):bf P w K mg base bJ (k+1) f fd ["words"] (tT K):=by
 refine F.ok qw (λvs H Q E h=>?_) (λcdv A outer s H vs Q E hr h=>?_)
 · obtain⟨a,ws,rfl,_⟩:=h;rfl
 · obtain⟨a,ws,rfl,hS,ok,hl,q⟩:=h;refine⟨_,af (aN (i:=1) qw.nd rfl (Or.inl rfl) (aZ FN hr bh (aa (bq aR (pv 0) aw (λ_ _=>rfl)) ah)))
    (af (aN (i:=2) qw.nd rfl (Or.inl rfl) (aZ FN hr bh (aa (bq aR (pv 0) aw (λ_ _=>rfl)) ah)))
    (af (aT (PW.pt (d9 (cz (cA cf cf aw (aZ FN hr bh (aa (bq aR (pv 0) aw (λ_ _=>rfl)) ah)) aw)) (cS (cz (cA cf cf aw (aZ FN hr bh (aa (bq aR (pv 0) aw (λ_ _=>rfl)) ah)) aw))))) (ak (aA mJ)) aC)
    (af (aT (PW.pt (d9 (cz (cA cf cf aw (pv 2) aw)) (cS (cz (PW.pt (d9 (aB cg (pv 1) aw (aM _)) (cS (cA cf cf (pv 2) (pv 1) (bK xI aw (pv 2)))))))))) (ak (aA mJ)) aC)
    (af (aT (aB cg (bq aR (pv 0) aw (λ_ _=>rfl)) bt (aM _)) (ak (aA (fm qg (bq aR (pv 0) aw (λ_ _=>rfl)) bt (aM _)))) aC)
    (ak (aA (fm gc (bq aR (pv 0) aw (λ_ _=>rfl)) (dk (aa bt (aa bt ah))) (by with_unfolding_all rfl)))))))),?_⟩
   refine cx (gD (a_ (ag rfl) aE hS (dG (i:=11) (by omega))) (ok.getD 11)) ?_;refine cx (gD (a_ (ag rfl) aE hS (dG (i:=13) (by omega))) (ok.getD 13)) ?_;refine a6 (gN (fb (cG aE (gD (a_ (ag rfl) aE hS (dG (i:=7) (by omega))) (ok.getD 7)) aE)) λ_=>fb (cG aE (gD (a_ (ag rfl) aE hS (dG (i:=9) (by omega))) (ok.getD 9)) aE)) (λh=>?_) (λh1=>?_)
   · refine bW aE ?_;have:eY ws=false:=by unfold eY;rw[h];rfl
     rw[←this];exact q H (au.refl H)
   refine a6 (gN (fb (cG aE (ag rfl) aE)) λ_=>fb (gN (aL (b9 (ag rfl) aE)) λ_=>cG (ag rfl) (ag rfl) (yZ aE (ag rfl) (.inl ⟨by decide,by decide⟩)))) (λh=>?_) (λh2=>?_)
   · refine bW aE ?_;have:eY ws=false:=by
      unfold eY;have e:decide (V.int (ay (ws.getD 11 []))=V.int 0)=decide (ay (ws.getD 11 [])=0):=by rw[bb];rfl
      rw[e] at h;rw[h];simp
     rw[←this];exact q H (au.refl H)
   have e2:eY ws=if ws.getD 15 []=cd "fewer" then !decide (ws.getD 2 []=cd "place") else decide (ws.getD 15 []=cd "refund")||decide (ws.getD 15 []=cd "carry"):=by
    unfold eY;have e:decide (V.int (ay (ws.getD 11 []))=V.int 0)=decide (ay (ws.getD 11 [])=0):=by rw[bb];rfl
    rw[e] at h2;rw[h1,h2];simp
   refine a6 (aL (b9 (a_ (ag rfl) aE hS (dG (i:=15) (by omega))) aE)) (λh=>?_) (λh=>?_)
   · rw[i_] at h;refine bW (pA (a_ (ag rfl) aE hS (dG (i:=2) (by omega))) aE) ?_;rw[i_];rw[Lp (LI h)] at e2;rw[←e2];exact q H (au.refl H)
   · rw[i_] at h;refine (a_ (ag rfl) aE hS (dG (i:=15) (by omega))) _ ⟨(by show 2<=sizeLine;decide),λt ht=>⟨t,_,rfl,.inr (bZ.of ae),rfl,rfl,?_⟩⟩;rw[Lo (L8 h)] at e2;have:oa (V.str (st (ws.getD 15 []))) [V.str (Str.ofString "refund"),V.str (Str.ofString "carry")]=eY ws:=by
      rw[e2];have key:∀s:String,rW (V.str (Str.ofString s)) (V.str (st (ws.getD 15 [])))=decide (ws.getD 15 []=cd s):=λs=>by
       show (Str.ofString s==st (ws.getD 15 []))=_;rw[L3,Md,Lw,kK,js];exact⟨λz=>z.symm,λz=>z.symm⟩
      show ([V.str (Str.ofString "refund"),V.str (Str.ofString "carry")].any λy=>rW y (V.str (st (ws.getD 15 []))))=_;simp only[MV,List.any_nil,key,ND]
     rw[←this] at q;exact q _ ((au.refl H).laid ht)
def lY (kd:Tote.Kind)(k rc:Nat)(rs:Oa):Bool:=match kd with
 |.legs=>decide (rc+k<=rs.length+1)
 |_=>decide (k<=(rs.getD (rc - 1) []).length)
def gX {α:Type}(d:α)(kd:Tote.Kind)(k rc:Nat)(as:List α):List α:=match kd with
 |.legs=>(as.drop (rc - 1)).take k
 |.place=>[as.getD (rc - 1) d]
 |_=>List.replicate k (as.getD (rc - 1) d)
theorem xi (kd:Tote.Kind)(k rc:Nat)(rs:Oa):gX [] kd k rc rs=fu kd k rc rs:=by cases kd <;> rfl
theorem tE {α β:Type}{F:α->β->Prop}{d:α}{e:β}{kd:Tote.Kind}{k rc:Nat}{as:List α}{rs:List β}(h:Paired F as rs)(h1:1<=rc)(h2:rc<=rs.length):Paired F (gX d kd k rc as) (gX e kd k rc rs):=by
 obtain⟨y,hy⟩:∃y,rs[rc - 1]?=some y:=⟨_,Ly (by omega)⟩;obtain⟨x,hx,hf⟩:=Paired.at2 h hy;have ex:as.getD (rc - 1) d=x:=by rw[L7,hx];rfl
 have ey:rs.getD (rc - 1) e=y:=by rw[L7,hy];rfl
 unfold gX;cases kd with
 |legs=>exact Paired.tk k (Paired.dp (rc - 1) h)
 |place=>rw[ex,ey];exact .cons hf .nil
 |order=>rw[ex,ey];exact Paired.rep hf k
 |any=>rw[ex,ey];exact Paired.rep hf k
def pR (K:Oc):Sp:=λvs H Q _=>∃(kd:Tote.Kind) (k rc:Nat) (a:Addr) (as:List Addr) (rs:Oa),vs=[.str (st (cd (kindS kd))),.int (k:Nat),.int (rc:Nat),.ref a]/\aS K H a (as.map V.ref)/\Paired (ia K H) as rs/\1<=k/\k<=6/\1<=rc/\rc<=rs.length/\rs.length<=70000 /\
 (lY kd k rc rs=false->Q .b8 H)/\(lY kd k rc rs=true->∀H' p,au H H'->H p=none->H' p=some (.lst ((gX 0 kd k rc as).map V.ref))->Q (.ref p) H')
theorem iy {kd:Tote.Kind}{s:String}:decide (V.str (st (cd (kindS kd)))=V.str (Str.ofString s))=decide (cd (kindS kd)=cd s):=i_
theorem kb:aI ["kind","size","race","races","interests","place"] ["kind","size","race","races"] (ax gO):=fs
theorem Aq {dS aF:Addr}(G:GW mg)(GC:GC P w K mg dS aF){f:Addr}{fd:FuncData}(F:dI K "fields_of" "fields_of" gO f fd):bf P w K mg base bJ 1 f fd ["kind","size","race","races"] (pR K):=by
 refine F.ok kb (λvs H Q E h=>?_) (λcdv A outer s H vs Q E hr h=>?_)
 · obtain⟨_,_,_,_,_,_,rfl,_⟩:=h;rfl
 · obtain⟨kd,k,rc,a,as,rs,rfl,hA,hP,hk1,hk2,hr1,hr2,hr3,q0,q1⟩:=h;have lenA:as.length=rs.length:=Paired.length hP;refine⟨_,af (aT (aB cg (pv 0) bt (aM _)) (af (aT (aB kN (bK fF (bK d_ (pv 2) (pv 1)) aw) (aG az (by rfl) G.len PySem.boot_len (aa (pv 3) ah)) (aM _)) (ak (aA cy)) aC)
     (ak (aA (cK fq (pv 3) (cY (bK fF (pv 2) aw)) (cY (bK d_ (bK fF (pv 2) aw) (pv 1))))))) aC)
    (af (aN (i:=4) kb.nd rfl (Or.inr rfl) (bq aR (pv 3) (bK fF (pv 2) aw) (λ_ _=>rfl)))
    (af (aT (aB nG (aG az (by rfl) G.len PySem.boot_len (aa (pv 4) ah)) (pv 1) (aM _)) (ak (aA cy)) aC)
    (af (aT (aB cg (pv 0) bt (aM _)) (ak (aA (bU (aa (pv 4) ah)))) aC)
    (ak (aA (fC rfl kb.nd (gf rfl GC.range (aa (pv 1) ah)) (bA (own:=[("place",5)]) rfl) (λ_ _ _ _ _=>aK (i:=5) kb.nd rfl (Or.inl rfl)) (λ_ _ _ _ _=>cn) (λ_ _ _ _ _=>pv 4))))))),?_⟩
   refine a6 (aL (b9 (ag rfl) aE)) (λh=>?_) (λh=>?_)
   · rw[iy] at h;have e:kd=.legs:=by
      cases kd <;> first|rfl|(exact absurd (LI h) (by decide))
     subst e;refine a6 (jy (l_ (l_ (ag rfl) (ag rfl)) aE) (aY (ag rfl) (.inl hA))) (λh=>?_) (λh=>?_)
     · refine bW aE (q0 ?_);rw[Ln,lenA] at h;have:=LI h;exact Mb (by omega)
     · rw[Ln,lenA] at h;have:=L8 h;refine⟨_,rfl,?_⟩;refine (l_ (ag rfl) aE) _ ⟨_,rfl,?_⟩;refine (l_ (l_ (ag rfl) aE) (ag rfl)) _ ⟨_,rfl,a,as.map V.ref,rfl,hA,λp hp=>?_⟩;have e1:(rc:Int) - 1=((rc - 1:Nat):Int):=by omega
       have e2:(rc:Int) - 1+(k:Int)=((rc - 1+k:Nat):Int):=by omega
       rw[e1,show (((rc - 1:Nat):Int)+(k:Int))=((rc - 1+k:Nat):Int) by omega,yg (by rw[Ln,lenA];omega)];refine q1 (L4 (by omega)) _ p ((au.refl H).laid hp) hp ?_;show upd H p _ p=some (.lst (((as.drop (rc - 1)).take k).map V.ref));rw[ae,show rc - 1+k - (rc - 1)=k by omega,List.map_take,NU]
   · rw[iy] at h;have hnl:kd≠.legs:=by
      rintro rfl;exact absurd (L8 h) (by decide)
     obtain⟨ns,hns⟩:∃ns,rs[rc - 1]?=some ns:=⟨_,Ly (by omega)⟩;obtain⟨ai,hai,hI⟩:=Paired.at2 hP hns;have hg:rs.getD (rc - 1) []=ns:=by rw[L7,hns];rfl
     have hgA:as.getD (rc - 1) 0=ai:=by rw[L7,hai];rfl
     have hat:nN (as.map V.ref) ((rc:Int) - 1)=some (.ref ai):=by
      rw[show (rc:Int) - 1=((rc - 1:Nat):Int) by omega];exact cj (by rw[Ls,hai];rfl)
     refine cx (a_ (ag rfl) (l_ (ag rfl) aE) hA hat) ?_;have eO:lY kd k rc rs=decide (k<=ns.length):=by
      unfold lY;rw[hg];cases kd <;> first|rfl|exact absurd rfl hnl
     rw[eO] at q0 q1;refine a6 (jy (aY (ag rfl) (.inl hI)) (ag rfl)) (λh=>?_) (λh=>?_)
     · refine bW aE (q0 (Mb ?_));rw[aP] at h;have:=LI h;omega
     · rw[aP] at h;have:=L8 h;have q1:=q1 (L4 (by omega));refine a6 (aL (b9 (ag rfl) aE)) (λh=>?_) (λh=>?_)
       · rw[iy] at h;have e:kd=.place:=by
          cases kd <;> first|rfl|(exact absurd (LI h) (by decide))
         subst e;refine⟨_,rfl,(by show 1<=sizeLine;decide),λp hp=>q1 _ p ((au.refl H).laid hp) hp ?_⟩;show upd H p _ p=some (.lst [.ref (as.getD (rc - 1) 0)]);rw[hgA];exact ae
       · rw[iy] at h;have hnp:kd≠.place:=by
          rintro rfl;exact absurd (L8 h) (by decide)
         have eF:gX 0 kd k rc as=List.replicate k ai:=by
          unfold gX;rw[hgA];cases kd <;> first|rfl|exact absurd rfl hnl|exact absurd rfl hnp
         rw[eF] at q1;refine⟨_,rfl,(k:Int),rfl,by omega,by omega,λD hD=>?_⟩;rw[show ((k:Int)).toNat=k by omega];refine lX (lo:=0) (n:=k) (λi H'=>au H H'/\H' D=some (.lst ((List.replicate i ai).map V.ref))) ⟨(au.refl H).laid hD,ae⟩ ?_ ?_
         · rintro i H' hi ⟨k1,k2⟩;refine⟨rfl,_,rfl,_,k2,?_,?_⟩
           · rw[Ln,LY,LQ];omega
           · refine⟨λb u z=>?_,?_⟩
             · rw[aq (ao z hD)];exact k1 b u z
             · rw[ae,List.replicate_succ',LH];rfl
         · rintro H' ⟨k1,k2⟩;exact q1 H' D k1 hD k2
end
theorem ng {w:W}{kd:Tote.Kind}(h:dD w=some kd):w=cd (kindS kd):=by
 unfold dD at h;split at h
 · rename_i e;cases h;exact e
 · split at h
   · rename_i e;cases h;exact e
   · split at h
     · rename_i e;cases h;exact e
     · split at h
       · rename_i e;cases h;exact e
       · cases h
theorem sD {ws:List W}(h:fE ws=true):ws.length=16/\∃kd,dD (ws.getD 2 [])=some kd:=by
 unfold fE at h;simp only[Lv,Md] at h;exact⟨h.1.1.1,NB.mp h.2⟩
theorem F5 {ws:List W}(h:ws.length=16):∃p nm kd k fr rc tk t br b le m un u no z:W,ws=[p,nm,kd,k,fr,rc,tk,t,br,b,le,m,un,u,no,z]:=by
 match ws,h with
 |[p,nm,kd,k,fr,rc,tk,t,br,b,le,m,un,u,no,z],_=>exact⟨p,nm,kd,k,fr,rc,tk,t,br,b,le,m,un,u,no,z,rfl⟩
theorem r9 {ws:List W}{rs:Oa}(h:¬(fE ws=true/\eY ws=true)):eU ws rs=none:=by
 by_cases hl:ws.length=16
 · obtain⟨p,nm,kd,k,fr,rc,tk,t,br,b,le,m,un,u,no,z,rfl⟩:=F5 hl;show (match dD kd with
    |none=>none
    |some kind=>if dA rs kind p nm k fr rc tk t br b le m un u no z then some (⟨nm,kind,fu kind (ay k).toNat (ay rc).toNat rs,(ay u).toNat⟩:aO) else none)=none
   cases hk:dD kd with
   |none=>rfl
   |some kind =>
    show (if dA rs kind p nm k fr rc tk t br b le m un u no z then _ else none)=none;rw[Lo];rintro⟨c1,c2,c3,c4,c5,c6,c7,c8,c9,c10,c11,c12,c13,c14,c15,c16⟩;refine h ⟨?_,?_⟩
    · unfold fE;show (_&&(eW.all λq=>_)&&eD nm&&(dD kd).isSome)=true;rw[c8,hk];simp[eW,c1,c2,c3,c4,c5,c6,c7]
    · have hkl:=ng hk;unfold eY;show (!(!(decide (0<=ay t)&&decide (ay t<=400))||!(decide (1<=ay b)&&decide (ay b<=1000)))&&(!(!(decide (1<=ay u)&&decide (ay u<=10000))||!(decide (ay m=0)||(decide (ay u<=ay m)&&decide (ay m<=2*ay u)))) &&
       (if z=cd "fewer" then !decide (kd=cd "place") else decide (z=cd "refund")||decide (z=cd "carry"))))=true
      have d1:(decide (0<=ay t)&&decide (ay t<=400))=true:=by simp[c9]
      have d2:(decide (1<=ay b)&&decide (ay b<=1000))=true:=by simp[c10]
      have d3:(decide (1<=ay u)&&decide (ay u<=10000))=true:=by simp[c11]
      have d4:(decide (ay m=0)||(decide (ay u<=ay m)&&decide (ay m<=2*ay u)))=true:=by simpa using c12
      rw[d1,d2,d3,d4];by_cases hz:z=cd "fewer"
      · rw[Lp hz];rcases c13 with c|c|c
        · have:kd≠cd "place":=by
           rw[hkl];intro e;exact c.2 (by cases kind <;> first|rfl|exact absurd e (by decide))
          simp[this]
        · rw[hz] at c;exact absurd c (by decide)
        · rw[hz] at c;exact absurd c (by decide)
      · rw[Lo hz];rcases c13 with c|c|c
        · exact absurd c.1 hz
        · simp[c]
        · simp[c]
 · unfold eU;split
   · rename_i e;exact absurd (by rfl) hl
   · rfl
theorem EB {ws:List W}{rs:Oa}{kd:Tote.Kind}(hf:fE ws=true)(ht:eY ws=true)(hk:dD (ws.getD 2 [])=some kd) :
  eU ws rs=if ((sizeOf kd).1<=ay (ws.getD 3 [])/\ay (ws.getD 3 [])<=(sizeOf kd).2)/\(1<=ay (ws.getD 5 [])/\ay (ws.getD 5 [])<=(rs.length:Int))/\lY kd (ay (ws.getD 3 [])).toNat (ay (ws.getD 5 [])).toNat rs=true
   then some ⟨ws.getD 1 [],kd,fu kd (ay (ws.getD 3 [])).toNat (ay (ws.getD 5 [])).toNat rs,(ay (ws.getD 13 [])).toNat⟩ else none:=by
 obtain⟨hl,_⟩:=sD hf;obtain⟨p,nm,kw,k,fr,rc,tk,t,br,b,le,m,un,u,no,z,rfl⟩:=F5 hl;have hk:dD kw=some kd:=hk;show (match dD kw with
   |none=>none
   |some kind=>if dA rs kind p nm k fr rc tk t br b le m un u no z then some (⟨nm,kind,fu kind (ay k).toNat (ay rc).toNat rs,(ay u).toNat⟩:aO) else none)=if ((sizeOf kd).1<=ay k/\ay k<=(sizeOf kd).2)/\(1<=ay rc/\ay rc<=(rs.length:Int))/\lY kd (ay k).toNat (ay rc).toNat rs=true
   then some (⟨nm,kd,fu kd (ay k).toNat (ay rc).toNat rs,(ay u).toNat⟩:aO) else none
 rw[hk];show (if dA rs kd p nm k fr rc tk t br b le m un u no z then some (⟨nm,kd,fu kd (ay k).toNat (ay rc).toNat rs,(ay u).toNat⟩:aO) else none)=_;have key:dA rs kd p nm k fr rc tk t br b le m un u no z↔((sizeOf kd).1<=ay k/\ay k<=(sizeOf kd).2)/\(1<=ay rc/\ay rc<=(rs.length:Int))/\lY kd (ay k).toNat (ay rc).toNat rs=true:=by
  have hkl:=ng hk;have f1:(eW.all λq=>[p,nm,kw,k,fr,rc,tk,t,br,b,le,m,un,u,no,z].getD q.1 []==q.2)=true:=by
   unfold fE at hf;simp only[Lv] at hf;exact hf.1.1.2
  have f2:eD nm=true:=by
   unfold fE at hf;simp only[Lv] at hf;exact hf.1.2
  have f1:p=cd "pool"/\fr=cd "from"/\tk=cd "take"/\br=cd "break"/\le=cd "least"/\un=cd "unit"/\no=cd "none":=by
   have g:((p==cd "pool")&&((fr==cd "from")&&((tk==cd "take")&&((br==cd "break")&&((le==cd "least")&&((un==cd "unit")&&((no==cd "none")&&true)))))))=true:=f1;simp only[Lv,Md] at g;obtain⟨g1,g2,g3,g4,g5,g6,g7,_⟩:=g;exact⟨g1,g2,g3,g4,g5,g6,g7⟩
  have f3:(!(!(decide (0<=ay t)&&decide (ay t<=400))||!(decide (1<=ay b)&&decide (ay b<=1000)))&&(!(!(decide (1<=ay u)&&decide (ay u<=10000))||!(decide (ay m=0)||(decide (ay u<=ay m)&&decide (ay m<=2*ay u)))) &&
        (if z=cd "fewer" then !decide (kw=cd "place") else decide (z=cd "refund")||decide (z=cd "carry"))))=true:=ht
  simp only[Lv,Me,My,Mh,Lw,Mo] at f3;obtain⟨⟨t1,t2⟩,⟨t3,t4⟩,t5⟩:=f3;have s1:(leastK kd:Int)=(sizeOf kd).1:=by cases kd <;> rfl
  have s2:(mostK kd:Int)=(sizeOf kd).2:=by cases kd <;> rfl
  have s3:1<=(sizeOf kd).1:=by cases kd <;> decide
  constructor
  · rintro⟨_,_,_,_,_,_,_,_,_,_,_,_,_,c14,c15,c16⟩;rw[s1,s2] at c14;refine⟨c14,c15,?_⟩;unfold lY;rcases c16 with ⟨rfl,c⟩|⟨hn,c⟩
    · exact L4 (by omega)
    · have e:(ay rc - 1).toNat=(ay rc).toNat - 1:=by omega
      rw[e] at c;cases kd <;> first|exact L4 (by omega)|exact absurd rfl hn
  · rintro⟨c14,c15,c16⟩;refine⟨f1.1,f1.2.1,f1.2.2.1,f1.2.2.2.1,f1.2.2.2.2.1,f1.2.2.2.2.2.1,f1.2.2.2.2.2.2,f2,t1,t2,t3,t4,?_,by rw[s1,s2];exact c14,c15,?_⟩
    · split at t5
      · rename_i hz;simp only[Me,L6] at t5;refine .inl ⟨hz,?_⟩;rintro rfl;exact t5 hkl
      · refine .inr ?_;simpa using t5
    · have e:(ay rc - 1).toNat=(ay rc).toNat - 1:=by omega
      rw[e];unfold lY at c16;by_cases hn:kd=.legs
      · subst hn;have:=LI c16;exact .inl ⟨rfl,by omega⟩
      · refine .inr ⟨hn,?_⟩;have:(ay k).toNat<=(rs.getD ((ay rc).toNat - 1) []).length:=by
         cases kd <;> first|exact LI c16|exact absurd rfl hn
        omega
 by_cases hc:dA rs kd p nm k fr rc tk t br b le m un u no z
 · rw[Lp hc,Lp (key.mp hc)]
 · rw[Lo hc,Lo (λz=>hc (key.mpr z))]
section
variable {P:Program}{w:World}{K:Oc}{mg:Oe}{base:Heap}
def wc (K:Oc) (C:Addr):Sp:=λvs H Q _=>∃(a b:Addr) (ws:List W) (as:List Addr) (rs:Oa),vs=[.ref a,.ref b]/\aS K H a (sV ws)/\m7 ws/\aS K H b (as.map V.ref)/\Paired (ia K H) as rs/\rs.length<=16 /\
 (eU ws rs=none->∀H',au H H'->Q .b8 H')/\(∀p,eU ws rs=some p->∀H' x dx fa fas,au H H'->H x=none->H fa=none->H' x=some (.ins C dx (jj (.str (st p.name)) (.str (st (cd (kindS p.kind)))) (.ref fa) (.int (p.unit:Nat)))) ->
  H' fa=some (.lst (fas.map V.ref))->(∀F:Addr->Ob->Prop,Paired F as rs->Paired F fas p.fields)->Q (.ref x) H')
theorem kg:aI ["words","races","kind","size","bounds","race","fields"] ["words","races"] (ax gZ):=fs
theorem EG {dS aF C:Addr}(G:GW mg)(GC:GC P w K mg dS aF)(T:CK K mg "Pool" hZ C){k:Nat}(FF:Fn P w K mg base bJ k "has_pool_form" ["words"] (xT K))(FT:Fn P w K mg base bJ k "are_terms_good" ["words"] (tT K))
  (FN:Fn P w K mg base bJ k "number_of" ["word"] kR)(FL:Fn P w K mg base bJ k "fields_of" ["kind","size","race","races"] (pR K))(FP:xn P w K mg base bJ k C ["self","name","kind","fields","unit"] (uj C))
  {f:Addr}{fd:FuncData}(F:dI K "read_pool" "read_pool" gZ f fd):bf P w K mg base bJ (k+2) f fd ["words","races"] (wc K C):=by
 refine F.ok kg (λvs H Q E h=>?_) (λcdv A outer s H vs Q E hr1 h=>?_)
 · obtain⟨_,_,_,_,_,rfl,_⟩:=h;rfl
 · obtain⟨a,b,ws,as,rs,rfl,hS,ok,hA0,hP0,hR16,q0,q1⟩:=h;have hr:c_ k _:=hr1.mono (Nat.le_succ k);obtain⟨ts,hD,hT⟩:=GC.AG;refine⟨_,af (aT (PW.pt (d9 (cz (hU (aZ FF hr bh (aa (pv 0) ah)))) (cS (cz (hU (aZ FT hr bh (aa (pv 0) ah))))))) (ak (aA cy)) aC)
    (af (aN (i:=2) kg.nd rfl (Or.inl rfl) (bq aR (pv 0) aw (λ_ _=>rfl)))
    (af (aN (i:=3) kg.nd rfl (Or.inl rfl) (aZ FN hr bh (aa (bq aR (pv 0) aw (λ_ _=>rfl)) ah)))
    (af (aN (i:=4) kg.nd rfl (Or.inl rfl) (CZ hD (bg GC.Fm) (pv 2) (λ_ _=>rfl)))
    (af (aN (i:=5) kg.nd rfl (Or.inl rfl) (aZ FN hr bh (aa (bq aR (pv 0) aw (λ_ _=>rfl)) ah)))
    (af (aT (PW.pt (d9 (cz (cA cf cf (bq AM (pv 4) aw (λ_ _=>rfl)) (pv 3) (bq AM (pv 4) aw (λ_ _=>rfl)))) (cS (cz (cA cf cf aw (pv 5) (aG az (by rfl) G.len PySem.boot_len (aa (pv 1) ah))))))) (ak (aA cy)) aC)
    (af (aN (i:=6) kg.nd rfl (Or.inl rfl) (aZ FL hr bh (aa (pv 2) (aa (pv 3) (aa (pv 5) (aa (pv 1) ah))))))
    (af (aT (aB tV (pv 6) cy (aM _)) (ak (aA cy)) aC)
    (ak (aA (pX FP hr1 T.mg bh (aa (bq aR (pv 0) aw (λ_ _=>rfl)) (aa (pv 2) (aa (pv 6) (aa (aZ FN hr bh (aa (bq aR (pv 0) aw (λ_ _=>rfl)) ah)) ah)))))))))))))),?_⟩
   refine⟨_,rfl,a,ws,rfl,hS,ok,λH1 e1=>⟨_,rfl,?_⟩⟩;refine gH (λh=>?_) (λh=>?_)
   · refine q0 (r9 λz=>?_) H1 e1;rw[z.1] at h;cases h
   have hf:fE ws=true:=by simpa using h
   obtain⟨hl,kd,hk⟩:=sD hf;refine⟨_,rfl,a,ws,rfl,e1.seq hS,ok,hl,λH2 e2=>⟨_,rfl,?_⟩⟩;have e12:=e1.trans e2;refine gH (λh=>?_) (λh=>?_)
   · refine q0 (r9 λz=>?_) H2 e12;rw[z.2] at h;cases h
   have ht:eY ws=true:=by simpa using h
   have hS2:=e12.seq hS;have pe:=EB (rs:=rs) hf ht hk;have hkl:=ng hk;refine cx (a_ (ag rfl) aE hS2 (dG (i:=2) (by omega))) ?_;refine cx (gD (a_ (ag rfl) aE hS2 (dG (i:=3) (by omega))) (ok.getD 3)) ?_;refine⟨_,rfl,Sum.inr (st (ws.getD 2 [])),V.ref (ts kd),Value.ref (ts kd),rfl,rfl,by rw[uT,hk];rfl,rfl,?_⟩;refine cx (gD (a_ (ag rfl) aE hS2 (dG (i:=5) (by omega))) (ok.getD 5)) ?_;have hA:=e12.seq hA0;have hP:=jc hP0 e12;have lenA:as.length=rs.length:=Paired.length hP;refine a6 (gN (fb (cG (AE (ag rfl) aE (hT kd H2) (cj (j:=0) rfl)) (ag rfl) (AE (ag rfl) aE (hT kd H2) (cj (j:=1) rfl)))) λ_=>fb (cG aE (ag rfl) (aY (ag rfl) (.inl hA)))) (λh=>?_) (λh=>?_)
   · refine bW aE (q0 ?_ H2 e12);rw[pe,Lo];rintro⟨z1,z2,_⟩;rw[Ln,lenA] at h;simp only[Mo,Me,ML,L6] at h;omega
   rw[Ln,lenA] at h;simp only[My,Mh,Lv,Lw] at h;obtain⟨h1,h2⟩:=h;have s3:1<=(sizeOf kd).1:=by cases kd <;> decide
   have s4:(sizeOf kd).2<=6:=by cases kd <;> decide
   have n3:ay (ws.getD 3 [])=(((ay (ws.getD 3 [])).toNat:Nat):Int):=by omega
   have n5:ay (ws.getD 5 [])=(((ay (ws.getD 5 [])).toNat:Nat):Int):=by omega
   refine⟨_,rfl,_,rfl,_,rfl,_,rfl,kd,(ay (ws.getD 3 [])).toNat,(ay (ws.getD 5 [])).toNat,b,as,rs,by rw[←n3,←n5,←hkl];rfl,hA,hP,by omega,by omega,by omega,by omega,by omega,λhO=>?_,λhO H3 p e3 hpn hp=>?_⟩
   ·
    refine⟨_,rfl,rfl,_,rfl,q0 ?_ H2 e12⟩;rw[pe,Lo];rintro⟨_,_,z⟩;rw[hO] at z;cases z
   · refine⟨_,rfl,rfl,_,rfl,?_⟩;have e13:=e12.trans e3;have hS3:=e13.seq hS;refine (a_ (ag rfl) aE hS3 (dG (i:=1) (by omega))) _ ⟨_,rfl,_,rfl,?_⟩;refine (gD (a_ (ag rfl) aE hS3 (dG (i:=13) (by omega))) (ok.getD 13)) _ ?_;intro x dx nx ndx nex;refine⟨x,dx,_,_,_,_,rfl,ae,rfl,?_⟩;rw[Lp ⟨h1,h2,hO⟩] at pe;have sm:au H3 (upd (upd (upd H3 dx (.own x)) x (.ins C dx [])) x (.ins C dx (jj (V.str (st (ws.getD 1 []))) (V.str (st (ws.getD 2 []))) (V.ref p) (V.int (ay (ws.getD 13 [])))))):=λb u z=>by
      rw[aq (ao z nx),aq (ao z nx),aq (ao z ndx)];exact z
     have hu:0<=ay (ws.getD 13 []):=by
      unfold eY at ht;simp only[Lv,Me,My,Mh,Lw] at ht;omega
     have nxp:p≠x:=ao hp nx;have npd:p≠dx:=ao hp ndx;refine q1 _ pe _ x dx p (gX 0 kd (ay (ws.getD 3 [])).toNat (ay (ws.getD 5 [])).toNat as) (e13.trans sm) (e13.free nx) (e12.free hpn) ?_ ?_ ?_
     · rw[ae,hkl];rw[hkl] at *;simp only[Int.toNat_of_nonneg hu]
     · exact sm _ _ hp
     · intro F0 hF0;show Paired _ _ (fu _ _ _ rs);rw[←xi];exact tE hF0 (by omega) (by omega)
end
end Bw
namespace L2
open PySem PySem.Spec PyProof.Rows
theorem JI {te:TE}{D:Ends}{σ:St}{H:Hp}(h:te σ H D.rt):EN te D σ H:=h
theorem xZ {wi:TI}{g:TG}{tt:TT}{te:TE}{vs:Ob}{σ:St}{H:Hp}{Q:VK}(h:wi σ H λJ H1=>∀D,H1 D=none->∃W:Nat->Nat->Hp->Prop,(∃m,W 0 m (upd H1 D (.lst [])))/\∀i m H,W i m H ->
 (J.stop i H/\Q (.ref D) H)∨(J.go i H/\∃Nx:Hp->Prop,(∀H',Nx H'->∃m',m' < m/\W (i+1) m' H')/\∀x H',J.vU i H x H'->g x (wipe σ vs) H' λσ2 H2=>wipe σ2 vs=wipe σ vs/\tt σ2 H2 λb H3 =>
  if b=true then te σ2 H3 λy H4=>∃acc,H4 D=some (.lst acc)/\acc.length < sizeLine/\Nx (upd H4 D (.lst (acc++[y]))) else Nx H3)):Hd wi g tt te vs σ H Q:=h
theorem jr {σ:St}{H:Hp}{ta tb:TE}{i j:Int}(ha:Ev ta σ H (.int i))(hb:Ev tb σ H (.int j)):Ev (kG (qF λi j=>.int (i+j)) ta tb) σ H (.int (i+j)):=λ_ r=>ha _ (hb _ ⟨i,j,rfl,rfl,r⟩)
theorem qm {σ:St}{H:Hp}{ta tb:TE}{i j:Int}(ha:Ev ta σ H (.int i))(hb:Ev tb σ H (.int j)):Ev (kG (qF λi j=>.int (i - j)) ta tb) σ H (.int (i - j)):=λ_ r=>ha _ (hb _ ⟨i,j,rfl,rfl,r⟩)
theorem uv {σ:St}{H:Hp}{ty td:TE}{y:V}{d:Addr}{o:Option V}(hy:Ev ty σ H y)(hd:Ev td σ H (.ref d))(g:gi H d y o):Tv (tB (JD ty td)) σ H o.isSome:=λ_ r=>hy _ (hd _ ⟨d,o,rfl,g,_,rfl,r⟩)
def E2 (p q r:Int->Int->Bool)(ta tb tc td:TE):TT:=λσ H Q=>∃i j k l,Ev ta σ H (.int i)/\Ev tb σ H (.int j)/\Ev tc σ H (.int k)/\Ev td σ H (.int l)/\Q (p i j&&(q j k&&r k l)) H
theorem Ah {X:Cx}{a b c d:Expr}{o1 o2 o3:CmpOp}{p q r:Int->Int->Bool}{ta tb tc td:TE}{pos:Pos}(h1:jP X (compareOp o1) (qF λi j=>.bl (p i j)))(h2:jP X (compareOp o2) (qF λi j=>.bl (q i j)))(h3:jP X (compareOp o3) (qF λi j=>.bl (r i j)))
  (ha:PE X a ta)(hb:PE X b tb)(hc:PE X c tc)(hd:PE X d td)(hm:lastMarks [o1,o2,o3] [b,c,d]=false:=by with_unfolding_all rfl):PT X (.Compare a [o1,o2,o3] [b,c,d] pos) (E2 p q r ta tb tc td):=by
 rintro pins s σ H Q I ⟨i,j,k,l,ea,eb,ec,ed,hq⟩;have get:∀{e:Expr} {te:TE} {v:V},PE X e te->Ev te σ H v->∀s',Inv X pins σ H s'->wpAny (model X.prog X.w) X.A (eval e X.env) (λu s2=>RelV v u/\Inv X pins σ H s2) X.xe s':=λ{e te v} he ev s' I' =>
  bB (he pins s' σ H (λx H1=>x=v/\H1=H) I' (ev _ ⟨rfl,rfl⟩)) λu s2 ⟨x,H1,I2,rx,e1,e2⟩=>by
   subst e1 e2;exact⟨rx,I2⟩
 have cmp:∀{op:CmpOp} {p:Int->Int->Bool} {i j:Int} {u v:Value},jP X (compareOp op) (qF λi j=>.bl (p i j))->RelV (.int i) u->RelV (.int j) v->∀s',Inv X pins σ H s'->wpAny (model X.prog X.w) X.A (compareOp op u v) (λc s2=>c=.bool (p i j)/\Inv X pins σ H s2) X.xe s':=λ{op p i j u v} ho ru rv s' I' =>
  bB (ho pins s' σ H _ _ u v (λx H1=>x=.bl (p i j)/\H1=H) I' ru rv ⟨i,j,rfl,rfl,rfl,rfl⟩) λc s2 ⟨x,H1,I2,rx,e1,e2⟩=>by
   subst e1 e2;exact⟨rx,I2⟩
 refine isTrue_chain (bB (get ha ea s I) λu0 s0 ⟨r0,I0⟩=>test_link (bB (get hb eb s0 I0) λu1 s1 ⟨r1,I1⟩=>bB (cmp h1 r0 r1 s1 I1) λc1 s2 ⟨e1,I2⟩=>?_)) hm;subst e1;refine MC ?_;cases z1:p i j with
 |false=>rw[z1] at hq;exact ite_ff ⟨H,I2,hq⟩
 |true =>
  rw[z1] at hq;refine ite_tt (test_link (bB (get hc ec s2 I2) λu2 s3 ⟨r2,I3⟩=>bB (cmp h2 r1 r2 s3 I3) λc2 s4 ⟨e2,I4⟩=>?_));subst e2;refine MC ?_;cases z2:q j k with
  |false=>rw[z2] at hq;exact ite_ff ⟨H,I4,hq⟩
  |true =>
   rw[z2] at hq;refine ite_tt (test_last (bB (get hd ed s4 I4) λu3 s5 ⟨r3,I5⟩=>bB (cmp h3 r2 r3 s5 I5) λc3 s6 ⟨e3,I6⟩=>?_));subst e3;exact MC ⟨H,I6,hq⟩
end L2
namespace Bw
open PySem PySem.Spec PyProof.Rows L2 Tote
def Bg (H:Hp)(d:Addr)(l:Ob):Prop:=∃kvs,H d=some (.dK kvs)/\kvs.length<=l.length/\∀n:Nat,(cT kvs (Sum.inl (n:Int):Key)).isSome=decide (n∈l)
theorem Bg.put {kvs:List (Key×V)}{l:Ob}{n:Nat}(h:kvs.length<=l.length)(hk:∀n:Nat,(cT kvs (Sum.inl (n:Int):Key)).isSome=decide (n∈l)) :
  (putK kvs (Sum.inl (n:Int)) (V.bl true)).length<=(l++[n]).length/\∀m:Nat,(cT (putK kvs (Sum.inl (n:Int)) (V.bl true)) (Sum.inl (m:Int):Key)).isSome=decide (m∈l++[n]):=by
 refine⟨?_,λm=>?_⟩
 · have:=gI kvs (Sum.inl (n:Int):Key) (V.bl true);rw[LK];simp;omega
 · rw[p8];by_cases e:m=n
   · subst e;rw[Lp rfl];simp
   · rw[Lo (λz=>e (by have:=Sum.inl.inj z;omega)),hk m];simp[e]
theorem Dj {b:Int}(hb:0<=b)(hb':b < 100000):Builtin.Range.small 2 b 3=true:=by
 unfold Builtin.Range.small Builtin.Range.rangeSize;simp only[Builtin.Range.rangeFitsLong,Lv,Mo,Lw,Md,show ((3:Int) > 0) by decide,M7];split <;> omega
theorem Hk {m:Nat}:Builtin.Range.rangeSize 2 ((2+3*m:Nat):Int) 3=(m:Int):=by
 unfold Builtin.Range.rangeSize;simp only[show ((3:Int) > 0) by decide,M7];split <;> omega
theorem z_ {R:Nat}{c a b:W}{r:List W}{fs ss:Ob}:dq R (c::a::b::r) fs ss=if c=cd "couple"/\1<=ay a/\ay a < ay b/\ay b<=(R:Int)/\¬(ay a).toNat∈ss/\¬(ay b).toNat∈fs/\¬(ay b).toNat∈ss
  then dq R r (fs++[(ay a).toNat]) (ss++[(ay b).toNat]) else none:=rfl
theorem IY {r:List W}{i:Nat}(h:i+3<=r.length):r.drop i=r.getD i []::r.getD (i+1) []::r.getD (i+2) []::r.drop (i+3):=by
 have g:∀j,j < r.length->r.drop j=r.getD j []::r.drop (j+1):=λj hj=>by
  rw[MK hj,L7,Ly hj];rfl
 rw[g i (by omega),g (i+1) (by omega),g (i+2) (by omega)]
section
variable {P:Program}{w:World}{K:Oc}{mg:Oe}{base:Heap}
def wW (K:Oc):Sp:=λvs H Q _=>∃(a:Addr) (ws:List W),vs=[.ref a]/\aS K H a (sV ws)/\m7 ws/\ws≠[] /\
 (bF ws=none->∀H',au H H'->Q .b8 H')/\(∀hs,bF ws=some hs->∀H' x,au H H'->H x=none->H' x=some (.lst (nV hs))->Q (.ref x) H')
theorem ui {w0 n:W}{r:List W}:bF (w0::n::r)=if r.length % 3=0/\r.length<=24/\2<=ay n/\ay n<=24 then (dq (ay n).toNat r [] []).map (dC (ay n).toNat) else none:=rfl
theorem wo {ws:List W}(hne:ws≠[])(h:(!((ws.length:Int)==2+3*(((ws.length:Int) - 2) / 3))||decide (8 < ((ws.length:Int) - 2) / 3))=true):bF ws=none:=by
 match ws,hne with
 |[w0],_=>rfl
 |w0::n::r,_ =>
  rw[ui,Lo];rintro⟨z1,z2,_⟩;have el:((w0::n::r).length:Int)=2+(r.length:Int):=by simp;omega
  rw[el] at h;simp only[Mo,Me,LW,Lw] at h;omega
theorem Ab {ws:List W}(hne:ws≠[])(h:(ws.length:Int)=2+3*(((ws.length:Int) - 2) / 3)):∃w0 n r,ws=w0::n::r:=by
 match ws,hne with
 |[w0],_=>exact absurd h (by show ¬((1:Int)=2+3*((1 - 2) / 3));decide)
 |w0::n::r,_=>exact⟨w0,n,r,rfl⟩
theorem sH (R:Nat)(ss:Ob):dC R ss=((List.range R).map λi=>i+1).filter λn=>!decide (n∈ss):=by
 unfold dC;congr 1;funext n;rw[Mv]
theorem fk:aI ["words","couples","runners","firsts","seconds","at","first","second","runner"] ["words"] (ax fA):=fs
theorem E6 {dS aF:Addr}(G:GW mg)(GC:GC P w K mg dS aF){k:Nat}(FN:Fn P w K mg base bJ k "number_of" ["word"] kR){f:Addr}{fd:FuncData}(F:dI K "read_race" "read_race" fA f fd):bf P w K mg base bJ (k+1) f fd ["words"] (wW K):=by
 refine F.ok fk (λvs H Q E h=>?_) (λcdv A outer s H vs Q E hr h=>?_)
 · obtain⟨_,_,rfl,_⟩:=h;rfl
 · obtain⟨a,ws,rfl,hS,ok,hne,q0,q1⟩:=h;have hu:∀{X:Cx},X.A=(A.deeper (envOfC "read_race" (ax fA) s.heap.objs.size f cdv))->X.A.units+1 < cLine:=λ{X} e=>by rw[e];have:=hr.un;omega
   refine⟨_,af (aN (i:=1) fk.nd rfl (Or.inl rfl) (bK DA (bK fF (aG az (by rfl) G.len PySem.boot_len (aa (pv 0) ah)) aw) aw))
    (af (aT (PW.pt (d9 (aB qg (aG az (by rfl) G.len PySem.boot_len (aa (pv 0) ah)) (bK d_ aw (bK xI aw (pv 1))) (aM _)) (cS (aB kN (pv 1) (bg GC.couples) (aM _))))) (ak (aA cy)) aC)
    (af (aN (i:=2) fk.nd rfl (Or.inl rfl) (aZ FN hr bh (aa (bq aR (pv 0) aw (λ_ _=>rfl)) ah)))
    (af (aT (cz (cA cf cf aw (pv 2) (bg GC.runners))) (ak (aA cy)) aC)
    (af (aN (i:=3) fk.nd rfl (Or.inl rfl) o9)
    (af (aN (i:=4) fk.nd rfl (Or.inr rfl) o9)
    (af (cR Mt rfl (qU rfl GC.range (aa aw (aa (aG az (by rfl) G.len PySem.boot_len (aa (pv 0) ah)) (aa aw ah)))) (aK (i:=5) fk.nd rfl (Or.inl rfl))
     (af (aN (i:=6) fk.nd rfl (Or.inl rfl) (aZ FN hr bh (aa (bq aR (pv 0) (bK d_ (pv 5) aw) (λ_ _=>rfl)) ah)))
     (af (aN (i:=7) fk.nd rfl (Or.inl rfl) (aZ FN hr bh (aa (bq aR (pv 0) (bK d_ (pv 5) aw) (λ_ _=>rfl)) ah)))
     (af (aT (PW.pt (d9 (aB qg (bq aR (pv 0) (pv 5) (λ_ _=>rfl)) bt (aM _)) (cS (cz (Ah cf nG cf aw (pv 6) (pv 7) (pv 2)))))) (ak (aA cy)) aC)
     (af (aT (PW.pt (d9 (o6 (tL (hu rfl) (pv 6) (pv 4))) (d9 (o6 (tL (hu rfl) (pv 7) (pv 3))) (cS (o6 (tL (hu rfl) (pv 7) (pv 4))))))) (ak (aA cy)) aC)
     (af (lK (hu rfl) (pv 3) (pv 6) mJ rfl)
     (ak (lK (hu rfl) (pv 4) (pv 7) mJ rfl))))))))
    (ak (aA (fC rfl fk.nd (rb rfl GC.range (aa aw (aa (bK d_ (pv 2) aw) ah))) (bA (own:=[("runner",8)]) rfl) (λ_ _ _ _ _=>aK (i:=8) fk.nd rfl (Or.inl rfl)) (λ_ _ _ _ _=>oq (o6 (zN (hu rfl) (pv 8) (pv 4)))) (λ_ _ _ _ _=>pv 8)))))))))),?_⟩
   refine cx (yZ (l_ (aY (ag rfl) (.inl hS)) aE) aE ⟨by decide,by decide⟩) ?_;rw[dH];refine a6 (gN (aL (pA (aY (ag rfl) (.inl hS)) (l_ aE (yZ aE (ag rfl) (.inl ⟨by decide,by decide⟩))))) λ_=>jy (ag rfl) aE) (λh=>?_) (λh=>?_)
   · refine bW aE (q0 ?_ H (au.refl H));rw[bb,dH] at h;exact wo hne h
   · rw[bb,dH] at h;simp only[My,Mh,Md,L6] at h;obtain⟨h1,h2⟩:=h;obtain⟨w0,n,r,rfl⟩:=Ab hne h1
     · have el:((w0::n::r).length:Int)=2+(r.length:Int):=by simp;omega
       rw[el] at h1 h2;obtain⟨m,hm⟩:∃m:Nat,r.length=3*m:=⟨r.length / 3,by omega⟩;have hm8:m<=8:=by omega
       have okn:n.length<=70000/\∀c∈n,c < 128:=ok.getD 1;refine cx (gD (wd:=n) (a_ (ag rfl) aE hS (dG (i:=1) (by simp))) okn) ?_;refine a6 (fb (cG aE (ag rfl) aE)) (λh=>?_) (λh=>?_)
       · refine bW aE (q0 ?_ H (au.refl H));rw[ui,Lo];rintro⟨_,_,z1,z2⟩;simp only[Me,ML,L6] at h;omega
       simp only[Mh,Lv,Lw] at h;have hn:ay n=(((ay n).toNat:Nat):Int):=by omega
       generalize hR:(ay n).toNat=R at hn;have hre:bF (w0::n::r)=(dq R r [] []).map (dC R):=by
        rw[ui,Lp ⟨by omega,by omega,h.1,h.2⟩,hR]
       rw[hn];intro d1 hd1 d2 hd2;have n12:d2≠d1:=by
        rintro rfl;rw[ae] at hd2;cases hd2
       have hd2':H d2=none:=by rwa [aq n12] at hd2
       have lenW:((w0::n::r).length:Int)=((2+3*m:Nat):Int):=by rw[el,hm];omega
       have S0:au H (upd (upd H d1 (.dK [])) d2 (.dK [])):=((au.refl H).laid hd1).laid hd2';refine pK (yV (n:=m) aE (aY (ag rfl) (.inl (S0.seq hS))) aE ⟨by decide,by decide,?_,?_⟩ ?_)
       · rw[dH,lenW];exact Dj (by omega) (by omega)
       · rw[dH,lenW];exact Hk
       refine p_ (lo:=2) (c:=3) (n:=m) (λi σ H'=>∃(v5 v6 v7:Option V) (fs ss:Ob),σ=[some (.ref a),some (.int ((((w0::n::r).length:Int) - 2) / 3)),some (.int (R:Nat)),some (.ref d1),some (.ref d2),v5,v6,v7,none] /\
         au H H'/\Bg H' d1 fs/\Bg H' d2 ss/\fs.length<=i/\ss.length<=i/\dq R (r.drop (3*i)) fs ss=dq R r [] [])
        ⟨none,none,none,[],[],rfl,S0,⟨[],by rw[aq n12.symm];exact ae,Lx _,λ_=>rfl⟩,⟨[],ae,Lx _,λ_=>rfl⟩,Lx _,Lx _,rfl⟩ ?_ ?_
       · rintro i σ H' hi ⟨v5,v6,v7,fs,ss,rfl,S1,⟨k1,e1,l1,p1⟩,⟨k2,e2,l2,p2⟩,lf,ls,hc⟩;have hS1:=S1.seq hS;have d3:r.drop (3*i)=r.getD (3*i) []::r.getD (3*i+1) []::r.getD (3*i+2) []::r.drop (3*(i+1)):=by
          have:=IY (r:=r) (i:=3*i) (by omega);rw[this,show 3*i+3=3*(i+1) by omega]
         have ga:∀j,(w0::n::r).getD (2+j) []=r.getD j []:=λj=>by
          rw[show 2+j=j+1+1 by omega];rfl
         have at0:nN (sV (w0::n::r)) (2+(i:Nat)*3)=some (.str (st (r.getD (3*i) []))):=by
          have:=dG (ws:=w0::n::r) (i:=2+3*i) (by simp;omega);rw[ga] at this;rw[show (2:Int)+(i:Nat)*3=((2+3*i:Nat):Int) by omega];exact this
         have qG:nN (sV (w0::n::r)) (2+(i:Nat)*3+1)=some (.str (st (r.getD (3*i+1) []))):=by
          have:=dG (ws:=w0::n::r) (i:=2+(3*i+1)) (by simp;omega);rw[ga] at this;rw[show (2:Int)+(i:Nat)*3+1=((2+(3*i+1):Nat):Int) by omega];exact this
         have at2:nN (sV (w0::n::r)) (2+(i:Nat)*3+2)=some (.str (st (r.getD (3*i+2) []))):=by
          have:=dG (ws:=w0::n::r) (i:=2+(3*i+2)) (by simp;omega);rw[ga] at this;rw[show (2:Int)+(i:Nat)*3+2=((2+(3*i+2):Nat):Int) by omega];exact this
         have ok1:(r.getD (3*i+1) []).length<=70000/\∀c∈r.getD (3*i+1) [],c < 128:=by rw[←ga];exact ok.getD _
         have ok2:(r.getD (3*i+2) []).length<=70000/\∀c∈r.getD (3*i+2) [],c < 128:=by rw[←ga];exact ok.getD _
         rw[d3,z_] at hc;generalize hA:ay (r.getD (3*i+1) [])=na at hc;generalize hB:ay (r.getD (3*i+2) [])=nb at hc;refine cx (gD (a_ (ag rfl) (l_ (ag rfl) aE) hS1 qG) ok1) ?_;refine cx (gD (a_ (ag rfl) (l_ (ag rfl) aE) hS1 at2) ok2) ?_;rw[hA,hB];have none_:dq R r [] []=none->Q .b8 H':=λz=>q0 (by rw[hre,z];rfl) H' S1;refine a6 (gN (aL (pA (a_ (ag rfl) (ag rfl) hS1 at0) aE)) λ_=>fb (λR' r'=>⟨1,na,nb,(R:Int),aE,ag rfl,ag rfl,ag rfl,r'⟩)) (λh=>?_) (λh=>?_)
         · refine bW aE (none_ ?_);rw[←hc,Lo];rintro⟨z1,z2,z3,z4,_⟩;rw[i_] at h;dsimp only at h;rw[L4 z1,L4 z2,L4 z3,L4 z4] at h;cases h
         · rw[i_] at h;simp only[My,Mh,Lv,Lw] at h;obtain⟨z1,z2,z3,z4⟩:=h;have ea:na=((na.toNat:Nat):Int):=by omega
           have eb:nb=((nb.toNat:Nat):Int):=by omega
           have gt1:gi H' d2 (.int na) (cT k2 (Sum.inl na)):=gi.k (k:=Sum.inl na) e2;have gt2:gi H' d1 (.int nb) (cT k1 (Sum.inl nb)):=gi.k (k:=Sum.inl nb) e1;have gt3:gi H' d2 (.int nb) (cT k2 (Sum.inl nb)):=gi.k (k:=Sum.inl nb) e2;have s1:(cT k2 (Sum.inl na)).isSome=decide (na.toNat∈ss):=by rw[←p2,←ea]
           have s2:(cT k1 (Sum.inl nb)).isSome=decide (nb.toNat∈fs):=by rw[←p1,←eb]
           have s3:(cT k2 (Sum.inl nb)).isSome=decide (nb.toNat∈ss):=by rw[←p2,←eb]
           refine a6 (gN (uv (ag rfl) (ag rfl) gt1) λ_=>gN (uv (ag rfl) (ag rfl) gt2) λ_=>uv (ag rfl) (ag rfl) gt3) (λh=>?_) (λh=>?_)
           · refine bW aE (none_ ?_);rw[←hc,Lo];rintro⟨_,_,_,_,y1,y2,y3⟩;rw[s1,s2,s3,Mb y1,Mb y2,Mb y3] at h;cases h
           · rw[s1,s2,s3] at h;simp only[My,L6] at h;obtain⟨y1,y2,y3⟩:=h;rw[Lp ⟨z1,z2,z3,z4,y1,y2,y3⟩] at hc;have n21:d1≠d2:=n12.symm;have pu1:=Bg.put (n:=na.toNat) l1 p1;have pu2:=Bg.put (n:=nb.toNat) l2 p2;rw[←ea] at pu1;rw[←eb] at pu2;refine⟨_,rfl,_,rfl,d1,_,rfl,.inl ⟨k1,Sum.inl na,e1,rfl,by rw[LQ];omega,rfl⟩,?_⟩;refine⟨_,rfl,_,rfl,d2,_,rfl,.inl ⟨k2,Sum.inl nb,by rw[aq n12];exact e2,rfl,by rw[LQ];omega,rfl⟩,?_⟩;refine⟨_,_,_,fs++[na.toNat],ss++[nb.toNat],rfl,λb u z=>?_,⟨_,by rw[aq n21];exact ae,pu1⟩,⟨_,ae,pu2⟩,by rw[LK];simp;omega,by rw[LK];simp;omega,hc⟩;rw[aq (ao z hd2'),aq (ao z hd1)];exact S1 b u z
       · rintro σ H' ⟨v5,v6,v7,fs,ss,rfl,S1,hF1,⟨k2,e2,l2,p2⟩,lf,ls,hc⟩;rw[Nj (by omega)] at hc;have hc:some ss=dq R r [] []:=hc;rw[←hc] at hre;dsimp only;refine JI (xZ ?_);refine yF (i:=1) (j:=((R:Nat):Int)+1) aE (jr (ag rfl) aE) ⟨by decide,by decide,by omega,by omega⟩ ?_;intro D hD;rw[show (((R:Nat):Int)+1 - 1).toNat=R by omega];refine lX (lo:=1) (n:=R) (λi H2=>au H' H2/\H2 D=some (.lst (nV (((List.range i).map λj=>j+1).filter λn=>!decide (n∈ss))))) ⟨(au.refl H').laid hD,ae⟩ ?_ ?_
         · rintro i H2 hi ⟨m1,m2⟩;refine⟨rfl,?_⟩;have gt:gi H2 d2 (.int (1+(i:Nat))) (cT k2 (Sum.inl (1+(i:Nat):Int))):=gi.k (k:=Sum.inl (1+(i:Nat):Int)) (m1 _ _ e2);have sg:(cT k2 (Sum.inl (1+(i:Nat):Int))).isSome=decide (i+1∈ss):=by rw[←p2];congr 3;omega
           refine⟨_,rfl,_,rfl,d2,_,rfl,gt,_,rfl,?_⟩;rw[sg];have fl:((List.range (i+1)).map λj=>j+1).filter (λn=>!decide (n∈ss))=(((List.range i).map λj=>j+1).filter λn=>!decide (n∈ss))++(if (!decide (i+1∈ss))=true then [i+1] else []):=by
            rw[List.range_succ,LH,Ni];congr 1;by_cases z:i+1∈ss
            · simp[z]
            · simp[z]
           refine gH (λh=>?_) (λh=>?_)
           · refine⟨_,rfl,_,m2,?_,λb u z=>?_,?_⟩
             · rw[aP,LQ];have:=NQ (λn=>!decide (n∈ss)) ((List.range i).map λj=>j+1);rw[Ln,NI] at this;omega
             · rw[aq (ao z hD)];exact m1 b u z
             · rw[ae,fl,Lp h];unfold nV;rw[LH];show some (HO.lst (_++[V.int (1+(i:Nat))]))=some (HO.lst (_++[V.int ((i+1:Nat):Int)]));rw[show (1:Int)+(i:Nat)=((i+1:Nat):Int) by omega]
           · refine⟨m1,?_⟩;rw[fl,Lo h,Mq];exact m2
         · rintro H2 ⟨m1,m2⟩;refine q1 (dC R ss) hre H2 D (S1.trans m1) (S1.free hD) ?_;rw[m2,sH]
end
end Bw
namespace L2
open PySem PySem.Spec PyProof.Rows
theorem An {X:Cx}(hu:X.A.units+1 < cLine):jP X (compareOp .In) (λx y H Q=>∃p xs,x=.b8/\y=.ref p/\aS X.K H p xs/\(∀v∈xs,v=.b8∨∃a ys,v=.ref a/\aS X.K H a ys)/\Q (.bl (xs.any λv=>decide (v=.b8))) H):=by
 intro pins s σ H x y v u Q I rx ry h;obtain⟨p,xs,rfl,rfl,hq,hx,q⟩:=h;cases ry;cases rx;obtain⟨its,r,pl,hz⟩:=I.list hq;have key:∀{xs:List V} {us:Og},Vals xs us->(∀v∈xs,v=.b8∨∃a ys,v=.ref a/\aS X.K H a ys)->(∀u∈us,SeqAt.EqAt X.A.in1 s u .none (u==.none))/\us.any (·==.none)=xs.any λv=>decide (v=.b8):=by
  intro xs us r
  induction r with
  |nil=>exact λ_=>⟨λu hu=>by simp at hu,rfl⟩
  |@cons v u xs us r1 r2 ih =>
   intro hx;obtain⟨ih1,ih2⟩:=ih λv hv=>hx v (LG _ hv);have e1:SeqAt.EqAt X.A.in1 s u .none (u==.none)/\(u==.none)=decide (v=.b8):=by
    rcases hx v (L_ ..) with rfl|⟨a,ys,rfl,hs⟩
    · cases r1;exact⟨SeqAt.EqAt.same _,rfl⟩
    · cases r1;obtain⟨its2,_,pl2,_⟩:=I.list hs;refine⟨?_,rfl⟩;exact SeqAt.EqAt.list_none pl2.isList (by show X.A.units+1 < cLine;exact hu)
   refine⟨λu' hu'=>?_,?_⟩
   · rcases Lr.mp hu' with rfl|h
     · exact e1.1
     · exact ih1 u' h
   · rw[MV,MV,e1.2,ih2]
 obtain⟨k1,k2⟩:=key r hx;refine SeqAt.in_listAt (·==.none) pl.isList (λw hw=>k1 w (by simpa using hw)) ⟨.bl _,H,I,rfl,?_⟩;rw[show its.toArray.any (·==.none)=its.any (·==.none) by simp,k2];exact q
end L2
namespace Bw
open PySem PySem.Spec PyProof.Rows L2 Tote
def EJ (K:Oc)(H:Hp)(a:Addr)(ls:List (List W)):Prop:=∃as:List Addr,aS K H a (as.map V.ref)/\Paired (λb ws=>aS K H b (sV ws)) as ls
def Fd (kvs:List (Key×V))(l:List W):Prop:=kvs.length<=l.length/\∀n:W,(cT kvs (Sum.inr (st n):Key)).isSome=l.contains n
theorem Fd.put {kvs:List (Key×V)}{l:List W}{n:W}(h:Fd kvs l):Fd (putK kvs (Sum.inr (st n)) (V.bl true)) (l++[n]):=by
 refine⟨?_,λm=>?_⟩
 · have:=gI kvs (Sum.inr (st n):Key) (V.bl true);have:=h.1;rw[LK];simp;omega
 · rw[p8];by_cases e:m=n
   · subst e;rw[Lp rfl];simp
   · rw[Lo (λz=>e (js.mp (Sum.inr.inj z))),h.2 m];simp[e]
def IS (K:Oc)(C:Addr)(H H':Hp)(pl:Addr)(a:Addr)(p:aO):Prop:=∃dx fa fas,H' a=some (.ins C dx (jj (.str (st p.name)) (.str (st (cd (kindS p.kind)))) (.ref fa) (.int (p.unit:Nat))))/\fa≠pl/\H' fa=some (.lst (fas.map V.ref))/\Paired (ia K H) fas p.fields
section
variable {P:Program}{w:World}{K:Oc}{mg:Oe}{base:Heap}
def tK (K:Oc) (C:Addr):Sp:=λvs H Q _=>∃(a b:Addr) (ls:List (List W)) (rs:Oa),vs=[.ref a,.ref b]/\EJ K H a ls/\(∀ws∈ls,m7 ws)/\bE K H b rs/\rs.length<=16 /\
 (jh ls rs=none->∀H',au H H'->Q .b8 H')/\(∀ps,jh ls rs=some ps->∀H' x,au H H'->cW K C H' x ps->Q (.ref x) H')
theorem jR:aI ["lines","races","pools","names","words","pool"] ["lines","races"] (ax f7):=fs
theorem Cu {dS aF C:Addr}(G:GW mg)(GC:GC P w K mg dS aF)(T:CK K mg "Pool" hZ C){k:Nat}(FP:Fn P w K mg base bJ k "read_pool" ["words","races"] (wc K C)){f:Addr}{fd:FuncData}(F:dI K "read_pools" "read_pools" f7 f fd) :
  bf P w K mg base bJ (k+1) f fd ["lines","races"] (tK K C):=by
 refine F.ok jR (λvs H Q E h=>?_) (λcdv A outer s H vs Q E hr h=>?_)
 · obtain⟨_,_,_,_,rfl,_⟩:=h;rfl
 · obtain⟨a,b,ls,rs,rfl,⟨as,hA,hP⟩,ok,⟨rsa,hRa,hPr⟩,hR16,q0,q1⟩:=h;have lenA:as.length=ls.length:=Paired.length hP;have hu:=vg hr;refine⟨_,af (aT (aB kN (aG az (by rfl) G.len PySem.boot_len (aa (pv 0) ah)) (bg GC.pools) (aM _)) (ak (aA cy)) aC)
    (af (aN (i:=2) jR.nd rfl (Or.inl rfl) (bU ah))
    (af (aN (i:=3) jR.nd rfl (Or.inl rfl) o9)
    (af (cR Mt rfl (bG (pv 0)) (aK (i:=4) jR.nd rfl (Or.inl rfl))
     (af (aN (i:=5) jR.nd rfl (Or.inl rfl) (aZ FP hr bh (aa (pv 4) (aa (pv 1) ah))))
     (af (aT (PW.pt (d9 (aB tV (pv 5) cy (aM _)) (cS (o6 (tL hu (aX (pv 5) rfl) (pv 3)))))) (ak (aA cy)) aC)
     (af (lK hu (pv 3) (aX (pv 5) rfl) mJ rfl)
     (ak (cZ (lJ PySem.F.plainAttrs_list PySem.F.slot_list_append PySem.F.type_list_append gd (pv 2) (aa (pv 5) ah))))))))
    (ak (aA (pv 2)))))),?_⟩
   refine a6 (jy (aY (ag rfl) (.inl hA)) aE) (λh=>?_) (λh=>?_)
   · refine bW aE (q0 ?_ H (au.refl H));rw[Ln,lenA] at h;unfold jh;rw[Lp (by have:=LI h;omega)]
   rw[Ln,lenA] at h;have hl:¬64 < ls.length:=by have:=L8 h;omega
   have eP:jh ls rs=bY rs [] ls:=by unfold jh;rw[Lo hl]
   rw[eP] at q0 q1;refine⟨LV _,λpl hpl=>?_⟩;intro dn hdn;have ndp:dn≠pl:=by
    rintro rfl;rw[ae] at hdn;cases hdn
   have hdn0:H dn=none:=by rwa [aq ndp] at hdn
   have S0:au H (upd (upd H pl (.lst [])) dn (.dK [])):=((au.refl H).laid hpl).laid hdn0;refine⟨_,rfl,a,rfl,⟨_,S0.seq hA⟩,cN (K:=K) (a:=a) (xs:=as.map V.ref) (λi σ H'=>∃(v4 v5:Option V) (acc:List aO) (pas:List Addr) (kvs:List (Key×V)),σ=[some (.ref a),some (.ref b),some (.ref pl),some (.ref dn),v4,v5]/\au H H' /\
     H' pl=some (.lst (pas.map V.ref))/\H' dn=some (.dK kvs)/\Fd kvs (acc.map (·.name))/\Paired (IS K C H H' pl) pas acc/\acc.length<=i/\bY rs acc (ls.drop i)=bY rs [] ls)
    ⟨none,none,[],[],[],rfl,S0,by rw[aq ndp.symm];exact ae,ae,⟨Lx _,λ_=>rfl⟩,.nil,Lx _,rfl⟩ (λi σ H' _ ⟨_,_,_,_,_,_,S1,_⟩=>S1.seq hA) ?_ ?_⟩
   · rintro i x σ H' hi ⟨v4,v5,acc,pas,kvs,rfl,S1,e1,e2,dnm,hI,hlen,hc⟩;rw[Ls] at hi;obtain⟨ai,hai,rfl⟩:=LZ.mp hi;obtain⟨ws,hws,hsq⟩:=Paired.qG hP hai;have hil:i < ls.length:=(LB.mp hws).1;have hd:ls.drop i=ws::ls.drop (i+1):=by
      rw[MK hil];congr 1;exact L1 ((Ly hil).symm.trans hws)
     rw[hd] at hc;have hc:(match eU ws rs with
      |none=>none
      |some p=>if (acc.map (·.name)).contains p.name=true then none else bY rs (acc++[p]) (ls.drop (i+1)))=bY rs [] ls:=hc
     refine⟨_,rfl,_,rfl,ai,b,ws,rsa,rs,rfl,S1.seq hsq,ok ws (LR hws),S1.seq hRa,jc hPr S1,hR16,λhn H2 e=>?_,λp hp H2 x dx fa fas e nx nfa hx hfa hfp=>?_⟩
     · refine⟨_,rfl,rfl,_,rfl,?_⟩;rw[hn] at hc;exact q0 hc.symm H2 (S1.trans e)
     · refine⟨_,rfl,rfl,_,rfl,?_⟩;rw[hp] at hc;have hc:(if (acc.map (·.name)).contains p.name=true then none else bY rs (acc++[p]) (ls.drop (i+1)))=bY rs [] ls:=hc;have e2':=e _ _ e2;have e1':=e _ _ e1;have S2:=S1.trans e;have gt:gi H2 dn (.str (st p.name)) (cT kvs (Sum.inr (st p.name))):=gi.k (k:=Sum.inr (st p.name)) e2';refine (uv (bc (ag rfl) hx T.cl (T.no _ (by simp)) lu) (ag rfl) gt) _ ?_;rw[dnm.2];refine gH (λh=>?_) (λh=>?_)
       · rw[Lp h] at hc;exact q0 hc.symm H2 S2
       · rw[Lo h] at hc;have nxp:x≠pl:=(ao e1 nx).symm;have nxd:x≠dn:=(ao e2 nx).symm;have nfp:fa≠pl:=(ao e1 nfa).symm;have nfd:fa≠dn:=(ao e2 nfa).symm;have lenP:pas.length=acc.length:=Paired.length hI;refine⟨_,rfl,?_⟩;refine (bc (ag rfl) hx T.cl (T.no _ (by simp)) lu) _ ⟨dn,_,rfl,.inl ⟨kvs,Sum.inr (st p.name),e2',rfl,?_,rfl⟩,?_⟩
         · have:=dnm.1;rw[Ln] at this;rw[LQ];omega
         refine⟨_,rfl,.inl ⟨rfl,_,aS.of (by rw[aq ndp.symm];exact e1')⟩,_,rfl,pl,_,_,rfl,rfl,by rw[aq ndp.symm];exact e1',?_,?_⟩
         · rw[Ln,LQ];omega
         refine⟨_,_,acc++[p],pas++[x],_,rfl,λc u z=>?_,?_,by rw[aq ndp];exact ae,?_,?_,by rw[LK];simp;omega,hc⟩
         · rw[aq (ao z hpl),aq (ao z hdn0)];exact S2 c u z
         · rw[ae,LH];rfl
         · rw[LH];exact dnm.put
         · have keep:∀c u,H2 c=some u->c≠pl->c≠dn->(upd (upd H2 dn (.dK (putK kvs (Sum.inr (st p.name)) (V.bl true)))) pl (.lst (pas.map V.ref++[V.ref x]))) c=some u:=λc u z n1 n2=>by
            rw[aq n1,aq n2];exact z
           refine Paired.snoc (Paired.d8 hI λc q z=>?_) ⟨dx,fa,fas,keep _ _ hx nxp nxd,nfp,keep _ _ hfa nfp nfd,?_⟩
           · obtain⟨dx',fa',fas',z1,z2,z3,z4⟩:=z;have n1:c≠pl:=dF z1 e1 (by intro q;cases q);have n2:c≠dn:=dF z1 e2 (by intro q;cases q);have n3:fa'≠dn:=dF z3 e2 (by intro q;cases q);exact⟨dx',fa',fas',keep _ _ (e _ _ z1) n1 n2,z2,keep _ _ (e _ _ z3) z2 n3,z4⟩
           · exact hfp _ hPr
   · rintro σ H' ⟨v4,v5,acc,pas,kvs,rfl,S1,e1,e2,dnm,hI,hlen,hc⟩;rw[Ln,lenA,Nj (Lx _)] at hc;have hc:some acc=bY rs [] ls:=hc;refine⟨_,rfl,q1 acc hc.symm H' pl S1 ⟨pas,aS.of e1,Paired.d8 hI λc q z=>?_⟩⟩;obtain⟨dx',fa',fas',z1,z2,z3,z4⟩:=z;exact⟨dx',fa',z1,fas',aS.of z3,jc z4 S1⟩
end
theorem sZ (c:Nat):∀(l acc:W),TL.nI [c] 0 acc l=a8 c acc l
 |[],acc=>by rw[TL.oo];rfl
 |x::r,acc=>by
  by_cases h:x=c
  · subst h;rw[TL.yf (by unfold TL.pre;simp)];show acc::TL.nI [x] 0 [] r=(if x=x then acc::a8 x [] r else _);rw[Lp rfl,sZ x r []]
  · rw[TL.uD (TL.vQ [] r h)];show TL.nI [c] 0 (acc++[x]) r=(if x=c then _ else a8 c (acc++[x]) r);rw[Lo h,sZ c r (acc++[x])]
theorem mx {c:Nat}(hc:c < 256)(l:W):Txt.split (st l) (st [c])=(a8 c [] l).map st:=by
 refine TL.qy ?_;rw[TL.zT (st l) (st [c]) (by rw[qo];simp) (TL.EI (by show [c].toArray.all (· < 256)=true;simp[hc])),qo,qo,sZ,LP];symm;exact (Mg λw _=>qo w).trans (List.map_id _)
theorem j9 (c:Nat):∀(l w:W),a8 c w l≠[]
 |[],_=>by simp[a8]
 |x::l,w=>by
  unfold a8;split
  · simp
  · exact j9 c l _
theorem dY (c:Nat):∀(l acc:W),∀w∈a8 c acc l,w.length<=acc.length+l.length/\∀x∈w,x∈acc∨x∈l
 |[],acc,w,hw=>by
  have:w=acc:=by simpa [a8] using hw
  subst this;exact⟨by simp,λx hx=>.inl hx⟩
 |y::l,acc,w,hw=>by
  unfold a8 at hw;split at hw
  · rcases Lr.mp hw with rfl|hw
    · exact⟨by simp,λx hx=>.inl hx⟩
    · obtain⟨h1,h2⟩:=dY c l [] w hw;refine⟨by simp at h1 ⊢;omega,λx hx=>?_⟩;rcases h2 x hx with h|h
      · simp at h
      · exact .inr (LG _ h)
  · obtain⟨h1,h2⟩:=dY c l (acc++[y]) w hw;refine⟨by simp at h1 ⊢;omega,λx hx=>?_⟩;rcases h2 x hx with h|h
    · rcases Mc.mp h with h|h
      · exact .inl h
      · have:x=y:=by simpa using h
        exact .inr (by simp[this])
    · exact .inr (LG _ h)
theorem fh (c:Nat):∀(l acc:W),(a8 c acc l).length<=l.length+1
 |[],_=>by simp[a8]
 |y::l,acc=>by
  unfold a8;split
  · have:=fh c l [];simp;omega
  · have:=fh c l (acc++[y]);simp;omega
theorem Bo:Str.ofString "\n"=st [10]:=by rw[kK];rfl
theorem Cr:Str.ofString " "=st [32]:=by rw[kK];rfl
theorem DT (l:W):Txt.endswith (st l) (st [10])=decide (l.getLast?=some 10):=by
 unfold Txt.endswith;rw[PySem.StrLaws.subAt_eq,b6,b6];show (decide (0+1<=l.length)&&((l.drop (l.length - 1)).take 1==[10]))=_;rcases List.eq_nil_or_concat l with rfl|⟨r,x,rfl⟩
 · rfl
 · rw[List.concat_eq_append,List.getLast?_concat];simp;rw[L3,Md,Lw]
theorem Be (l:W):zJ (st l) none (some (-1))=st l.dropLast:=by
 unfold zJ;rw[HT.iD];refine Mu (λz:Ob=>(⟨z.toArray⟩:Str)) ?_;show (l.drop 0).take (HT.b_ (st l).length (st l).length (some (-1)) - 0)=l.dropLast;rw[b6,List.drop_zero,Nat.sub_zero,List.dropLast_eq_take];congr 1;unfold HT.b_;simp;omega
theorem mf {α:Type}(p:α->Bool):∀(l:List α) (n:Nat),n<=l.length->(∀j x,j < n->l[j]?=some x->p x=true)->(∀x,l[n]?=some x->p x=false)->(l.takeWhile p).length=n/\l.takeWhile p=l.take n/\l.dropWhile p=l.drop n
 |[],n,h,_,_=>by
  have:n=0:=by simpa using h
  subst this;exact⟨rfl,rfl,rfl⟩
 |x::l,0,_,_,h2=>by
  have:=h2 x rfl;simp[Nz,N2,this]
 |x::l,n+1,h,h1,h2=>by
  have hx:=h1 0 x (by omega) rfl;obtain⟨a,b,c⟩:=mf p l n (by simpa using h) (λj y hj hy=>h1 (j+1) y (by omega) hy) (λy hy=>h2 y hy);refine⟨?_,?_,?_⟩
  · rw[Nz,Lp hx,Lz,a]
  · rw[Nz,Lp hx,b];rfl
  · rw[N2,Lp hx,c];rfl
def jM (H:Hp)(D:Addr)(v:V)(ws:List W):Prop:=match bF ws with
 |none=>v=.b8
 |some hs=>∃x,v=.ref x/\x≠D/\H x=some (.lst (nV hs))
theorem sC {H:Hp}{D:Addr}:∀{vs:List V} {ls:List (List W)},Paired (jM H D) vs ls->¬none∈ls.map bF->∃as:List Addr,vs=as.map V.ref/\Paired (λa hs=>H a=some (.lst (nV hs))) as ((ls.map bF).filterMap id)
 |_,_,.nil,_=>⟨[],rfl,.nil⟩
 |v::vs,ws::ls,.cons r t,h=>by
  obtain⟨as,e,p⟩:=sC t λz=>h (by simp at z ⊢;exact .inr z);unfold jM at r;cases hr:bF ws with
  |none=>exact absurd (by simp[hr]) h
  |some hs =>
   rw[hr] at r;obtain⟨x,rfl,_,hx⟩:=r;refine⟨x::as,by rw[e];rfl,?_⟩;rw[LF,hr];exact .cons hx p
theorem mV {H:Hp}{D:Addr}:∀{vs:List V} {ls:List (List W)},Paired (jM H D) vs ls->(vs.any λv=>decide (v=.b8))=decide (none∈ls.map bF)
 |_,_,.nil=>rfl
 |v::vs,ws::ls,.cons r t=>by
  rw[MV,mV t];unfold jM at r;cases hr:bF ws with
  |none =>
   rw[hr] at r;simp[hr,show v=.b8 from r]
  |some hs =>
   rw[hr] at r;obtain⟨x,rfl,_⟩:=r;simp[hr]
theorem nO {K:Oc}{H:Hp}{D:Addr}:∀{vs:List V} {ls:List (List W)},Paired (jM H D) vs ls->∀v∈vs,v=.b8∨∃a ys,v=.ref a/\aS K H a ys
 |_,_,.nil,v,hv=>by simp at hv
 |v::vs,ws::ls,.cons r t,u,hu=>by
  rcases Lr.mp hu with rfl|hu
  · unfold jM at r;cases hr:bF ws with
    |none=>rw[hr] at r;exact .inl r
    |some hs =>
     rw[hr] at r;obtain⟨x,rfl,_,hx⟩:=r;exact .inr ⟨x,_,rfl,aS.of hx⟩
  · exact nO t u hu
end Bw
namespace L2
open PySem PySem.Spec PyProof.Rows
theorem BJ {c:TT}{tb:TS}{D:Ends}{σ:St}{H:Hp}(Pv En:St->Hp->Prop)(μ:St->Hp->Nat)(h0:Pv σ H)(hb:∀σ H,Pv σ H->∃b,Tv c σ H b/\(b=true->tb {D with nx:=λσ' H'=>Pv σ' H'/\μ σ' H' < μ σ H,ct:=λσ' H'=>Pv σ' H'/\μ σ' H' < μ σ H,bk:=D.nx} σ H)/\(b=false->En σ H))
  (mono:∀σ H Q Q',(∀b H1,Q b H1->Q' b H1)->c σ H Q->c σ H Q')(aft:∀σ H,En σ H->D.nx σ H):xG c tb D σ H:=by
 refine A4 Pv μ h0 (λσ H hp=>?_) mono;obtain⟨b,hv,q1,q2⟩:=hb σ H hp;refine hv _ ?_;cases b with
 |false=>exact t7 (aft _ _ (q2 rfl))
 |true=>exact n8 (q1 rfl)
end L2
namespace Bw
open PySem PySem.Spec PyProof.Rows L2 Tote
section
variable {P:Program}{w:World}{K:Oc}{mg:Oe}{base:Heap}
def vZ (K:Oc) (C:Addr):Sp:=λvs H Q _=>∃(a:Addr) (cs:Ob),vs=[.ref a]/\aS K H a (nV cs)/\cs.length<=65536 /\
 (dE (cs.map sg)=none->∀H',au H H'->Q .b8 H')/\(∀ps,dE (cs.map sg)=some ps->∀H' x,au H H'->cW K C H' x ps->Q (.ref x) H')
theorem Fv (c:Nat):sg c < 128:=by
 unfold sg;split
 · rename_i h;unfold t9 isLet bX at h;simp at h;omega
 · omega
theorem Ez {t:W}(h:∀c∈t,c < 128)(hl:t.length<=65536):∀ws∈(a8 10 [] t).map (a8 32 []),m7 ws/\ws≠[]:=by
 intro ws hws;obtain⟨l,hl1,rfl⟩:=LX.mp hws;obtain⟨h1,h2⟩:=dY 10 t [] l hl1;have h3:=fh 32 l [];refine⟨⟨by simp at h1;omega,λw hw=>?_⟩,j9 32 l []⟩;obtain⟨h4,h5⟩:=dY 32 l [] w hw;refine⟨by simp at h1 h4;omega,λc hc=>?_⟩;rcases h5 c hc with z|z
 · simp at z
 · rcases h2 c z with z|z
   · simp at z
   · exact h c z
theorem gL:aI ["codes","text","lines","behind_races","races","line","words"] ["codes"] (ax gT):=fs
theorem D5 {dS aF C:Addr}(G:GW mg)(GC:GC P w K mg dS aF){k:Nat}(FX:Fn P w K mg base bJ k "text_of" ["codes"] (sW K))(FD:Fn P w K mg base bJ k "is_day" ["words"] (CQ K))(FR:Fn P w K mg base bJ k "read_race" ["words"] (wW K))
  (FP:Fn P w K mg base bJ k "read_pools" ["lines","races"] (tK K C)){f:Addr}{fd:FuncData}(F:dI K "read_card" "read_card" gT f fd):bf P w K mg base bJ (k+1) f fd ["codes"] (vZ K C):=by
 refine F.ok gL (λvs H Q E h=>?_) (λcdv A outer s H vs Q E hr h=>?_)
 · obtain⟨_,_,rfl,_⟩:=h;rfl
 · obtain⟨a,cs,rfl,hS,hcs,q0,q1⟩:=h;have hu:=vg hr;refine⟨_,af (aN (i:=1) gL.nd rfl (Or.inl rfl) (aZ FX hr bh (aa (pv 0) ah)))
    (af (aT (cz (hU (BF PySem.F.slot_str_endswith PySem.F.type_str_endswith vR (pv 1) bt))) (ak (aA cy)) aC)
    (af (qp (i:=2) rfl gL.nd rfl rfl (tI rfl rfl rfl rfl) (bG (mw (cK HI (pv 1) ft (cY (u5 pG aw))) bt)) (bA (own:=[("line",5)]) rfl) (λ_ _ _ _ _=>aK (i:=5) gL.nd rfl (Or.inl rfl)) (λ_ _ _ _ _=>cn) (λ_ _ _ _ _=>mw (pv 5) bt))
    (af (aT (cz (hU (aZ FD hr bh (aa (bq aR (pv 2) aw (λ_ _=>rfl)) ah)))) (ak (aA cy)) aC)
    (af (aN (i:=3) gL.nd rfl (Or.inl rfl) aw)
    (af (CV Mt (PW.pt (t8 (aB nG (pv 3) (aG az (by rfl) G.len PySem.boot_len (aa (pv 2) ah)) (aM _)) (oE (aB cg (bq aR (bq aR (pv 2) (pv 3) (λ_ _=>rfl)) aw (λ_ _=>rfl)) bt (aM _))))) (ak (BH (i:=3) gL.nd rfl (Or.inl rfl) aw AH)))
    (af (qp (i:=4) rfl gL.nd rfl rfl (tI rfl rfl rfl rfl) (bG (cK fq (pv 2) (cY aw) (cY (pv 3)))) (bA (own:=[("words",6)]) rfl) (λ_ _ _ _ _=>aK (i:=6) gL.nd rfl (Or.inl rfl)) (λ_ _ _ _ _=>cn) (λ_ _ _ _ _=>aZ FR hr bh (aa (pv 6) ah)))
    (af (aT (PW.pt (d9 (cz (cA cf cf aw (aG az (by rfl) G.len PySem.boot_len (aa (pv 4) ah)) (bg GC.races))) (cS (aB (An hu) cy (pv 4) (by with_unfolding_all rfl))))) (ak (aA cy)) aC)
    (ak (aA (aZ FP hr bh (aa (cK fq (pv 2) (cY (pv 3)) ft) (aa (pv 4) ah)))))))))))),?_⟩
   refine⟨_,rfl,a,cs,rfl,hS,by omega,λH1 S1=>?_⟩;generalize hT:cs.map sg=T at q0 q1;have lenT:T.length=cs.length:=by rw[←hT,Ln]
   have ascT:∀c∈T,c < 128:=λc hc=>by
    rw[←hT] at hc;obtain⟨x,_,rfl⟩:=LX.mp hc;exact Fv x
   have hz:(st T).length<=sizeLine:=by rw[b6,LQ];omega
   refine⟨_,rfl,⟨_,rfl⟩,_,_,rfl,rfl,_,rfl,?_⟩;have eE:Txt.endswith (st T) (Str.ofString "\n")=decide (T.getLast?=some 10):=by rw[Bo];exact DT T
   rw[eE];refine gH (λh=>?_) (λh=>?_)
   · refine q0 ?_ H1 S1;unfold dE;rw[Lo (by simpa using h)]
   have hE:T.getLast?=some 10:=by simpa using h
   generalize hLL:a8 10 [] T.dropLast=LL;have eS:Txt.split (zJ (st T) none (some (-1))) (Str.ofString "\n")=LL.map st:=by rw[Be,Bo,mx (by decide),hLL]
   have lenD:T.dropLast.length<=65536:=by rw[List.length_dropLast];omega
   have lenLL:LL.length<=65537:=by rw[←hLL];have:=fh 10 T.dropLast [];omega
   have okL:∀l∈LL,l.length<=65536:=λl hl=>by
    rw[←hLL] at hl;have:=(dY 10 T.dropLast [] l hl).1;simp at this;omega
   have okLS:∀ws∈LL.map (a8 32 []),m7 ws/\ws≠[]:=by
    rw[←hLL];exact Ez (λc hc=>ascT c ((List.dropLast_sublist T).subset hc)) lenD
   generalize hLS:LL.map (a8 32 [])=LS at okLS;have eLS:p9 T=LS:=by unfold p9;rw[hLL,hLS]
   have lenLS:LS.length=LL.length:=by rw[←hLS,Ln]
   refine⟨_,rfl,_,rfl,_,rfl,_,rfl,hz,⟨_,rfl⟩,_,_,rfl,rfl,by decide +kernel,?_,λp1 hp1=>?_⟩
   · have:=nQ (st T) none (some (-1));rw[b6] at this;rw[LQ];omega
   rw[eS];refine⟨p1,rfl,⟨_,aS.of ae⟩,λD hD=>?_⟩;have eM:(LL.map st).map V.str=sV LL:=by unfold sV;rw[LP];rfl
   have S2:au H1 (upd H1 p1 (.lst ((LL.map st).map V.str))):=(au.refl H1).laid hp1;generalize hH2:upd H1 p1 (.lst ((LL.map st).map V.str))=H2 at hD S2;have hp2:aS K H2 p1 (sV LL):=aS.of (by rw[←hH2,ae,eM]);refine jd (K:=K) (a:=p1) (xs:=sV LL) (λi H'=>∃as:List Addr,au H2 H'/\H' D=some (.lst (as.map V.ref))/\Paired (λb ws=>b≠D/\H' b=some (.lst (sV ws))) as (LS.take i)) ⟨[],(au.refl H2).laid hD,ae,.nil⟩ (λi H' _ ⟨_,S,_⟩=>S.seq hp2) ?_ ?_
   · rintro i x H' hi ⟨as,S3,e1,hP⟩;unfold sV at hi;rw[Ls] at hi;obtain⟨l,hl,rfl⟩:=LZ.mp hi;have hil:i < LL.length:=(LB.mp hl).1;have lenA:as.length=i:=by rw[Paired.length hP,LM];omega
     have hws:LS[i]?=some (a8 32 [] l):=by rw[←hLS,Ls,hl];rfl
     refine⟨rfl,_,rfl,⟨_,rfl⟩,_,_,rfl,rfl,by decide +kernel,?_,λp hp=>?_⟩
     · have:=okL l (LR hl);rw[b6,LQ];omega
     have nD:p≠D:=(ao e1 hp).symm;refine⟨_,by rw[aq nD.symm];exact e1,?_,as++[p],?_,?_,?_⟩
     · rw[Ln,lenA,LQ];omega
     · intro c u z;rw[aq (ao z hD),aq (ao (S3 c u z) hp)];exact S3 c u z
     · rw[ae,LH];rfl
     · rw[take_snoc hws];refine Paired.snoc (Paired.d8 hP λb ws z=>?_) ⟨nD,?_⟩
       · refine⟨z.1,?_⟩;rw[aq z.1,aq (ao z.2 hp)];exact z.2
       · rw[aq nD,ae,Cr,mx (by decide)];unfold sV;rw[LP];rfl
   rintro H3 ⟨as,S3,e1,hP0⟩;rw[dH,←lenLS,Ml] at hP0;have hP:Paired (λb ws=>aS K H3 b (sV ws)) as LS:=Paired.d8 hP0 λb ws z=>aS.of z.2;have hA:aS K H3 D (as.map V.ref):=aS.of e1;have S13:au H H3:=S1.trans (S2.trans S3);have lenA:as.length=LS.length:=Paired.length hP;obtain⟨d,ls,hdl⟩:∃d ls,LS=d::ls:=by
    cases hq:LS with
    |nil =>
     rw[←hLS,NZ,←hLL] at hq;exact absurd hq (j9 10 _ _)
    |cons d ls=>exact⟨d,ls,rfl⟩
   have at_:∀(j:Nat) ws,LS[j]?=some ws->∃b,nN (as.map V.ref) (j:Int)=some (.ref b)/\aS K H3 b (sV ws):=λj ws hj=>by
    obtain⟨b,hb,hs⟩:=Paired.at2 hP hj;exact⟨b,cj (by rw[Ls,hb];rfl),hs⟩
   have eC:dE T=if iu d=true then eT [] ls else none:=by
    unfold dE;rw[Lp hE,eLS,hdl]
   obtain⟨b0,hb0,hs0⟩:=at_ 0 d (by rw[hdl];rfl);refine (a_ (ag rfl) aE hA hb0) _ ⟨b0,d,rfl,hs0,(okLS d (by rw[hdl];simp)).1,λH4 S4=>⟨_,rfl,?_⟩⟩;have S14:=S13.trans S4;refine gH (λh=>?_) (λh=>?_)
   · refine q0 ?_ H4 S14;rw[eC,Lo (by simpa using h)]
   rw[Lp (by simpa using h)] at eC;refine cx aE ?_;have hA4:=S4.seq hA;refine BJ (λσ H'=>∃b:Nat,σ=[some (.ref a),some (.str (st T)),some (.ref D),some (.int (b:Nat)),none,none,none]/\H'=H4/\1<=b/\b<=LS.length/\∀j ws,1<=j->j < b->LS[j]?=some ws->aV ws=true)
    (λσ H'=>∃b:Nat,σ=[some (.ref a),some (.str (st T)),some (.ref D),some (.int (b:Nat)),none,none,none]/\H'=H4/\1<=b/\b<=LS.length/\(∀j ws,1<=j->j < b->LS[j]?=some ws->aV ws=true)/\∀ws,LS[b]?=some ws->aV ws=false)
    (λ(σ:L2.St) (_:Hp)=>match σ[3]? with|some (some (V.int z))=>LS.length - z.toNat|_=>0) ⟨1,rfl,rfl,Lx _,by rw[hdl];simp,λj ws h1 h2=>by omega⟩ ?_ ?_ ?_
   · rintro σ H' ⟨b,rfl,rfl,hb1,hb2,hb3⟩;have race0:∀ws,LS[b]?=some ws->∀ba,aS K H' ba (sV ws)->nN (as.map V.ref) (b:Int)=some (.ref ba)->Ev (kG JT (kG (Ar K) (kG (Ar K) (cH 2) (cH 3)) (tC (.int 0))) (tC (.str (Str.ofString "race")))) [some (.ref a),some (.str (st T)),some (.ref D),some (.int (b:Nat)),none,none,none] H' (.bl (aV ws)):=λws hws ba hsb hba=>by
      have hne:=(okLS ws (LR hws)).2;have:=b9 (a_ (a_ (ag (n:=2) (σ:=[some (.ref a),some (.str (st T)),some (.ref D),some (.int (b:Nat)),none,none,none]) rfl) (ag (n:=3) rfl) hA4 hba) (aE (v:=.int ((0:Nat):Int))) hsb (dG (i:=0) (Ms.mpr hne))) (aE (v:=.str (Str.ofString "race")));rw[i_] at this;have e:decide (ws.getD 0 []=cd "race")=aV ws:=by
       unfold aV;cases ws with
       |nil=>exact absurd rfl hne
       |cons x r =>
        show decide (x=cd "race")=(x==cd "race");rw[L3,Lw,Md]
      rw[e] at this;exact this
     by_cases hlt:b < LS.length
     · obtain⟨ws,hws⟩:∃ws,LS[b]?=some ws:=⟨_,Ly hlt⟩;obtain⟨ba,hba,hsb⟩:=at_ b ws hws;refine⟨_,oR (jy (ag rfl) (aY (ag rfl) (.inl hA4))) λ_=>aL (race0 ws hws ba (S4.seq hsb) hba),λh=>?_,λh=>?_⟩
       · rw[Lv] at h;refine⟨_,rfl,_,_,rfl,rfl,⟨⟨b+1,rfl,rfl,by omega,by omega,λj ws' h1 h2 h3=>?_⟩,?_⟩⟩
         · by_cases e:j=b
           · subst e;rw[hws] at h3;cases h3;exact h.2
           · exact hb3 j ws' h1 (by omega) h3
         · show LS.length - ((b:Int)+1).toNat < LS.length - ((b:Nat):Int).toNat;omega
       · have hf:aV ws=false:=by
          rw[ML] at h;rcases h with h|h
          · rw[Ln,lenA] at h;have:=L8 h;omega
          · exact h
         exact⟨b,rfl,rfl,hb1,hb2,hb3,λws' z=>by rw[hws] at z;cases z;exact hf⟩
     · refine⟨_,oR (c:=false) (jy (ag rfl) (aY (ag rfl) (.inl hA4))) λh=>?_,λh=>?_,λ_=>?_⟩
       · rw[Ln,lenA] at h;have:=LI h;omega
       · rw[Bool.and_false] at h;cases h
       · exact⟨b,rfl,rfl,hb1,hb2,hb3,λws' z=>by rw[Mr (by omega)] at z;cases z⟩
   · rintro σ H' Q1 Q2 hm ⟨v,e,v2,e2,p,ys,e3,s,i,j,e4,e5,k,e6,hk⟩;refine⟨v,e,v2,e2,p,ys,e3,s,i,j,e4,e5,k,e6,?_⟩;cases k with
     |false =>
      rw[Lo LN] at hk;exact t7 (hm _ _ hk)
     |true =>
      rw[Lp rfl] at hk;obtain⟨x1,f1,x2,f2,p',xs',i',v',g1,g2,g3,g4,p2,xs2,i2,v3,g5,g6,g7,g8,g9,k2,g10,hq⟩:=hk;exact n8 ⟨x1,f1,x2,f2,p',xs',i',v',g1,g2,g3,g4,p2,xs2,i2,v3,g5,g6,g7,g8,g9,k2,g10,hm _ _ hq⟩
   rintro σ H' ⟨b,rfl,e4,hb1,hb2,hb3,hb4⟩;subst e4;obtain⟨tw1,tw2,tw3⟩:=mf aV ls (b - 1) (by rw[hdl] at hb2;simp at hb2;omega) (λj x hj hx=>hb3 (j+1) x (by omega) (by omega) (by rw[hdl];exact hx)) (λx hx=>hb4 x (by rw[hdl,show b=b - 1+1 by omega];exact hx));have eR:=pV ls [] (by simp);rw[tw1,tw2,tw3] at eR;refine⟨_,rfl,_,rfl,_,rfl,_,rfl,D,as.map V.ref,rfl,hA4,λp2 hp2=>⟨p2,rfl,⟨_,aS.of ae⟩,λR hR=>?_⟩⟩;have eCut:fw (as.map V.ref) (some 1) (some (b:Int))=((as.drop 1).take (b - 1)).map V.ref:=by
    have:=yg (xs:=as.map V.ref) (i:=1) (j:=b) (by rw[Ln,lenA];exact hb2);rw[List.map_take,NU];exact this
   have S5:au H' (upd H' p2 (.lst (fw (as.map V.ref) (some 1) (some (b:Int))))):=(au.refl H').laid hp2;have hp5:aS K (upd H' p2 (.lst (fw (as.map V.ref) (some 1) (some (b:Int))))) p2 (((as.drop 1).take (b - 1)).map V.ref):=aS.of (by rw[ae,eCut]);generalize upd H' p2 (.lst (fw (as.map V.ref) (some 1) (some (b:Int))))=H5 at hR S5 hp5;have hPr:Paired (λb ws=>aS K H3 b (sV ws)) ((as.drop 1).take (b - 1)) (ls.take (b - 1)):=by
    have:=Paired.tk (b - 1) (Paired.dp 1 hP);rw[hdl] at this;exact this
   have okls:∀ws∈ls.take (b - 1),m7 ws/\ws≠[]:=λws z=>okLS ws (by rw[hdl];exact LG _ (M5 z));have lenR:((as.drop 1).take (b - 1)).length=(ls.take (b - 1)).length:=Paired.length hPr;refine jd (K:=K) (a:=p2) (xs:=((as.drop 1).take (b - 1)).map V.ref) (λi H6=>∃vs:List V,au H5 H6/\H6 R=some (.lst vs)/\Paired (jM H6 R) vs ((ls.take (b - 1)).take i)) ⟨[],(au.refl H5).laid hR,ae,.nil⟩ (λi H6 _ ⟨_,S,_⟩=>S.seq hp5) ?_ ?_
   · rintro i x H6 hi ⟨vs,S6,e1,hV⟩;rw[Ls] at hi;obtain⟨ba,hba,rfl⟩:=LZ.mp hi;obtain⟨ws,hws,hsb⟩:=Paired.qG hPr hba;have hil:i < (ls.take (b - 1)).length:=(LB.mp hws).1;have lenV:vs.length=i:=by rw[Paired.length hV,LM];omega
     have okw:=okls ws (LR hws);have lenls:ls.length<=65537:=by have:=lenLS;rw[hdl] at this;simp at this;omega
     have small:vs.length < sizeLine:=by
      rw[lenV,LQ];have:=List.length_take_le (b - 1) ls;have:=LM (i:=b - 1) (l:=ls);omega
     have keepV:∀H7,au H6 H7->∀(y:V),Paired (jM (upd H7 R (.lst (vs++[y]))) R) vs ((ls.take (b - 1)).take i):=λH7 e y=>Paired.d8 hV λv ws' z=>by
      unfold jM at z ⊢;cases hr:bF ws' with
      |none=>rw[hr] at z;exact z
      |some hs =>
       rw[hr] at z;obtain⟨x,ex,nx,hx⟩:=z;exact⟨x,ex,nx,by rw[aq nx];exact e _ _ hx⟩
     refine⟨rfl,_,rfl,ba,ws,rfl,S6.seq (S5.seq (S4.seq hsb)),okw.1,okw.2,λhn H7 e=>?_,λhs hn H7 x e nx hx=>?_⟩
     · refine⟨vs,e _ _ e1,small,vs++[.b8],λc u z=>?_,ae,?_⟩
       · rw[aq (ao z hR)];exact e _ _ (S6 c u z)
       · rw[take_snoc hws];refine Paired.snoc (keepV H7 e _) ?_;unfold jM;rw[hn]
     · have nR:x≠R:=(ao e1 nx).symm;refine⟨vs,e _ _ e1,small,vs++[.ref x],λc u z=>?_,ae,?_⟩
       · rw[aq (ao z hR)];exact e _ _ (S6 c u z)
       · rw[take_snoc hws];refine Paired.snoc (keepV H7 e _) ?_;unfold jM;rw[hn];exact⟨x,rfl,nR,by rw[aq nR];exact hx⟩
   rintro H6 ⟨vs,S6,e1,hV⟩;rw[Ln,lenR,Ml] at hV;have lenV:vs.length=b - 1:=by
    rw[Paired.length hV,LM];rw[hdl] at hb2;simp at hb2;omega
   have S46:au H' H6:=S5.trans S6;have S16:au H H6:=S14.trans S46;refine a6 (gN (fb (cG aE (aY (ag rfl) (.inl (aS.of e1))) aE)) λ_=>aL (λR' r'=>⟨_,rfl,R,vs,rfl,rfl,aS.of e1,nO hV,r'⟩)) (λh=>?_) (λh=>?_)
   · refine bW aE (q0 ?_ H6 S16);rw[eC,eR,Lo];rintro⟨z1,z2,z3⟩;rw[lenV,mV hV,Mb z3] at h;simp only[ND,Me,ML,L6] at h;simp only[MX] at z1 z2;omega
   · rw[lenV,mV hV] at h;simp only[My,Mh,Lv,Lw,L6] at h;obtain⟨⟨z1,z2⟩,z3⟩:=h;rw[Lp ⟨by simp only[MX];omega,by simp only[MX];omega,z3⟩,Mi] at eR;obtain⟨ras,ev,hPa⟩:=sC hV z3;subst ev;have hA6:=S46.seq hA4;refine⟨_,rfl,_,rfl,_,rfl,D,as.map V.ref,rfl,hA6,λp3 hp3=>?_⟩;have S7:au H6 (upd H6 p3 (.lst (fw (as.map V.ref) (some (b:Int)) none))):=(au.refl H6).laid hp3;have eCut2:fw (as.map V.ref) (some (b:Int)) none=(as.drop b).map V.ref:=by
      unfold fw;rw[HT.i6,HT.iD,Ln,lenA,Nn hb2,NU];refine Mj ?_;rw[Mf,Ln,lenA];exact Lx _
     refine⟨_,rfl,p3,R,ls.drop (b - 1),((ls.take (b - 1)).map bF).filterMap id,rfl,⟨as.drop b,aS.of (by rw[ae,eCut2]),?_⟩,?_,⟨ras,S7.seq (aS.of e1),Paired.d8 hPa λc hs z=>S7.seq (aS.of z)⟩,?_,?_,?_⟩
     · have:=Paired.dp b hP;rw[show LS.drop b=ls.drop (b - 1) by rw[hdl,show b=b - 1+1 by omega];rfl] at this;exact Paired.d8 this λc ws z=>S7.seq (S46.seq (S4.seq z))
     · intro ws z;exact (okLS ws (by rw[hdl];exact LG _ (MW z))).1
     · have:=List.length_filterMap_le id ((ls.take (b - 1)).map bF);rw[Ln,LM] at this;omega
     · intro hn H8 S8;exact q0 (by rw[eC,eR];exact hn) H8 (S16.trans (S7.trans S8))
     · intro ps hs H8 x S8 hx;exact q1 ps (by rw[eC,eR];exact hs) H8 x (S16.trans (S7.trans S8)) hx
end
end Bw
namespace L2
open PySem PySem.Spec PyProof.Rows
def aQ (a:Addr)(H H':Hp):Prop:=∀b o,H b=some o->b≠a->H' b=some o
section
variable {a:Addr}{H H1 H2:Hp}
theorem aQ.refl (a:Addr) (H:Hp):aQ a H H:=λ_ _ h _=>h
theorem aQ.trans (x:aQ a H H1)(y:aQ a H1 H2):aQ a H H2:=λb o h n=>y b o (x b o h n) n
theorem au.x (e:au H H1):aQ a H H1:=λb o h _=>e b o h
theorem aQ.upd {o:HO}(x:aQ a H H1):aQ a H (upd H1 a o):=λb u h n=>by rw[aq n];exact x b u h n
theorem aQ.laid {p:Addr}{o:HO}(x:aQ a H H1)(h:H p=none):aQ a H (L2.upd H1 p o):=λb u q n=>by
 rw[aq (ao q h)];exact x b u q n
theorem aQ.seq {K:Oc}{C dx b:Addr}{fs:List (Str×V)}{xs:List V}(e:aQ a H H1)(ha:H a=some (.ins C dx fs))(h:aS K H b xs):aS K H1 b xs:=by
 rcases h with (h|⟨o,h⟩)|h
 · exact .inl (.inl (e _ _ h (dF h ha (by intro z;cases z))))
 · exact .inl (.inr ⟨o,e _ _ h (dF h ha (by intro z;cases z))⟩)
 · exact .inr h
theorem aQ.tup {K:Oc}{C dx b:Addr}{fs:List (Str×V)}{xs:List V}(e:aQ a H H1)(ha:H a=some (.ins C dx fs))(h:bZ K H b xs):bZ K H1 b xs:=by
 rcases h with (h|⟨o,h⟩)|h
 · exact .inl (.inl (e _ _ h (dF h ha (by intro z;cases z))))
 · exact .inl (.inr ⟨o,e _ _ h (dF h ha (by intro z;cases z))⟩)
 · exact .inr h
theorem aQ.free (e:aQ a H H1){l:Addr}(h:H1 l=none)(hl:l≠a):H l=none:=by
 cases q:H l with
 |none=>rfl
 |some o =>
  rw[e l o q hl] at h;cases h
end
end L2
namespace Bw
open PySem PySem.Spec PyProof.Rows L2 Tote
theorem pj {f:Str}{v x:V}{r:List (Str×V)}:eK f v ((f,x)::r)=(f,v)::r:=by
 show (if f=f then (f,v)::r else _)=_;rw[Lp rfl]
def Flt (P:Program)(w:World)(K:Oc)(mg:Oe)(base:Heap)(C:Addr):Prop :=
 ∃(N fI:Addr) (fd:FuncData),oU K C N fI/\Binds K fd ["self","kind","place"] []/\bf P w K mg base bJ 1 fI fd ["self","kind","place"] (Hu C)/\mg "Fault"=some (.ref C)
theorem fJ {X:Cx}{C:Addr}{E:XK}{np cpos pos:Pos}{e:Expr}{es:List Expr}{t:TA}(FL:Flt X.prog X.w X.K X.mg X.base C)(O:mn X)(hr:c_ 2 X.A)(ha:PA (X.iB (XF X C E)) (e::es) t)(hg:Gl X "Fault":=by rfl)
  (he:starEach (e::es) X.env=(false,eval e X.env)::starEach es X.env:=by rfl)(hpl:(backTo cpos (starEach es X.env)).any (·.1)=false:=by rfl):PS (X.iB (XF X C E)) (.Raise (some (.Call (.Name "Fault" np) (e::es) [] cpos)) none pos) (J4 C E t):=by
 obtain⟨N,fI,fd,Z,hb,F,hm⟩:=FL;exact BY O Z F hr hb hg hm ha (by decide) he hpl
section
variable {P:Program}{w:World}{K:Oc}{mg:Oe}{base:Heap}
theorem zU:aI ["self","kind","place"] ["self","kind","place"] (ax fO):=fs
theorem Ao {C N fI:Addr}(Z:oU K C N fI){f:Addr}{fd:FuncData}(F:dI K "__init__" "Fault.__init__" fO f fd):bf P w K mg base bJ 1 f fd ["self","kind","place"] (Hu C):=by
 refine F.ok zU (λvs H Q E h=>?_) (λcdv A outer s H vs Q E hr h=>?_)
 · obtain⟨_,_,_,_,rfl,_⟩:=h;rfl
 · obtain⟨a,t,k,p,rfl,ha,q⟩:=h;refine⟨_,af (yM Z Z.fK Z.KJ K4 (pv 0) (pv 1) rfl) (ak (yM Z Z.fP Z.JW La (pv 0) (pv 2) rfl)),?_⟩;refine⟨_,rfl,_,rfl,a,t,rfl,.inl ⟨ha,λdx hdx ne=>?_⟩⟩;refine⟨_,rfl,_,rfl,a,t,rfl,.inr ⟨dx,_,ae,by rw[aq ne];exact ae,ne,by show 1 < 1000;decide,?_⟩⟩;have e:eK "place" (V.int p) [(("kind":Str),V.int k)]=ff k p:=by
    rw[bo (by decide +kernel),bT];rfl
   rw[e];have e2:upd (upd (upd H dx (rY dx [(("kind":Str),V.int k)])) a (uq a C t (some dx))) dx (rY dx (ff k p))=upd (upd H dx (rY dx (ff k p))) a (uq a C t (some dx)):=by
    funext b;by_cases h1:b=dx
    · subst h1;rw[ae,aq ne,ae]
    · rw[aq h1];by_cases h2:b=a
      · subst h2;rw[ae,ae]
      · rw[aq h2,aq h2,aq h1,aq h1]
   rw[e2];exact q dx hdx ne
end
def lO (pl n h s t r m:V):List (Str×V):=[("pool",pl),("pool_number",n),("how",h),("stake",s),("sets",t),("rows",r),("many",m)]
abbrev sk:List Str:=["pool","pool_number","how","stake","sets","rows","many"]
def bV (wl m p np e:V):List (Str×V):=[("words",wl),("met",m),("place",p),("next_place",np),("line_end",e)]
abbrev cq:List Str:=["words","met","place","next_place","line_end"]
section
variable {a b c d e v:V}
theorem iL:(bV a b c d e).lookup ("words":Str)=some a:=bC
theorem iI:(bV a b c d e).lookup ("met":Str)=some b:=by unfold bV;rw[aU (by decide +kernel)];exact bC
theorem bP:(bV a b c d e).lookup ("place":Str)=some c:=by unfold bV;rw[aU (by decide +kernel),aU (by decide +kernel)];exact bC
theorem jN:(bV a b c d e).lookup ("next_place":Str)=some d:=by unfold bV;rw[aU (by decide +kernel),aU (by decide +kernel),aU (by decide +kernel)];exact bC
theorem xN:(bV a b c d e).lookup ("line_end":Str)=some e:=by unfold bV;rw[aU (by decide +kernel),aU (by decide +kernel),aU (by decide +kernel),aU (by decide +kernel)];exact bC
theorem ED:eK "met" v (bV a b c d e)=bV a v c d e:=by unfold bV;rw[bo (by decide +kernel),pj]
theorem zw:eK "place" v (bV a b c d e)=bV a b v d e:=by unfold bV;rw[bo (by decide +kernel),bo (by decide +kernel),pj]
theorem Bb:eK "next_place" v (bV a b c d e)=bV a b c v e:=by unfold bV;rw[bo (by decide +kernel),bo (by decide +kernel),bo (by decide +kernel),pj]
end
def a7 (K:Oc)(C:Addr)(H:Hp)(a:Addr)(e:Nat)(l:List Word)(pl:Nat):Prop :=
 ∃(dx wl:Addr) (all:List W) (m np:Nat),H a=some (.ins C dx (bV (.ref wl) (.int (m:Nat)) (.int (pl:Nat)) (.int (np:Nat)) (.int (e:Nat))))/\aS K H wl (sV all)/\(m7 all/\all≠[])/\m<=all.length/\all.drop m=oH l/\Placed np l
theorem a7.same {K:Oc}{C:Addr}{H H':Hp}{a:Addr}{e:Nat}{l:List Word}{pl:Nat}(h:a7 K C H a e l pl)(s:au H H'):a7 K C H' a e l pl:=by
 obtain⟨dx,wl,all,m,np,h1,h2,r⟩:=h;exact⟨dx,wl,all,m,np,s _ _ h1,s.seq h2,r⟩
structure GB (K:Oc)(mg:Oe)(aW:Addr):Prop where
 ended:Gv mg "NOT_ENDED" (.int 1)
 byte:Gv mg "BAD_BYTE" (.int 2)
 word:Gv mg "BAD_WORD" (.int 3)
 num:Gv mg "BAD_NUMBER" (.int 4)
 pool:Gv mg "NO_POOL" (.int 5)
 comb:Gv mg "NO_COMBINATION" (.int 6)
 Kc:Gv mg "TOO_DEAR" (.int 7)
 more:Gv mg "MORE_BYTES" (.int 8)
 nl:Gv mg "LINE_END" (.int 10)
 blank:Gv mg "BLANK" (.int 32)
 stake:Gv mg "MOST_STAKE" (.int 1000000)
 cost:Gv mg "MOST_COST" (.int 2147483647)
 on:Gv mg "ON" (.int 0)
 box:Gv mg "BOX" (.int 1)
 IU:Gv mg "WAYS" (.ref aW)
 yL:∀H,bZ K H aW [.str (Str.ofString "on"),.str (Str.ofString "box"),.str (Str.ofString "key")]
 IF:∃o,K.lookup aW=some o/\o.cls=.type "tuple"/\o.dict=none
 enum:mg "enumerate"=none
 any:mg "any"=none
section
variable {X:Cx}{CX:mr}{k:Nat}{m:Str}{ps:List Str}{sp:Sp}{E:XK}{pos apos:Pos}{o e:Expr}{es:List Expr}{ta:TE}{t:TA}{C:Addr}
theorem ka {pl:Sem Bool} (F:pQ X.prog X.w X.K X.mg X.base CX k C m ps sp) (c:yn X.K C) (he:PE X o ta) (hr:c_ k X.A) (hx:Passes CX X E)
  (ht:eval (.Call (.Attribute o m apos) [] [] pos) X.env=(do
   let ov ←eval o X.env
   standAt apos.atName
   let (f,first) ←holding [ov] (getMethod ov m pl)
   callWith pos f first (backTo pos (starEach [] X.env)) (backToKw pos (keywordEach [] X.env))):=by rfl):PE X (.Call (.Attribute o m apos) [] [] pos) (vS C m sp [] E ta fe):=by
 obtain⟨f,fd,hm,hb,F⟩:=F;exact Br he c hm F hr hb .nil hx ht
theorem la {pl:Sem Bool}(F:pQ X.prog X.w X.K X.mg X.base CX k C m ps sp)(c:yn X.K C)(he:PE X o ta)(hr:c_ k X.A)(hx:Passes CX X E)(ha:PA X (e::es) t)
  (hst:starEach (e::es) X.env=(false,eval e X.env)::starEach es X.env:=by rfl)(hpl:(backTo pos (starEach es X.env)).any (·.1)=false:=by rfl)
  (ht:eval (.Call (.Attribute o m apos) (e::es) [] pos) X.env=(do
   let ov ←eval o X.env
   standAt apos.atName
   let (f,first) ←holding [ov] (getMethod ov m pl)
   callWith pos f first (backTo pos (starEach (e::es) X.env)) (backToKw pos (keywordEach [] X.env))):=by rfl):PE X (.Call (.Attribute o m apos) (e::es) [] pos) (vS C m sp [] E ta t):=by
 obtain⟨f,fd,hm,hb,F⟩:=F;exact Dk he c hm F hr hb .nil hx ha hst hpl ht
end
section
variable {P:Program}{w:World}{K:Oc}{mg:Oe}{base:Heap}
def ph (K:Oc) (C:Addr):Sp:=λvs H Q _=>∃(x dx:Addr) (l:W),vs=[.ref x,.str (st l)]/\H x=some (.ins C dx [])/\l.length<=70000 /\
 ∀H' wl,aQ x H H'->H wl=none->H' wl=some (.lst (sV (a8 32 [] l)))->H' x=some (.ins C dx (bV (.ref wl) (.int ((0:Nat):Int)) (.int ((0:Nat):Int)) (.int ((0:Nat):Int)) (.int (l.length:Nat))))->Q .b8 H'
theorem zr:aI ["self","line"] ["self","line"] (ax f_):=fs
theorem Ap {C:Addr}(G:GW mg)(T:CK K mg "Words" cq C){f:Addr}{fd:FuncData}(F:dI K "__init__" "Words.__init__" f_ f fd):bf P w K mg base bJ 1 f fd ["self","line"] (ph K C):=by
 refine F.ok zr (λvs H Q E h=>?_) (λcdv A outer s H vs Q E hr h=>?_)
 · obtain⟨_,_,_,rfl,_⟩:=h;rfl
 · obtain⟨x,dx,l,rfl,hx,hl,q⟩:=h;refine⟨_,af (cD (pv 0) (mw (pv 1) bt) rfl) (af (cD (pv 0) aw rfl) (af (cD (pv 0) aw rfl) (af (cD (pv 0) aw rfl) (ak (cD (pv 0) (aG fS (by rfl) G.len PySem.boot_len (aa (pv 1) ah)) rfl))))),?_⟩;refine⟨_,rfl,⟨_,rfl⟩,_,_,rfl,rfl,by decide +kernel,by rw[b6,LQ];omega,λwl hwl=>?_⟩;have nx:wl≠x:=(ao hx hwl).symm;rw[Cr,mx (by decide)];refine⟨_,rfl,x,C,dx,[],rfl,by rw[aq nx.symm];exact hx,T.cl,T.no _ (by simp),(by show 0 < 1000;decide),?_⟩;refine⟨_,rfl,x,C,dx,_,rfl,ae,T.cl,T.no _ (by simp),(by show 1 < 1000;decide),?_⟩;refine⟨_,rfl,x,C,dx,_,rfl,ae,T.cl,T.no _ (by simp),(by repeat (first|rw[bT]|rw[bo (by decide +kernel)]);show 2 < 1000;decide),?_⟩;refine⟨_,rfl,x,C,dx,_,rfl,ae,T.cl,T.no _ (by simp),(by repeat (first|rw[bT]|rw[bo (by decide +kernel)]);show 3 < 1000;decide),?_⟩;refine⟨_,rfl,_,rfl,by rw[b6,LQ];omega,_,rfl,x,C,dx,_,rfl,ae,T.cl,T.no _ (by simp),(by repeat (first|rw[bT]|rw[bo (by decide +kernel)]);show 4 < 1000;decide),?_⟩;rw[cu,cu,cu,cu]
   repeat (first|rw[bT]|rw[bo (by decide +kernel)])
   refine q _ wl (λb u z n=>?_) hwl ?_ ?_
   · rw[aq n,aq (ao z hwl)];exact z
   · rw[aq nx,ae];unfold sV;rw[LP];rfl
   · rw[ae,b6];rfl
def mM (K:Oc)(CW CF:Addr):Sp:=λvs H Q E=>∃(a:Addr) (e:Nat) (l:List Word) (pl:Nat),vs=[.ref a]/\a7 K CW H a e l pl/\(l=[]->Rz CF E 3 (e:Nat))/\(∀w r,l=w::r->∀H',aQ a H H'->a7 K CW H' a e r w.at_->((tx w.w).length<=70000/\∀c∈tx w.w,c < 128)->Q (.str (st (tx w.w))) H')
theorem yh:aI ["self","word"] ["self"] (ax fN):=fs
theorem ER {CW CF aW:Addr}(G:GW mg)(B:GB K mg aW)(T:CK K mg "Words" cq CW)(FL:Flt P w K mg base CF){f:Addr}{fd:FuncData}(F:dI K "take" "Words.take" fN f fd):bf P w K mg base (eX P w CF) 3 f fd ["self"] (mM K CW CF):=by
 refine F.zb yh (λvs H Q E h=>?_) (λcdv A outer s H vs Q E hr h=>?_)
 · obtain⟨_,_,_,_,rfl,_⟩:=h;rfl
 · obtain⟨a,e,l,pl,rfl,⟨dx,wl,all,m,np,ha,hw,ok,hm,hd,hp⟩,q0,q1⟩:=h;refine⟨_,af (aT (aB cg (aX (pv 0) rfl) (aG az (by rfl) G.len PySem.boot_len (aa (aX (pv 0) rfl) ah)) (aM _)) (ak (fJ FL aJ hr (aa (bg B.word) (aa (aX (pv 0) rfl) ah)))) aC)
    (af (aN (i:=1) yh.nd rfl (Or.inl rfl) (bq aR (aX (pv 0) rfl) (aX (pv 0) rfl) (λ_ _=>rfl)))
    (af (qX (pv 0) aw AF)
    (af (cD (pv 0) (aX (pv 0) rfl) rfl)
    (af (qX (pv 0) (bK d_ (aG fS (by rfl) G.len PySem.boot_len (aa (pv 1) ah)) aw) AF)
    (ak (aA (pv 1))))))),?_⟩
   have no:=λf (h:f∈cq)=>T.no f h;refine a6 (aL (b9 (bc (ag rfl) ha T.cl (no _ (by simp)) iI) (aY (bc (ag rfl) ha T.cl (no _ (by simp)) iL) (.inl hw)))) (λh=>?_) (λh=>?_)
   · rw[bb,dH] at h;have hml:m=all.length:=by have:=MR h;omega
     refine (bc (ag rfl) ha T.cl (no _ (by simp)) xN) _ ⟨3,_,rfl,q0 ?_⟩;rw[hml,Ng] at hd;cases l with
     |nil=>rfl
     |cons w r=>cases hd
   · rw[bb,dH] at h;have hml:m < all.length:=by
      have:m≠all.length:=λz=>by rw[z] at h;simp at h
      omega
     cases l with
     |nil =>
      have:=Mu List.length hd;rw[Mf] at this;simp[oH] at this;omega
     |cons wd r =>
      have hd':all[m]?=some (tx wd.w)/\all.drop (m+1)=oH r:=by
       rw[MK hml] at hd;have hd:all[m]::all.drop (m+1)=tx wd.w::oH r:=hd;injection hd with h1 h2;exact⟨by rw[Ly hml,h1],h2⟩
      obtain⟨hp1,hp2⟩:=hp;have okw:=ok.1.2 _ (LR hd'.1);refine cx (a_ (bc (ag rfl) ha T.cl (no _ (by simp)) iL) (bc (ag rfl) ha T.cl (no _ (by simp)) iI) hw (cj (Ck hd'.1))) ?_;refine⟨_,rfl,a,CW,dx,_,_,rfl,ha,T.cl,no _ (by simp),iI,_,_,rfl,rfl,dx,_,ha,(by show 5 < 1000;decide),?_⟩;rw[ED];refine⟨_,rfl,a,CW,dx,_,_,rfl,ae,T.cl,no _ (by simp),jN,_,rfl,a,CW,dx,_,rfl,ae,T.cl,no _ (by simp),(by show 5 < 1000;decide),?_⟩;rw[zw,cu];refine⟨_,rfl,a,CW,dx,_,_,rfl,ae,T.cl,no _ (by simp),jN,?_⟩;refine (jr (sQ (ag rfl) (by rw[b6,LQ];omega)) aE) _ ⟨_,_,rfl,rfl,dx,_,ae,(by show 5 < 1000;decide),?_⟩;rw[Bb,cu];refine⟨_,rfl,?_⟩;refine q1 wd r rfl _ (aQ.refl a H).upd ⟨dx,wl,all,m+1,np+(tx wd.w).length+1,?_,(aQ.refl a H).upd.seq ha hw,ok,by omega,hd'.2,by rw[il];exact hp2⟩ okw;rw[ae,hp1,b6];have e1:((m:Nat):Int)+1=((m+1:Nat):Int):=by omega
      have e2:((np:Nat):Int)+(((tx wd.w).length:Nat)+1)=((np+(tx wd.w).length+1:Nat):Int):=by omega
      rw[e1,e2]
end
theorem oh {f:Str}:∀{fs:List (Str×V)},¬f∈fs.map (·.1)->fs.lookup f=none
 |[],_=>rfl
 |(g,v)::r,h=>by
  rw[aU (λe=>h (by simp[e]))];exact oh λz=>h (by simp at z ⊢;exact .inr z)
theorem cF {a b c d e:V}{f:Str}(h:¬f∈cq):(bV a b c d e).lookup f=none:=oh h
theorem a7.obj {K:Oc}{C:Addr}{H:Hp}{a:Addr}{e:Nat}{l:List Word}{pl:Nat}(h:a7 K C H a e l pl):∃dx wl m np,H a=some (.ins C dx (bV wl m (.int (pl:Nat)) np (.int (e:Nat)))):=by
 obtain⟨dx,wl,all,m,np,h1,_⟩:=h;exact⟨dx,_,_,_,h1⟩
section
variable {P:Program}{w:World}{K:Oc}{mg:Oe}{base:Heap}
def mT (kn:List String) (w:Word):Prop:=∃s∈kn,tx w.w=cd s
def pE (K:Oc)(CW CF:Addr):Sp:=λvs H Q E=>∃(a t:Addr) (kn:List String) (e:Nat) (l:List Word) (pl:Nat),vs=[.ref a,.ref t]/\a7 K CW H a e l pl/\bZ K H t (kn.map λs=>V.str (Str.ofString s))/\(l=[]->Rz CF E 3 (e:Nat)) /\
 (∀w r,l=w::r->¬mT kn w->Rz CF E 3 (w.at_:Nat))/\(∀w r,l=w::r->mT kn w->∀H',aQ a H H'->a7 K CW H' a e r w.at_->Q (.str (st (tx w.w))) H')
theorem Bt {kn:List String}{w:W}:oa (.str (st w)) (kn.map λs=>V.str (Str.ofString s))=decide (∃s∈kn,w=cd s):=by
 rw[L3,Lw];unfold oa;rw[NN,M0];have key:∀s:String,rW (V.str (Str.ofString s)) (V.str (st w))=true↔w=cd s:=λs=>by
  show (Str.ofString s==st w)=true↔_;rw[Md,kK,js];exact⟨λz=>z.symm,λz=>z.symm⟩
 exact⟨λ⟨s,h1,h2⟩=>⟨s,h1,(key s).mp h2⟩,λ⟨s,h1,h2⟩=>⟨s,h1,(key s).mpr h2⟩⟩
theorem EA (kn:List String):(kn.map λs=>V.str (Str.ofString s)).all dO=true:=by
 rw[Ny,LU];intro _ _;rfl
theorem AL:aI ["self","known","word"] ["self","known"] (ax cv):=fs
theorem HK {CW CF aW:Addr}(B:GB K mg aW)(T:CK K mg "Words" cq CW)(FL:Flt P w K mg base CF){k:Nat}(hk:2<=k)(FT:pQ P w K mg base (eX P w CF) k CW "take" ["self"] (mM K CW CF)){f:Addr}{fd:FuncData}(F:dI K "take_one_of" "Words.take_one_of" cv f fd) :
  bf P w K mg base (eX P w CF) (k+1) f fd ["self","known"] (pE K CW CF):=by
 refine F.zb AL (λvs H Q E h=>?_) (λcdv A outer s H vs Q E hr h=>?_)
 · obtain⟨_,_,_,_,_,_,rfl,_⟩:=h;rfl
 · obtain⟨a,t,kn,e,l,pl,rfl,hW,hT,q0,q1,q2⟩:=h;refine⟨_,af (aN (i:=2) AL.nd rfl (Or.inl rfl) (ka FT T.cl (pv 0) hr (bS aJ rfl rfl)))
    (af (aT (aB ej (pv 2) (pv 1) (by with_unfolding_all rfl)) (ak (fJ FL aJ (hr.mono hk) (aa (bg B.word) (aa (aX (pv 0) rfl) ah)))) aC)
    (ak (aA (pv 2)))),?_⟩
   obtain⟨dx,wl,m,np,ha⟩:=hW.obj;refine⟨_,rfl,a,dx,_,rfl,ha,cF (by decide +kernel),a,e,l,pl,rfl,hW,q0,λwd r hl H1 S1 hW1 okw=>?_⟩;obtain⟨dx1,wl1,m1,np1,ha1⟩:=hW1.obj;refine a6 (aL (lH (ag rfl) (ag rfl) (.inr (S1.tup ha hT)) rfl (EA kn))) (λh=>?_) (λh=>?_)
   · have h:(!oa (.str (st (tx wd.w))) (kn.map λs=>V.str (Str.ofString s)))=true:=h;rw[Bt,Me,L6] at h;exact (bc (ag rfl) ha1 T.cl (T.no _ (by simp)) bP) _ ⟨3,_,rfl,q1 wd r hl h⟩
   · have h:(!oa (.str (st (tx wd.w))) (kn.map λs=>V.str (Str.ofString s)))=false:=h;rw[Bt,Mh,Lw] at h;exact⟨_,rfl,q2 wd r hl h H1 S1 hW1⟩
def CH (K:Oc)(CW CF:Addr):Sp:=λvs H Q E=>∃(a:Addr) (e:Nat) (l:List Word) (pl:Nat),vs=[.ref a]/\a7 K CW H a e l pl/\(∀w r,l=w::r->Rz CF E 3 (w.at_:Nat))/\(l=[]->Q .b8 H)
theorem HL:aI ["self"] ["self"] (ax eQ):=fs
theorem Hy {CW CF aW:Addr}(G:GW mg)(B:GB K mg aW)(T:CK K mg "Words" cq CW)(FL:Flt P w K mg base CF){f:Addr}{fd:FuncData}(F:dI K "finish" "Words.finish" eQ f fd):bf P w K mg base (eX P w CF) 3 f fd ["self"] (CH K CW CF):=by
 refine F.zb HL (λvs H Q E h=>?_) (λcdv A outer s H vs Q E hr h=>?_)
 · obtain⟨_,_,_,_,rfl,_⟩:=h;rfl
 · obtain⟨a,e,l,pl,rfl,⟨dx,wl,all,m,np,ha,hw,ok,hm,hd,hp⟩,q1,q0⟩:=h;refine⟨_,ak (aT (aB nG (aX (pv 0) rfl) (aG az (by rfl) G.len PySem.boot_len (aa (aX (pv 0) rfl) ah)) (aM _)) (ak (fJ FL aJ hr (aa (bg B.word) (aa (aX (pv 0) rfl) ah)))) aC),?_⟩;refine a6 (jy (bc (ag rfl) ha T.cl (T.no _ (by simp)) iI) (aY (bc (ag rfl) ha T.cl (T.no _ (by simp)) iL) (.inl hw))) (λh=>?_) (λh=>?_)
   · rw[dH] at h;have hml:m < all.length:=by have:=LI h;omega
     cases l with
     |nil =>
      have:=Mu List.length hd;rw[Mf] at this;simp[oH] at this;omega
     |cons wd r =>
      refine (bc (ag rfl) ha T.cl (T.no _ (by simp)) jN) _ ⟨3,_,rfl,?_⟩;rw[←hp.1];exact q1 wd r rfl
   · rw[dH] at h;have hml:m=all.length:=by have:=L8 h;omega
     refine q0 ?_;rw[hml,Ng] at hd;cases l with
     |nil=>rfl
     |cons w r=>cases hd
def tD (K:Oc)(CW CF:Addr):Sp:=λvs H Q E=>∃(a:Addr) (u:Nat) (e:Nat) (l:List Word) (pl:Nat),vs=[.ref a,.int (u:Nat)]/\1<=u/\a7 K CW H a e l pl/\(l=[]->Rz CF E 3 (e:Nat)) /\
 (∀w r,l=w::r->¬(1<=ay (tx w.w)/\ay (tx w.w)<=1000000/\ay (tx w.w) % (u:Int)=0)->Rz CF E 4 (w.at_:Nat)) /\
 (∀w r,l=w::r->(1<=ay (tx w.w)/\ay (tx w.w)<=1000000/\ay (tx w.w) % (u:Int)=0)->∀H',aQ a H H'->a7 K CW H' a e r w.at_->Q (.int (ay (tx w.w))) H')
theorem vf:aI ["words","unit","stake"] ["words","unit"] (ax fM):=fs
theorem Bi {CW CF aW:Addr}(B:GB K mg aW)(T:CK K mg "Words" cq CW)(FL:Flt P w K mg base CF){k:Nat}(hk:2<=k)(FT:pQ P w K mg base (eX P w CF) k CW "take" ["self"] (mM K CW CF))(FN:Fn P w K mg base bJ k "number_of" ["word"] kR)
  {f:Addr}{fd:FuncData}(F:dI K "take_stake" "take_stake" fM f fd):bf P w K mg base (eX P w CF) (k+1) f fd ["words","unit"] (tD K CW CF):=by
 refine F.zb vf (λvs H Q E h=>?_) (λcdv A outer s H vs Q E hr h=>?_)
 · obtain⟨_,_,_,_,_,rfl,_⟩:=h;rfl
 · obtain⟨a,u,e,l,pl,rfl,hu1,hW,q0,q1,q2⟩:=h;refine⟨_,af (aN (i:=2) vf.nd rfl (Or.inl rfl) (aZ FN hr bh (aa (ka FT T.cl (pv 0) hr (bS aJ rfl rfl)) ah)))
    (af (aT (PW.pt (d9 (cz (cA cf cf aw (pv 2) (bg B.stake))) (cS (aB qg (bK Ho (pv 2) (pv 1)) aw (aM _))))) (ak (fJ FL aJ (hr.mono hk) (aa (bg B.num) (aa (aX (pv 0) rfl) ah)))) aC)
    (ak (aA (pv 2)))),?_⟩
   obtain⟨dx,wl,m,np,ha⟩:=hW.obj;refine⟨_,rfl,a,dx,_,rfl,ha,cF (by decide +kernel),a,e,l,pl,rfl,hW,q0,λwd r hl H1 S1 hW1 okw=>?_⟩;obtain⟨dx1,wl1,m1,np1,ha1⟩:=hW1.obj;refine⟨tx wd.w,rfl,okw.1,okw.2,?_⟩;refine a6 (gN (fb (cG aE (ag rfl) aE)) λ_=>aL (pA (yZ (ag rfl) (ag rfl) (by show (0:Int) < (u:Int);omega)) aE)) (λh=>?_) (λh=>?_)
   · refine (bc (ag rfl) ha1 T.cl (T.no _ (by simp)) bP) _ ⟨4,_,rfl,q1 wd r hl λz=>?_⟩;rw[bb] at h;simp[z.1,z.2.1,z.2.2] at h
   · rw[bb] at h;simp only[My,Mh,Lv,Lw,Md] at h;exact⟨_,rfl,q2 wd r hl ⟨h.1.1,h.1.2,h.2⟩ H1 S1 hW1⟩
end
theorem a7.put {K:Oc}{C:Addr}{H:Hp}{a p:Addr}{e:Nat}{l:List Word}{pl:Nat}{xs ys:List V}(h:a7 K C H a e l pl)(hp:H p=some (.lst xs))(hn:∀v∈xs,∀s,v≠.str s):a7 K C (upd H p (.lst ys)) a e l pl:=by
 obtain⟨dx,wl,all,m,np,h1,h2,⟨ok,ne⟩,r⟩:=h;have nap:a≠p:=dF h1 hp (by intro z;cases z);refine⟨dx,wl,all,m,np,by rw[aq nap];exact h1,?_,⟨ok,ne⟩,r⟩;rcases h2 with (h2|⟨o,h2⟩)|h2
 · refine .inl (.inl ?_);rw[aq]
   · exact h2
   · rintro rfl;rw[hp] at h2;injection h2 with h2;injection h2 with h2;subst h2;cases all with
     |nil=>exact ne rfl
     |cons w r=>exact hn _ (L_ ..) _ rfl
 · refine .inl (.inr ⟨o,?_⟩);rw[aq (dF h2 hp (by intro z;cases z))];exact h2
 · exact .inr h2
theorem G0 {ns:Ob}:∀v∈nV ns,∀s,v≠V.str s:=λv hv s=>by
 obtain⟨n,_,rfl⟩:=LX.mp hv;intro z;cases z
theorem Em {as:List Addr}:∀v∈as.map V.ref,∀s,v≠V.str s:=λv hv s=>by
 obtain⟨n,_,rfl⟩:=LX.mp hv;intro z;cases z
theorem fX (ns:Ob):(nV ns).all dO=true:=by
 unfold nV;rw[Ny,LU];intro _ _;rfl
theorem nq {ns:Ob}{i:Int}:oa (.int i) (nV ns)=decide (∃n∈ns,i=(n:Int)):=by
 rw[L3,Lw];unfold oa nV;rw[NN,M0];have key:∀n:Nat,rW (V.int (n:Nat)) (V.int i)=true↔i=(n:Int):=λn=>by
  show (((n:Nat):Int)==i)=true↔_;rw[Md];exact⟨λz=>z.symm,λz=>z.symm⟩
 exact⟨λ⟨s,h1,h2⟩=>⟨s,h1,(key s).mp h2⟩,λ⟨s,h1,h2⟩=>⟨s,h1,(key s).mpr h2⟩⟩
theorem Eb {ns:Ob}{x:Nat}(h:ns.getLast?=some x):nN (nV ns) (-1)=some (.int (x:Nat)):=by
 have hne:ns≠[]:=by rintro rfl;cases h
 have hl:0 < ns.length:=Ms.mpr hne;have hx:(nV ns)[ns.length - 1]?=some (.int (x:Nat)):=by
  unfold nV;rw[Ls,←List.getLast?_eq_getElem?,h];rfl
 unfold nN Ec;rw[Lo (by decide),aP,Lp (by omega)];show (nV ns)[_]?=_;rw[←hx];congr 1;omega
theorem yN {t:TT}{σ:L2.St}{H:Hp}{b c:Bool}(h:Tv t σ H b)(e:b=c):Tv t σ H c:=e ▸ h
theorem zz {fld:Ob}{pt:W}:(!decide (∃n∈fld,ay pt=(n:Int)))=!decide (Fits fld [] pt):=by
 congr 1;rw[M_];exact⟨λ⟨n,h1,h2⟩=>⟨n,h2,h1,λ_ z=>by cases z⟩,λ⟨n,h1,h2,_⟩=>⟨n,h2,h1⟩⟩
theorem zy {fld acc:Ob}{pt:W}{x:Nat}(h:acc.getLast?=some x):(!decide (∃n∈fld,ay pt=(n:Int))||(true&&decide (ay pt<=((x:Nat):Int))))=!decide (Fits fld acc pt):=by
 rw[Bool.true_and,L3];simp only[Mo,Me,Lw,L6];constructor
 · rintro (z|z) ⟨n,h1,h2,h3⟩
   · exact z ⟨n,h2,h1⟩
   · have:=h3 x h;omega
 · intro z;by_cases q:∃n∈fld,ay pt=(n:Int)
   · obtain⟨n,h1,h2⟩:=q;refine .inr ?_;by_cases q2:ay pt<=((x:Nat):Int)
     · exact q2
     · exact absurd ⟨n,h2,h1,λy hy=>by rw[h] at hy;injection hy with hy;omega⟩ z
   · exact .inl q
theorem G2:Str.ofString ","=st [44]:=by rw[kK];rfl
section
variable {P:Program}{w:World}{K:Oc}{mg:Oe}{base:Heap}
def vD (K:Oc) (CW CF:Addr):Sp:=λvs H Q E=>∃(a f:Addr) (fd:Ob) (e:Nat) (l:List Word) (pl:Nat),vs=[.ref a,.ref f]/\a7 K CW H a e l pl/\aS K H f (nV fd)/\(∀x∈fd,x<=24) /\
 (∀t,setIn e fd l=.error t->Rz CF E (t.kind:Nat) (t.place:Nat)) /\
 (∀s p r,setIn e fd l=.ok ((s,p),r)->∀H' x,aQ a H H'->H x=none->H' x=some (.lst (nV s))->a7 K CW H' a e r p->Q (.ref x) H')
theorem tO:aI ["words","field","numbers","part","number"] ["words","field"] (ax iM):=fs
theorem Ga {CW CF aW:Addr}(G:GW mg)(B:GB K mg aW)(T:CK K mg "Words" cq CW)(FL:Flt P w K mg base CF){k:Nat}(hk:2<=k)(FT:pQ P w K mg base (eX P w CF) k CW "take" ["self"] (mM K CW CF))(FN:Fn P w K mg base bJ k "number_of" ["word"] kR)
  {f:Addr}{fd:FuncData}(F:dI K "take_set" "take_set" iM f fd):bf P w K mg base (eX P w CF) (k+1) f fd ["words","field"] (vD K CW CF):=by
 refine F.zb tO (λvs H Q E h=>?_) (λcdv A outer s H vs Q E hr h=>?_)
 · obtain⟨_,_,_,_,_,_,rfl,_⟩:=h;rfl
 · obtain⟨a,fa,fld,e,l,pl,rfl,hW,hF,hf24,q0,q1⟩:=h;refine⟨_,af (aN (i:=2) tO.nd rfl (Or.inl rfl) (bU ah))
    (af (cR (yi aJ) rfl (bG (mw (ka FT T.cl (pv 0) hr (bS aJ rfl rfl)) bt)) (aK (i:=3) tO.nd rfl (Or.inl rfl))
     (af (aN (i:=4) tO.nd rfl (Or.inl rfl) (aZ FN hr bh (aa (pv 3) ah)))
     (af (aT (PW.pt (d9 (aB ej (pv 4) (pv 1) (by with_unfolding_all rfl)) (cS (PW.pt (t8 (aB kN (aG az (by rfl) G.len PySem.boot_len (aa (pv 2) ah)) aw (aM _)) (oE (aB cf (pv 4) (bq aR (pv 2) (u5 pG aw) (λ_ _=>rfl)) (aM _)))))))) (ak (fJ FL aJ (hr.mono hk) (aa (bg B.num) (aa (aX (pv 0) rfl) ah)))) aC)
     (ak (cZ (lJ PySem.F.plainAttrs_list PySem.F.slot_list_append PySem.F.type_list_append gd (pv 2) (aa (pv 4) ah)))))))
    (ak (aA (pv 2)))),?_⟩
   refine⟨LV _,λp hp=>?_⟩;have S0:au H (upd H p (.lst [])):=(au.refl H).laid hp;have hW0:=hW.same S0;obtain⟨dx,wl,m,np,ha⟩:=hW0.obj;refine⟨_,rfl,a,dx,_,rfl,ha,cF (by decide +kernel),a,e,l,pl,rfl,hW0,λz=>?_,λwd r hl H1 S1 hW1 okw=>?_⟩
   · subst z;exact q0 _ zL
   subst hl;rw[pI hf24] at q0 q1;refine⟨⟨_,rfl⟩,_,_,rfl,rfl,by decide +kernel,by rw[b6,LQ];have:=okw.1;omega,λsl hsl=>?_⟩;rw[G2,mx (by decide)];have nap:a≠p:=ao (hW.obj.choose_spec.choose_spec.choose_spec.choose_spec) hp;have e1:H1 p=some (.lst []):=S1 p _ ae nap.symm;have nsp:sl≠p:=by
    rintro rfl;rw[e1] at hsl;cases hsl
   have SX1:aQ a H H1:=S0.x.trans S1;have hslH:H sl=none:=SX1.free hsl (by
    rintro rfl;rw[hW1.obj.choose_spec.choose_spec.choose_spec.choose_spec] at hsl;cases hsl)
   have eP:List.map (λx=>V.str x) (List.map st (a8 44 [] (tx wd.w)))=sV (a8 44 [] (tx wd.w)):=by
    unfold sV;rw[LP];rfl
   rw[eP];unfold setM at q0 q1;have hpl:(a8 44 [] (tx wd.w)).length<=70001:=by
    have:=fh 44 (tx wd.w) [];have:=okw.1;omega
   have hpo:∀v∈a8 44 [] (tx wd.w),v.length<=70000/\∀c∈v,c < 128:=λv hv=>by
    obtain⟨z1,z2⟩:=dY 44 (tx wd.w) [] v hv;refine⟨by simp at z1;have:=okw.1;omega,λc hc=>?_⟩;rcases z2 c hc with z|z
    · cases z
    · exact okw.2 c z
   generalize a8 44 [] (tx wd.w)=ps at q0 q1 hpl hpo;obtain⟨dh,wh,mh,nh,hah⟩:=hW.obj;refine⟨sl,rfl,⟨_,aS.of ae⟩,cN (K:=K) (a:=sl) (xs:=sV ps) (λi σ H'=>∃(v3 v4:Option V) (acc:Ob),σ=[some (.ref a),some (.ref fa),some (.ref p),v3,v4]/\aQ a H H'/\a7 K CW H' a e r wd.at_ /\
     H' p=some (.lst (nV acc))/\H' sl=some (.lst (sV ps))/\acc.length<=i/\i<=ps.length/\jn fld (ps.drop i) acc=jn fld ps [])
    ⟨none,none,[],rfl,SX1.laid hslH,hW1.same ((au.refl H1).laid hsl),by rw[aq nsp.symm];exact e1,ae,Lx _,LV _,rfl⟩ (λi σ H' _ ⟨_,_,_,_,_,_,_,z,_⟩=>aS.of z) ?_ ?_⟩
   · rintro i x σ H' hi ⟨v3,v4,acc,rfl,SX,hW',e2,e3,hal,hil,hc⟩;have hil:i < ps.length:=by
      have:=(LB.mp hi).1
      rwa [dH] at this
     have hx:x=.str (st ps[i]):=by
      rw[Ck (Ly hil)] at hi;exact (L1 hi).symm
     subst hx;have okp:=hpo ps[i] (Nf hil);rw[MK hil] at hc;generalize ps[i]=pt at hc okp;have hc:(if Fits fld acc pt then jn fld (ps.drop (i+1)) (acc++[(ay pt).toNat]) else none)=jn fld ps []:=hc;obtain⟨dx',wl',m',np',ha'⟩:=hW'.obj;refine cx (gD (wd:=pt) (ag rfl) okp) ?_;have hF':=SX.seq hah hF;have fail:¬Fits fld acc pt->Rz CF E 4 (wd.at_:Nat):=λz=>by
      rw[Lo z] at hc;rw[←hc] at q0;exact q0 _ rfl
     dsimp only;refine a6 (b:=!decide (Fits fld acc pt)) ?_ (λh=>?_) (λh=>?_)
     · cases hl:acc.getLast? with
       |none =>
        have:acc=[]:=by simpa using hl
        subst this;refine yN (gN (aL (lH (ag rfl) (ag rfl) (.inl hF') rfl (fX fld))) λ_=>oR (c:=false) (jy (aY (ag rfl) (.inl (aS.of e2))) aE) λz=>absurd z (by decide)) ?_;rw[Bool.and_false,ND,←zz,←nq];rfl
       |some y =>
        have hne:0 < acc.length:=by
         cases acc with
         |nil=>cases hl
         |cons _ _=>exact Nat.succ_pos _
        refine yN (gN (aL (lH (ag rfl) (ag rfl) (.inl hF') rfl (fX fld))) λ_=>oR (jy (aY (ag rfl) (.inl (aS.of e2))) aE) λz=>jy (ag rfl) (a_ (ag rfl) (tj aE) (aS.of e2) (Eb hl))) ?_;rw[←zy hl,←nq,aP];rw[show decide ((acc.length:Int) > 0)=true from L4 (by omega)];rfl
     · exact (bc (ag rfl) ha' T.cl (T.no _ (by simp)) bP) _ ⟨4,_,rfl,fail (by simpa using h)⟩
     · have hfit:Fits fld acc pt:=by simpa using h
       rw[Lp hfit] at hc;obtain⟨n,hn,_⟩:=hfit;have en:(ay pt).toNat=n:=by omega
       rw[en] at hc;have eA:nV acc++[V.int (n:Nat)]=nV (acc++[n]):=by
        unfold nV;rw[LH];rfl
       rw[hn];refine⟨_,rfl,.inl ⟨rfl,_,aS.of e2⟩,_,rfl,p,_,_,rfl,rfl,e2,by rw[aP,LQ];omega,?_⟩;rw[eA];exact⟨_,_,acc++[n],rfl,SX.laid hp,hW'.put e2 G0,ae,by rw[aq nsp];exact e3,by rw[LK];simp;omega,hil,hc⟩
   · rintro σ H' ⟨v3,v4,acc,rfl,SX,hW',e2,e3,hal,hil,hc⟩;rw[dH,Ng] at hc;have hc:some acc=jn fld ps []:=hc;rw[←hc] at q1;exact⟨_,rfl,q1 _ _ _ rfl _ _ SX hp e2 hW'⟩
end
theorem jv {C:Addr}{E:XK}{tp:TE}{D:Ends}{σ:L2.St}{H:Hp}{k p:Int}(h:Ev tp σ H (.int p))(q:Rz C E k p):J4 C E (cM (tC (.int k)) (cM tp fe)) D σ H:=h _ ⟨k,p,rfl,q⟩
section
variable {P:Program}{w:World}{K:Oc}{mg:Oe}{base:Heap}
theorem lT {CW CF:Addr} {H:Hp} {Q:VK} {E:XK} {a t:Addr} {e:Nat} {l:List Word} {pl:Nat} {s:String} (hp:plainT s=true) (hW:a7 K CW H a e l pl) (hT:bZ K H t [V.str (Str.ofString s)]) (q0:∀x,must e s l=.error x->Rz CF E (x.kind:Nat) (x.place:Nat))
  (q1:∀r,must e s l=.ok r->∀H' v pl',aQ a H H'->a7 K CW H' a e r pl'->Q v H'):pE K CW CF [.ref a,.ref t] H Q E:=by
 have one:∀wd:Word,mT [s] wd↔wd.w=ascii s:=λwd=>by
  rw[←bp _ hp];unfold mT;exact⟨λ⟨x,h1,h2⟩=>by rw[LC] at h1;subst h1;exact h2,λh=>⟨s,List.mem_singleton_self s,h⟩⟩
 refine⟨a,t,[s],e,l,pl,rfl,hW,hT,λz=>?_,λwd r hl hn=>?_,λwd r hl ho H' S h'=>?_⟩
 · subst z;exact q0 _ Cn
 · subst hl;refine q0 ⟨3,wd.at_⟩ ?_;rw[sf,Lo (λz=>hn ((one wd).mpr z))]
 · subst hl;refine q1 r ?_ H' _ _ S h';rw[sf,Lp ((one wd).mp ho)]
def C4 (K:Oc)(CW CF:Addr)(a:Addr)(e:Nat)(H:Hp)(Q:VK)(E:XK)(x:Got):Prop:=(∀t,x=.error t->Rz CF E (t.kind:Nat) (t.place:Nat)) /\
 ∀s r,x=.ok (s,r)->∀H' y pl,aQ a H H'->lG H' y s->a7 K CW H' a e r pl->Q (.ref y) H'
def BI (K:Oc)(CW CF:Addr):Sp:=λvs H Q E=>∃(a f:Addr) (fd:Ob) (k e:Nat) (l:List Word) (pl:Nat),vs=[.ref a,.ref f,.int (k:Nat)]/\a7 K CW H a e l pl/\aS K H f (nV fd)/\(∀x∈fd,x<=24)/\C4 K CW CF a e H Q E (wM e k fd l)
theorem Bn:aI ["words","field","size","numbers"] ["words","field","size"] (ax ja):=fs
theorem Gj {CW CF aW:Addr}(G:GW mg)(B:GB K mg aW)(T:CK K mg "Words" cq CW)(FL:Flt P w K mg base CF){k:Nat}(hk:2<=k)(FS:Fn P w K mg base (eX P w CF) k "take_set" ["words","field"] (vD K CW CF))
  {f:Addr}{fd:FuncData}(F:dI K "take_box" "take_box" ja f fd):bf P w K mg base (eX P w CF) (k+1) f fd ["words","field","size"] (BI K CW CF):=by
 refine F.zb Bn (λvs H Q E h=>?_) (λcdv A outer s H vs Q E hr h=>?_)
 · obtain⟨_,_,_,_,_,_,_,rfl,_⟩:=h;rfl
 · obtain⟨a,fa,fld,sz,e,l,pl,rfl,hW,hF,hf24,q0,q1⟩:=h;refine⟨_,af (aN (i:=3) Bn.nd rfl (Or.inl rfl) (aZ FS hr (bS aJ rfl rfl) (aa (pv 0) (aa (pv 1) ah))))
    (af (aT (aB nG (aG az (by rfl) G.len PySem.boot_len (aa (pv 3) ah)) (pv 2) (aM _)) (ak (fJ FL aJ (hr.mono hk) (aa (bg B.num) (aa (aX (pv 0) rfl) ah)))) aC)
    (ak (aA (bU (aa (pv 3) ah))))),?_⟩
   unfold wM at q0 q1;refine⟨_,rfl,_,rfl,a,fa,fld,e,l,pl,rfl,hW,hF,hf24,λt ht=>?_,λst p r hst H1 x S1 hx hx1 hW1=>?_⟩
   · rw[ht] at q0;exact q0 _ rfl
   rw[hst] at q0 q1;obtain⟨dx1,wl1,m1,np1,ha1⟩:=hW1.obj;obtain⟨_,_,wd,_,hpl,_⟩:=di hf24 hst;refine a6 (jy (aY (ag rfl) (.inl (aS.of hx1))) (ag rfl)) (λh=>?_) (λh=>?_)
   · rw[aP] at h;have h:=LI h;have q0:=q0 ⟨4,p⟩ (by show (if sz<=st.length then _ else _)=_;rw[Lo (by omega)]);exact (bc (ag rfl) ha1 T.cl (T.no _ (by simp)) bP) _ ⟨4,_,rfl,q0⟩
   · rw[aP] at h;have h:=L8 h;have q1:=q1 [st] r (by show (if sz<=st.length then _ else _)=_;rw[Lp (by omega)]);refine⟨_,rfl,(by show 1<=sizeLine;decide),λy hy=>q1 _ y p (λb u z n=>?_) ⟨[x],ae,.cons ?_ .nil⟩ (hW1.same ((au.refl H1).laid hy))⟩
     · have:=S1 b u z n;rw[aq (ao this hy)];exact this
     · rw[aq (ao hx1 hy)];exact hx1
theorem bL.JE {fd s:Ob}(g:bL fd s)(h:∀x∈fd,x<=24):s.length<=25:=by
 have:=h_ (m:=List.range 25) g.rise.nodup λx hx=>Nb.mpr (by have:=h x (g.sub x hx);omega);simpa using this
def BK (K:Oc)(CW CF:Addr):Sp:=λvs H Q E=>∃(a f:Addr) (fd:Ob) (k e:Nat) (l:List Word) (pl:Nat),vs=[.ref a,.ref f,.int (k:Nat)]/\a7 K CW H a e l pl/\aS K H f (nV fd)/\(∀x∈fd,x<=24)/\C4 K CW CF a e H Q E (wR e k fd l)
theorem o5:aI ["words","field","size","bankers","others","number"] ["words","field","size"] (ax iP):=fs
theorem GZ {CW CF aW:Addr}(G:GW mg)(B:GB K mg aW)(T:CK K mg "Words" cq CW)(FL:Flt P w K mg base CF){k:Nat}(hk:2<=k)(FS:Fn P w K mg base (eX P w CF) k "take_set" ["words","field"] (vD K CW CF))(FO:pQ P w K mg base (eX P w CF) k CW "take_one_of" ["self","known"] (pE K CW CF))
  {f:Addr}{fd:FuncData}(F:dI K "take_key" "take_key" iP f fd):bf P w K mg base (eX P w CF) (k+1) f fd ["words","field","size"] (BK K CW CF):=by
 refine F.zb o5 (λvs H Q E h=>?_) (λcdv A outer s H vs Q E hr h=>?_)
 · obtain⟨_,_,_,_,_,_,_,rfl,_⟩:=h;rfl
 · obtain⟨a,fa,fld,sz,e,l,pl,rfl,hW,hF,hf24,q0,q1⟩:=h;refine⟨_,af (aN (i:=3) o5.nd rfl (Or.inr rfl) (aZ FS hr (bS aJ rfl rfl) (aa (pv 0) (aa (pv 1) ah))))
    (af (aT (aB kN (aG az (by rfl) G.len PySem.boot_len (aa (pv 3) ah)) (bK fF (pv 2) aw) (aM _)) (ak (fJ FL aJ (hr.mono hk) (aa (bg B.num) (aa (aX (pv 0) rfl) ah)))) aC)
    (af (cZ (la FO T.cl (pv 0) hr (bS aJ rfl rfl) (aa (dk (aa bt ah)) ah)))
    (af (aN (i:=4) o5.nd rfl (Or.inl rfl) (aZ FS hr (bS aJ rfl rfl) (aa (pv 0) (aa (pv 1) ah))))
    (af (aT (PW.pt (d9 (hU (aG (CU rfl) (by rfl) B.any (by decide +kernel) (aa (fC (te:=kG (Gx K false) (cH 5) (cH 3)) rfl o5.nd (bG (pv 4)) (bA (own:=[("number",5)]) rfl) (λ_ _ _ _ _=>aK (i:=5) o5.nd rfl (Or.inl rfl)) (λ_ _ _ _ _=>cn)
      (λ_ _ _ _ _=>fm gc (pv 5) (pv 3) (by with_unfolding_all rfl))) ah)))
      (cS (aB nG (bK d_ (aG az (by rfl) G.len PySem.boot_len (aa (pv 3) ah)) (aG az (by rfl) G.len PySem.boot_len (aa (pv 4) ah))) (pv 2) (aM _))))) (ak (fJ FL aJ (hr.mono hk) (aa (bg B.num) (aa (aX (pv 0) rfl) ah)))) aC)
    (ak (aA (bU (aa (pv 3) (aa (pv 4) ah))))))))),?_⟩
   unfold wR at q0 q1;obtain⟨d0,w0,m0,n0,ha0⟩:=hW.obj;refine⟨_,rfl,_,rfl,a,fa,fld,e,l,pl,rfl,hW,hF,hf24,λt ht=>?_,λsa p r hsa H1 x S1 hx hx1 hW1=>?_⟩
   · rw[ht] at q0;exact q0 _ rfl
   rw[hsa] at q0 q1;obtain⟨dx1,wl1,m1,np1,ha1⟩:=hW1.obj;obtain⟨ga,_⟩:=di hf24 hsa;have q0:∀t,rZ e sz fld sa p r=.error t->Rz CF E (t.kind:Nat) (t.place:Nat):=q0;have q1:∀s u,rZ e sz fld sa p r=.ok (s,u)->_:=q1;unfold rZ at q0 q1;have nxa:x≠a:=(ao ha0 hx).symm;refine a6 (jy (aY (ag rfl) (.inl (aS.of hx1))) (qm (ag rfl) aE)) (λh=>?_) (λh=>?_)
   · rw[aP] at h;have h:=LI h;rw[Lo (by omega)] at q0;exact (bc (ag rfl) ha1 T.cl (T.no _ (by simp)) bP) _ ⟨4,_,rfl,q0 _ rfl⟩
   rw[aP] at h;have h:=L8 h;rw[Lp (by omega)] at q0 q1;refine⟨_,rfl,a,dx1,_,rfl,ha1,cF (by decide +kernel),(by show 1<=sizeLine;decide),λt ht=>?_⟩;have St:au H1 (upd H1 t (.tup [V.str (Str.ofString "with")])):=(au.refl H1).laid ht;show fe _ _ _;unfold fe;dsimp only [Mq];refine lT (s:="with") (by decide +kernel) (hW1.same St) (bZ.of ae) (λy hy=>?_) (λm hm H2 v pl2 S2 hW2=>?_)
   · rw[hy] at q0;exact q0 _ rfl
   rw[hm] at q0 q1;have q0:∀t,sA e sz fld sa m=.error t->Rz CF E (t.kind:Nat) (t.place:Nat):=q0;have q1:∀s u,sA e sz fld sa m=.ok (s,u)->_:=q1;unfold sA at q0 q1;have S02:aQ a H H2:=(S1.trans St.x).trans S2;have hx2:H2 x=some (.lst (nV sa)):=S2 _ _ (St _ _ hx1) nxa;refine⟨_,rfl,_,rfl,a,fa,fld,e,m,pl2,rfl,hW2,S02.seq ha0 hF,hf24,λt ht=>?_,λsb p2 r2 hsb H3 y S3 hy hy3 hW3=>?_⟩
   · rw[ht] at q0;exact q0 _ rfl
   rw[hsb] at q0 q1;have q0:∀t,(if (∀x∈sb,¬x∈sa)/\sz<=sa.length+sb.length then (Except.ok ([sa,sb],r2):Got) else .error ⟨4,p2⟩)=.error t->Rz CF E (t.kind:Nat) (t.place:Nat):=q0;have q1:∀s u,(if (∀x∈sb,¬x∈sa)/\sz<=sa.length+sb.length then (Except.ok ([sa,sb],r2):Got) else .error ⟨4,p2⟩)=.ok (s,u)->_:=q1;obtain⟨gb,_⟩:=di hf24 hsb;have hx3:H3 x=some (.lst (nV sa)):=S3 _ _ hx2 nxa;have S03:aQ a H H3:=S02.trans S3;obtain⟨dx3,wl3,m3,np3,ha3⟩:=hW3.obj;have lb:sb.length<=25:=gb.JE hf24;refine⟨_,rfl,y,rfl,⟨_,aS.of hy3⟩,λD hD=>jd (K:=K) (a:=y) (xs:=nV sb) (λi H'=>au H3 H'/\H' D=some (.lst ((sb.take i).map λn=>V.bl (decide (n∈sa))))) ⟨(au.refl H3).laid hD,ae⟩ (λi H' _ h=>aS.of (h.1 _ _ hy3)) ?_ ?_⟩
   · rintro i v H' hi ⟨k1,k2⟩;obtain⟨n,hn,rfl⟩:∃n,sb[i]?=some n/\V.int (n:Nat)=v:=by
      unfold nV at hi;rw[Ls] at hi;exact LZ.mp hi
     refine⟨rfl,?_⟩;refine (lH (neg:=false) (ag rfl) (ag rfl) (.inl (aS.of (k1 _ _ hx3))) rfl (fX sa)) _ ⟨_,k2,?_,?_⟩
     · rw[Ln,LM,LQ];omega
     · refine⟨λb u z=>?_,?_⟩
       · rw[aq (ao z hD)];exact k1 b u z
       · have e1:oa (V.int (n:Nat)) (nV sa)=decide (n∈sa):=by
          rw[nq,M_]
          exact⟨λ⟨m,h1,h2⟩=>by have:n=m:=by omega
                               subst this;exact h1,λh=>⟨n,h,rfl⟩⟩
         rw[ae,take_snoc hn,LH];show some (HO.lst (_++[V.bl (oa (V.int (n:Nat)) (nV sa))]))=_;rw[e1];rfl
   · rintro H' ⟨k1,k2⟩;have k2:H' D=some (.lst ((sb.take (nV sb).length).map λn=>V.bl (decide (n∈sa)))):=k2;rw[aP,Ml] at k2;refine⟨D,sb.map λn=>decide (n∈sa),rfl,aS.of (by rw[k2,LP];rfl),_,rfl,?_⟩;have eA:((sb.map λn=>decide (n∈sa)).any id)=!decide (∀x∈sb,¬x∈sa):=by
      rw[L3,NN];simp
     rw[eA];have hx4:=k1 _ _ hx3;have hy4:=k1 _ _ hy3;have ha4:=k1 _ _ ha3;have hW4:=hW3.same k1;refine gH (λh=>?_) (λh=>?_)
     · have h:¬∀x∈sb,¬x∈sa:=by simpa using h
       rw[Lo (λz=>h z.1)] at q0;refine n8 ?_;exact jv (bc (ag rfl) ha4 T.cl (T.no _ (by simp)) bP) (q0 _ rfl)
     · have hall:∀x∈sb,¬x∈sa:=by simpa using h
       refine a6 (jy (jr (aY (ag rfl) (.inl (aS.of hx4))) (aY (ag rfl) (.inl (aS.of hy4)))) (ag rfl)) (λh=>?_) (λh=>?_)
       · rw[aP,aP] at h;have h:=LI h;rw[Lo (λz=>by have:=z.2;omega)] at q0;exact jv (bc (ag rfl) ha4 T.cl (T.no _ (by simp)) bP) (q0 _ rfl)
       · rw[aP,aP] at h;have h:=L8 h;rw[Lp ⟨hall,by omega⟩] at q1;refine⟨_,rfl,_,rfl,(by show 2<=sizeLine;decide),λu hu=>q1 _ _ rfl _ u p2 (λb o z n=>?_) ⟨[x,y],ae,.cons ?_ (.cons ?_ .nil)⟩ (hW4.same ((au.refl H').laid hu))⟩
         · have:=k1 b o (S03 b o z n);rw[aq (ao this hu)];exact this
         · rw[aq (ao hx4 hu)];exact hx4
         · rw[aq (ao hy4 hu)];exact hy4
end
theorem zx {e:Nat}{h:Ob}{t acc:Oa}{l:List Word}:jo e (h::t) acc l=match (if 0 < acc.length then must e "/" l else .ok l) with
  |.error x=>.error x
  |.ok m=>match setIn e h m with
   |.error x=>.error x
   |.ok s=>jo e t (acc++[s.1.1]) s.2:=rfl
section
variable {P:Program}{w:World}{K:Oc}{mg:Oe}{base:Heap}
def HP (K:Oc) (CW CF:Addr):Sp:=λvs H Q E=>∃(a f:Addr) (fs:Oa) (e:Nat) (l:List Word) (pl:Nat),vs=[.ref a,.ref f]/\a7 K CW H a e l pl/\bE K H f fs/\fs.length<=24/\(∀fd∈fs,∀x∈fd,x<=24)/\C4 K CW CF a e H Q E (jo e fs [] l)
theorem B8:aI ["words","fields","sets","field"] ["words","fields"] (ax jY):=fs
theorem Jn {CW CF aW:Addr}(G:GW mg)(B:GB K mg aW)(T:CK K mg "Words" cq CW)(FL:Flt P w K mg base CF){k:Nat}(hk:2<=k)(FS:Fn P w K mg base (eX P w CF) k "take_set" ["words","field"] (vD K CW CF))(FO:pQ P w K mg base (eX P w CF) k CW "take_one_of" ["self","known"] (pE K CW CF))
  {f:Addr}{fd:FuncData}(F:dI K "take_on" "take_on" jY f fd):bf P w K mg base (eX P w CF) (k+1) f fd ["words","fields"] (HP K CW CF):=by
 refine F.zb B8 (λvs H Q E h=>?_) (λcdv A outer s H vs Q E hr h=>?_)
 · obtain⟨_,_,_,_,_,_,rfl,_⟩:=h;rfl
 · obtain⟨a,fa,fs,e,l,pl,rfl,hW,⟨fas,hFa,hFp⟩,hfl,hf24,q0,q1⟩:=h;refine⟨_,af (aN (i:=2) B8.nd rfl (Or.inl rfl) (bU ah))
    (af (cR (yi aJ) rfl (bG (pv 1)) (aK (i:=3) B8.nd rfl (Or.inl rfl))
     (af (aT (aB kN (aG az (by rfl) G.len PySem.boot_len (aa (pv 2) ah)) aw (aM _)) (ak (cZ (la FO T.cl (pv 0) hr (bS aJ rfl rfl) (aa (dk (aa bt ah)) ah)))) aC)
     (ak (cZ (lJ PySem.F.plainAttrs_list PySem.F.slot_list_append PySem.F.type_list_append gd (pv 2) (aa (aZ FS hr (bS aJ rfl rfl) (aa (pv 0) (aa (pv 3) ah))) ah))))))
    (ak (aA (pv 2)))),?_⟩
   obtain⟨d0,w0,m0,n0,ha0⟩:=hW.obj;have lenF:fas.length=fs.length:=Paired.length hFp;refine⟨LV _,λp hp=>?_⟩;have S0:au H (upd H p (.lst [])):=(au.refl H).laid hp;have npa:a≠p:=ao ha0 hp;refine⟨_,rfl,fa,rfl,⟨_,S0.seq hFa⟩,cN (K:=K) (a:=fa) (xs:=fas.map V.ref) (λi σ H'=>∃(v3:Option V) (acc:Oa) (sas:List Addr) (l':List Word) (pl':Nat),σ=[some (.ref a),some (.ref fa),some (.ref p),v3]/\aQ a H H'/\a7 K CW H' a e l' pl' /\
     H' p=some (.lst (sas.map V.ref))/\Paired (λb ns=>b≠p/\H' b=some (.lst (nV ns))) sas acc/\acc.length=i/\i<=fs.length/\jo e (fs.drop i) acc l'=jo e fs [] l)
    ⟨none,[],[],l,pl,rfl,S0.x,hW.same S0,ae,.nil,rfl,LV _,rfl⟩ (λi σ H' _ ⟨_,_,_,_,_,_,SX,_⟩=>SX.seq ha0 hFa) ?_ ?_⟩
   · rintro i x σ H' hi ⟨v3,acc,sas,l',pl',rfl,SX,hW',e2,hP,hal,hil,hc⟩;rw[Ls] at hi;obtain⟨fi,hfi,rfl⟩:=LZ.mp hi;obtain⟨fl,hfl2,hFi⟩:=Paired.qG hFp hfi;have hil:i < fs.length:=(LB.mp hfl2).1;have hd:fs.drop i=fl::fs.drop (i+1):=by
      rw[MK hil];congr 1;exact L1 ((Ly hil).symm.trans hfl2)
     rw[hd,zx] at hc;have f24:=hf24 fl (LR hfl2);obtain⟨d1,w1,m1,n1,ha1⟩:=hW'.obj;have lenP:sas.length=acc.length:=Paired.length hP;dsimp only;refine a6 (b:=decide (0 < acc.length)) (yN (jy (aY (ag rfl) (.inl (aS.of e2))) aE) ?_) (λh=>?goA) (λh=>?goB)
     · rw[Ln,lenP,M_];omega
     case' goA =>
      have h:=LI h;rw[Lp h] at hc;refine⟨_,rfl,a,d1,_,rfl,ha1,cF (by decide +kernel),(by show 1<=sizeLine;decide),λt ht=>?_⟩;have St:au H' (upd H' t (.tup [V.str (Str.ofString "/")])):=(au.refl H').laid ht;show fe _ _ _;unfold fe;dsimp only [Mq];refine lT (s:="/") (by decide +kernel) (hW'.same St) (bZ.of ae) (λy hy=>?_) (λm hm H2 v pl2 S2 hW2=>?_)
      · rw[hy] at hc;exact q0 _ hc.symm
      rw[hm] at hc;have SX2:aQ a H H2:=(SX.trans St.x).trans S2;have e22:H2 p=some (.lst (sas.map V.ref)):=S2 _ _ (St _ _ e2) npa.symm;have hP2:Paired (λb ns=>b≠p/\H2 b=some (.lst (nV ns))) sas acc:=Paired.d8 hP λb ns z=>⟨z.1,S2 _ _ (St _ _ z.2) (dF z.2 ha1 (by intro q;cases q))⟩;clear e2 hP hW' ha1 St S2 SX
     case' goB =>
      have h:=L8 h;rw[Lo h] at hc;obtain⟨H2,hH2⟩:∃H2,H2=H':=⟨_,rfl⟩;obtain⟨m,hm⟩:∃m,m=l':=⟨_,rfl⟩;obtain⟨pl2,hpl2⟩:∃m,m=pl':=⟨_,rfl⟩;rw[←hm] at hc hW';rw[←hpl2] at hW';rw[←hH2] at hW' e2 hP SX;rw[←hH2];have hW2:=hW';have SX2:=SX;have e22:=e2;have hP2:=hP
     all_goals
      dsimp only at hc;obtain⟨d2,w2,m2,n2,ha2⟩:=hW2.obj;refine⟨_,rfl,.inl ⟨rfl,_,aS.of e22⟩,?_⟩;refine⟨_,rfl,_,rfl,a,fi,fl,e,m,pl2,rfl,hW2,SX2.seq ha0 hFi,f24,λt ht=>?_,λst q r hst H3 x S3 hx hx3 hW3=>?_⟩
      · rw[ht] at hc;exact q0 _ hc.symm
      rw[hst] at hc;dsimp only at hc;have nxp:x≠p:=(ao e22 hx).symm;have e3:H3 p=some (.lst (sas.map V.ref)):=S3 _ _ e22 npa.symm;refine⟨p,_,_,rfl,rfl,e3,by rw[Ln,LQ];omega,?_⟩;refine⟨_,acc++[st],sas++[x],r,q,rfl,(SX2.trans S3).laid hp,hW3.put e3 Em,?_,?_,by simp[hal],hil,hc⟩
      · rw[ae,LH];rfl
      · refine Paired.snoc (Paired.d8 hP2 λb ns z=>⟨z.1,?_⟩) ⟨nxp,by rw[aq nxp];exact hx3⟩;rw[aq z.1];exact S3 _ _ z.2 (dF z.2 ha2 (by intro q;cases q))
   · rintro σ H' ⟨v3,acc,sas,l',pl',rfl,SX,hW',e2,hP,hal,hil,hc⟩;rw[Ln,lenF,Ng] at hc;exact⟨_,rfl,q1 _ _ hc.symm _ _ pl' SX ⟨sas,e2,Paired.d8 hP λb ns z=>z.2⟩ hW'⟩
end
section
variable {P:Program}{w:World}{K:Oc}{mg:Oe}{base:Heap}
theorem Ew {H:Hp} {fa:Addr} {p:aO} (o:Dg p) (h:bE K H fa p.fields):∃(as:List Addr) (b:Addr),aS K H fa (as.map V.ref)/\as.length=p.fields.length/\nN (as.map V.ref) 0=some (V.ref b)/\aS K H b (nV (p.fields.getD 0 []))/\∀x∈p.fields.getD 0 [],x<=24:=by
 obtain⟨as,h1,h2⟩:=h;have hl:0 < p.fields.length:=Ms.mpr o.ne;obtain⟨b,hb,hI⟩:=Paired.at2 h2 (Ly hl);have eg:p.fields.getD 0 []=p.fields[0]:=by rw[L7,Ly hl];rfl
 refine⟨as,b,h1,Paired.length h2,?_,by rw[eg];exact hI,by rw[eg];exact o.hi _ (Nf hl)⟩;exact cj (j:=0) (by rw[Ls,hb];rfl)
def v9 (K:Oc)(CW CF CP:Addr):Sp:=λvs H Q E=>∃(a b:Addr) (p:aO) (how e:Nat) (l:List Word) (pl:Nat),vs=[.ref a,.ref b,.int (how:Nat)]/\a7 K CW H a e l pl/\dj K CP H b p/\Dg p/\C4 K CW CF a e H Q E (fz e p how l)
theorem yY:aI ["words","pool","how","size"] ["words","pool","how"] (ax gM):=fs
theorem EC {CW CF CP aW:Addr}(G:GW mg)(B:GB K mg aW)(TP:CK K mg "Pool" hZ CP){k:Nat}(FO:Fn P w K mg base (eX P w CF) k "take_on" ["words","fields"] (HP K CW CF))(FB:Fn P w K mg base (eX P w CF) k "take_box" ["words","field","size"] (BI K CW CF))(FK:Fn P w K mg base (eX P w CF) k "take_key" ["words","field","size"] (BK K CW CF))
  {f:Addr}{fd:FuncData}(F:dI K "take_sets" "take_sets" gM f fd):bf P w K mg base (eX P w CF) (k+1) f fd ["words","pool","how"] (v9 K CW CF CP):=by
 refine F.zb yY (λvs H Q E h=>?_) (λcdv A outer s H vs Q E hr h=>?_)
 · obtain⟨_,_,_,_,_,_,_,rfl,_⟩:=h;rfl
 · obtain⟨a,b,p,how,e,l,pl,rfl,hW,⟨dx,fa,hb,hF⟩,o,g⟩:=h;refine⟨_,af (aT (aB cg (pv 2) (bg B.on) (aM _)) (ak (aA (aZ FO hr (bS aJ rfl rfl) (aa (pv 0) (aa (aX (pv 1) rfl) ah))))) aC)
    (af (aN (i:=3) yY.nd rfl (Or.inl rfl) (aG az (by rfl) G.len PySem.boot_len (aa (aX (pv 1) rfl) ah)))
    (af (aT (aB cg (pv 2) (bg B.box) (aM _)) (ak (aA (aZ FB hr (bS aJ rfl rfl) (aa (pv 0) (aa (bq aR (aX (pv 1) rfl) aw (λ_ _=>rfl)) (aa (pv 3) ah)))))) aC)
    (ak (aA (aZ FK hr (bS aJ rfl rfl) (aa (pv 0) (aa (bq aR (aX (pv 1) rfl) aw (λ_ _=>rfl)) (aa (pv 3) ah)))))))),?_⟩
   unfold fz at g;obtain⟨as,b0,h1,h2,h3,h4,h5⟩:=Ew o hF;have evF:∀{σ:L2.St},σ[1]?=some (some (V.ref b))->Ev (uZ K (cH 1) "fields") σ H (.ref fa):=λz=>bc (ag z) hb TP.cl (TP.no _ (by simp)) mK;refine a6 (aL (b9 (ag rfl) aE)) (λh=>?_) (λh=>?_)
   · rw[bb] at h;have h:how=0:=by have:=MR h;omega
     rw[Lp h] at g;refine⟨_,rfl,evF rfl _ ⟨a,fa,p.fields,e,l,pl,rfl,hW,hF,o.len,o.hi,g⟩⟩
   · rw[bb] at h;have h:¬how=0:=λz=>by rw[z] at h;cases h
     rw[Lo h] at g;refine cx (aY (evF rfl) (.inl h1)) ?_;rw[Ln,h2];refine a6 (aL (b9 (ag rfl) aE)) (λh=>?_) (λh=>?_)
     · rw[bb] at h;have h:how=1:=by have:=MR h;omega
       rw[Lp h] at g;refine⟨_,rfl,(a_ (evF rfl) aE h1 h3) _ ⟨_,rfl,⟨a,b0,_,_,e,l,pl,rfl,hW,h4,h5,g⟩⟩⟩
     · rw[bb] at h;have h:¬how=1:=λz=>by rw[z] at h;cases h
       rw[Lo h] at g;refine⟨_,rfl,(a_ (evF rfl) aE h1 h3) _ ⟨_,rfl,⟨a,b0,_,_,e,l,pl,rfl,hW,h4,h5,g⟩⟩⟩
end
end Bw
namespace L2
open PySem PySem.Spec PyProof.Rows
theorem sE {prog:Program}{w:World}{A:Around}{a:Addr}{u0 u1 u2 uy:Value}{n:Nat}{E:Od}{Q:Od}{s:Shared}{o:Obj}(ho:s.heap.get? a=some o)(hc:o.cls=.type "tuple")(hd:o.data=.seq #[u0,u1,u2] n)
  {b0 b1 b2:Bool}(e0:SeqAt.EqAt A s u0 uy b0)(e1:SeqAt.EqAt A s u1 uy b1)(e2:SeqAt.EqAt A s u2 uy b2){j:Nat}(hj:(b0=true/\j=0)∨(b0=false/\((b1=true/\j=1)∨(b1=false/\b2=true/\j=2))))
  (q:Q (.int (j:Nat) s.toks) {s with toks:=s.toks+1}):wpAny (model prog w) A (Builtin.«tuple.index» {pos:=[.ref a,uy]}) (λfin s'=>∃v,fin=Fin.done (Flow.ret v)/\Q v s') E s:=by
 show wpAny _ _ (selfAndSome "tuple.index" "index" 1 3 {pos:=[.ref a,uy]} >>= _) _ E s;refine Lm (m:=selfAndSome "tuple.index" "index" 1 3 {pos:=[.ref a,uy]}) ?_;have h1:selfAndSome "tuple.index" "index" 1 3 {pos:=[.ref a,uy]}=pure (.ref a,[uy]):=by rfl
 rw[h1];refine Lu ?_;refine Lm (m:=Builtin.Tuple.tupleItemsOf (.ref a)) (tupleItemsOf_ (items:=#[u0,u1,u2]) ⟨_,ho,hc,n,hd⟩ ?_);refine Lm (m:=pure 0) (Lu ?_);refine Lm (m:=pure 3) (Lu ?_);refine Lm ?_;rw[Std.Legacy.Range.forIn_eq_forIn_range'];have hr:List.range' [:min 3 #[u0,u1,u2].size].start [:min 3 #[u0,u1,u2].size].size [:min 3 #[u0,u1,u2].size].step=[0,1,2]:=by
  show List.range' 0 ((min 3 3 - 0+1 - 1) / 1) 1=[0,1,2];decide
 rw[hr];have fin:∀(i:Nat),i=j->∀{R:ForInStep (Option PySem.Fin×Unit)->Shared->Prop},(∀v s',v=Value.int (j:Nat) s.toks->s'={s with toks:=s.toks+1}->R (.done (some (.done (.ret v)),())) s')->wpAny (model prog w) A (do let x ←retInt (i:Nat);pure (ForInStep.done (some x,()))) R E s:=λi hi R hR=>by
  subst hi;exact Lm (Lm (wpAny_mkInt (Lu (Lu (hR _ _ rfl rfl)))))
 rw[List.forIn_cons];refine Lm (Lm (e0 _ _ _ _ ?_));rcases hj with ⟨rfl,rfl⟩|⟨rfl,hj⟩
 · exact fin 0 rfl λv s' hv hs=>Lu (Lu ⟨v,rfl,by rw[hv,hs];exact q⟩)
 refine Lu ?_;show wpAny _ _ (forIn [1,2] _ _) _ _ _;rw[List.forIn_cons];refine Lm (Lm (e1 _ _ _ _ ?_));rcases hj with ⟨rfl,rfl⟩|⟨rfl,rfl,rfl⟩
 · exact fin 1 rfl λv s' hv hs=>Lu (Lu ⟨v,rfl,by rw[hv,hs];exact q⟩)
 refine Lu ?_;show wpAny _ _ (forIn [2] _ _) _ _ _;rw[List.forIn_cons];refine Lm (Lm (e2 _ _ _ _ ?_));exact fin 2 rfl λv s' hv hs=>Lu (Lu ⟨v,rfl,by rw[hv,hs];exact q⟩)
section
variable {X:Cx}
def IH (K:Oc):V->List V->Hp->VK->Prop:=λx xs H Q=>∃(a:Addr) (y0 y1 y2 y:V) (j:Nat),x=V.ref a/\xs=[y]/\bZ K H a [y0,y1,y2]/\dO y=true/\[y0,y1,y2].all dO=true /\
 ((rW y0 y=true/\j=0)∨(rW y0 y=false/\((rW y1 y=true/\j=1)∨(rW y1 y=false/\rW y2 y=true/\j=2))))/\Q (.int (j:Nat)) H
theorem Ex:Ba X "tuple.index" (IH X.K):=by
 intro pins s σ H x xs v us Q I rx rxs h;obtain⟨a,y0,y1,y2,y,j,rfl,rfl,hs,fy,fys,hj,q⟩:=h;cases rx;obtain⟨uy,rfl,ry⟩:=rxs.one;obtain⟨its,rv,⟨o,ho,hc,n,hd⟩,hz⟩:=I.tuple hs;have rv0:=rv;cases rv with
 |cons r0 rv=>cases rv with
  |cons r1 rv=>cases rv with
   |cons r2 rv =>
    cases rv;have key:=λ(A:Around) (u:Value) (hu:u∈_)=>gm (A:=A) (s:=s) ry fy rv0 fys u hu;have f0:dO y0=true:=LU.mp fys _ (by simp);have f1:dO y1=true:=LU.mp fys _ (by simp);have f2:dO y2=true:=LU.mp fys _ (by simp);rw[←lD r0 f0,←lD r1 f1,←lD r2 f2] at hj;exact MJ PySem.F.slot_tuple_index ⟨_,ho,hc⟩ PySem.F.entry_tuple_index
     (sE ho hc hd (key _ _ (by simp)) (key _ _ (by simp)) (key _ _ (by simp)) hj ⟨.int (j:Nat),H,I.tok _,⟨_,rfl⟩,q⟩) (PySem.F.args_tuple_index_2 _ _)
end
end L2
namespace Bw
open PySem PySem.Spec PyProof.Rows L2 Tote
section
variable {P:Program}{w:World}{K:Oc}{mg:Oe}{base:Heap}
def Ci (K:Oc) (CW CF CP:Addr):Sp:=λvs H Q E=>∃(a b:Addr) (p:aO) (e:Nat) (l:List Word) (pl:Nat),vs=[.ref a,.ref b]/\a7 K CW H a e l pl/\dj K CP H b p/\(l=[]->Rz CF E 3 (e:Nat)) /\
 (∀w r,l=w::r->ji p w.w=none->Rz CF E 3 (w.at_:Nat))/\(∀w r how,l=w::r->ji p w.w=some how->∀H',aQ a H H'->a7 K CW H' a e r w.at_->Q (.int (how:Nat)) H')
theorem GG:aI ["words","pool"] ["words","pool"] (ax iY):=fs
theorem Cz {k:Tote.Kind}:oa (.str (st (cd (kindS k)))) [V.str (Str.ofString "order"),V.str (Str.ofString "any")]=(k==.order||k==.any):=by
 have:=Bt (kn:=["order","any"]) (w:=cd (kindS k));rw[show [V.str (Str.ofString "order"),V.str (Str.ofString "any")]=(["order","any"].map λs=>V.str (Str.ofString s)) from rfl,this];cases k <;> decide
theorem HC {CW CF CP aW:Addr}(B:GB K mg aW)(T:CK K mg "Words" cq CW)(TP:CK K mg "Pool" hZ CP){k:Nat}(FO:pQ P w K mg base (eX P w CF) k CW "take_one_of" ["self","known"] (pE K CW CF))
  {f:Addr}{fd:FuncData}(F:dI K "take_how" "take_how" iY f fd):bf P w K mg base (eX P w CF) (k+1) f fd ["words","pool"] (Ci K CW CF CP):=by
 refine F.zb GG (λvs H Q E h=>?_) (λcdv A outer s H vs Q E hr h=>?_)
 · obtain⟨_,_,_,_,_,_,rfl,_⟩:=h;rfl
 · obtain⟨a,b,p,e,l,pl,rfl,hW,⟨dx,fa,hb,hF⟩,q0,q1,q2⟩:=h;refine⟨_,af (aT (aB gc (aX (pv 1) rfl) (dk (aa bt (aa bt ah))) (by with_unfolding_all rfl))
     (ak (aA (lJ PySem.F.plainAttrs_tuple PySem.F.slot_tuple_index PySem.F.type_tuple_index Ex (bg B.IU) (aa (la FO T.cl (pv 0) hr (bS aJ rfl rfl) (aa (bg B.IU) ah)) ah)))) aC)
    (af (cZ (la FO T.cl (pv 0) hr (bS aJ rfl rfl) (aa (dk (aa bt ah)) ah)))
    (ak (aA (bg B.on)))),?_⟩
   obtain⟨d0,w0,m0,n0,ha0⟩:=hW.obj;refine (bc (ag rfl) hb TP.cl (TP.no _ (by simp)) iU) _ ⟨(by show 2<=sizeLine;decide),λt ht=>⟨t,_,rfl,.inr (bZ.of ae),rfl,rfl,?_⟩⟩;have S0:au H (upd H t (.tup [V.str (Str.ofString "order"),V.str (Str.ofString "any")])):=(au.refl H).laid ht;have hW0:=hW.same S0;have ha1:=S0 _ _ ha0;refine⟨_,rfl,?_⟩;show if oa (.str (st (cd (kindS p.kind)))) [V.str (Str.ofString "order"),V.str (Str.ofString "any")]=true then _ else _;rw[Cz];refine gH (λh=>?_) (λh=>?_)
   · have hmx:cQ p=true:=h;have eqW:∀(x:String) (v:W),rW (V.str (Str.ofString x)) (V.str (st v))=decide (v=cd x):=λx v=>by
      show (Str.ofString x==st v)=_;rw[L3,Md,Lw,kK,js];exact⟨λz=>z.symm,λz=>z.symm⟩
     refine⟨.inr (.inl ⟨rfl,B.IF⟩),_,rfl,a,d0,_,rfl,ha1,cF (by decide +kernel),a,aW,["on","box","key"],e,l,pl,rfl,hW0,B.yL _,q0,λwd r hl hn=>?_,λwd r hl ho H' S h'=>?_⟩
     · refine q1 wd r hl ?_;unfold ji;have no:∀x∈["on","box","key"],plainT x=true->¬wd.w=ascii x:=λx hx hp z=>hn ⟨x,hx,(bp _ hp).mpr z⟩;rw[Lo (no _ (by simp) (by decide +kernel)),Lo (λz=>no _ (by simp) (by decide +kernel) z.1),Lo (λz=>no _ (by simp) (by decide +kernel) z.1)]
     · have on_:=bp (s:="on") wd.w (by decide +kernel);have box_:=bp (s:="box") wd.w (by decide +kernel);have key_:=bp (s:="key") wd.w (by decide +kernel);have S2:aQ a H H':=S0.x.trans S;have q2:=λhow hh=>q2 wd r how hl hh H' S2 h';unfold ji at q2;by_cases c0:wd.w=ascii "on"
       · rw[Lp c0] at q2;exact⟨aW,_,_,_,_,0,rfl,rfl,B.yL _,rfl,rfl,.inl ⟨by rw[eqW];exact L4 (on_.mpr c0),rfl⟩,q2 0 rfl⟩
       · rw[Lo c0] at q2;have c0':¬tx wd.w=cd "on":=λz=>c0 (on_.mp z);by_cases c1:wd.w=ascii "box"
         · rw[Lp ⟨c1,hmx⟩] at q2;exact⟨aW,_,_,_,_,1,rfl,rfl,B.yL _,rfl,rfl,.inr ⟨by rw[eqW];exact Mb c0',.inl ⟨by rw[eqW];exact L4 (box_.mpr c1),rfl⟩⟩,q2 1 rfl⟩
         · rw[Lo (λz=>c1 z.1)] at q2;have c1':¬tx wd.w=cd "box":=λz=>c1 (box_.mp z);have c2':tx wd.w=cd "key":=by
            obtain⟨x,hx,hw⟩:=ho;simp only[Lr,Na,or_false] at hx;rcases hx with rfl|rfl|rfl
            · exact absurd hw c0'
            · exact absurd hw c1'
            · exact hw
           rw[Lp ⟨key_.mp c2',hmx⟩] at q2;exact⟨aW,_,_,_,_,2,rfl,rfl,B.yL _,rfl,rfl,.inr ⟨by rw[eqW];exact Mb c0',.inr ⟨by rw[eqW];exact Mb c1',by rw[eqW];exact L4 c2',rfl⟩⟩,q2 2 rfl⟩
   · have hmx:cQ p=false:=by
      unfold cQ;simpa using h
     refine⟨_,rfl,a,d0,_,rfl,ha1,cF (by decide +kernel),(by show 1<=sizeLine;decide),λt2 ht2=>?_⟩;have St:au H (upd (upd H t (.tup [V.str (Str.ofString "order"),V.str (Str.ofString "any")])) t2 (.tup [V.str (Str.ofString "on")])):=S0.trans ((au.refl _).laid ht2);show fe _ _ _;unfold fe;dsimp only [Mq];have one:∀wd:Word,mT ["on"] wd↔wd.w=ascii "on":=λwd=>by
      rw[←bp _ (by decide +kernel)];unfold mT;exact⟨λ⟨x,h1,h2⟩=>by rw[LC] at h1;subst h1;exact h2,λh=>⟨_,List.mem_singleton_self _,h⟩⟩
     refine⟨a,t2,["on"],e,l,pl,rfl,hW.same St,bZ.of ae,q0,λwd r hl hn=>?_,λwd r hl ho H' S h'=>?_⟩
     · refine q1 wd r hl ?_;unfold ji;rw[Lo (λz=>hn ((one wd).mpr z)),Lo (λz=>by rw[hmx] at z;cases z.2),Lo (λz=>by rw[hmx] at z;cases z.2)]
     · refine q2 wd r 0 hl ?_ H' (St.x.trans S) h';unfold ji;rw[Lp ((one wd).mp ho)]
end
end Bw
namespace L2
open PySem PySem.Spec PyProof.Rows
theorem uG {K:Oc}{a:Addr}{xs:List V}{g:TG}{tb:TS}{D:Ends}{σ:L2.St}{H:Hp}(Pv:Nat->L2.St->Hp->Prop)(h0:Pv 0 σ H)(hl:∀i σ H,i<=xs.length->Pv i σ H->aS K H a xs)
  (hs:∀i x σ H T,xs[i]?=some x->Pv i σ H->H T=none->g (.ref T) σ (upd H T (.tup [.int (i:Nat),x])) λσ2 H2=>tb {D with nx:=Pv (i+1),ct:=Pv (i+1),bk:=D.nx} σ2 H2)(hd:∀σ H,Pv xs.length σ H->D.nx σ H) :
  ∃W:Nat->Nat->L2.St->Hp->Prop,(∃m,W 0 m σ H)/\∀i m σ H,W i m σ H ->
   ((Fx K a).stop i H/\D.nx σ H)∨((Fx K a).go i H/\∃N:L2.St->Hp->Prop,(∀σ' H',N σ' H'->∃m',m' < m/\W (i+1) m' σ' H')/\∀x H',(Fx K a).vU i H x H'->g x σ H' λσ2 H2=>tb {D with nx:=N,ct:=N,bk:=D.nx} σ2 H2):=by
 refine⟨λi m σ H=>m=xs.length - i/\i<=xs.length/\Pv i σ H,⟨xs.length,by simp,LV _,h0⟩,?_⟩;rintro i m σ H ⟨rfl,hi,p⟩;have q:=hl i σ H hi p;by_cases hlt:i < xs.length
 · refine .inr ⟨⟨xs,xs[i],q,by simp[hlt]⟩,Pv (i+1),λσ' H' p'=>⟨xs.length - (i+1),by omega,rfl,hlt,p'⟩,λx H' y=>?_⟩;obtain⟨T,v,rfl,hT,rfl,hx⟩:=y;exact hs i v σ _ T (hx xs q) p hT
 · have e:i=xs.length:=by omega
   subst e;exact .inl ⟨⟨xs,q,Lx _⟩,hd σ H p⟩
end L2
namespace Bw
open PySem PySem.Spec PyProof.Rows L2 Tote
section
variable {K:Oc}{CW CP:Addr}{H H':Hp}{a b:Addr}
theorem aQ.lists {dx:Addr} {fs:List (Str×V)} {rs:Oa} (S:aQ a H H') (ha:H a=some (.ins CW dx fs)) (h:bE K H b rs):bE K H' b rs:=by
 obtain⟨as,h1,h2⟩:=h;exact⟨as,S.seq ha h1,Paired.d8 h2 λ_ _ z=>S.seq ha z⟩
theorem Bc {C dx C' dx':Addr}{fs fs':List (Str×V)}(h:fs.length≠fs'.length):HO.ins C dx fs≠HO.ins C' dx' fs':=by
 intro z;injection z with _ _ z;exact h (by rw[z])
theorem dj.jI {dx:Addr}{v0 v1 v2 v3 v4:V}{p:aO}(h:dj K CP H b p)(S:aQ a H H')(ha:H a=some (.ins CW dx (bV v0 v1 v2 v3 v4))):dj K CP H' b p:=by
 obtain⟨d,fa,h1,h2⟩:=h;exact⟨d,fa,S _ _ h1 (dF h1 ha (Bc (by show 4≠5;decide))),aQ.lists S ha h2⟩
theorem cW.jI {dx:Addr}{v0 v1 v2 v3 v4:V}{ps:List aO}(h:cW K CP H b ps)(S:aQ a H H')(ha:H a=some (.ins CW dx (bV v0 v1 v2 v3 v4))):cW K CP H' b ps:=by
 obtain⟨as,h1,h2⟩:=h;exact⟨as,S.seq ha h1,Paired.d8 h2 λ_ _ z=>dj.jI z S ha⟩
end
section
variable {P:Program}{w:World}{K:Oc}{mg:Oe}{base:Heap}
def uc (K:Oc) (CW CF CP:Addr):Sp:=λvs H Q E=>∃(a b:Addr) (ps:List aO) (e:Nat) (l:List Word) (pl:Nat),vs=[.ref b,.ref a]/\a7 K CW H a e l pl/\cW K CP H b ps/\(l=[]->Rz CF E 3 (e:Nat)) /\
 (∀w r,l=w::r->dQ ps (tx w.w)=none->Rz CF E 5 (w.at_:Nat))/\(∀w r i,l=w::r->dQ ps (tx w.w)=some i->∀H',aQ a H H'->a7 K CW H' a e r w.at_->Q (.int (i:Nat)) H')
theorem mC:aI ["pools","words","name","number","pool"] ["pools","words"] (ax gY):=fs
theorem Bv {CW CF CP aW:Addr}(B:GB K mg aW)(T:CK K mg "Words" cq CW)(TP:CK K mg "Pool" hZ CP)(FL:Flt P w K mg base CF){k:Nat}(hk:2<=k)(FT:pQ P w K mg base (eX P w CF) k CW "take" ["self"] (mM K CW CF))
  {f:Addr}{fd:FuncData}(F:dI K "take_pool" "take_pool" gY f fd):bf P w K mg base (eX P w CF) (k+1) f fd ["pools","words"] (uc K CW CF CP):=by
 refine F.zb mC (λvs H Q E h=>?_) (λcdv A outer s H vs Q E hr h=>?_)
 · obtain⟨_,_,_,_,_,_,rfl,_⟩:=h;rfl
 · obtain⟨a,b,ps,e,l,pl,rfl,hW,hPs,q0,q1,q2⟩:=h;refine⟨_,af (aN (i:=2) mC.nd rfl (Or.inl rfl) (ka FT T.cl (pv 1) hr (bS aJ rfl rfl)))
    (af (cR (yi aJ) rfl (tq rfl B.enum (aa (pv 0) ah)) (ly rfl (b7 (aK (i:=3) mC.nd rfl (Or.inl rfl)) (b7 (aK (i:=4) mC.nd rfl (Or.inl rfl)) i7)))
     (ak (aT (aB cg (aX (pv 4) rfl) (pv 2) (aM _)) (ak (aA (pv 3))) aC)))
    (ak (fJ FL aJ (hr.mono hk) (aa (bg B.pool) (aa (aX (pv 1) rfl) ah))))),?_⟩
   obtain⟨d0,w0,m0,n0,ha0⟩:=hW.obj;refine⟨_,rfl,a,d0,_,rfl,ha0,cF (by decide +kernel),a,e,l,pl,rfl,hW,q0,λwd r hl H1 S1 hW1 okw=>?_⟩;have hPs1:=cW.jI hPs S1 ha0;obtain⟨as,hA,hP⟩:=hPs1;have q1:=q1 wd r hl;have q2:=λi=>q2 wd r i hl;generalize tx wd.w=nm at q1 q2;refine⟨_,rfl,b,_,rfl,hA,uG (K:=K) (a:=b) (xs:=as.map V.ref) (λi σ H'=>∃(v3 v4:Option V),σ=[some (.ref b),some (.ref a),some (.str (st nm)),v3,v4]/\au H1 H'/\∀j p,j < i->ps[j]?=some p->¬p.name=nm)
    ⟨none,none,rfl,au.refl H1,λj p hj=>absurd hj (Nat.not_lt_zero j)⟩ (λi σ H' _ ⟨_,_,_,S,_⟩=>S.seq hA) ?_ ?_⟩
   · rintro i x σ H' tt hi ⟨v3,v4,rfl,S2,hno⟩ hT;rw[Ls] at hi;obtain⟨ai,hai,rfl⟩:=LZ.mp hi;obtain⟨p,hp,d,fa,hpa,_⟩:=Paired.qG hP hai;have S3:au H1 (upd H' tt (.tup [.int (i:Nat),.ref ai])):=S2.trans ((au.refl H').laid hT);refine⟨tt,_,rfl,bZ.of ae,rfl,_,_,rfl,_,_,rfl,rfl,?_⟩;refine a6 (aL (b9 (bc (ag rfl) (S3 _ _ hpa) TP.cl (TP.no _ (by simp)) lu) (ag rfl))) (λh=>?_) (λh=>?_)
     · have h:p.name=nm:=by
        have:=LI h;injection this with this;exact js.mp this
       refine⟨_,rfl,q2 i ?_ _ (S1.trans S3.x) (hW1.same S3)⟩;unfold dQ;rw[NG];obtain⟨hil,hpe⟩:=LB.mp hp;refine⟨hil,by rw[hpe,h];exact beq_self_eq_true _,λj hj=>?_⟩;have:=hno j _ hj (Ly (by omega));simpa using this
     · have h:¬p.name=nm:=λz=>by
        have:=L8 h;exact this (by rw[z])
       refine⟨_,_,rfl,S3,λj p' hj hp'=>?_⟩;by_cases hji:j=i
       · subst hji;rw[hp] at hp';injection hp' with hp';subst hp';exact h
       · exact hno j p' (by omega) hp'
   · rintro σ H' ⟨v3,v4,rfl,S2,hno⟩;obtain⟨d1,w1,m1,n1,ha1⟩:=hW1.obj;dsimp only;refine jv (bc (ag rfl) (S2 _ _ ha1) T.cl (T.no _ (by simp)) bP) (q1 ?_);unfold dQ;rw[List.findIdx?_eq_none_iff];intro p hp;obtain⟨j,hj⟩:=List.mem_iff_getElem?.mp hp;have hjl:=(LB.mp hj).1;have:=hno j p (by rw[Ln,Paired.length hP];exact hjl) hj;simpa using this
end
def pO:Bool->Nat->Ob->Option Nat
 |_,_,[]=>none
 |gap,p,c::r=>if ¬(32<=c/\c<=126) then some p else if c=32/\(gap=true∨r=[]) then some p else pO (c==32) (p+1) r
def vh (cs:Ob):Option Nat:=if cs=[] then some 0 else pO true 0 cs
theorem sX:∀(l:Bytes) (gap:Bool) (p:Nat),gap=false∨l≠[]->badByte gap p l=pO gap p (l.map UInt8.toNat)
 |[],gap,p,h=>by
  have:gap=false:=by simpa using h
  subst this;rfl
 |c::r,gap,p,_=>by
  have e32:c=32↔c.toNat=32:=⟨λz=>by rw[z];rfl,λz=>ju z⟩;have elt:(c < 32∨126 < c)↔¬(32<=c.toNat/\c.toNat<=126):=by
   rw[UInt8.lt_iff_toNat_lt,UInt8.lt_iff_toNat_lt];show c.toNat < 32∨126 < c.toNat↔_;omega
  show (if c < 32∨126 < c then some p else if c=32 then (if gap=true then some p else if r.isEmpty=true then some p else badByte true (p+1) r) else badByte false (p+1) r) =
   if ¬(32<=c.toNat/\c.toNat<=126) then some p else if c.toNat=32/\(gap=true∨r.map UInt8.toNat=[]) then some p else pO (c.toNat==32) (p+1) (r.map UInt8.toNat)
  by_cases h1:c < 32∨126 < c
  · rw[Lp h1,Lp (elt.mp h1)]
  · rw[Lo h1,Lo (λz=>h1 (elt.mpr z))];by_cases h2:c=32
    · have h2':=e32.mp h2;rw[Lp h2,h2'];by_cases h3:gap=true
      · rw[Lp h3,Lp ⟨rfl,.inl h3⟩]
      · rw[Lo h3];cases r with
        |nil=>rw[Lp (show ([]:Bytes).isEmpty=true from rfl),Lp ⟨rfl,.inr rfl⟩]
        |cons d r =>
         rw[Lo (by simp),Lo (by rintro⟨_,z|z⟩;exact h3 z;cases z)];exact sX (d::r) true (p+1) (.inr (by simp))
    · have h2':¬c.toNat=32:=λz=>h2 (e32.mpr z);rw[Lo h2,Lo (λz=>h2' z.1)];have:(c.toNat==32)=false:=by simpa using h2'
      rw[this];exact sX r false (p+1) (.inl rfl)
theorem C5 (l:Bytes):badByte true 0 l=vh (l.map UInt8.toNat):=by
 unfold vh;cases l with
 |nil=>rfl
 |cons c r =>
  rw[Lo (by simp)];exact sX (c::r) true 0 (.inr (by simp))
theorem Jj {ns:Ob}{i:Nat}(h:i < ns.length):nN (nV ns) ((i:Nat):Int)=some (.int (ns[i]:Nat)):=cj (by unfold nV;rw[Ls,Ly h];rfl)
section
variable {P:Program}{w:World}{K:Oc}{mg:Oe}{base:Heap}
def wL (K:Oc) (CF:Addr):Sp:=λvs H Q E=>∃(a:Addr) (cs:Ob),vs=[.ref a]/\aS K H a (nV cs)/\(∀i,vh cs=some i->Rz CF E 2 (i:Nat))/\(vh cs=none->∀H',au H H'->Q .b8 H')
theorem tN:aI ["line","place","code"] ["line"] (ax fT):=fs
theorem C8 {CF aW:Addr}(G:GW mg)(B:GB K mg aW)(FL:Flt P w K mg base CF)
  {f:Addr}{fd:FuncData}(F:dI K "check_line" "check_line" fT f fd):bf P w K mg base (eX P w CF) 3 f fd ["line"] (wL K CF):=by
 refine F.zb tN (λvs H Q E h=>?_) (λcdv A outer s H vs Q E hr h=>?_)
 · obtain⟨_,_,rfl,_⟩:=h;rfl
 · obtain⟨a,cs,rfl,hS,q0,q1⟩:=h;refine⟨_,af (aT (aB cg (aG az (by rfl) G.len PySem.boot_len (aa (pv 0) ah)) aw (aM _)) (ak (fJ FL aJ hr (aa (bg B.byte) (aa aw ah)))) aC)
    (ak (cR (yi aJ) rfl (tq rfl B.enum (aa (pv 0) ah)) (ly rfl (b7 (aK (i:=1) tN.nd rfl (Or.inl rfl)) (b7 (aK (i:=2) tN.nd rfl (Or.inl rfl)) i7)))
     (af (aT (cz (cA cf cf aw (pv 2) aw)) (ak (fJ FL aJ hr (aa (bg B.byte) (aa (pv 1) ah)))) aC)
     (ak (aT (PW.pt (t8 (aB cg (pv 2) (bg B.blank) (aM _)) (oE (PW.pt (d9 (aB gc (pv 1) (dk (aa aw (aa (bK fF (aG az (by rfl) G.len PySem.boot_len (aa (pv 0) ah)) aw) ah))) (by with_unfolding_all rfl))
      (cS (aB cg (bq aR (pv 0) (bK fF (pv 1) aw) (λ_ _=>rfl)) (bg B.blank) (aM _)))))))) (ak (fJ FL aJ hr (aa (bg B.byte) (aa (pv 1) ah)))) aC))))),?_⟩
   refine a6 (aL (b9 (aY (ag rfl) (.inl hS)) aE)) (λh=>?_) (λh=>?_)
   · rw[bb,aP] at h;have h:cs=[]:=by
      have:=MR h;exact Nd.mp (by omega)
     exact jv aE (q0 0 (by unfold vh;rw[Lp h]))
   rw[bb,aP] at h;have hne:cs≠[]:=λz=>by rw[z] at h;cases h
   have eL:vh cs=pO true 0 cs:=by unfold vh;rw[Lo hne]
   rw[eL] at q0 q1;refine⟨_,rfl,a,_,rfl,hS,uG (K:=K) (a:=a) (xs:=nV cs) (λi σ H'=>∃(v1 v2:Option V) (gap:Bool),σ=[some (.ref a),v1,v2]/\au H H'/\(gap=true↔i=0∨cs[i - 1]?=some 32)/\pO gap i (cs.drop i)=pO true 0 cs)
    ⟨none,none,true,rfl,au.refl H,by simp,rfl⟩ (λi σ H' _ ⟨_,_,_,_,S,_⟩=>S.seq hS) ?_ ?_⟩
   · rintro i x σ H' tt hi ⟨v1,v2,gap,rfl,S2,hg,hc⟩ hT;have hil:i < cs.length:=by
      have:=(LB.mp hi).1
      rwa [aP] at this
     have hx:x=.int (cs[i]:Nat):=by
      unfold nV at hi;rw[Ls,Ly hil] at hi;exact (L1 hi).symm
     subst hx;have hci:cs[i]?=some cs[i]:=Ly hil;rw[MK hil] at hc;have hlast:cs.drop (i+1)=[]↔i=cs.length - 1:=by
      rw[List.drop_eq_nil_iff];omega
     generalize hcc:cs[i]=c at hc hci;have hc:(if ¬(32<=c/\c<=126) then some i else if c=32/\(gap=true∨cs.drop (i+1)=[]) then some i else pO (c==32) (i+1) (cs.drop (i+1)))=pO true 0 cs:=hc;have S3:au H (upd H' tt (.tup [.int (i:Nat),.int (c:Nat)])):=S2.trans ((au.refl H').laid hT);refine⟨tt,_,rfl,bZ.of ae,rfl,_,_,rfl,_,_,rfl,rfl,?_⟩;refine a6 (fb (cG aE (ag rfl) aE)) (λh=>?_) (λh=>?_)
     · simp only[Me,ML,L6] at h;rw[Lp (by omega)] at hc;exact jv (ag rfl) (q0 i hc.symm)
     simp only[Mh,Lv,Lw] at h;rw[Lo (by omega)] at hc;have go:c=32->(gap=true∨cs.drop (i+1)=[])->Rz CF E 2 (i:Nat):=λz1 z2=>by
      rw[Lp ⟨z1,z2⟩] at hc;exact q0 i hc.symm
     have on:∀H4,au H H4->¬(c=32/\(gap=true∨cs.drop (i+1)=[]))->∃(v1 v2:Option V) (gap:Bool),[some (V.ref a),some (V.int (i:Nat)),some (V.int (c:Nat))]=[some (V.ref a),v1,v2]/\au H H4/\(gap=true↔i+1=0∨cs[i+1 - 1]?=some 32)/\pO gap (i+1) (cs.drop (i+1))=pO true 0 cs:=λH4 S4 hn=>by
      rw[Lo hn] at hc;refine⟨_,_,(c==32),rfl,S4,?_,hc⟩;rw[show i+1 - 1=i by omega,hci,Md];constructor
      · intro z;exact .inr (by rw[z])
      · rintro (z|z)
        · omega
        · exact L1 z
     refine (aL (b9 (ag rfl) aE)) _ ?_;refine gH (λh1=>?_) (λh1=>?_)
     · have h1:c=32:=by
        rw[bb] at h1;have:=MR h1;omega
       refine⟨_,rfl,(qm (aY (ag rfl) (.inl (S3.seq hS))) aE) _ ⟨(by show 2<=sizeLine;decide),λt ht=>⟨t,_,rfl,.inr (bZ.of ae),rfl,rfl,_,rfl,?_⟩⟩⟩;rw[aP];have S4:=S3.trans ((au.refl _).laid ht (o:=.tup [V.int 0,V.int ((cs.length:Int) - 1)]));have eI:oa (V.int (i:Nat)) [V.int 0,V.int ((cs.length:Int) - 1)]=decide (i=0∨i=cs.length - 1):=by
        show ((0:Int)==(i:Nat)||((cs.length:Int) - 1==(i:Nat)||false))=_;rw[L3];simp only[Mo,Md,Lw,ND];omega
       show if oa (V.int (i:Nat)) [V.int 0,V.int ((cs.length:Int) - 1)]=true then _ else _;rw[eI];refine gH (λh2=>?_) (λh2=>?_)
       · refine n8 ?_;refine jv (ag rfl) (go h1 ?_);rcases LI h2 with z|z
         · exact .inl (hg.mpr (.inl z))
         · exact .inr (hlast.mpr z)
       · have h2:¬(i=0∨i=cs.length - 1):=λz=>h2 (L4 z);have hi0:0 < i:=by omega
         refine a6 (aL (b9 (a_ (ag rfl) (qm (ag rfl) aE) (S4.seq hS) (by rw[show (((i:Nat):Int) - 1)=((i - 1:Nat):Int) by omega];exact Jj (by omega))) aE)) (λh3=>?_) (λh3=>?_)
         · refine jv (ag rfl) (go h1 (.inl (hg.mpr (.inr ?_))));rw[bb] at h3;have:=MR h3;rw[Ly (by omega)];congr 1;omega
         · refine on _ S4 ?_;rintro⟨_,z|z⟩
           · rcases hg.mp z with z|z
             · omega
             · rw[Ly (by omega)] at z;have z:=L1 z;rw[bb,z] at h3;cases h3
           · have:=hlast.mp z;omega
     · have h1:¬c=32:=λz=>by
        rw[bb,z] at h1;exact h1 rfl
       refine t7 ?_;exact on _ S3 λz=>h1 z.1
   · rintro σ H' ⟨v1,v2,gap,rfl,S2,hg,hc⟩;rw[aP,Ng] at hc;exact q1 hc.symm H' S2
end
end Bw
namespace L2
open PySem PySem.Spec PyProof.Rows
theorem om {K:Oc}{a:Addr}{xs:List V}{g:TG}{te:TE}{vs:Ob}{σ:St}{H1:Hp}{D:Addr}{Qd:Hp->Prop}(F:Nat->V->Hp->Prop)(mono:∀i y H H',(∀b u,b≠D->H b=some u->H' b=some u)->F i y H->F i y H')(hA:aS K H1 a xs)(hD:H1 D=none)(hz:xs.length<=100000)
  (hs:∀i x H',xs[i]?=some x->au H1 H'->(∃acc,H' D=some (.lst acc))->∀R:VK,(∀y H4,au H' H4->F i y H4->R y H4)->g x (wipe σ vs) H' λσ2 H2=>wipe σ2 vs=wipe σ vs/\te σ2 H2 R)
  (hd:∀ys H',au H1 H'->H' D=some (.lst ys)->ys.length=xs.length->(∀i y,ys[i]?=some y->F i y H')->Qd H') :
  ∃W:Nat->Nat->Hp->Prop,(∃m,W 0 m (upd H1 D (.lst [])))/\∀i m H,W i m H ->
   ((B0 K a).stop i H/\Qd H)∨((B0 K a).go i H/\∃Nx:Hp->Prop,(∀H',Nx H'->∃m',m' < m/\W (i+1) m' H')/\∀x H',(B0 K a).vU i H x H'->g x (wipe σ vs) H' λσ2 H2=>wipe σ2 vs=wipe σ vs/\A8 σ2 H2 λb H3 =>
    if b=true then te σ2 H3 λy H4=>∃acc,H4 D=some (.lst acc)/\acc.length < sizeLine/\Nx (upd H4 D (.lst (acc++[y]))) else Nx H3):=by
 refine jd (tt:=A8) (xs:=xs) (λi H'=>au H1 H'/\∃ys,H' D=some (.lst ys)/\ys.length=i/\∀j y,ys[j]?=some y->F j y H') ⟨(au.refl H1).laid hD,[],ae,rfl,λj y h=>by simp at h⟩ (λi H' _ h=>h.1.seq hA) ?_ ?_
 · rintro i x H' hx ⟨S,ys,e,l,f⟩;refine hs i x H' hx S ⟨ys,e⟩ _ λy H4 S4 fy=>⟨ys,S4 _ _ e,?_,?_,ys++[y],ae,by rw[LK,l];rfl,?_⟩
   · have:=(LB.mp hx).1;rw[LQ];omega
   · intro b u z;rw[aq (ao z hD)];exact S4 b u (S b u z)
   · have up:∀b u,b≠D->H4 b=some u->(upd H4 D (.lst (ys++[y]))) b=some u:=λb u n z=>by rw[aq n];exact z
     intro j v h;by_cases z:j < ys.length
     · rw[List.getElem?_append_left z] at h;exact mono j v _ _ (λb u n z=>up b u n (S4 b u z)) (f j v h)
     · rw[N9 (by omega)] at h;have:j - ys.length=0:=by
        have:=(LB.mp h).1;rw[MB] at this;omega
       rw[this] at h;cases h;have:j=i:=by omega
       subst this;exact mono j _ _ _ up fy
 · rintro H' ⟨S,ys,e,l,f⟩;exact hd ys H' S e l f
theorem qc {xs:List V}{n:Nat}:fw xs (some ((n:Nat):Int)) none=xs.drop n:=by
 unfold fw;rw[HT.i6,HT.iD];by_cases h:n<=xs.length
 · rw[Nn h];exact Mj (by rw[Mf];omega)
 · rw[Nat.min_eq_right (by omega),Nj (by omega:xs.length<=n),Ng];simp
theorem o4 {xs:List V}{n:Nat}:fw xs none (some ((n:Nat):Int))=xs.take n:=by
 unfold fw;rw[HT.i6,HT.iD,List.drop_zero,Nat.sub_zero];by_cases h:n<=xs.length
 · rw[Nn h]
 · rw[Nat.min_eq_right (by omega),Mj (Lx _),Mj (by omega)]
end L2
namespace Bw
open PySem PySem.Spec PyProof.Rows L2 Tote
structure GN (mg:Oe):Prop where
 range:mg "range"=none
 list:mg "list"=none
 tuple:mg "tuple"=none
 sorted:mg "sorted"=none
 sum:mg "sum"=none
 runners:Gv mg "MOST_RUNNERS" (.int 24)
 zip:mg "zip"=none
 set:mg "set"=none
theorem Aj (l:Ob)(x:Nat):product (l++[x])=product l*x:=by
 unfold product;rw[List.foldl_append];rfl
theorem AN {n:Nat}{l:Ob}:oa (V.int (n:Nat)) (nV l)=l.contains n:=by
 rw[nq,L3,Lw,Mv,Lw]
 exact⟨λ⟨m,h1,h2⟩=>by have:n=m:=by omega
                      subst this;exact h1,λh=>⟨n,h,rfl⟩⟩
theorem DI {l:Ob}{x:Nat}:nV (l++[x])=nV l++[V.int (x:Nat)]:=by
 unfold nV;rw[LH];rfl
theorem yw {l:Ob}{i:Nat}{v:V}(h:(nV l)[i]?=some v):∃n,l[i]?=some n/\v=V.int (n:Nat):=by
 unfold nV at h;rw[Ls] at h;obtain⟨n,h1,h2⟩:=LZ.mp h;exact⟨n,h1,h2.symm⟩
theorem jA {l:List Addr}{i:Nat}{v:V}(h:(l.map V.ref)[i]?=some v):∃n,l[i]?=some n/\v=V.ref n:=by
 rw[Ls] at h;obtain⟨n,h1,h2⟩:=LZ.mp h;exact⟨n,h1,h2.symm⟩
section
variable {P:Program}{w:World}{K:Oc}{mg:Oe}{base:Heap}
def BS (K:Oc):Sp:=λvs H Q _=>∃(a:Addr) (ns:Ob),vs=[.ref a]/\aS K H a (nV ns)/\(∀n∈ns,n < 1000000)/\∀H',au H H'->Q (.int (product ns:Nat)) H'
theorem oj:aI ["numbers","product","number"] ["numbers"] (ax fZ):=fs
theorem D6 {f:Addr}{fd:FuncData}(F:dI K "product_of" "product_of" fZ f fd):bf P w K mg base bJ 1 f fd ["numbers"] (BS K):=by
 refine F.ok oj (λvs H Q E h=>?_) (λcdv A outer s H vs Q E hr h=>?_)
 · obtain⟨_,_,rfl,_⟩:=h;rfl
 · obtain⟨a,ns,rfl,hS,hn,q⟩:=h;refine⟨_,af (aN (i:=1) oj.nd rfl (Or.inl rfl) aw)
    (af (cR Mt rfl (bG (pv 0)) (aK (i:=2) oj.nd rfl (Or.inl rfl)) (ak (BH (i:=1) oj.nd rfl (Or.inl rfl) (pv 2) DL)))
    (ak (aA (pv 1)))),?_⟩
   refine cx aE ?_;refine⟨_,rfl,a,rfl,⟨_,hS⟩,cN (K:=K) (a:=a) (xs:=nV ns) (λi σ H'=>∃v2:Option V,σ=[some (.ref a),some (.int (product (ns.take i):Nat)),v2]/\au H H') ⟨none,rfl,au.refl H⟩ (λi σ H' _ ⟨_,_,S⟩=>S.seq hS) ?_ ?_⟩
   · rintro i x σ H' hi ⟨v2,rfl,S⟩;obtain⟨n,hni,rfl⟩:=yw hi;have:=hn n (LR hni);refine⟨_,rfl,_,rfl,_,_,rfl,rfl,.inr ⟨by omega,by omega⟩,some (.int (n:Nat)),?_,S⟩;rw[take_snoc hni,Aj,Int.natCast_mul];rfl
   · rintro σ H' ⟨v2,rfl,S⟩;rw[aP,Ml];exact⟨_,rfl,q H' S⟩
def sL (K:Oc):Sp:=λvs H Q _=>∃(a t:Addr) (ns s:Ob),vs=[.ref a,.ref t]/\aS K H a (nV ns)/\bZ K H t (nV s)/\ns.length<=1000/\∀H' x,au H H'->H x=none->H' x=some (.lst (nV (gG s ns)))->Q (.ref x) H'
theorem uw:aI ["numbers","taken","number"] ["numbers","taken"] (ax j_):=fs
theorem EU {f:Addr}{fd:FuncData}(F:dI K "without" "without" j_ f fd):bf P w K mg base bJ 1 f fd ["numbers","taken"] (sL K):=by
 refine F.ok uw (λvs H Q E h=>?_) (λcdv A outer s H vs Q E hr h=>?_)
 · obtain⟨_,_,_,_,rfl,_⟩:=h;rfl
 · obtain⟨a,t,ns,s,rfl,hA,hT,hl,q⟩:=h;refine⟨_,ak (aA (fC (te:=cH 2) (tt:=qv (kG (Gx K true) (cH 2) (cH 1))) rfl uw.nd (bG (pv 0)) (bA (own:=[("number",2)]) rfl) (λ_ _ _ _ _=>aK (i:=2) uw.nd rfl (Or.inl rfl)) (λ_ _ _ _ _=>oq (aB ej (pv 2) (pv 1) (by with_unfolding_all rfl))) (λ_ _ _ _ _=>pv 2))),?_⟩;refine⟨_,rfl,a,rfl,⟨_,hA⟩,λD hD=>jd (K:=K) (a:=a) (xs:=nV ns) (λi H'=>au H H'/\H' D=some (.lst (nV (gG s (ns.take i))))) ⟨(au.refl H).laid hD,ae⟩ (λi H' _ h=>h.1.seq hA) ?_ ?_⟩
   · rintro i v H' hi ⟨k1,k2⟩;obtain⟨n,hn,rfl⟩:=yw hi;refine⟨rfl,?_⟩;refine (aL (lH (neg:=true) (ag rfl) (ag rfl) (.inr (k1.tup hT)) rfl (fX s))) _ ?_;show if (!oa (V.int (n:Nat)) (nV s))=true then _ else _;rw[AN];have e:gG s (ns.take (i+1))=gG s (ns.take i)++if (!s.contains n)=true then [n] else []:=by
      unfold gG;rw[take_snoc hn,Ni];congr 1;simp[MA]
     refine gH (λh=>?_) (λh=>?_)
     · rw[Lp h] at e;refine⟨_,rfl,_,k2,?_,?_,?_⟩
       · have:(gG s (ns.take i)).length<=(ns.take i).length:=NQ ..;rw[LM] at this;rw[aP,LQ];omega
       · intro b u z;rw[aq (ao z hD)];exact k1 b u z
       · rw[ae,e,DI]
     · rw[Lo h,Mq] at e;exact⟨k1,by rw[e];exact k2⟩
   · rintro H' ⟨k1,k2⟩;have k2:H' D=some (.lst (nV (gG s (ns.take (nV ns).length)))):=k2;rw[aP,Ml] at k2;exact q H' D k1 hD k2
def sT (K:Oc):Sp:=λvs H Q _=>∃(a t:Addr) (ss:Oa) (s:Ob),vs=[.ref a,.ref t]/\bE K H a ss/\bZ K H t (nV s)/\ss.length<=6/\s.length<=ss.length/\∀H',au H H'->Q (.bl (ie ss s)) H'
theorem ow:aI ["sets","start","number","numbers"] ["sets","start"] (ax oy):=fs
theorem DM (G:GW mg)(N:GN mg){f:Addr}{fd:FuncData}(F:dI K "is_of" "is_of" oy f fd):bf P w K mg base bJ 1 f fd ["sets","start"] (sT K):=by
 refine F.ok ow (λvs H Q E h=>?_) (λcdv A outer s H vs Q E hr h=>?_)
 · obtain⟨_,_,_,_,rfl,_⟩:=h;rfl
 · obtain⟨a,t,ss,s,rfl,⟨as,hA,hP⟩,hT,h6,hl,q⟩:=h;refine⟨_,ak (aA (aG (w_ rfl) (by rfl) G.all PyProof.Rows.boot_all (aa (fC (g:=DH K 2 (qB (gg 2) (qB (gg 3) Fb))) (te:=kG (Gx K false) (cH 2) (cH 3)) rfl ow.nd (Eh rfl N.zip (aa (pv 1) (aa (pv 0) ah))) (bA (own:=[("number",2),("numbers",3)]) rfl)
    (λ_ _ _ _ _=>ly rfl (b7 (aK (i:=2) ow.nd rfl (Or.inl rfl) (Or.inr rfl)) (b7 (aK (i:=3) ow.nd rfl (Or.inl rfl) (Or.inr rfl)) i7))) (λ_ _ _ _ _=>cn) (λ_ _ _ _ _=>fm gc (pv 2) (pv 3) (by with_unfolding_all rfl))) ah))),?_⟩
   have lenA:as.length=ss.length:=Paired.length hP;refine⟨_,rfl,_,rfl,t,a,nV s,as.map V.ref,rfl,hT,hA,λD hD=>Ii (K:=K) (a:=t) (b:=a) (xs:=nV s) (ys:=as.map V.ref) (by rw[aP,Ln];omega) (λi H'=>au H H'/\H' D=some (.lst (((s.zip ss).take i).map λz=>V.bl (z.2.contains z.1)))) ⟨(au.refl H).laid hD,ae⟩ (λi H' _ h=>⟨h.1.tup hT,h.1.seq hA⟩) ?_ ?_⟩
   · rintro i x y H' T hx hy ⟨k1,k2⟩ hT';obtain⟨n,hn,rfl⟩:=yw hx;obtain⟨ai,hai,rfl⟩:=jA hy;obtain⟨si,hsi,hI⟩:=Paired.qG hP hai;have hT2:au H' (upd H' T (.tup [.int (n:Nat),.ref ai])):=(au.refl H').laid hT';have nTD:D≠T:=ao k2 hT';refine⟨T,_,rfl,bZ.of ae,rfl,_,_,rfl,_,_,rfl,rfl,rfl,?_⟩;refine (lH (neg:=false) (ag rfl) (ag rfl) (.inl ((k1.trans hT2).seq hI)) rfl (fX si)) _ ⟨_,by rw[aq nTD];exact k2,?_,?_,?_⟩
     · have:=(LB.mp hn).1;rw[Ln,LM,LQ];omega
     · intro b u z;rw[aq (ao z hD)];exact hT2 b u (k1 b u z)
     · have ez:(s.zip ss)[i]?=some (n,si):=by rw[List.getElem?_zip_eq_some];exact⟨hn,hsi⟩
       rw[ae,take_snoc ez,LH];show some (HO.lst (_++[V.bl (oa (V.int (n:Nat)) (nV si))]))=_;rw[AN];rfl
   · rintro H' ⟨k1,k2⟩;have k2:H' D=some (.lst (((s.zip ss).take (nV s).length).map λz=>V.bl (z.2.contains z.1))):=k2;rw[aP,Mj (by rw[List.length_zip];omega)] at k2;refine⟨D,(s.zip ss).map λz=>z.2.contains z.1,rfl,aS.of (by rw[k2,LP];rfl),?_⟩;have e:((s.zip ss).map λz=>z.2.contains z.1).all id=ie ss s:=by unfold ie;rw[Ny];rfl
     rw[e];exact q H' k1
end
end Bw
namespace L2
open PySem PySem.Spec PyProof.Rows
def JJ (K:Oc):V->V->Hp->VK->Prop:=λo i H Q=>∃(p:Addr) (xs:List V) (k:Nat) (v:V),o=.ref p/\i=.int (k:Nat)/\aS K H p xs/\xs[k]?=some v/\Q v H
theorem Cj {X:Cx}:Im X (JJ X.K):=by
 intro pins s σ H o i ov iv Q I ro ri h;obtain⟨p,xs,k,v,rfl,rfl,hq,he,q⟩:=h;cases ro;obtain⟨t,rfl⟩:=ri;obtain⟨its,r,pl,hz⟩:=I.list hq;obtain⟨w,ew,rw'⟩:=r.get he;have hl:=r.length;have hk:=(LB.mp he).1;have hn:=ll;exact wpAny_getItem_list pl.isList (by omega) (by omega) (by simpa using ew) ⟨v,H,I,rw',q⟩
theorem D1 {K:Oc}{a:Addr}{xs:List V}{g:TG}{tt:TT}{te:TE}{vs:Ob}{σ:L2.St}{H1:Hp}{D:Addr}{Qd:Hp->Prop}(Pv:Nat->Hp->Prop)(h0:Pv 0 (upd H1 D (.lst [])))(hl:∀i H,i<=xs.length->Pv i H->aS K H a xs)
  (hs:∀i x H T,xs[i]?=some x->Pv i H->H T=none->g (.ref T) (wipe σ vs) (upd H T (.tup [.int (i:Nat),x])) λσ2 H2=>wipe σ2 vs=wipe σ vs/\tt σ2 H2 λb H3 =>
   if b=true then te σ2 H3 λy H4=>∃acc,H4 D=some (.lst acc)/\acc.length < sizeLine/\Pv (i+1) (upd H4 D (.lst (acc++[y]))) else Pv (i+1) H3) (hd:∀H,Pv xs.length H->Qd H) :
  ∃W:Nat->Nat->Hp->Prop,(∃m,W 0 m (upd H1 D (.lst [])))/\∀i m H,W i m H ->
   ((Fx K a).stop i H/\Qd H)∨((Fx K a).go i H/\∃Nx:Hp->Prop,(∀H',Nx H'->∃m',m' < m/\W (i+1) m' H')/\∀x H',(Fx K a).vU i H x H'->g x (wipe σ vs) H' λσ2 H2=>wipe σ2 vs=wipe σ vs/\tt σ2 H2 λb H3 =>
    if b=true then te σ2 H3 λy H4=>∃acc,H4 D=some (.lst acc)/\acc.length < sizeLine/\Nx (upd H4 D (.lst (acc++[y]))) else Nx H3):=by
 refine⟨λi m H=>m=xs.length - i/\i<=xs.length/\Pv i H,⟨xs.length,by simp,LV _,h0⟩,?_⟩;rintro i m H ⟨rfl,hi,p⟩;have q:=hl i H hi p;by_cases hlt:i < xs.length
 · refine .inr ⟨⟨xs,xs[i],q,by simp[hlt]⟩,Pv (i+1),λH' p'=>⟨xs.length - (i+1),by omega,rfl,hlt,p'⟩,λx H' y=>?_⟩;obtain⟨T,v,rfl,hT,rfl,hx⟩:=y;exact hs i v _ T (hx xs q) p hT
 · have e:i=xs.length:=by omega
   subst e;exact .inl ⟨⟨xs,q,Lx _⟩,hd H p⟩
end L2
namespace Bw
open PySem PySem.Spec PyProof.Rows L2 Tote
theorem B3 {σ:L2.St}{H:Hp}{ta tb:TE}{i j:Int}(ha:Ev ta σ H (.int i))(hb:Ev tb σ H (.int j))(h:DB i j):Ev (kG (rI DB λi j=>.int (i*2 ^ j.toNat)) ta tb) σ H (.int (i*2 ^ j.toNat)):=λ_ r=>ha _ (hb _ ⟨i,j,rfl,rfl,h,r⟩)
theorem pZ:∀l:Ob,(l.map λn=>((n:Nat):Int)).sum=((l.sum:Nat):Int)
 |[]=>rfl
 |n::l=>by rw[LF,MU,MU,pZ l,Int.natCast_add]
section
variable {P:Program}{w:World}{K:Oc}{mg:Oe}{base:Heap}
def F6 (K:Oc):Sp:=λvs H Q _=>∃(a:Addr) (ss:Oa),vs=[.ref a]/\bE K H a ss/\C3 ss/\∀H',au H H'->Q (.int (dg ss k6:Nat)) H'
theorem fG:aI ["sets","full","ways","number","bits","mask","place","numbers","bit"] ["sets"] (ax cV):=fs
theorem Gw {aW:Addr}(G:GW mg)(B:GB K mg aW)(N:GN mg){f:Addr}{fd:FuncData}(F:dI K "count_different" "count_different" cV f fd):bf P w K mg base bJ 1 f fd ["sets"] (F6 K):=by
 refine F.ok fG (λvs H Q E h=>?_) (λcdv A outer s H vs Q E hr h=>?_)
 · obtain⟨_,_,rfl,_⟩:=h;rfl
 · obtain⟨a,ss,rfl,hL,hS,q⟩:=h;refine⟨_,af (aN (i:=1) fG.nd rfl (Or.inl rfl) (bK fF (bK Bp aw (aG az (by rfl) G.len PySem.boot_len (aa (pv 0) ah))) aw))
    (af (aN (i:=2) fG.nd rfl (Or.inr rfl) (bK xx (bU (aa aw ah)) (fC rfl fG.nd (gf rfl N.range (aa (pv 1) ah)) (bA (own:=[("mask",5)]) rfl) (λ_ _ _ _ _=>aK (i:=5) fG.nd rfl (Or.inl rfl)) (λ_ _ _ _ _=>cn) (λ_ _ _ _ _=>aw))))
    (af (cR Mt rfl (rb rfl N.range (aa aw (aa (bK d_ (bg N.runners) aw) ah))) (aK (i:=3) fG.nd rfl (Or.inr rfl))
     (af (qp (i:=4) (te:=kG (rI DB λi j=>.int (i*2 ^ j.toNat)) (tC (.int 1)) (cH 6)) (tt:=qv (kG (Gx K false) (cH 3) (cH 7))) (g:=DH K 2 (qB (gg 6) (qB (gg 7) Fb))) rfl fG.nd rfl rfl (tI rfl rfl rfl rfl) (tq rfl B.enum (aa (pv 0) ah)) (bA (own:=[("place",6),("numbers",7)]) rfl) (λ_ _ _ _ _=>ly rfl (b7 (aK (i:=6) fG.nd rfl (Or.inl rfl) (Or.inr rfl)) (b7 (aK (i:=7) fG.nd rfl (Or.inl rfl) (Or.inr rfl)) i7)))
       (λ_ _ _ _ _=>oq (aB gc (pv 3) (pv 7) (by with_unfolding_all rfl))) (λ_ _ _ _ _=>bK Bp aw (pv 6)))
     (ak (cR Mt rfl (qU rfl N.range (aa (pv 1) (aa aw (aa (u5 pG aw) ah)))) (aK (i:=5) fG.nd rfl (Or.inr rfl))
      (ak (C9 (pv 2) (pv 5) Cj (aG (xR rfl) (by rfl) N.sum (by decide +kernel) (aa (fC (te:=kG (Ar K) (cH 2) (kG (qF λi j=>.int (i - j)) (cH 5) (cH 8))) rfl fG.nd (bG (pv 4)) (bA (own:=[("bit",8)]) rfl) (λ_ _ _ _ _=>aK (i:=8) fG.nd rfl (Or.inl rfl))
       (λ_ _ _ _ _=>oq (aB qg (bK Hi (pv 5) (pv 8)) aw (aM _))) (λ_ _ _ _ _=>bq aR (pv 2) (bK fF (pv 5) (pv 8)) (λ_ _=>rfl))) ah)) AH set_list))))))
    (ak (aA (bq aR (pv 2) (pv 1) (λ_ _=>rfl)))))),?_⟩
   obtain⟨as,hA,hP⟩:=hL;have lenA:as.length=ss.length:=Paired.length hP;have h6:=hS.len;have hpow:0 < 2 ^ ss.length:=Nat.pow_pos (by decide);have hp64:2 ^ ss.length<=64:=Ma (Nq (by decide) h6) (by decide);obtain⟨f,hf⟩:∃f,f=2 ^ ss.length - 1:=⟨_,rfl⟩;have ef:(1:Int)*2 ^ ((as.map V.ref).length:Int).toNat - 1=((f:Nat):Int):=by
    rw[Ln,lenA,L9,hf,Int.one_mul];have:((2 ^ ss.length:Nat):Int)=2 ^ ss.length:=by rw[Int.natCast_pow];rfl
    omega
   have nd:∀s∈ss,s.Nodup:=λs hs=>(hS.good s hs).1.nodup;refine cx (qm (B3 aE (aY (ag rfl) (.inl hA)) ⟨by omega,by rw[Ln];omega,by decide⟩) aE) ?_;rw[ef];refine⟨by show 1<=sizeLine;decide,λp1 hp1=>?_⟩;refine xZ (sP (ag rfl) (by omega) (by omega) λD0 hD0=>?_);have n10:p1≠D0:=by
    rintro rfl;rw[ae] at hD0;cases hD0
   have hD0':H D0=none:=by rwa [aq n10.symm] at hD0
   rw[L9];refine lX (lo:=0) (n:=f) (λi H'=>au H H'/\H' p1=some (.lst [V.int 1])/\H' D0=some (.lst (nV (List.replicate i 0)))) ⟨((au.refl H).laid hp1).laid hD0',by rw[aq n10];exact ae,ae⟩ ?_ ?_
   · rintro i H' hi ⟨k0,k1,k2⟩;refine⟨rfl,?_⟩;refine⟨_,k2,by rw[aP,LY,LQ];omega,λb u z=>?_,by rw[aq n10];exact k1,?_⟩
     · rw[aq (ao z hD0')];exact k0 b u z
     · rw[ae,List.replicate_succ'];unfold nV;rw[LH];rfl
   rintro H1 ⟨S1,e1,e0⟩;refine⟨p1,D0,_,_,rfl,rfl,e1,e0,?_,λwy hwy=>?_⟩
   · show 1+_<=_;rw[aP,LY,LQ];omega
   have ewy:[V.int 1]++nV (List.replicate f 0)=nV (tab ss 1 f):=by
    rw[hf,←Aa];unfold nV;rw[LH];rfl
   rw[ewy];have hwyH:H wy=none:=by
    cases hz:H wy with
    |none=>rfl
    |some o=>rw[S1 wy o hz] at hwy;cases hwy
   have S2:au H (upd H1 wy (.lst (nV (tab ss 1 f)))):=λb u z=>by
    rw[aq (ao z hwyH)];exact S1 b u z
   refine pK (yF aE (jr aE aE) (by omega) ?_);refine mY (lo:=1) (n:=((24:Int)+1 - 1).toNat) (λi σ H'=>∃v3 v4 v5:Option V,σ=[some (.ref a),some (.int (f:Nat)),some (.ref wy),v3,v4,v5,none,none,none]/\au H H'/\H' wy=some (.lst (nV (tab ss (i+1) f))))
    ⟨none,none,none,rfl,S2,ae⟩ ?_ ?_
   · rintro i σ H2 hi ⟨v3,v4,v5,rfl,S3,e3⟩;have hi:i < 24:=hi;have ex:(1:Int)+(i:Nat)=((i+1:Nat):Int):=by omega
     rw[ex];obtain⟨x,hx⟩:∃x,x=i+1:=⟨_,rfl⟩;rw[←hx] at e3 ⊢;refine⟨_,rfl,a,_,rfl,S3.seq hA,λD hD=>D1 (K:=K) (a:=a) (xs:=as.map V.ref) (λj H'=>au H2 H'/\H' D=some (.lst (nV (bitsOf x 1 (ss.take j))))) ⟨(au.refl H2).laid hD,ae⟩ (λj H' _ h=>(S3.trans h.1).seq hA) ?_ ?_⟩
     · rintro j v H' T hj ⟨k1,k2⟩ hT;rw[Ls] at hj;obtain⟨aj,haj,rfl⟩:=LZ.mp hj;obtain⟨sj,hsj,hI⟩:=Paired.qG hP haj;have hjl:j < ss.length:=(LB.mp hsj).1;have nTD:D≠T:=ao k2 hT;have k1':au H2 (upd H' T (.tup [.int (j:Nat),.ref aj])):=k1.trans ((au.refl H').laid hT);have eb:=q_ x (ss.take j) 1 sj;rw[←take_snoc hsj] at eb;refine⟨T,_,rfl,bZ.of ae,rfl,_,_,rfl,_,_,rfl,rfl,rfl,?_⟩;refine (aL (lH (neg:=false) (ag rfl) (ag rfl) (.inl ((S3.trans k1').seq hI)) rfl (fX sj))) _ ?_;have eI:oa (V.int (x:Nat)) (nV sj)=sj.contains x:=by
        rw[nq,L3,Lw,Mv,Lw]
        exact⟨λ⟨m,h1,h2⟩=>by have:x=m:=by omega
                             subst this;exact h1,λh=>⟨x,h,rfl⟩⟩
       show if oa (V.int (x:Nat)) (nV sj)=true then _ else _;rw[eI];refine gH (λh=>?_) (λh=>?_)
       · rw[Lp h] at eb;refine (B3 aE (ag rfl) ⟨by omega,by omega,by decide⟩) _ ⟨_,by rw[aq nTD];exact k2,?_,?_,?_⟩
         · rw[aP];have:=oP x (ss.take j) 1;rw[LM] at this;rw[LQ];omega
         · intro b u z;rw[aq (ao z hD)];exact k1' b u z
         · rw[ae,eb];have e2:(1:Int)*2 ^ ((j:Nat):Int).toNat=((1*2 ^ (ss.take j).length:Nat):Int):=by
            rw[L9,LM,Nn (by omega),Int.one_mul,Nat.one_mul,Int.natCast_pow];rfl
           rw[e2];unfold nV;rw[LH];rfl
       · rw[Lo h,Mq] at eb;exact⟨k1',by rw[aq nTD,eb];exact k2⟩
     rintro H3 ⟨k1,k2⟩;have k2:H3 D=some (.lst (nV (bitsOf x 1 (ss.take (as.map V.ref).length)))):=k2;rw[Ln,lenA,Ml] at k2;obtain⟨bits,hbits⟩:∃bits,bits=bitsOf x 1 ss:=⟨_,rfl⟩;rw[←hbits] at k2;have nDw:D≠wy:=by
      rintro rfl;rw[e3] at hD;cases hD
     have e4:=k1 _ _ e3;have S4:=S3.trans k1;have hDH:H D=none:=by
      cases hz:H D with
      |none=>rfl
      |some o=>rw[S3 D o hz] at hD;cases hD
     refine pK (yV (n:=f) (ag rfl) aE (tj aE) ?_ ?_)
     · have:=Jo.neg (i:=(f:Int)) (j:=0) (by omega) (by omega) (by omega) (by omega);rw[show ((f:Int) - 0).toNat=f by omega] at this;exact this
     refine p_ (lo:=(f:Nat)) (c:=-1) (n:=f) (λj σ H'=>∃v5:Option V,σ=[some (.ref a),some (.int (f:Nat)),some (.ref wy),some (.int (x:Nat)),some (.ref D),v5,none,none,none]/\au H H'/\H' wy=some (.lst (nV (jT ss x f j)))/\H' D=some (.lst (nV bits)))
      ⟨v5,rfl,S4,by rw[Bq];exact e4,k2⟩ ?_ ?_
     · rintro j σ H4 hj ⟨v5,rfl,S5,e5,e6⟩;obtain⟨m,hm⟩:∃m,m=f - j:=⟨_,rfl⟩;have em:((f:Nat):Int)+((j:Nat):Int)*(-1)=((m:Nat):Int):=by omega
       rw[em];have hmf:m<=f:=by omega
       have old:(nV (jT ss x f j))[m]?=some (.int (cE ss x m:Nat)):=by
        unfold nV;rw[Ls,uu hmf,Lo (by omega)];rfl
       refine⟨_,rfl,_,rfl,wy,_,m,_,rfl,rfl,aS.of e5,old,?_⟩;refine⟨_,rfl,D,rfl,⟨_,aS.of e6⟩,λD2 hD2=>jd (K:=K) (a:=D) (xs:=nV bits) (λt H'=>au H4 H'/\H' D2=some (.lst (nV (((bits.take t).filter (bD m)).map λb=>cE ss x (m - b))))) ⟨(au.refl H4).laid hD2,ae⟩ (λt H' _ h=>aS.of (h.1 _ _ e6)) ?_ ?_⟩
       · rintro t v H' ht ⟨k3,k4⟩;unfold nV at ht;rw[Ls] at ht;obtain⟨b,hb,rfl⟩:=LZ.mp ht;obtain⟨pw,hpw,hbp⟩:=vE x ss 1 b (by rw[←hbits];exact LR hb);rw[Nat.one_mul] at hbp;have hb0:0 < b:=by rw[hbp];exact Nat.pow_pos (by decide)
         refine⟨rfl,?_⟩;refine (aL (pA (l_ (f:=λi j=>.int (Builtin.bitAnd i j)) (ag rfl) (ag rfl)) aE)) _ ?_;have eA:(!decide (V.int (Builtin.bitAnd ((m:Nat):Int) ((b:Nat):Int))=V.int 0))=bD m b:=by
          rw[bb];have e1:Builtin.bitAnd ((m:Nat):Int) ((b:Nat):Int)=((m &&& b:Nat):Int):=by
           unfold Builtin.bitAnd;rw[L4 (by omega:(0:Int)<=((m:Nat):Int)),L4 (by omega:(0:Int)<=((b:Nat):Int))];rfl
          rw[e1,L3,hbp,←DD,Me,LW];omega
         rw[eA];refine gH (λh=>?_) (λh=>?_)
         · have hbm:=GX h hb0;have at2:nN (nV (jT ss x f j)) (((m:Nat):Int) - ((b:Nat):Int))=some (.int (cE ss x (m - b):Nat)):=by
            rw[show ((m:Nat):Int) - ((b:Nat):Int)=((m - b:Nat):Int) by omega];refine cj ?_;unfold nV;rw[Ls,uu (by omega),Lo (by omega)];rfl
           refine (a_ (ag rfl) (qm (ag rfl) (ag rfl)) (aS.of (k3 _ _ e5)) at2) _ ⟨_,k4,?_,?_,?_⟩
           · rw[aP,Ln,LQ];have l1:=NQ (bD m) (bits.take t);have l2:=oP x ss 1;rw[←hbits] at l2;rw[LM] at l1;omega
           · intro c u z;rw[aq (ao z hD2)];exact k3 c u z
           · rw[ae,take_snoc hb,Ni,LH];have:[b].filter (bD m)=[b]:=by rw[MA,Lp h];rfl
             rw[this];unfold nV;rw[LH];rfl
         · refine⟨k3,?_⟩;have:[b].filter (bD m)=[]:=by rw[MA,Lo h];rfl
           rw[take_snoc hb,Ni,this,Mq];exact k4
       rintro H5 ⟨k3,k4⟩;have k4:H5 D2=some (.lst (nV (((bits.take (nV bits).length).filter (bD m)).map λb=>cE ss x (m - b)))):=k4;rw[aP,Ml] at k4;refine⟨D2,((bits.filter (bD m)).map λb=>cE ss x (m - b)).map λn=>((n:Nat):Int),rfl,aS.of (by rw[k4];unfold nV;rw[LP,LP,LP];rfl),?_⟩;rw[pZ];refine⟨_,_,rfl,rfl,wy,_,_,m,rfl,rfl,k3 _ _ e5,?_,?_⟩
       · unfold Ec;rw[Lp (by omega),aP,Lp (by unfold jT;rw[Ln,NI];omega)];rfl
       have ew:((cE ss x m:Nat):Int)+((((bits.filter (bD m)).map λb=>cE ss x (m - b)).sum:Nat):Int)=((cE ss (x+1) m:Nat):Int):=by
        rw[CT nd (by omega),←hbits,Int.natCast_add]
       refine⟨_,rfl,λc u z=>?_,?_,?_⟩
       · rw[aq (ao z hwyH)];exact k3 c u (S5 c u z)
       · rw[ae];show some (HO.lst ((nV (jT ss x f j)).set m (V.int (((cE ss x m:Nat):Int)+((((bits.filter (bD m)).map λb=>cE ss x (m - b)).sum:Nat):Int)))))=_;rw[ew,←Bs (by omega),hm];unfold nV;rw[List.map_set]
       · rw[aq nDw];exact k3 _ _ e6
     · rintro σ H4 ⟨v5,rfl,S5,e5,e6⟩;rw[AJ] at e5;exact⟨_,_,_,rfl,S5,e5⟩
   · rintro σ H2 ⟨v3,v4,v5,rfl,S3,e3⟩;have e3:H2 wy=some (.lst (nV (tab ss 25 f))):=e3;refine bW (a_ (ag rfl) (ag rfl) (aS.of e3) (cj (v:=.int (dg ss k6:Nat)) ?_)) (q H2 S3);unfold nV;rw[Ls,Bl (Lx _),←Cc,hf];rfl
end
end Bw
namespace L2
open PySem PySem.Spec PyProof.Rows
section
variable {P:Program}{w:World}{d:Addr}{o:Obj}{es:Array DictEntry}{ep:Nat}
theorem zj {A:Around} (hh:A.handled=none) (it:Addr) (ne:d≠it) (dt:o.data=.dict es ep) :
  Walks P w A it [it,d] [it] es.size (λi v=>∃en,es[i]?=some en/\v=en.key) (λi h=>h.IsKeyIter it d i es.size ep/\h.get? d=some o) where
 sub:=λb hb=>Lr.mpr (.inl (LC.mp hb))
 frame:=λi h h' st k=>⟨st.1.at λob e=>k it (L_ ..) ob e,k d (by simp) o st.2⟩
 item:=λi s Q E hi st hQ=>by
  obtain⟨en,hen⟩:∃en,es[i]?=some en:=⟨es[i],Array.getElem?_eq_getElem hi⟩;refine qL st.1 st.2 dt rfl hen λh' it' sb=>?_;exact hQ _ h' s.toks ⟨en,hen,rfl⟩ ⟨it',(sb.2 d ne).trans st.2⟩ λb ob hb e=>(sb.2 b λz=>hb (by simp[z])).trans e
 done:=λs Q E st hQ=>sF hh st.1 st.2 dt rfl (Lx _) λh' eb=>hQ h' s.toks λb ob hb e=>eb b ob (λz=>hb (by simp[z])) e
 self:=λi s Q E st hQ=>wpAny_pyIter_keyiter st.1 hQ
theorem Cm (lo:(d==sysModules)=false)(hx:o.ExactDict)(dt:o.data=.dict es ep):W.KdlSrc P w "dict" d d es.size (λi v=>∃en,es[i]?=some en/\v=en.key) (λh=>h.get? d=some o) where
 type:=λs e=>⟨o,e,hx.1⟩
 there:=λh e=>⟨LA e,LA e⟩
 keep:=λh h' e k=>k d (.inl rfl) o e
 notList:=by decide
 notTuple:=by decide
 hint:=λA E s Q e q=>W.kdl_hint_dict ⟨o,e,hx.1⟩ q
 iter:=λA s hh e=>⟨_,_,(λE Q q=>zR lo e hx dt q),zj hh _ (L0 (LA e)) dt,⟨⟨_,LD _ rfl,rfl,rfl⟩,Lq _ e⟩⟩
end
section
variable {X:Cx}
theorem xl (hc:X.calm=true):iA X (.type "list") (λxs H Q=>∃(d:Addr) (kvs:List (List Key×V)),xs=[.ref d]/\H d=some (.dT kvs) /\
  ∀(qs:List Addr) (l:Addr),Paired (λq (kv:List Key×V)=>H q=some (.tup (kv.1.map kV))) qs kvs->H l=none->Q (.ref l) (upd H l (.lst (qs.map V.ref)))):=by
 intro pins s σ H xs us Q I r h;obtain⟨d,kvs,rfl,hd,q⟩:=h;rw[Vals.xm r];obtain⟨z,lo,ys,pr,ob,es,ep,ho,hx,dt,he,_⟩:=I.bw d _ hd;have l1:es.size=ys.length:=size_of_entries he;have l2:kvs.length=ys.length:=Paired.length pr;refine W.kdl_call (Cm lo hx dt) (I.ok.hd hc) ho (by omega) λh' tk acc c' kp hl it=>?_;have pq:Paired (λq (kv:List Key×V)=>H q=some (.tup (kv.1.map kV))) (ys.map λy=>y.2.1) kvs:=by
  refine kl (by rw[Ln,l2]) λi a b ha hb=>?_;rw[Ls] at ha;obtain⟨y,hy,rfl⟩:=LZ.mp ha;obtain⟨y',hy',e1,e2,_⟩:=wD pr hb;rw[hy] at hy';injection hy' with hy';subst hy';exact e2
 have rv:Vals ((ys.map λy=>y.2.1).map V.ref) acc.toList:=by
  have l3:acc.toList.length=es.size:=by rw[M9];exact it.1
  refine kl (by rw[Ln,Ln];omega) λi a b ha hb=>?_;obtain⟨en,hen,rfl⟩:=it.2 i b (by simpa using hb);rw[Ls,Ls] at ha;have qe:=entry_at he i;cases hy:ys[i]? with
  |none=>rw[hy] at ha;cases ha
  |some y =>
   rw[hy] at ha qe;have ha:some (V.ref y.2.1)=some a:=ha;injection ha with ha;subst ha;rw[hen] at qe;injection qe with qe;rw[qe];rfl
 have hlen:((ys.map λy=>y.2.1).map V.ref).length<=sizeLine:=by rw[Ln,Ln];omega
 exact⟨.ref s.heap.objs.size,_,I.laid (t':=tk) kp (Lx _) (show bN X.prog X.w _ h' _ (.lst _) from ⟨hlen,acc.toList,c',rv,by simpa using hl⟩),rfl,q _ _ pq (I.bw.fresh (Lx _))⟩
end
section
variable {P:Program}{w:World}{A:Around}{E:Od}{s:Shared}
theorem Cy {t b:Addr} {ws:Og} {R:Od} (ht:IsTup s.heap t #[]) (hb:IsTup s.heap b ws.toArray) (hR:R (.ref b) s):wpAny (model P w) A (binaryOp .Add (.ref t) (.ref b)) R E s:=by
 obtain⟨⟨c1,d1,f1,l1⟩,g1,k1,n1,e1⟩:=id ht;obtain⟨⟨c2,d2,f2,l2⟩,g2,k2,n2,e2⟩:=id hb;simp only at k1 e1 k2 e2;subst k1 e1 k2 e2;have m:=tuple_addW0 t b #[] ws.toArray n1 n2 d1 d2 l1 l2 rfl;exact concat_meets ⟨_,g1,rfl⟩ ⟨_,g2,rfl⟩ noFill_tuple_add seq_tuple_add F.slot_tuple_add F.entry_tuple_add (F.args_tuple_add_2 _ _) m ⟨g1,g2,hR⟩
end
section
variable {X:Cx}
def Jt (K:Oc):R2:=λx y H Q=>∃a b xs ys,x=.ref a/\y=.ref b/\bZ K H a xs/\H b=some (.tup ys)/\ys≠[]/\xs.length+ys.length<=sizeLine/\∀p H',au H H'->H' p=some (.tup (xs++ys))->Q (.ref p) H'
theorem E9:jP X (binaryOp .Add) (Jt X.K):=by
 intro pins s σ H x y v u Q I rx ry h;obtain⟨a,b,xs,ys,rfl,rfl,ha,hb,hy,hz,q⟩:=h;by_cases e:xs=[]
 · subst e;cases rx;cases ry;obtain⟨its,r1,p1,_⟩:=I.tuple ha;obtain⟨its2,r2,p2,_⟩:=I.tuple (bZ.of hb);have:its=[]:=r1.oA.mpr rfl;subst this;exact Cy p1 p2 ⟨.ref b,H,I,rfl,q b H (au.refl H) hb⟩
 · exact E_ pins s σ H _ _ v u Q I rx ry ⟨a,b,xs,ys,rfl,rfl,ha,bZ.of hb,e,hz,λz=>absurd z hy,λ_ p hp=>q p _ ((au.refl H).laid hp) ae⟩
end
end L2
namespace Bw
open PySem PySem.Spec PyProof.Rows L2 Tote
def kL (l:Ob):List Key:=l.map λn=>Sum.inl ((n:Nat):Int)
theorem EF (l:Ob):(kL l).map kV=nV l:=by
 unfold kL nV;rw[LP];rfl
theorem AX {l m:Ob}(h:kL l=kL m):l=m:=by
 unfold kL at h;refine List.map_inj_right (λa b e=>?_) |>.mp h;have:=Sum.inl.inj e;omega
theorem vH {kvs:List (List Key×V)}{K:Oa}{k:Ob}{v:V}(h:kvs.map (·.1)=K.map kL):(putK kvs (kL k) v).map (·.1)=(jG K k).map kL:=by
 have hany:(kvs.any λkv=>decide (kv.1=kL k))=K.contains k:=by
  have e1:(kvs.any λkv=>decide (kv.1=kL k))=(kvs.map (·.1)).any λz=>decide (z=kL k):=by rw[NN];rfl
  rw[e1,h,NN,L3,M0,Mv,Lw];constructor
  · rintro⟨x,h1,h2⟩;have:=AX (LI h2);rw[←this];exact h1
  · intro hk;exact⟨k,hk,L4 rfl⟩
 unfold putK jG;rw[hany];by_cases c:K.contains k=true
 · rw[Lp c,Lp c,←h,LP];refine Mg λkv _=>?_;show (if kv.1=kL k then (kv.1,v) else kv).1=kv.1;split <;> rfl
 · rw[Lo c,Lo c,LH,LH,h];rfl
theorem wY {pick:Ob}{n:Nat}{ms:List Int}(hp:cC pick)(hn:¬n∈pick)(h1:ms.Perm ((pick++[n]).map λx=>((x:Nat):Int)))(h2:ms.Pairwise (·<=·)):ms=(fU n pick).map λx=>((x:Nat):Int):=by
 have hr:=lz hp hn;have nd:(pick++[n]).Nodup:=by
  rw[M4];refine⟨hp.nodup,by simp,λa ha b hb=>?_⟩;rw[LC] at hb;subst hb;exact λz=>hn (z ▸ ha)
 have pm:(fU n pick).Perm (pick++[n]):=(N7 hr.nodup nd).mpr λx=>by
  rw[lW];simp[or_comm]
 refine List.Perm.eq_of_pairwise (le:=(·<=·)) (λa b _ _ x y=>by omega) h2 ?_ (h1.trans (pm.map _).symm);rw[List.pairwise_map];exact hr.imp λh=>by omega
theorem kX {pick:Ob}:∀(s:Ob) (K:Oa),(cP s K pick).length<=K.length+s.length
 |[],K=>Lx _
 |n::s,K=>by
  show (cP s (cw pick K n) pick).length<=_;have:=kX (pick:=pick) s (cw pick K n);have h2:(cw pick K n).length<=K.length+1:=by
   unfold cw jG;split
   · omega
   · split
     · omega
     · simp
  rw[Lz];omega
theorem pN {s:Ob}{c:Nat}(hs:s.length<=c):∀(ps K:Oa),(ps.foldl (cP s) K).length<=K.length+ps.length*c
 |[],K=>by simp
 |p::ps,K=>by
  rw[MS,Lz];have h1:=pN hs ps (cP s K p);have h2:=kX (pick:=p) s K;rw[Nat.add_mul];omega
theorem qC {α β:Type}(f:β->α->β)(b:β)(l:List α)(x:α):(l++[x]).foldl f b=f (l.foldl f b) x:=by rw[List.foldl_append];rfl
theorem mU:∀(i:Nat) (ss:Oa),(∀s∈ss,s.length<=25)->(bz (ss.take i)).length<=25 ^ i
 |0,ss,_=>by show 1<=1;decide
 |i+1,ss,h=>by
  have ih:=mU i ss h;by_cases hi:i < ss.length
  · rw[List.take_add_one,Ly hi];show (bz (ss.take i++[ss[i]])).length<=_;rw[iX];have:=pN (h _ (Nf hi)) (bz (ss.take i)) [];unfold eZ;rw[Nu];have h2:(bz (ss.take i)).length*25<=25 ^ i*25:=Nat.mul_le_mul_right _ ih;simp only[MX] at this;omega
  · have:ss.take (i+1)=ss.take i:=by rw[Mj (by omega),Mj (by omega)]
    rw[this,Nu];omega
section
variable {P:Program}{w:World}{K:Oc}{mg:Oe}{base:Heap}
def Ca (H:Hp) (x:Addr) (R:Oa):Prop:=∃qs:List Addr,H x=some (.lst (qs.map V.ref))/\Paired (λq l=>H q=some (.tup (nV l))) qs R
def qY (K:Oc):Sp:=λvs H Q _=>∃(a:Addr) (ss:Oa),vs=[.ref a]/\bE K H a ss/\C3 ss/\ss.length<=3/\∀H' x,au H H'->Ca H' x (bz ss)->Q (.ref x) H'
theorem kY:aI ["sets","picks","numbers","longer","pick","number"] ["sets"] (ax iO):=fs
theorem Hb (N:GN mg){f:Addr}{fd:FuncData}(F:dI K "picks_of" "picks_of" iO f fd):bf P w K mg base bJ 1 f fd ["sets"] (qY K):=by
 refine F.ok kY (λvs H Q E h=>?_) (λcdv A outer s H vs Q E hr h=>?_)
 · obtain⟨_,_,rfl,_⟩:=h;rfl
 · obtain⟨a,ss,rfl,⟨as,hA,hP⟩,hS,h3,q⟩:=h;have hu:=vg hr;refine⟨_,af (aN (i:=1) kY.nd rfl (Or.inl rfl) (bU (aa (dk ah) ah)))
    (af (cR Mt rfl (bG (pv 0)) (aK (i:=2) kY.nd rfl (Or.inl rfl))
     (af (aN (i:=3) kY.nd rfl (Or.inl rfl) qb)
     (af (cR Mt rfl (bG (pv 1)) (aK (i:=4) kY.nd rfl (Or.inl rfl))
      (ak (cR Mt rfl (bG (pv 2)) (aK (i:=5) kY.nd rfl (Or.inl rfl))
       (ak (aT (aB ej (pv 5) (pv 4) (by with_unfolding_all rfl)) (ak (lK hu (pv 3) (ki qM (by rfl) N.tuple (by decide +kernel) (aa (aG xA (by rfl) N.sorted PyProof.Rows.boot_sorted (aa (bK E9 (pv 4) (dk (aa (pv 5) ah))) ah)) ah)) mJ rfl)) aC)))))
     (ak (aN (i:=1) kY.nd rfl (Or.inl rfl) (ki (xl rfl) (by rfl) N.list (by decide +kernel) (aa (pv 3) ah)))))))
    (ak (aA (pv 1)))),?_⟩
   have lenA:as.length=ss.length:=Paired.length hP;have s25:∀s∈ss,s.length<=25:=λs hs=>jE (hS.good s hs).1 (hS.good s hs).2;refine⟨LV _,λt0 ht0=>⟨by show 1<=sizeLine;decide,λp0 hp0=>?_⟩⟩;have n0:p0≠t0:=by
    rintro rfl;rw[ae] at hp0;cases hp0
   have S0:au H (upd (upd H t0 (.tup [])) p0 (.lst [V.ref t0])):=((au.refl H).laid ht0).trans ((au.refl _).laid hp0);refine⟨_,rfl,a,rfl,⟨_,S0.seq hA⟩,cN (K:=K) (a:=a) (xs:=as.map V.ref) (λi σ H'=>∃(pk:Addr) (qs:List Addr) (v2 v3 v4 v5:Option V),σ=[some (.ref a),some (.ref pk),v2,v3,v4,v5]/\au H H'/\H' pk=some (.lst (qs.map V.ref))/\Paired (λq l=>H' q=some (.tup (nV l))) qs (bz (ss.take i)))
    ⟨p0,[t0],none,none,none,none,rfl,S0,ae,.cons (by rw[aq n0.symm];exact ae) .nil⟩ (λi σ H' _ ⟨_,_,_,_,_,_,_,S,_⟩=>S.seq hA) ?_ ?_⟩
   · rintro i x σ H1 hi ⟨pk,qs,v2,v3,v4,v5,rfl,S1,e1,hQ⟩;rw[Ls] at hi;obtain⟨ai,hai,rfl⟩:=LZ.mp hi;obtain⟨sj,hsj,hI⟩:=Paired.qG hP hai;have hil:i < ss.length:=(LB.mp hsj).1;have gs:=hS.good sj (LR hsj);have l25:=s25 sj (LR hsj);have lp:=mU i ss s25;have lp2:(bz (ss.take i)).length<=625:=Ma lp (Ma (Nq (by decide) (show i<=2 by omega)) (by decide));have hris:∀l∈bz (ss.take i),cC l/\l.length<=6:=λl hl=>by
      obtain⟨z1,z2⟩:=(jX (ss.take i) l).mp hl;refine⟨z1,?_⟩;have:=(j7 z2).1;rw[LM] at this;omega
     have enext:bz (ss.take (i+1))=eZ (bz (ss.take i)) sj:=by rw[take_snoc hsj,iX]
     generalize bz (ss.take i)=pks at hQ lp2 hris enext;have lenQ:qs.length=pks.length:=Paired.length hQ;intro lg hlg;have S2:au H1 (upd H1 lg (.dT [])):=(au.refl H1).laid hlg;refine⟨_,rfl,pk,rfl,⟨_,S2.seq (aS.of e1)⟩,cN (K:=K) (a:=pk) (xs:=qs.map V.ref) (λj σ H'=>∃(v4 v5:Option V) (kvs:List (List Key×V)),σ=[some (.ref a),some (.ref pk),some (.ref ai),some (.ref lg),v4,v5]/\au H1 H'/\H' lg=some (.dT kvs)/\kvs.map (·.1)=((pks.take j).foldl (cP sj) []).map kL)
      ⟨v4,v5,[],rfl,S2,ae,rfl⟩ (λj σ H' _ ⟨_,_,_,_,S,_⟩=>aS.of (S _ _ e1)) ?_ ?_⟩
     · rintro j x σ H2 hj ⟨v4,v5,kvs,rfl,S3,e3,hk⟩;rw[Ls] at hj;obtain⟨qa,hqa,rfl⟩:=LZ.mp hj;obtain⟨pick,hpick,hT⟩:=Paired.qG hQ hqa;have hjl:j < pks.length:=(LB.mp hpick).1;obtain⟨hr1,hr6⟩:=hris pick (LR hpick);have lk:=pN l25 (pks.take j) [];rw[LM,MX] at lk;have enx:(pks.take (j+1)).foldl (cP sj) []=cP sj ((pks.take j).foldl (cP sj) []) pick:=by rw[take_snoc hpick,qC]
       generalize (pks.take j).foldl (cP sj) []=K2 at hk lk enx;refine⟨_,rfl,ai,rfl,⟨_,(S1.trans S3).seq hI⟩,cN (K:=K) (a:=ai) (xs:=nV sj) (λm σ H'=>∃(v5:Option V) (kvs:List (List Key×V)),σ=[some (.ref a),some (.ref pk),some (.ref ai),some (.ref lg),some (.ref qa),v5]/\au H1 H'/\H' lg=some (.dT kvs)/\kvs.map (·.1)=((sj.take m).foldl (cw pick) K2).map kL)
        ⟨v5,kvs,rfl,S3,e3,hk⟩ (λm σ H' _ ⟨_,_,_,S,_⟩=>(S1.trans S).seq hI) ?_ ?_⟩
       · rintro m x σ H3 hm ⟨v5,kvs,rfl,S4,e4,hk⟩;unfold nV at hm;rw[Ls] at hm;obtain⟨n,hn,rfl⟩:=LZ.mp hm;have lk3:kvs.length<=K2.length+25:=by
          have z1:kvs.length=(cP (sj.take m) K2 pick).length:=by
           have:=Mu List.length hk;rw[Ln,Ln] at this;exact this
          have z2:=kX (pick:=pick) (sj.take m) K2;rw[LM] at z2;omega
         have enn:(sj.take (m+1)).foldl (cw pick) K2=cw pick ((sj.take m).foldl (cw pick) K2) n:=by rw[take_snoc hn,qC]
         generalize (sj.take m).foldl (cw pick) K2=K3 at hk enn;have hT3:=S4 _ _ hT;have eI:(!oa (V.int (n:Nat)) (nV pick))=!decide (n∈pick):=by
          congr 1;rw[nq,M_]
          exact⟨λ⟨y,h1,h2⟩=>by have:n=y:=by omega
                               subst this;exact h1,λh=>⟨n,h,rfl⟩⟩
         refine a6 (b:=!decide (n∈pick)) (yN (aL (lH (neg:=true) (ag rfl) (ag rfl) (.inr (bZ.of hT3)) rfl (fX pick))) eI) (λh=>?_) (λh=>?_)
         · have hnp:¬n∈pick:=by simpa using h
           refine⟨_,rfl,_,rfl,_,rfl,by show 1<=sizeLine;decide,λt1 ht1=>?_⟩;have S5:au H3 (upd H3 t1 (.tup [V.int (n:Nat)])):=(au.refl H3).laid ht1;refine⟨qa,t1,nV pick,[V.int (n:Nat)],rfl,rfl,bZ.of (S5 _ _ hT3),ae,by simp,by rw[aP,LQ];simp;omega,λp4 H4 S6 hp4=>?_⟩;have ecat:nV pick++[V.int (n:Nat)]=((pick++[n]).map λx=>((x:Nat):Int)).map V.int:=by
            unfold nV;rw[LH,LH,LP];rfl
           refine⟨p4,(pick++[n]).map λx=>((x:Nat):Int),rfl,bZ.of (by rw[hp4,ecat]),by rw[Ln,LK];simp;omega,λms p5 hpm hso hp5=>?_⟩;have ems:=wY hr1 hnp hpm hso;subst ems;have e7:((fU n pick).map λx=>((x:Nat):Int)).map V.int=(kL (fU n pick)).map kV:=by
            rw[EF];unfold nV;rw[LP];rfl
           rw[e7];refine⟨p5,_,rfl,.inl ⟨aS.of ae,λp6 hp6=>?_⟩⟩;have S7:au H3 (upd (upd H4 p5 (.lst ((kL (fU n pick)).map kV))) p6 (.tup ((kL (fU n pick)).map kV))):=(S5.trans S6).trans (((au.refl H4).laid hp5).trans ((au.refl _).laid hp6));have hlgH:=S7 _ _ e4;refine⟨lg,_,rfl,.inr ⟨kvs,kL (fU n pick),p6,hlgH,rfl,ae,by rw[LQ];omega,rfl⟩,some (.int (n:Nat)),putK kvs (kL (fU n pick)) (V.bl true),rfl,?_,ae,?_⟩
           · intro c u z;rw[aq (ao z hlg)];exact S7 c u (S4 c u z)
           · rw[enn,vH hk];unfold cw;rw[Lo (by rw[Mv,Lw];exact hnp)]
         · have hnp:n∈pick:=by simpa using h
           refine⟨_,kvs,rfl,S4,e4,?_⟩;rw[enn,hk];unfold cw;rw[Lp (by rw[Mv,Lw];exact hnp)]
       · rintro σ H3 ⟨v5,kvs,rfl,S4,e4,hk⟩;rw[aP,Ml] at hk;exact⟨_,_,kvs,rfl,S4,e4,by rw[enx];exact hk⟩
     · rintro σ H2 ⟨v4,v5,kvs,rfl,S3,e3,hk⟩;rw[Ln,lenQ,Ml] at hk;refine⟨_,rfl,lg,kvs,rfl,e3,λrs l hrs hl=>?_⟩;refine⟨l,rs,_,_,_,_,rfl,(S1.trans S3).laid ?_,ae,?_⟩
       · cases hz:H l with
         |none=>rfl
         |some o=>rw[S3 l o (S1 l o hz)] at hl;cases hl
       · rw[enext];have hk:kvs.map (·.1)=(eZ pks sj).map kL:=hk;have lenK:kvs.length=(eZ pks sj).length:=by
          have:=Mu List.length hk
          rwa [Ln,Ln] at this
         refine kl (by rw[Paired.length hrs,lenK]) λt q' l' hq' hl'=>?_;obtain⟨kv,hkv,hH⟩:=Paired.qG hrs hq';have ekv:kv.1=kL l':=by
          have z1:(kvs.map (·.1))[t]?=some kv.1:=by rw[Ls,hkv];rfl
          rw[hk,Ls,hl'] at z1;exact (L1 z1).symm
         rw[aq (ao hH hl),hH,ekv,EF]
   · rintro σ H1 ⟨pk,qs,v2,v3,v4,v5,rfl,S1,e1,hQ⟩;rw[Ln,lenA,Ml] at hQ;exact⟨_,rfl,q H1 pk S1 ⟨qs,e1,hQ⟩⟩
end
theorem xr {α:Type}{ys zs:List α}(l:ys.length=zs.length)(f:∀(i:Nat) y,ys[i]?=some y->zs[i]?=some y):ys=zs:=NM λi=>by
 cases h:ys[i]? with
 |some y=>exact (f i y h).symm
 |none =>
  rw[List.getElem?_eq_none_iff] at h;exact (Mr (by omega)).symm
theorem yy {β:Type}{G:Addr->β->Prop}:∀{ys:List V} {zs:List β},ys.length=zs.length->(∀(i:Nat) (y:V),ys[i]?=some y->∃b z,zs[i]?=some z/\y=V.ref b/\G b z)->∃bs:List Addr,ys=bs.map V.ref/\Paired G bs zs
 |[],[],_,_=>⟨[],rfl,.nil⟩
 |y::ys,z::zs,l,f=>by
  obtain⟨b,z',h1,h2,h3⟩:=f 0 y rfl;obtain⟨bs,e,p⟩:=yy (ys:=ys) (zs:=zs) (G:=G) (by simpa using l) λi v h=>f (i+1) v h;cases h1;exact⟨b::bs,by rw[h2,e];rfl,.cons h3 p⟩
 |[],_::_,l,_=>by simp at l
 |_::_,[],l,_=>by simp at l
theorem nS {α β γ:Type}{F:α->β->Prop}{G:α->γ->Prop}{f:β->γ}:∀{l:List α} {m:List β},Paired F l m->(∀a b,F a b->G a (f b))->Paired G l (m.map f)
 |_,_,.nil,_=>.nil
 |_,_,.cons h t,k=>.cons (k _ _ h) (nS t k)
theorem wF {s:Ob}:(s.map λn=>((n:Nat):Int)).Nodup↔s.Nodup:=by
 unfold List.Nodup;rw[List.pairwise_map];exact⟨λh=>h.imp λn e=>n (by rw[e]),λh=>h.imp λn e=>n (by omega)⟩
theorem E8 {s:Ob}:nV s=(s.map λn=>((n:Nat):Int)).map V.int:=by
 unfold nV;rw[LP];rfl
section
variable {P:Program}{w:World}{K:Oc}{mg:Oe}{base:Heap}
def jf (K:Oc) (r:Oa->Ob->Nat):Sp:=λvs H Q _=>∃(a t:Addr) (ss:Oa) (s:Ob),vs=[.ref a,.ref t]/\bE K H a ss/\bZ K H t (nV s)/\C3 ss/\s.length<=ss.length/\∀H',au H H'->Q (.int (r ss s:Nat)) H'
theorem t_:aI ["sets","start","numbers"] ["sets","start"] (ax fY):=fs
theorem Eu (G:GW mg){k:Nat}(FI:Fn P w K mg base bJ k "is_of" ["sets","start"] (sT K))(FP:Fn P w K mg base bJ k "product_of" ["numbers"] (BS K)){f:Addr}{fd:FuncData}(F:dI K "count_legs" "count_legs" fY f fd):bf P w K mg base bJ (k+1) f fd ["sets","start"] (jf K kP):=by
 refine F.ok t_ (λvs H Q E h=>?_) (λcdv A outer s H vs Q E hr h=>?_)
 · obtain⟨_,_,_,_,rfl,_⟩:=h;rfl
 · obtain⟨a,t,ss,s,rfl,hL,hT,hS,hl,q⟩:=h;refine⟨_,af (aT (cz (hU (aZ FI hr bh (aa (pv 0) (aa (pv 1) ah))))) (ak (aA aw)) aC)
    (ak (aA (aZ FP hr bh (aa (fC (te:=Ie (λxs H Q=>∃p ys,xs=[.ref p]/\(aS K H p ys∨bZ K H p ys)/\Q (.int ys.length) H) (cM (cH 2) fe)) rfl t_.nd (bG (cK fq (pv 0) (cY (aG az (by rfl) G.len PySem.boot_len (aa (pv 1) ah))) ft)) (bA (own:=[("numbers",2)]) rfl)
     (λ_ _ _ _ _=>aK (i:=2) t_.nd rfl (Or.inl rfl)) (λ_ _ _ _ _=>cn) (λ_ _ _ _ _=>aG az (by rfl) G.len PySem.boot_len (aa (pv 2) ah))) ah)))),?_⟩
   refine⟨_,rfl,_,rfl,a,t,ss,s,rfl,hL,hT,hS.len,hl,λH1 S1=>⟨_,rfl,?_⟩⟩;obtain⟨as,hA,hP⟩:=hL;have lenA:as.length=ss.length:=Paired.length hP;unfold kP at q;refine gH (λh=>?_) (λh=>?_)
   · have h:¬ie ss s=true:=by simpa using h
     rw[Lo h] at q;exact q H1 S1
   have h:ie ss s=true:=by simpa using h
   rw[Lp h] at q;refine⟨_,rfl,_,rfl,t,_,rfl,.inr (S1.tup hT),_,rfl,a,_,rfl,S1.seq hA,λp hp=>?_⟩;rw[aP,qc,←NU];have S2:au H (upd H1 p (.lst ((as.drop s.length).map V.ref))):=S1.trans ((au.refl H1).laid hp);refine⟨p,rfl,⟨_,aS.of ae⟩,λD hD=>om (K:=K) (a:=p) (xs:=(as.drop s.length).map V.ref) (λi y _=>∃si,(ss.drop s.length)[i]?=some si/\y=.int (si.length:Nat)) (λi y H H' _ z=>z) (aS.of ae) hD (by rw[Ln,Mf];have:=hS.len;omega) ?_ ?_⟩
   · rintro i x H' hx S _ R hR;obtain⟨ai,hai,rfl⟩:=jA hx;obtain⟨si,hsi,hI⟩:=Paired.qG (Paired.dp s.length hP) hai;exact⟨rfl,_,rfl,ai,nV si,rfl,.inl ((S2.trans S).seq hI),hR _ _ (au.refl _) ⟨si,hsi,by rw[aP]⟩⟩
   · rintro ys H' S e l f;have ey:ys=nV ((ss.drop s.length).map List.length):=by
      refine xr (by rw[l,aP,Ln,Ln,Mf,Mf,lenA]) λi y hy=>?_;obtain⟨si,hsi,rfl⟩:=f i y hy;unfold nV;rw[Ls,Ls,hsi];rfl
     subst ey;refine⟨D,_,rfl,aS.of e,λn hn=>?_,λH2 S3=>q H2 ((S2.trans S).trans S3)⟩;obtain⟨s0,hs0,rfl⟩:=LX.mp hn;have g:=hS.good s0 (MW hs0);have:=jE g.1 g.2;omega
theorem C3.out {ss:Oa}{s:Ob}(o:C3 ss)(n:Nat):C3 ((ss.drop n).map (gG s)):=by
 refine⟨by rw[Ln,Mf];have:=o.len;omega,λu hu=>?_,λu hu x hx=>?_⟩
 · obtain⟨v,hv,rfl⟩:=LX.mp hu;have g:=o.good v (MW hv);exact⟨List.Pairwise.filter _ g.1,λx hx=>g.2 x (Mx.mp hx).1⟩
 · obtain⟨v,hv,rfl⟩:=LX.mp hu;exact o.lo v (MW hv) x (Mx.mp hx).1
theorem ue:aI ["sets","start","numbers"] ["sets","start"] (ax eJ):=fs
theorem De (G:GW mg)(N:GN mg){k:Nat}(FI:Fn P w K mg base bJ k "is_of" ["sets","start"] (sT K))(FD:Fn P w K mg base bJ k "count_different" ["sets"] (F6 K))(FW:Fn P w K mg base bJ k "without" ["numbers","taken"] (sL K)){f:Addr}{fd:FuncData}(F:dI K "count_orders" "count_orders" eJ f fd):bf P w K mg base bJ (k+1) f fd ["sets","start"] (jf K tR):=by
 refine F.ok ue (λvs H Q E h=>?_) (λcdv A outer s H vs Q E hr h=>?_)
 · obtain⟨_,_,_,_,rfl,_⟩:=h;rfl
 · obtain⟨a,t,ss,s,rfl,hL,hT,hS,hl,q⟩:=h;refine⟨_,af (aT (PW.pt (d9 (cz (hU (aZ FI hr bh (aa (pv 0) (aa (pv 1) ah))))) (cS (aB nG (aG D4 (by rfl) G.len PySem.boot_len (aa (ki (Eg rfl) (by rfl) N.set (by decide +kernel) (aa (pv 1) ah)) ah)) (aG az (by rfl) G.len PySem.boot_len (aa (pv 1) ah)) (aM _))))) (ak (aA aw)) aC)
    (ak (aA (aZ FD hr bh (aa (fC (te:=nH (sL K) [] E0 (cM (cH 2) (cM (cH 1) fe))) rfl ue.nd (bG (cK fq (pv 0) (cY (aG az (by rfl) G.len PySem.boot_len (aa (pv 1) ah))) ft)) (bA (own:=[("numbers",2)]) rfl)
     (λ_ _ _ _ _=>aK (i:=2) ue.nd rfl (Or.inl rfl)) (λ_ _ _ _ _=>cn) (λ_ _ _ _ _=>aZ FW (by first|exact hr|exact hr.qH) bh (aa (pv 2) (aa (pv 1) ah)))) ah)))),?_⟩
   refine⟨_,rfl,_,rfl,a,t,ss,s,rfl,hL,hT,hS.len,hl,λH1 S1=>⟨_,rfl,?_⟩⟩;obtain⟨as,hA,hP⟩:=hL;have lenA:as.length=ss.length:=Paired.length hP;have h6:=hS.len;unfold tR at q;refine gH (λh=>?_) (λh=>?_)
   · have h:¬ie ss s=true:=by simpa using h
     rw[Lo λz=>h z.1] at q;exact n8 (q H1 S1)
   have h:ie ss s=true:=by simpa using h
   refine⟨_,rfl,t,s.map λn=>((n:Nat):Int),rfl,by rw[←E8];exact S1.tup hT,by rw[Ln];omega,λp S n hp hn hiff=>?_⟩;rw[Ln] at hn hiff;rw[wF] at hiff;have Sp:au H (upd H1 p (.set S n)):=S1.trans ((au.refl H1).laid hp);refine⟨p,S,n,rfl,ae,by omega,_,rfl,t,_,rfl,.inr (Sp.tup hT),_,_,rfl,rfl,_,rfl,?_⟩;rw[aP];refine gH (λh2=>?_) (λh2=>?_)
   · have h2:=LI h2;rw[Lo λz=>by have:=hiff.mpr z.2;omega] at q;exact q _ Sp
   have h2:s.Nodup:=hiff.mp (by have:¬((n:Nat):Int) < ((s.length:Nat):Int):=by simpa using h2
                                omega)
   rw[Lp ⟨h,h2⟩] at q;refine⟨_,rfl,_,rfl,t,_,rfl,.inr (Sp.tup hT),_,rfl,a,_,rfl,Sp.seq hA,λp2 hp2=>?_⟩;rw[aP,qc,←NU];have S2:au H (upd (upd H1 p (.set S n)) p2 (.lst ((as.drop s.length).map V.ref))):=Sp.trans ((au.refl _).laid hp2);refine⟨p2,rfl,⟨_,aS.of ae⟩,λD hD=>om (K:=K) (a:=p2) (xs:=(as.drop s.length).map V.ref) (λi y H=>∃b si,(ss.drop s.length)[i]?=some si/\y=.ref b/\b≠D/\H b=some (.lst (nV (gG s si)))) (λi y H H' z ⟨b,si,z1,z2,z3,z4⟩=>⟨b,si,z1,z2,z3,z b _ z3 z4⟩) (aS.of ae) hD (by rw[Ln,Mf];omega) ?_ ?_⟩
   · rintro i x H' hx S3 ⟨acc,hacc⟩ R hR;obtain⟨ai,hai,rfl⟩:=jA hx;obtain⟨si,hsi,hI⟩:=Paired.qG (Paired.dp s.length hP) hai;have g:=hS.good si (MW (LR hsi));have:=jE g.1 g.2;refine⟨rfl,_,rfl,_,rfl,ai,t,si,s,rfl,(S2.trans S3).seq hI,(S2.trans S3).tup hT,by omega,λH4 x S4 hx0 hx4=>hR _ _ S4 ⟨x,si,hsi,rfl,?_,hx4⟩⟩;rintro rfl;rw[hacc] at hx0;cases hx0
   · rintro ys H' S3 e l f;obtain⟨bs,rfl,hB⟩:=yy (zs:=ss.drop s.length) (G:=λb si=>b≠D/\H' b=some (.lst (nV (gG s si)))) (by rw[l,Ln,Mf,Mf,lenA]) f;refine⟨D,(ss.drop s.length).map (gG s),rfl,⟨bs,aS.of e,nS hB λb si z=>aS.of z.2⟩,hS.out _,λH2 S4=>q H2 ((S2.trans S3).trans S4)⟩
end
structure px (kvs:List (List Key×V))(f:Ob->Nat):Prop where
 val:∀s,cT kvs (kL s)=if f s=0 then none else some (.int (f s:Nat))
 keys:∃ks:Oa,kvs.map (·.1)=ks.map kL/\ks.Nodup
theorem px.get {kvs:List (List Key×V)}{f:Ob->Nat}(h:px kvs f)(s:Ob):(cT kvs (kL s)).getD (.int 0)=.int (f s:Nat):=by
 rw[h.val s];by_cases z:f s=0
 · rw[Lp z,z];rfl
 · rw[Lo z];rfl
theorem px.put {kvs:List (List Key×V)}{f g:Ob->Nat}(h:px kvs f)(s:Ob)(hg:∀r,g r=if r=s then f s+1 else f r):px (putK kvs (kL s) (.int (f s+1:Nat))) g:=by
 refine⟨λr=>?_,?_⟩
 · rw[p8,hg r];by_cases e:r=s
   · subst e;rw[Lp rfl,Lp rfl,Lo (by omega)]
   · rw[Lo λz=>e (AX z),Lo e,h.val r]
 · obtain⟨ks,e,nd⟩:=h.keys;exact⟨_,vH e,my nd⟩
theorem BO {kvs:List (List Key×V)}{k:List Key}{v:V}:(putK kvs k v).length<=kvs.length+1:=by
 unfold putK;split
 · rw[Ln];omega
 · rw[LK];exact Lx _
def tG (R:Oa)(row:Ob)(j:Nat)(s:Ob):Nat:=pre R s+if s.length < j/\s.isPrefixOf row=true then 1 else 0
theorem zl (R:Oa)(row s:Ob):tG R row 0 s=pre R s:=by
 unfold tG;rw[Lo (by omega),Nat.add_zero]
theorem CS (R:Oa)(row s:Ob):tG R row (row.length+1) s=pre (R++[row]) s:=by
 unfold tG pre;rw[List.countP_append,List.countP_singleton];congr 1;refine kh ⟨λh=>h.2,λh=>⟨?_,h⟩⟩;have:=(N8.mp h).length_le;omega
theorem zQ {R:Oa}{row:Ob}{j:Nat}(hj:j<=row.length)(s:Ob):tG R row (j+1) s=if s=row.take j then tG R row j (row.take j)+1 else tG R row j s:=by
 have l:(row.take j).length=j:=by rw[LM];omega
 unfold tG;by_cases e:s=row.take j
 · subst e;rw[Lp rfl,Lp ⟨by omega,N8.mpr (List.take_prefix ..)⟩,Lo (by omega)]
 · rw[Lo e];congr 1;refine kh ⟨λh=>⟨?_,h.2⟩,λh=>⟨by omega,h.2⟩⟩;have:s.length≠j:=λz=>e (by rw[(List.prefix_iff_eq_take.mp (N8.mp h.2)),z]);omega
section
variable {P:Program}{w:World}{K:Oc}{mg:Oe}{base:Heap}
def Fj:Sp:=λvs H Q _=>∃(a:Addr) (R:Oa),vs=[.ref a]/\Ca H a R/\(∀r∈R,r.length<=3)/\R.length<=20000/\∀H' x kvs,au H H'->H x=none->H' x=some (.dT kvs)->px kvs (pre R)->Q (.ref x) H'
theorem oS:aI ["rows","counts","row","size","start"] ["rows"] (ax eN):=fs
theorem HM (G:GW mg)(N:GN mg){f:Addr}{fd:FuncData}(F:dI K "count_starts" "count_starts" eN f fd):bf P w K mg base bJ 1 f fd ["rows"] Fj:=by
 refine F.ok oS (λvs H Q E h=>?_) (λcdv A outer s H vs Q E hr h=>?_)
 · obtain⟨_,_,rfl,_⟩:=h;rfl
 · obtain⟨a,R,rfl,⟨qs,hA,hP⟩,h3,hl,q⟩:=h;have hu:=vg hr;refine⟨_,af (aN (i:=1) oS.nd rfl (Or.inl rfl) qb)
    (af (cR Mt rfl (bG (pv 0)) (aK (i:=2) oS.nd rfl (Or.inl rfl))
     (ak (cR Mt rfl (gf rfl N.range (aa (bK d_ (aG az (by rfl) G.len PySem.boot_len (aa (pv 2) ah)) aw) ah)) (aK (i:=3) oS.nd rfl (Or.inl rfl))
      (af (aN (i:=4) oS.nd rfl (Or.inl rfl) (cK Dl (pv 2) ft (cY (pv 3))))
      (ak (lK hu (pv 1) (pv 4) (bK d_ (vL hu (pv 1) (pv 4) aw ⟨rfl,rfl,rfl,rfl⟩) aw) rfl))))))
    (ak (aA (pv 1)))),?_⟩
   have lenQ:qs.length=R.length:=Paired.length hP;intro dc hdc;have S0:au H (upd H dc (.dT [])):=(au.refl H).laid hdc;refine⟨_,rfl,a,rfl,⟨_,aS.of (S0 _ _ hA)⟩,cN (K:=K) (a:=a) (xs:=qs.map V.ref) (λi σ H'=>∃(v2 v3 v4:Option V) (kvs:List (List Key×V)),σ=[some (.ref a),some (.ref dc),v2,v3,v4]/\au H H'/\H' dc=some (.dT kvs)/\px kvs (pre (R.take i))/\kvs.length<=4*i)
    ⟨none,none,none,[],rfl,S0,ae,⟨λs=>rfl,[],rfl,by simp⟩,by simp⟩ (λi σ H' _ ⟨_,_,_,_,_,S,_⟩=>aS.of (S _ _ hA)) ?_ ?_⟩
   · rintro i x σ H1 hi ⟨v2,v3,v4,kvs,rfl,S1,e1,k1,l1⟩;obtain⟨qa,hqa,rfl⟩:=jA hi;obtain⟨row,hrow,hT⟩:=Paired.qG hP hqa;have hil:i < R.length:=(LB.mp hrow).1;have r3:=h3 row (LR hrow);refine pK (sP (jr (aY (ag rfl) (.inr (bZ.of (S1 _ _ hT)))) aE) (by omega) (by rw[aP];omega) ?_);rw[aP,show (((row.length:Nat):Int)+1).toNat=row.length+1 by omega];refine mY (lo:=0) (n:=row.length+1) (λj σ H'=>∃(v3 v4:Option V) (kvs:List (List Key×V)),σ=[some (.ref a),some (.ref dc),some (.ref qa),v3,v4]/\au H H'/\H' dc=some (.dT kvs)/\px kvs (tG (R.take i) row j)/\kvs.length<=4*i+j)
      ⟨v3,v4,kvs,rfl,S1,e1,⟨λs=>by rw[zl];exact k1.val s,k1.keys⟩,l1⟩ ?_ ?_
     · rintro j σ H2 hj ⟨v3,v4,kvs,rfl,S2,e2,k2,l2⟩;rw[Int.zero_add];refine⟨_,rfl,_,rfl,_,rfl,qa,_,rfl,S2 _ _ hT,λp H3 S3 hp=>?_⟩;rw[o4] at hp;have et:(nV row).take j=(kL (row.take j)).map kV:=by rw[EF];unfold nV;rw[List.map_take]
       rw[et] at hp;have e3:=S3 _ _ e2;refine⟨_,rfl,dc,rfl,.inr ⟨kvs,.inl e3⟩,_,rfl,_,gi.t e3 hp,_,_,k2.get _,rfl,_,rfl,_,rfl,dc,_,rfl,.inr ⟨kvs,_,p,e3,rfl,hp,by rw[LQ];omega,rfl⟩,_,_,_,rfl,?_,ae,?_,?_⟩
       · intro b u z;rw[aq (ao z hdc)];exact S3 b u (S2 b u z)
       · have:=k2.put (row.take j) (zQ (R:=R.take i) (row:=row) (j:=j) (by omega));exact this
       · exact Ma BO (by omega)
     · rintro σ H2 ⟨v3,v4,kvs,rfl,S2,e2,k2,l2⟩;refine⟨_,_,_,kvs,rfl,S2,e2,⟨λs=>?_,k2.keys⟩,by omega⟩;rw[k2.val s,CS,←take_snoc hrow]
   · rintro σ H1 ⟨v2,v3,v4,kvs,rfl,S1,e1,k1,l1⟩;rw[Ln,lenQ,Ml] at k1;exact⟨_,rfl,q H1 dc kvs S1 hdc e1 k1⟩
end
def mE (k g p:V):List (Str×V):=[("kind",k),("grids",g),("picks",p)]
abbrev jC:List Str:=["kind","grids","picks"]
section
variable {a b c:V}
theorem we:(mE a b c).lookup ("kind":Str)=some a:=bC
theorem vN:(mE a b c).lookup ("grids":Str)=some b:=by unfold mE;rw[aU (by decide +kernel)];exact bC
theorem vv:(mE a b c).lookup ("picks":Str)=some c:=by unfold mE;rw[aU (by decide +kernel),aU (by decide +kernel)];exact bC
theorem BG {f:Str}(h:¬f∈jC):(mE a b c).lookup f=none:=oh h
end
def dw (K:Oc)(H:Hp)(a:Addr)(gs:List (Oa)):Prop:=∃as:List Addr,aS K H a (as.map V.ref)/\Paired (bE K H) as gs
def dW (K:Oc)(CR:Addr)(H:Hp)(x:Addr)(kd:Tote.Kind)(gs:List (Oa)):Prop :=
 ∃dx ga pa kvs,H x=some (.ins CR dx (mE (.str (st (cd (kindS kd)))) (.ref ga) (.ref pa)))/\dw K H ga gs/\ux kd gs/\H pa=some (.dT kvs)/\(kd=.any->px kvs (pre (bz (gs.headD []))))
section
variable {K:Oc}{H H':Hp}{CR a x:Addr}{kd:Tote.Kind}{gs:List (Oa)}
theorem dw.same (h:dw K H a gs) (e:au H H'):dw K H' a gs:=by
 obtain⟨as,h1,h2⟩:=h;exact⟨as,e.seq h1,Paired.d8 h2 λ_ _ z=>z.same e⟩
theorem dw.jI {C dx:Addr}{fs:List (Str×V)}(h:dw K H a gs)(S:aQ x H H')(hx:H x=some (.ins C dx fs)):dw K H' a gs:=by
 obtain⟨as,h1,h2⟩:=h;exact⟨as,S.seq hx h1,Paired.d8 h2 λ_ _ z=>aQ.lists S hx z⟩
theorem dw.first (h:dw K H a gs)(ne:gs≠[]):∃(as:List Addr) (a0:Addr),aS K H a (as.map V.ref)/\nN (as.map V.ref) 0=some (V.ref a0)/\bE K H a0 (gs.headD [])/\gs.headD []∈gs:=by
 obtain⟨as,h1,h2⟩:=h;cases h2 with
 |nil=>exact absurd rfl ne
 |@cons a0 g as gs h t=>exact⟨_,a0,h1,cj (j:=0) rfl,h,by simp⟩
theorem dW.same (h:dW K CR H x kd gs)(e:au H H'):dW K CR H' x kd gs:=by
 obtain⟨dx,ga,pa,kvs,h1,h2,h3,h4,h5⟩:=h;exact⟨dx,ga,pa,kvs,e _ _ h1,h2.same e,h3,e _ _ h4,h5⟩
theorem dW.jI {y C dy:Addr}{fs:List (Str×V)}(h:dW K CR H x kd gs)(S:aQ y H H')(hy:H y=some (.ins C dy fs))(hl:fs.length≠3):dW K CR H' x kd gs:=by
 obtain⟨dx,ga,pa,kvs,h1,h2,h3,h4,h5⟩:=h;exact⟨dx,ga,pa,kvs,S _ _ h1 (dF h1 hy (Bc λz=>hl z.symm)),h2.jI S hy,h3,S _ _ h4 (dF h4 hy (by intro z;cases z)),h5⟩
end
theorem kind_any {kd:Tote.Kind}:decide (V.str (st (cd (kindS kd)))=V.str (Str.ofString "any"))=decide (kd=.any):=by
 rw[iy];cases kd <;> decide
theorem kind_ord {kd:Tote.Kind}:decide (V.str (st (cd (kindS kd)))=V.str (Str.ofString "order"))=decide (kd=.order):=by
 rw[iy];cases kd <;> decide
section
variable {P:Program}{w:World}{K:Oc}{mg:Oe}{base:Heap}
def ko (K:Oc) (CR:Addr):Sp:=λvs H Q _=>∃(x dx ga:Addr) (kd:Tote.Kind) (gs:List (Oa)),vs=[.ref x,.str (st (cd (kindS kd))),.ref ga]/\H x=some (.ins CR dx [])/\dw K H ga gs/\ux kd gs/\∀H',aQ x H H'->dW K CR H' x kd gs->Q .b8 H'
theorem A7:aI ["self","kind","grids"] ["self","kind","grids"] (ax gJ):=fs
theorem BN {CR:Addr}(T:CK K mg "Rows" jC CR){k:Nat}(FC:Fn P w K mg base bJ k "count_starts" ["rows"] Fj)(FP:Fn P w K mg base bJ k "picks_of" ["sets"] (qY K)){f:Addr}{fd:FuncData}(F:dI K "__init__" "Rows.__init__" gJ f fd):bf P w K mg base bJ (k+1) f fd ["self","kind","grids"] (ko K CR):=by
 refine F.ok A7 (λvs H Q E h=>?_) (λcdv A outer s H vs Q E hr h=>?_)
 · obtain⟨_,_,_,_,_,rfl,_⟩:=h;rfl
 · obtain⟨x,dx,ga,kd,gs,rfl,hx,hG,o,q⟩:=h;refine⟨_,af (cD (pv 0) (pv 1) rfl) (af (cD (pv 0) (pv 2) rfl) (ak (cD (pv 0) (AV (aB cg (pv 1) bt (aM _)) (aZ FC hr bh (aa (aZ FP hr bh (aa (bq aR (pv 2) aw (λ_ _=>rfl)) ah)) ah)) qb) rfl))),?_⟩;refine⟨_,rfl,_,rfl,x,CR,dx,[],rfl,hx,T.cl,T.no _ (by simp),(by show 0 < 1000;decide),?_⟩;refine⟨_,rfl,_,rfl,x,CR,dx,_,rfl,ae,T.cl,T.no _ (by simp),(by show 1 < 1000;decide),?_⟩;rw[cu]
   repeat (first|rw[bT]|rw[bo (by decide +kernel)])
   have S1:aQ x H (upd H x (.ins CR dx [("kind",.str (st (cd (kindS kd)))),("grids",.ref ga)])):=(aQ.refl x H).upd;have hx1:(upd H x (.ins CR dx [("kind",.str (st (cd (kindS kd)))),("grids",.ref ga)])) x=some (.ins CR dx [("kind",.str (st (cd (kindS kd)))),("grids",.ref ga)]):=ae;generalize upd H x (.ins CR dx [("kind",.str (st (cd (kindS kd)))),("grids",.ref ga)])=H1 at S1 hx1;have hG1:=hG.jI S1 hx;have fin:∀(H2:Hp) (pa:Addr) (kvs:List (List Key×V)),au H1 H2->H2 pa=some (.dT kvs)->(kd=.any->px kvs (pre (bz (gs.headD []))))->Q .b8 (upd H2 x (.ins CR dx (mE (.str (st (cd (kindS kd)))) (.ref ga) (.ref pa)))):=λH2 pa kvs S2 hp hk=>by
    have SX:aQ x H (upd H2 x (.ins CR dx (mE (.str (st (cd (kindS kd)))) (.ref ga) (.ref pa)))):=(S1.trans S2.x).upd;exact q _ SX ⟨dx,ga,pa,kvs,ae,hG.jI SX hx,o,by rw[aq (dF hp (S2 _ _ hx1) (by intro z;cases z))];exact hp,hk⟩
   have last:∀(H2:Hp) (pa:Addr) (kvs:List (List Key×V)),au H1 H2->H2 pa=some (.dT kvs)->(kd=.any->px kvs (pre (bz (gs.headD []))))->Q .b8 (upd H2 x (.ins CR dx (eK "picks" (.ref pa) [("kind",.str (st (cd (kindS kd)))),("grids",.ref ga)]))):=λH2 pa kvs S2 hp hk=>by
    rw[bo (by decide +kernel),bo (by decide +kernel),bT];exact fin H2 pa kvs S2 hp hk
   refine (aL (b9 (ag rfl) aE)) _ ?_;rw[kind_any];refine gH (λh=>?_) (λh=>?_)
   · have h:=LI h;obtain⟨as,a0,hA,h0,hL,hm⟩:=hG1.first o.ne
     have sg:=o.ok _ hm;have l3:=o.any h _ hm;generalize gs.headD []=g at hL sg l3 last;refine (a_ (ag rfl) aE hA h0) _ ⟨a0,g,rfl,hL,sg,l3,λH2 xp S2 hT2=>⟨xp,_,rfl,hT2,λr hm=>?_,?_,λH3 xd kvs S3 hxd e3 k3=>?_⟩⟩
     · rw[(j7 ((jX g r).mp hm).2).1];exact l3
     · have:=mU 3 g λs hs=>jE (sg.good s hs).1 (sg.good s hs).2;rw[Mj l3] at this;exact Ma this (by decide)
     · exact⟨_,rfl,x,CR,dx,_,rfl,S3 _ _ (S2 _ _ hx1),T.cl,T.no _ (by simp),(by show 2 < 1000;decide),last H3 xd kvs (S2.trans S3) e3 λ_=>k3⟩
   · have h:=L8 (by simpa using h);intro d hd;exact⟨_,rfl,x,CR,dx,_,rfl,((au.refl H1).laid hd) _ _ hx1,T.cl,T.no _ (by simp),(by show 2 < 1000;decide),last _ d [] ((au.refl H1).laid hd) ae λz=>absurd z h⟩
def sY (K:Oc)(CR:Addr):Sp:=λvs H Q _=>∃(x t:Addr) (kd:Tote.Kind) (gs:List (Oa)) (s:Ob),vs=[.ref x,.ref t]/\dW K CR H x kd gs/\H t=some (.tup (nV s))/\(∀g∈gs,s.length<=g.length)/\∀H',au H H'->Q (.int (pre (rB kd gs) s:Nat)) H'
theorem jS:aI ["self","start","grid"] ["self","start"] (ax dP):=fs
theorem Cv {CR:Addr}(N:GN mg)(T:CK K mg "Rows" jC CR){k:Nat}(FO:Fn P w K mg base bJ k "count_orders" ["sets","start"] (jf K tR))(FL:Fn P w K mg base bJ k "count_legs" ["sets","start"] (jf K kP)){f:Addr}{fd:FuncData}(F:dI K "starting" "Rows.starting" dP f fd):bf P w K mg base bJ (k+1) f fd ["self","start"] (sY K CR):=by
 refine F.ok jS (λvs H Q E h=>?_) (λcdv A outer s H vs Q E hr h=>?_)
 · obtain⟨_,_,_,_,_,rfl,_⟩:=h;rfl
 · obtain⟨x,t,kd,gs,s,rfl,⟨dx,ga,pa,kvs,hx,hG,o,hp,hk⟩,hT,hl,q⟩:=h;have hu:=vg hr;refine⟨_,af (aT (aB cg (aX (pv 0) rfl) bt (aM _)) (ak (aA (vL hu (aX (pv 0) rfl) (pv 1) aw ⟨rfl,rfl,rfl,rfl⟩))) aC)
    (af (aT (aB cg (aX (pv 0) rfl) bt (aM _)) (ak (aA (aG (xR rfl) (by rfl) N.sum (by decide +kernel) (aa (fC (te:=nH (jf K tR) [] E0 (cM (cH 2) (cM (cH 1) fe))) rfl jS.nd (bG (aX (pv 0) rfl)) (bA (own:=[("grid",2)]) rfl) (λ_ _ _ _ _=>aK (i:=2) jS.nd rfl (Or.inl rfl)) (λ_ _ _ _ _=>cn) (λ_ _ _ _ _=>aZ FO (by first|exact hr|exact hr.qH) bh (aa (pv 2) (aa (pv 1) ah)))) ah)))) aC)
    (ak (aA (aG (xR rfl) (by rfl) N.sum (by decide +kernel) (aa (fC (te:=nH (jf K kP) [] E0 (cM (cH 2) (cM (cH 1) fe))) rfl jS.nd (bG (aX (pv 0) rfl)) (bA (own:=[("grid",2)]) rfl) (λ_ _ _ _ _=>aK (i:=2) jS.nd rfl (Or.inl rfl)) (λ_ _ _ _ _=>cn) (λ_ _ _ _ _=>aZ FL (by first|exact hr|exact hr.qH) bh (aa (pv 2) (aa (pv 1) ah)))) ah))))),?_⟩
   have evK:∀{σ:L2.St},σ[0]?=some (some (V.ref x))->Ev (uZ K (cH 0) "kind") σ H (.str (st (cd (kindS kd)))):=λz=>bc (ag z) hx T.cl (T.no _ (by simp)) we;have evG:∀{σ:L2.St},σ[0]?=some (some (V.ref x))->Ev (uZ K (cH 0) "grids") σ H (.ref ga):=λz=>bc (ag z) hx T.cl (T.no _ (by simp)) vN;have many:∀(r:Oa->Ob->Nat) (R:VK),(∀H',au H H'->R (.int (((gs.map λg=>r g s).sum:Nat))) H')->(Hd (FU K (uZ K (cH 0) "grids")) (gg 2) A8 (nH (jf K r) [] E0 (cM (cH 2) (cM (cH 1) fe))) [2]) [some (.ref x),some (.ref t),none] H λv H'=>Js K [v] H' R:=by
    intro r R hR;obtain⟨as,hA,hP⟩:=hG;have lenA:as.length=gs.length:=Paired.length hP;refine xZ ?_;show uZ _ _ _ _ _ _;refine evG rfl _ ⟨ga,rfl,⟨_,hA⟩,λD hD=>om (K:=K) (a:=ga) (xs:=as.map V.ref) (λi y _=>∃g,gs[i]?=some g/\y=.int (r g s:Nat)) (λi y H H' _ z=>z) hA hD (by rw[Ln,lenA];have:=o.vw;omega) ?_ ?_⟩
    · rintro i v H' hi S _ R hR;obtain⟨ai,hai,rfl⟩:=jA hi;obtain⟨g,hg,hL⟩:=Paired.qG hP hai;have mg:=LR hg;exact⟨rfl,_,rfl,_,rfl,ai,t,g,s,rfl,hL.same S,bZ.of (S _ _ hT),o.ok g mg,hl g mg,λH4 S4=>hR _ _ S4 ⟨g,hg,rfl⟩⟩
    · rintro ys H' S e l f;have ey:ys=((gs.map λg=>r g s).map λn=>((n:Nat):Int)).map V.int:=by
       refine xr (by rw[l];simp[lenA]) λi y hy=>?_;obtain⟨g,hg,rfl⟩:=f i y hy;rw[Ls,Ls,Ls,hg];rfl
      subst ey;refine⟨D,_,rfl,aS.of e,?_⟩;rw[pZ];exact hR H' S
   refine a6 (aL (b9 (evK rfl) aE)) (λh=>?_) (λh=>?_)
   · rw[kind_any] at h;have h:=LI h;have hk2:=hk h;subst h;show uZ _ _ _ _ _ _;refine (bc (ag rfl) hx T.cl (T.no _ (by simp)) vv) _ ⟨pa,rfl,.inr ⟨kvs,.inl hp⟩,_,rfl,_,gi.t hp (k:=kL s) (by rw[EF];exact hT),?_⟩;show Q ((cT kvs (kL s)).getD (.int 0)) H;rw[hk2.get s];exact q H (au.refl H)
   rw[kind_any] at h;have na:=L8 h;refine a6 (aL (b9 (evK rfl) aE)) (λh=>?_) (λh=>?_)
   · rw[kind_ord] at h;have h:=LI h;subst h;refine many tR _ λH' S=>?_;rw[zm o hl];exact q H' S
   rw[kind_ord] at h;have no:=L8 h;refine many kP _ λH' S=>?_;rw[B9 no na o hl];exact q H' S
end
abbrev dN (s:Ob):List PyData:=s.map λn=>.int (n:Nat)
theorem uV:∀s t:Ob,PyData.eqvAll (dN s) (dN t)=(s==t)
 |[],[]=>by simp[PyData.eqvAll]
 |[],_::_=>by simp[PyData.eqvAll]
 |_::_,[]=>by simp[PyData.eqvAll]
 |x::s,y::t=>by
  have ih:=uV s t;have e:(((x:Nat):Int)==((y:Nat):Int))=(x==y):=by rw[L3,Md,Md];omega
  show (PyData.eqv (.int (x:Nat)) (.int (y:Nat))&&PyData.eqvAll (dN s) (dN t))=_;rw[ih];simp only[PyData.eqv];rw[e];rfl
theorem shaped_ints (s:Ob):SeqAt.shaped (.list (dN s))=true:=by
 have h1:∀s:Ob,PyData.canLayAll0 (dN s)=true:=λs=>by
  induction s with
  |nil=>simp[PyData.canLayAll0]
  |cons x s ih=>show (PyData.canLay0 (.int (x:Nat))&&PyData.canLayAll0 (dN s))=true;rw[ih];simp[PyData.canLay0]
 have h2:∀s:Ob,PyData.depthAll (dN s)=0:=λs=>by
  induction s with
  |nil=>simp[PyData.depthAll]
  |cons x s ih=>show max (PyData.depth (.int (x:Nat))) (PyData.depthAll (dN s))=0;rw[ih];simp[PyData.depth]
 unfold SeqAt.shaped;rw[Lv,Lw];refine⟨?_,?_⟩
 · simp only[PyData.canLay0];exact h1 s
 · simp only[PyData.depth];rw[h2];decide
theorem yp {K:Oc}{H:Hp}{c:Addr}{s:Ob}(h:aS K H c (nV s)):Dp K H (.ref c) (.list (dN s)):=by
 refine .lst h ?_;clear h
 induction s with
 |nil=>exact .nil
 |cons x s ih=>exact .cons (.int _) ih
def RS (K:Oc)(sd:Addr)(H:Hp)(c:Addr)(xs:List V):Prop:=∀H',aQ sd H H'->aS K H' c xs
def RL (K:Oc)(sd:Addr)(H:Hp)(b:Addr)(g:Oa):Prop:=∃as:List Addr,RS K sd H b (as.map V.ref)/\Paired (λc s=>RS K sd H c (nV s)) as g
section
variable {K:Oc}{sd b c:Addr}{H H':Hp}{xs:List V}{g:Oa}
theorem RS.of (h:H c=some (.lst xs)) (n:c≠sd):RS K sd H c xs:=λ_ S=>aS.of (S _ _ h n)
theorem RS.old (h:aS K H c xs)(n:H sd=none)(S:au H H'):RS K sd H' c xs:=λ_ SX=>au.seq (λb u z=>SX b u (S b u z) (ao z n)) h
theorem RS.step (h:RS K sd H c xs)(S:aQ sd H H'):RS K sd H' c xs:=λ_ T=>h _ (S.trans T)
theorem RL.step (h:RL K sd H b g)(S:aQ sd H H'):RL K sd H' b g:=by
 obtain⟨as,h1,h2⟩:=h;exact⟨as,h1.step S,Paired.d8 h2 λ_ _ z=>z.step S⟩
theorem RL.lists (h:RL K sd H b g):bE K H b g:=by
 obtain⟨as,h1,h2⟩:=h;exact⟨as,h1 _ (aQ.refl sd H),Paired.d8 h2 λ_ _ z=>z _ (aQ.refl sd H)⟩
end
theorem gF {α β:Type}{F:α->β->Prop}:∀{l:List α} {m:List β} {l':List α} {m':List β},Paired F l m->Paired F l' m'->Paired F (l++l') (m++m')
 |_,_,_,_,.nil,h=>h
 |_,_,_,_,.cons h t,k=>.cons h (gF t k)
section
variable {P:Program}{w:World}{K:Oc}{mg:Oe}{base:Heap}
def qA (K:Oc) (CR:Addr):Sp:=λvs H Q _=>∃(a:Addr) (kd:Tote.Kind) (ss:Oa),vs=[.str (st (cd (kindS kd))),.ref a]/\bE K H a ss/\ux kd [ss]/\∀H' x,au H H'->dW K CR H' x kd [ss]->Q (.ref x) H'
theorem Hn:aI ["kind","sets"] ["kind","sets"] (ax kq):=fs
theorem made {CR:Addr}{H H1:Hp}{Q:VK}{ga:Addr}{kd:Tote.Kind}{gs:List (Oa)}(S:au H H1)(hG:dw K H1 ga gs)(o:ux kd gs)(q:∀H' x,au H H'->dW K CR H' x kd gs->Q (.ref x) H')(x dx:Addr)(hx:H1 x=none)(hdx:H1 dx=none)(nx:dx≠x) :
  ko K CR [.ref x,.str (st (cd (kindS kd))),.ref ga] (upd (upd H1 dx (.own x)) x (.ins CR dx [])) (λv H2=>v=.b8/\Q (.ref x) H2) E0:=by
 have S1:au H1 (upd (upd H1 dx (.own x)) x (.ins CR dx [])):=((au.refl H1).laid hdx).laid hx;exact⟨x,dx,ga,kd,gs,rfl,ae,hG.same S1,o,λH' SX hR=>⟨rfl,q H' x (λb u z=>SX b u (S1 b u (S b u z)) (ao (S b u z) hx)) hR⟩⟩
theorem Hq {CR:Addr}(T:CK K mg "Rows" jC CR){k:Nat}(FR:xn P w K mg base bJ k CR ["self","kind","grids"] (ko K CR)){f:Addr}{fd:FuncData}(F:dI K "rows_on" "rows_on" kq f fd):bf P w K mg base bJ (k+2) f fd ["kind","sets"] (qA K CR):=by
 refine F.ok Hn (λvs H Q E h=>?_) (λcdv A outer s H vs Q E hr h=>?_)
 · obtain⟨_,_,_,rfl,_⟩:=h;rfl
 · obtain⟨a,kd,ss,rfl,hL,o,q⟩:=h;refine⟨_,ak (aA (pX FR hr T.mg bh (aa (pv 0) (aa (bU (aa (pv 1) ah)) ah)))),?_⟩;refine⟨_,rfl,_,rfl,by show 1<=sizeLine;decide,λl hl=>?_⟩;have S1:au H (upd H l (.lst [V.ref a])):=(au.refl H).laid hl;exact λx dx hx hdx nx=>made S1 ⟨[a],aS.of ae,.cons (hL.same S1) .nil⟩ o q x dx hx hdx nx
def rn (K:Oc)(CR:Addr):Sp:=λvs H Q _=>∃(a:Addr) (k:Nat) (kd:Tote.Kind) (s:Ob),vs=[.str (st (cd (kindS kd))),.int (k:Nat),.ref a]/\aS K H a (nV s)/\k<=6/\ux kd [List.replicate k s]/\∀H' x,au H H'->dW K CR H' x kd [List.replicate k s]->Q (.ref x) H'
theorem sO:aI ["kind","size","numbers","place"] ["kind","size","numbers"] (ax iV):=fs
theorem yK {te:TE}{σ:L2.St}{H:Hp}{Q:VK}(h:te σ H λx H1=>1<=sizeLine/\∀p,H1 p=none->Q (.ref p) (upd H1 p (.lst [x]))):HR (cM te fe) σ H Q:=h
theorem HX {te:TE}{n:Nat}{D:Ends}{σ:L2.St}{H:Hp}(h:te σ H λv H'=>D.nx (σ.set n (some v)) H'):zK te (gg n) D σ H:=h
theorem yq {k n m:Nat}{vs:Ob}{a:Addr}{σ:L2.St}{H:Hp}{Q:VK}{ta:TA}{g:TG}(hk:k<=6)(ha:∀R:List V->Hp->Prop,R [.int (k:Nat)] H->ta σ H R)(hg:g=gg n)(hvs:vs=[n])(hv:∀i:Int,((wipe σ [n]).set n (some (.int i)))[m]?=some (some (.ref a))/\wipe ((wipe σ [n]).set n (some (.int i))) [n]=wipe σ [n])
  (q:∀D H',H D=none->au H H'->H' D=some (.lst (List.replicate k (V.ref a)))->Q (.ref D) H'):(Hd (Bj ta) g A8 (cH m) vs) σ H Q:=by
 subst hg hvs;refine xZ (ha _ ⟨_,rfl,by omega,by omega,λD hD=>?_⟩);rw[L9];refine lX (lo:=0) (n:=k) (λi H'=>au H H'/\H' D=some (.lst (List.replicate i (V.ref a)))) ⟨(au.refl H).laid hD,ae⟩ ?_ ?_
 · rintro i H' hi ⟨k1,k2⟩;refine⟨(hv _).2,_,(hv _).1,_,k2,by rw[LY,LQ];omega,λb u z=>?_,?_⟩
   · rw[aq (ao z hD)];exact k1 b u z
   · rw[ae,List.replicate_succ']
 · rintro H' ⟨k1,k2⟩;exact q D H' hD k1 k2
theorem rV {H:Hp}{D a:Addr}{k:Nat}{s:Ob}(h:H D=some (.lst (List.replicate k (V.ref a))))(hs:aS K H a (nV s)):bE K H D (List.replicate k s):=⟨List.replicate k a,aS.of (by rw[h,List.map_replicate]),Paired.rep (F:=ia K H) hs k⟩
theorem Ey {CR:Addr}(N:GN mg)(T:CK K mg "Rows" jC CR){k:Nat}(FR:xn P w K mg base bJ k CR ["self","kind","grids"] (ko K CR)){f:Addr}{fd:FuncData}(F:dI K "rows_box" "rows_box" iV f fd):bf P w K mg base bJ (k+2) f fd ["kind","size","numbers"] (rn K CR):=by
 refine F.ok sO (λvs H Q E h=>?_) (λcdv A outer s H vs Q E hr h=>?_)
 · obtain⟨_,_,_,_,rfl,_⟩:=h;rfl
 · obtain⟨a,n,kd,ss,rfl,hS,h6,o,q⟩:=h;refine⟨_,ak (aA (pX FR hr T.mg bh (aa (pv 0) (aa (bU (aa (fC (te:=cH 2) rfl sO.nd (gf rfl N.range (aa (pv 1) ah)) (bA (own:=[("place",3)]) rfl) (λ_ _ _ _ _=>aK (i:=3) sO.nd rfl (Or.inl rfl)) (λ_ _ _ _ _=>cn) (λ_ _ _ _ _=>pv 2)) ah)) ah)))),?_⟩;refine⟨_,rfl,yK (yq h6 (λR r=>⟨_,rfl,r⟩) rfl rfl (λi=>⟨rfl,rfl⟩) λD H1 hD S1 e1=>⟨by show 1<=sizeLine;decide,λl hl=>?_⟩)⟩;have S2:au H1 (upd H1 l (.lst [V.ref D])):=(au.refl H1).laid hl;exact λx dx hx hdx nx=>made (S1.trans S2) ⟨[D],aS.of ae,.cons ((rV e1 (S1.seq hS)).same S2) .nil⟩ o q x dx hx hdx nx
end
section
variable {P:Program}{w:World}{K:Oc}{mg:Oe}{base:Heap}
def KQ (K:Oc) (H:Hp) (a:Addr) (gs:List (Oa)):Prop:=∃bs:List Addr,H a=some (.lst (bs.map V.ref))/\Paired (bE K H) bs gs
def wZ (K:Oc):Sp:=λvs H Q _=>∃(a b:Addr) (k:Nat) (A B:Ob),vs=[.int (k:Nat),.ref a,.ref b]/\aS K H a (nV A)/\aS K H b (nV B)/\k<=4/\A.length<=3/\∀H' x,au H H'->KQ K H' x (bH B A [List.replicate k B])->Q (.ref x) H'
theorem fW:aI ["size","bankers","others","grids","banker","seated","grid","place"] ["size","bankers","others"] (ax gy):=fs
theorem Eo (N:GN mg){f:Addr}{fd:FuncData}(F:dI K "seatings" "seatings" gy f fd):bf P w K mg base bJ 1 f fd ["size","bankers","others"] (wZ K):=by
 refine F.ok fW (λvs H Q E h=>?_) (λcdv A outer s H vs Q E hr h=>?_)
 · obtain⟨_,_,_,_,_,rfl,_⟩:=h;rfl
 · obtain⟨a,b,k,Bk,B,rfl,hA,hB,h4,h3,q⟩:=h;have hu:(A.deeper (envOfC "seatings" (ax gy) s.heap.objs.size f cdv)).units+64 < cLine:=by have:=hr.un;omega
   refine⟨_,af (aN (i:=3) fW.nd rfl (Or.inl rfl) (bU (aa (fC (te:=cH 2) rfl fW.nd (gf rfl N.range (aa (pv 0) ah)) (bA (own:=[("place",7)]) rfl) (λ_ _ _ _ _=>aK (i:=7) fW.nd rfl (Or.inl rfl)) (λ_ _ _ _ _=>cn) (λ_ _ _ _ _=>pv 2)) ah)))
    (af (cR Mt rfl (bG (pv 1)) (aK (i:=4) fW.nd rfl (Or.inl rfl))
     (af (aN (i:=5) fW.nd rfl (Or.inl rfl) (bU ah))
     (af (cR Mt rfl (bG (pv 3)) (aK (i:=6) fW.nd rfl (Or.inl rfl))
      (ak (cR Mt rfl (gf rfl N.range (aa (pv 0) ah)) (aK (i:=7) fW.nd rfl (Or.inl rfl))
       (ak (aT (aB (Hr hu) (bq aR (pv 6) (pv 7) (λ_ _=>rfl)) (pv 2) (aM _))
        (ak (cZ (lJ PySem.F.plainAttrs_list PySem.F.slot_list_append PySem.F.type_list_append gd (pv 5) (aa (bK xx (bK xx (cK fq (pv 6) ft (cY (pv 7))) (bU (aa (bU (aa (pv 4) ah)) ah))) (cK fq (pv 6) (cY (bK d_ (pv 7) aw)) ft)) ah)))) aC)))))
     (ak (aN (i:=3) fW.nd rfl (Or.inl rfl) (pv 5))))))
    (ak (aA (pv 3)))),?_⟩
   refine Gz (HX (yK (yq (by omega) (λR r=>⟨_,rfl,r⟩) rfl rfl (λi=>⟨rfl,rfl⟩) λD0 H0 hD0 S0 e0=>⟨by show 1<=sizeLine;decide,λg0 hg0=>?_⟩)));have S1:au H0 (upd H0 g0 (.lst [V.ref D0])):=(au.refl H0).laid hg0;have gk:∀i,∀g∈bH B (Bk.take i) [List.replicate k B],g.length=k:=λi=>yC λg hg=>by rw[LC.mp hg,LY]
   have gn:∀i,(bH B (Bk.take i) [List.replicate k B]).length<=64:=λi=>by
    have z:=ni (B:=B) (A:=Bk.take i) (k:=k) (gs:=[List.replicate k B]) (λg hg=>by rw[LC.mp hg,LY]);have pw:k ^ (Bk.take i).length<=4 ^ 3:=Ma (Nat.pow_le_pow_left h4 _) (Nq (by decide) (by rw[LM];omega));rw[MB,Nat.one_mul] at z;omega
   refine⟨_,rfl,a,rfl,⟨_,(S0.trans S1).seq hA⟩,cN (K:=K) (a:=a) (xs:=nV Bk) (λi σ H'=>∃(gr:Addr) (v4 v5 v6 v7:Option V),σ=[some (.int (k:Nat)),some (.ref a),some (.ref b),some (.ref gr),v4,v5,v6,v7]/\au H H'/\KQ K H' gr (bH B (Bk.take i) [List.replicate k B]))
    ⟨g0,none,none,none,none,rfl,S0.trans S1,[D0],ae,.cons ((rV e0 (S0.seq hB)).same S1) .nil⟩ (λi σ H' _ ⟨_,_,_,_,_,_,S,_⟩=>S.seq hA) ?_ ?_⟩
   · rintro i x σ H1 hi ⟨gr,v4,v5,v6,v7,rfl,SH,bs,eg,hP⟩;obtain⟨bk,hbk,rfl⟩:=yw hi;have k1:=gk i;have n1:=gn i;have en:bH B (Bk.take (i+1)) [List.replicate k B]=(bH B (Bk.take i) [List.replicate k B]).flatMap (jq bk B):=by rw[take_snoc hbk,wU]
     generalize bH B (Bk.take i) [List.replicate k B]=gs at hP k1 n1 en;have lenB:bs.length=gs.length:=Paired.length hP;refine⟨LV _,λsd hsd=>?_⟩;have S2:au H1 (upd H1 sd (.lst [])):=(au.refl H1).laid hsd;refine⟨_,rfl,gr,rfl,⟨_,S2.seq (aS.of eg)⟩,cN (K:=K) (a:=gr) (xs:=bs.map V.ref) (λj σ H'=>∃(v6 v7:Option V) (cs:List Addr),σ=[some (.int (k:Nat)),some (.ref a),some (.ref b),some (.ref gr),some (.int (bk:Nat)),some (.ref sd),v6,v7]/\au H1 H'/\H' sd=some (.lst (cs.map V.ref))/\Paired (RL K sd H') cs ((gs.take j).flatMap (jq bk B)))
      ⟨v6,v7,[],rfl,S2,ae,.nil⟩ (λj σ H' _ ⟨_,_,_,_,S,_⟩=>aS.of (S _ _ eg)) ?_ ?_⟩
     · rintro j x σ H2 hj ⟨v6,v7,cs,rfl,S3,e3,hC⟩;obtain⟨bj,hbj,rfl⟩:=jA hj;obtain⟨g,hg,as,hAs,hPs⟩:=Paired.qG hP hbj;have hjl:j < gs.length:=(LB.mp hg).1;have gl:=k1 g (LR hg);have lenA:as.length=g.length:=Paired.length hPs;have enj:(gs.take (j+1)).flatMap (jq bk B)=(gs.take j).flatMap (jq bk B)++kU bk B g k:=by
        rw[take_snoc hg,List.flatMap_append,←gl,rK];simp
       have ln:((gs.take j).flatMap (jq bk B)).length<=256:=by
        have z:=qj (f:=jq bk B) (c:=4) (l:=gs.take j) λg' hg'=>Ma (uf g') (by rw[k1 g' (M5 hg')];exact h4);rw[LM] at z;have:min j gs.length<=64:=by omega
        omega
       generalize (gs.take j).flatMap (jq bk B)=had at hC enj ln;refine pK (sP (ag rfl) (by omega) (by omega) ?_);rw[L9];refine mY (lo:=0) (n:=k) (λp σ H'=>∃(v7:Option V) (cs:List Addr),σ=[some (.int (k:Nat)),some (.ref a),some (.ref b),some (.ref gr),some (.int (bk:Nat)),some (.ref sd),some (.ref bj),v7]/\au H1 H'/\H' sd=some (.lst (cs.map V.ref))/\Paired (RL K sd H') cs (had++kU bk B g p))
        ⟨v7,cs,rfl,S3,e3,by simpa [kU] using hC⟩ ?_ ?_
       · rintro p σ H3 hp ⟨v7,cs,rfl,S4,e4,hC⟩;rw[Int.zero_add];have hpg:p < g.length:=by omega
         have hpa:p < as.length:=by omega
         have ha:as[p]?=some as[p]:=Ly hpa;obtain⟨sp,hsp,hI⟩:=Paired.qG hPs ha;have egd:g.getD p []=sp:=by rw[L7,hsp];rfl
         have eS:=wO bk B g p;rw[egd] at eS;have lc:cs.length<=300:=by
          have z:=Paired.length hC;rw[LK] at z;have:=zA (a:=bk) (B:=B) (g:=g) (j:=p);omega
         refine (a_ (ag rfl) (ag rfl) (S4.seq hAs) (cj (by rw[Ls,ha];rfl))) _ ⟨_,rfl,_,_,yp (S4.seq hI),yp ((SH.trans S4).seq hB),shaped_ints sp,shaped_ints B,_,rfl,?_⟩;have ee:PyData.eqv (.list (dN sp)) (.list (dN B))=(sp==B):=by simp only[PyData.eqv];exact uV sp B
         rw[ee];refine gH (λh=>?_) (λh=>?_)
         · rw[Lp h] at eS;refine⟨_,rfl,.inl ⟨rfl,_,aS.of e4⟩,_,rfl,_,rfl,_,rfl,bj,_,rfl,S4.seq hAs,λq1 hq1=>?_⟩;rw[o4];refine⟨_,rfl,by show 1<=sizeLine;decide,λq2 hq2=>⟨by show 1<=sizeLine;decide,λq3 hq3=>?_⟩⟩;have T1:au H3 (upd H3 q1 (.lst ((as.map V.ref).take p))):=(au.refl H3).laid hq1;have f1:(upd H3 q1 (.lst ((as.map V.ref).take p))) q1=some (.lst ((as.map V.ref).take p)):=ae;generalize upd H3 q1 (.lst ((as.map V.ref).take p))=h1 at T1 f1 hq2 hq3 ⊢;have T2:au h1 (upd h1 q2 (.lst [V.int (bk:Nat)])):=(au.refl h1).laid hq2;have f2:(upd h1 q2 (.lst [V.int (bk:Nat)])) q2=some (.lst [V.int (bk:Nat)]):=ae;generalize upd h1 q2 (.lst [V.int (bk:Nat)])=h2 at T2 f2 hq3 ⊢;have T3:au h2 (upd h2 q3 (.lst [V.ref q2])):=(au.refl h2).laid hq3;have f3:(upd h2 q3 (.lst [V.ref q2])) q3=some (.lst [V.ref q2]):=ae;generalize upd h2 q3 (.lst [V.ref q2])=h3 at T3 f3 ⊢;refine⟨q1,q3,_,_,rfl,rfl,T3 _ _ (T2 _ _ f1),f3,by rw[LM,Ln,LQ];show _+1<=_;omega,λq4 hq4=>?_⟩;have T4:au h3 (upd h3 q4 (.lst ((as.map V.ref).take p++[V.ref q2]))):=(au.refl h3).laid hq4;have f4:(upd h3 q4 (.lst ((as.map V.ref).take p++[V.ref q2]))) q4=some (.lst ((as.map V.ref).take p++[V.ref q2])):=ae;generalize upd h3 q4 (.lst ((as.map V.ref).take p++[V.ref q2]))=h4' at T4 f4 ⊢;have T:au H3 h4':=((T1.trans T2).trans T3).trans T4;refine⟨_,rfl,(jr (ag rfl) aE) _ ⟨_,rfl,bj,_,rfl,(S4.trans T).seq hAs,λq5 hq5=>?_⟩⟩;rw[show ((p:Nat):Int)+1=((p+1:Nat):Int) by omega,qc];have T5:au h4' (upd h4' q5 (.lst ((as.map V.ref).drop (p+1)))):=(au.refl h4').laid hq5;have f5:(upd h4' q5 (.lst ((as.map V.ref).drop (p+1)))) q5=some (.lst ((as.map V.ref).drop (p+1))):=ae;generalize upd h4' q5 (.lst ((as.map V.ref).drop (p+1)))=h5 at T5 f5 ⊢;refine⟨q4,q5,_,_,rfl,rfl,T5 _ _ f4,f5,by rw[LK,LM,Mf,Ln,LQ];show _+1+_<=_;omega,λq6 hq6=>?_⟩;have T6:au h5 (upd h5 q6 (.lst ((as.map V.ref).take p++[V.ref q2]++(as.map V.ref).drop (p+1)))):=(au.refl h5).laid hq6;have f6:(upd h5 q6 (.lst ((as.map V.ref).take p++[V.ref q2]++(as.map V.ref).drop (p+1)))) q6=some (.lst ((as.map V.ref).take p++[V.ref q2]++(as.map V.ref).drop (p+1))):=ae;have nq6:q6≠sd:=(ao (T5 _ _ (T _ _ e4)) hq6).symm;have nq2:q2≠sd:=(ao (T1 _ _ e4) hq2).symm;generalize upd h5 q6 (.lst ((as.map V.ref).take p++[V.ref q2]++(as.map V.ref).drop (p+1)))=h6 at T6 f6 ⊢;have TT:au H3 h6:=(T.trans T5).trans T6;have f2':h6 q2=some (.lst [V.int (bk:Nat)]):=T6 _ _ (T5 _ _ (T4 _ _ (T3 _ _ f2)));refine⟨sd,_,_,rfl,rfl,TT _ _ e4,by rw[Ln,LQ];omega,some (.int (p:Nat)),cs++[q6],rfl,?_,by rw[ae,LH];rfl,?_⟩
           · intro c u z;rw[aq (ao z hsd)];exact TT c u (S4 c u z)
           · have SX:aQ sd H3 (upd h6 sd (.lst (cs.map V.ref++[V.ref q6]))):=(TT.x).upd;have SX6:aQ sd h6 (upd h6 sd (.lst (cs.map V.ref++[V.ref q6]))):=(aQ.refl sd h6).upd;have S6:au H1 h6:=S4.trans TT;rw[eS,←MQ];refine gF (Paired.d8 hC λ_ _ z=>z.step SX) (.cons ⟨as.take p++[q2]++as.drop (p+1),?_,?_⟩ .nil)
             · refine RS.step (RS.of ?_ nq6) SX6;rw[f6,LH,LH,List.map_take,NU];rfl
             · have old:Paired (λc s=>RS K sd (upd h6 sd (.lst (cs.map V.ref++[V.ref q6]))) c (nV s)) as g:=Paired.d8 hPs λc s z=>RS.step (RS.old z hsd S6) SX6;exact gF (gF (Paired.tk p old) (.cons (RS.step (RS.of f2' nq2) SX6) .nil)) (Paired.dp (p+1) old)
         · rw[Lo h,Mq] at eS;exact⟨_,cs,rfl,S4,e4,by rw[eS];exact hC⟩
       · rintro σ H3 ⟨v7,cs,rfl,S4,e4,hC⟩;exact⟨_,_,cs,rfl,S4,e4,by rw[enj];exact hC⟩
     · rintro σ H2 ⟨v6,v7,cs,rfl,S3,e3,hC⟩;rw[Ln,lenB,Ml,←en] at hC;exact⟨_,rfl,sd,_,_,_,_,rfl,SH.trans S3,cs,e3,Paired.d8 hC λ_ _ z=>z.lists⟩
   · rintro σ H1 ⟨gr,v4,v5,v6,v7,rfl,SH,hG⟩;rw[aP,Ml] at hG;exact⟨_,rfl,q H1 gr SH hG⟩
end
theorem tF {sp:Sp}{dvs:List V}{E:XK}{te:TE}{t:TA}{D:Ends}{σ:L2.St}{H:Hp}{v:V}(h:Ev te σ H v)(q:t σ H λxs H2=>sp ((v::xs)++dvs) H2 D.rt E):EN (nH sp dvs E (cM te t)) D σ H:=h _ q
section
variable {P:Program}{w:World}{K:Oc}{mg:Oe}{base:Heap}
abbrev Ff (kd:Tote.Kind) (k:Nat) (A B:Ob):List (Oa):=if kd=.any then (bH B A [List.replicate k B]).take 1 else bH B A [List.replicate k B]
def r8 (K:Oc)(CR:Addr):Sp:=λvs H Q _=>∃(a b:Addr) (k:Nat) (kd:Tote.Kind) (A B:Ob),vs=[.str (st (cd (kindS kd))),.int (k:Nat),.ref a,.ref b]/\aS K H a (nV A)/\aS K H b (nV B)/\k<=4/\A.length<=3/\ux kd (Ff kd k A B)/\∀H' x,au H H'->dW K CR H' x kd (Ff kd k A B)->Q (.ref x) H'
theorem yl:aI ["kind","size","bankers","others","grids"] ["kind","size","bankers","others"] (ax iH):=fs
theorem EW {CR:Addr}(T:CK K mg "Rows" jC CR){k:Nat}(FS:Fn P w K mg base bJ (k+1) "seatings" ["size","bankers","others"] (wZ K))(FR:xn P w K mg base bJ k CR ["self","kind","grids"] (ko K CR)){f:Addr}{fd:FuncData}(F:dI K "rows_key" "rows_key" iH f fd):bf P w K mg base bJ (k+2) f fd ["kind","size","bankers","others"] (r8 K CR):=by
 refine F.ok yl (λvs H Q E h=>?_) (λcdv A outer s H vs Q E hr h=>?_)
 · obtain⟨_,_,_,_,_,_,rfl,_⟩:=h;rfl
 · obtain⟨a,b,n,kd,Bk,B,rfl,hA,hB,h4,h3,o,q⟩:=h;refine⟨_,af (aN (i:=4) yl.nd rfl (Or.inl rfl) (aZ FS hr bh (aa (pv 1) (aa (pv 2) (aa (pv 3) ah)))))
    (af (aT (aB cg (pv 0) bt (aM _)) (ak (aA (pX FR hr T.mg bh (aa (pv 0) (aa (cK fq (pv 4) ft (cY aw)) ah))))) aC)
    (ak (aA (pX FR hr T.mg bh (aa (pv 0) (aa (pv 4) ah)))))),?_⟩
   refine⟨_,rfl,_,rfl,_,rfl,a,b,n,Bk,B,rfl,hA,hB,h4,h3,λH1 x S1 ⟨bs,e1,hP⟩=>?_⟩;refine a6 (aL (b9 (ag rfl) aE)) (λh=>?_) (λh=>?_)
   · rw[kind_any] at h;have h:=LI h;unfold Ff at o q;rw[Lp h] at o q;refine⟨_,rfl,_,rfl,_,rfl,x,_,rfl,aS.of e1,λl hl=>?_⟩;have ec:fw (bs.map V.ref) none (some 1)=(bs.take 1).map V.ref:=by rw[show (1:Int)=((1:Nat):Int) from rfl,o4,List.map_take]
     rw[ec];have S2:au H1 (upd H1 l (.lst ((bs.take 1).map V.ref))):=(au.refl H1).laid hl;exact λy dy hy hdy ny=>made (S1.trans S2) ⟨bs.take 1,aS.of ae,Paired.d8 (Paired.tk 1 hP) λ_ _ z=>z.same S2⟩ o q y dy hy hdy ny
   · rw[kind_any] at h;have h:=L8 h;unfold Ff at o q;rw[Lo h] at o q;refine⟨_,rfl,_,rfl,?_⟩;exact λy dy hy hdy ny=>made S1 ⟨bs,aS.of e1,hP⟩ o q y dy hy hdy ny
def zd (K:Oc)(CP CR:Addr):Sp:=λvs H Q _=>∃(pa sa:Addr) (p:aO) (how:Nat) (sets:Oa),vs=[.ref pa,.int (how:Nat),.ref sa]/\dj K CP H pa p/\bE K H sa sets/\sv p how sets/\∀H' x,au H H'->dW K CR H' x p.kind (jJ p.kind (cI how) p.fields.length sets)->Q (.ref x) H'
theorem B_:aI ["pool","how","sets","size"] ["pool","how","sets"] (ax ke):=fs
theorem Hc {CP CR aW:Addr}(G:GW mg)(B:GB K mg aW)(TP:CK K mg "Pool" hZ CP){k:Nat}(FO:Fn P w K mg base bJ k "rows_on" ["kind","sets"] (qA K CR))(FB:Fn P w K mg base bJ k "rows_box" ["kind","size","numbers"] (rn K CR))(FK:Fn P w K mg base bJ k "rows_key" ["kind","size","bankers","others"] (r8 K CR))
  {f:Addr}{fd:FuncData}(F:dI K "rows_of" "rows_of" ke f fd):bf P w K mg base bJ (k+1) f fd ["pool","how","sets"] (zd K CP CR):=by
 refine F.ok B_ (λvs H Q E h=>?_) (λcdv A outer s H vs Q E hr h=>?_)
 · obtain⟨_,_,_,_,_,rfl,_⟩:=h;rfl
 · obtain⟨pa,sa,p,how,sets,rfl,⟨dp,fa,hpa,⟨fas,hFa,hFp⟩⟩,hSa,m,q⟩:=h;refine⟨_,af (aT (aB cg (pv 1) (bg B.on) (aM _)) (ak (aA (aZ FO hr bh (aa (aX (pv 0) rfl) (aa (pv 2) ah))))) aC)
    (af (aN (i:=3) B_.nd rfl (Or.inl rfl) (aG az (by rfl) G.len PySem.boot_len (aa (aX (pv 0) rfl) ah)))
    (af (aT (aB cg (pv 1) (bg B.box) (aM _)) (ak (aA (aZ FB hr bh (aa (aX (pv 0) rfl) (aa (pv 3) (aa (bq aR (pv 2) aw (λ_ _=>rfl)) ah)))))) aC)
    (ak (aA (aZ FK hr bh (aa (aX (pv 0) rfl) (aa (pv 3) (aa (bq aR (pv 2) aw (λ_ _=>rfl)) (aa (bq aR (pv 2) aw (λ_ _=>rfl)) ah))))))))),?_⟩
   have lenF:fas.length=p.fields.length:=Paired.length hFp;have o:=m.Jx;obtain⟨_,_,mb,mk⟩:=m.all;refine a6 (aL (b9 (ag rfl) aE)) (λh=>?_) (λh=>?_)
   · rw[bb] at h;have h:how=0:=by have:=MR h;omega
     rw[vk.mpr h] at q o;exact tF (bc (ag rfl) hpa TP.cl (TP.no _ (by simp)) iU) ⟨_,rfl,sa,p.kind,sets,rfl,hSa,o,q⟩
   rw[bb] at h;have h0:how≠0:=λz=>by rw[z] at h;cases h
   obtain⟨as,hA,hP⟩:=hSa;refine cx (aY (bc (ag rfl) hpa TP.cl (TP.no _ (by simp)) mK) (.inl hFa)) ?_;rw[Ln,lenF];refine a6 (aL (b9 (ag rfl) aE)) (λh=>?_) (λh=>?_)
   · rw[bb] at h;have h:how=1:=by have:=MR h;omega
     obtain⟨t,e,h2⟩:=mb h;rw[BR.mpr h] at q o;rw[e] at hP q o;cases hP with
     |cons hI hn =>
      cases hn;rename_i a0;exact tF (bc (ag rfl) hpa TP.cl (TP.no _ (by simp)) iU) ⟨_,rfl,(a_ (ag rfl) aE hA (v:=.ref a0) rfl) _ ⟨a0,p.fields.length,p.kind,t,rfl,hI,m.ok.six,o,q⟩⟩
   rw[bb] at h;have h1:how≠1:=λz=>by rw[z] at h;cases h
   obtain⟨t,u,e,h2,h3,h4⟩:=mk h0 h1;have k4:=m.k4 h0;rw[AB.mpr ⟨h0,h1⟩] at q o;rw[e] at hP q o;cases hP with
   |cons hI hn =>
    cases hn with
    |cons hJ hn =>
     cases hn;rename_i a0 a1;exact tF (bc (ag rfl) hpa TP.cl (TP.no _ (by simp)) iU) ⟨_,rfl,(a_ (ag rfl) aE hA (v:=.ref a0) rfl) _ ((a_ (ag rfl) aE hA (v:=.ref a1) rfl) _ ⟨a0,a1,p.fields.length,p.kind,t,u,rfl,hI,hJ,k4,by omega,o,q⟩)⟩
def xC (K:Oc)(CB CR:Addr):Sp:=λvs H Q _=>∃(x dx r:Addr) (a b c d e:V) (kd:Tote.Kind) (gs:List (Oa)),vs=[.ref x,a,b,c,d,e,.ref r]/\H x=some (.ins CB dx [])/\dW K CR H r kd gs/\∀H',aQ x H H'->H' x=some (.ins CB dx (lO a b c d e (.ref r) (.int ((rB kd gs).length:Nat))))->Q .b8 H'
theorem Dn:aI ["self","pool","pool_number","how","stake","sets","rows"] ["self","pool","pool_number","how","stake","sets","rows"] (ax je):=fs
theorem Ea {CB CR:Addr}(T:CK K mg "Bet" sk CB)(TR:CK K mg "Rows" jC CR){k:Nat}(FS:pQ P w K mg base bJ k CR "starting" ["self","start"] (sY K CR)){f:Addr}{fd:FuncData}(F:dI K "__init__" "Bet.__init__" je f fd):bf P w K mg base bJ (k+1) f fd ["self","pool","pool_number","how","stake","sets","rows"] (xC K CB CR):=by
 refine F.ok Dn (λvs H Q E h=>?_) (λcdv A outer s H vs Q E hr h=>?_)
 · obtain⟨_,_,_,_,_,_,_,_,_,_,rfl,_⟩:=h;rfl
 · obtain⟨x,dx,r,a,b,c,d,e,kd,gs,rfl,hx,hR,q⟩:=h;refine⟨_,af (cD (pv 0) (pv 1) rfl) (af (cD (pv 0) (pv 2) rfl) (af (cD (pv 0) (pv 3) rfl) (af (cD (pv 0) (pv 4) rfl) (af (cD (pv 0) (pv 5) rfl) (af (cD (pv 0) (pv 6) rfl) (ak (cD (pv 0) (la FS TR.cl (pv 6) hr bh (aa (dk ah) ah)) rfl))))))),?_⟩;refine⟨_,rfl,_,rfl,x,CB,dx,[],rfl,hx,T.cl,T.no _ (by simp),(by show 0 < 1000;decide),?_⟩;refine⟨_,rfl,_,rfl,x,CB,dx,_,rfl,ae,T.cl,T.no _ (by simp),(by show 1 < 1000;decide),?_⟩;refine⟨_,rfl,_,rfl,x,CB,dx,_,rfl,ae,T.cl,T.no _ (by simp),(by repeat (first|rw[bT]|rw[bo (by decide +kernel)]);show 2 < 1000;decide),?_⟩;refine⟨_,rfl,_,rfl,x,CB,dx,_,rfl,ae,T.cl,T.no _ (by simp),(by repeat (first|rw[bT]|rw[bo (by decide +kernel)]);show 3 < 1000;decide),?_⟩;refine⟨_,rfl,_,rfl,x,CB,dx,_,rfl,ae,T.cl,T.no _ (by simp),(by repeat (first|rw[bT]|rw[bo (by decide +kernel)]);show 4 < 1000;decide),?_⟩;refine⟨_,rfl,_,rfl,x,CB,dx,_,rfl,ae,T.cl,T.no _ (by simp),(by repeat (first|rw[bT]|rw[bo (by decide +kernel)]);show 5 < 1000;decide),?_⟩;rw[cu,cu,cu,cu,cu]
   repeat (first|rw[bT]|rw[bo (by decide +kernel)])
   have S1:aQ x H (upd H x (.ins CB dx [("pool",a),("pool_number",b),("how",c),("stake",d),("sets",e),("rows",.ref r)])):=(aQ.refl x H).upd;have hx1:(upd H x (.ins CB dx [("pool",a),("pool_number",b),("how",c),("stake",d),("sets",e),("rows",.ref r)])) x=some (.ins CB dx [("pool",a),("pool_number",b),("how",c),("stake",d),("sets",e),("rows",.ref r)]):=ae;generalize upd H x (.ins CB dx [("pool",a),("pool_number",b),("how",c),("stake",d),("sets",e),("rows",.ref r)])=H1 at S1 hx1;have hR1:=hR.jI S1 hx (by decide);obtain⟨dr,_,_,_,hr1,_⟩:=id hR1;refine⟨_,rfl,r,dr,_,rfl,hr1,BG (by decide +kernel),LV _,λt ht=>?_⟩;have S2:au H1 (upd H1 t (.tup [])):=(au.refl H1).laid ht;show fe _ _ _;unfold fe;dsimp only [Mq];refine⟨r,t,kd,gs,[],rfl,hR1.same S2,ae,λg _=>LV _,λH2 S3=>?_⟩;rw[mB];refine⟨_,rfl,x,CB,dx,_,rfl,S3 _ _ (S2 _ _ hx1),T.cl,T.no _ (by simp),(by show 6 < 1000;decide),?_⟩;rw[bo (by decide +kernel),bo (by decide +kernel),bo (by decide +kernel),bo (by decide +kernel),bo (by decide +kernel),bo (by decide +kernel),bT];exact q _ ((S1.trans (S2.trans S3).x).upd) ae
end
def jU (K:Oc)(CB CP CR:Addr)(H:Hp)(x:Addr)(p:aO)(b:bM):Prop:=∃dx pa sa ra,H x=some (.ins CB dx (lO (.ref pa) (.int (b.pool:Nat)) (.int (b.how:Nat)) (.int (b.stake:Nat)) (.ref sa) (.ref ra) (.int (countM p.kind (cI b.how) p.fields.length b.sets:Nat))))/\dj K CP H pa p/\lG H sa b.sets/\dW K CR H ra p.kind (jJ p.kind (cI b.how) p.fields.length b.sets)/\b.stake<=1000000/\sv p b.how b.sets
section
variable {a b c d e r m:V}
theorem BZ:(lO a b c d e r m).lookup ("pool_number":Str)=some b:=by unfold lO;rw[aU (by decide +kernel)];exact bC
theorem Cs:(lO a b c d e r m).lookup ("how":Str)=some c:=by unfold lO;rw[aU (by decide +kernel),aU (by decide +kernel)];exact bC
theorem pP:(lO a b c d e r m).lookup ("stake":Str)=some d:=by unfold lO;rw[aU (by decide +kernel),aU (by decide +kernel),aU (by decide +kernel)];exact bC
theorem rq:(lO a b c d e r m).lookup ("sets":Str)=some e:=by unfold lO;rw[aU (by decide +kernel),aU (by decide +kernel),aU (by decide +kernel),aU (by decide +kernel)];exact bC
theorem rQ:(lO a b c d e r m).lookup ("many":Str)=some m:=by unfold lO;rw[aU (by decide +kernel),aU (by decide +kernel),aU (by decide +kernel),aU (by decide +kernel),aU (by decide +kernel),aU (by decide +kernel)];exact bC
theorem Dd {f:Str}(h:¬f∈sk):(lO a b c d e r m).lookup f=none:=oh h
end
theorem GF {σ:L2.St}{H:Hp}{ta tb:TE}{i j:Int}(ha:Ev ta σ H (.int i))(hb:Ev tb σ H (.int j))(h:Af i j):Ev (kG (rI Af λi j=>.int (i*j)) ta tb) σ H (.int (i*j)):=λ_ r=>ha _ (hb _ ⟨i,j,rfl,rfl,h,r⟩)
section
variable {K:Oc}{CB CP CR CW:Addr}{H H':Hp}{a x:Addr}{p:aO}{b:bM}
theorem jU.same (h:jU K CB CP CR H x p b) (e:au H H'):jU K CB CP CR H' x p b:=by
 obtain⟨dx,pa,sa,ra,h1,h2,h3,h5,h4⟩:=h;exact⟨dx,pa,sa,ra,e _ _ h1,h2.same e,h3.same e,h5.same e,h4⟩
end
section
variable {P:Program}{w:World}{K:Oc}{mg:Oe}{base:Heap}
def qk (K:Oc) (CB CP CR:Addr):Sp:=λvs H Q _=>∃(x:Addr) (p:aO) (b:bM),vs=[.ref x]/\jU K CB CP CR H x p b/\Q (.int ((b.stake:Int)*(countM p.kind (cI b.how) p.fields.length b.sets:Nat))) H
theorem Es:aI ["self"] ["self"] (ax jb):=fs
theorem Ee {CB CP CR:Addr}(TB:CK K mg "Bet" sk CB){f:Addr}{fd:FuncData}(F:dI K "cost" "Bet.cost" jb f fd):bf P w K mg base bJ 1 f fd ["self"] (qk K CB CP CR):=by
 refine F.ok Es (λvs H Q E h=>?_) (λcdv A outer s H vs Q E hr h=>?_)
 · obtain⟨_,_,_,rfl,_⟩:=h;rfl
 · obtain⟨x,p,b,rfl,⟨dx,pa,sa,ra,h1,_,_,_,h4,_⟩,q⟩:=h;refine⟨_,ak (aA (bK xI (aX (pv 0) rfl) (aX (pv 0) rfl))),?_⟩;exact (GF (bc (ag rfl) h1 TB.cl (TB.no _ (by simp)) pP) (bc (ag rfl) h1 TB.cl (TB.no _ (by simp)) rQ) (.inl ⟨by omega,by omega⟩)) _ q
def xK (K:Oc)(CW CF CB CP CR:Addr):Sp:=λvs H Q E=>∃(a b:Addr) (ps:List aO) (e:Nat) (l:List Word) (pl:Nat),vs=[.ref b,.ref a]/\a7 K CW H a e l pl/\cW K CP H b ps/\(∀p∈ps,Dg p) /\
 (∀t,CI e ps l=.error t->Rz CF E (t.kind:Nat) (t.place:Nat))/\(∀y,CI e ps l=.ok y->∀H' x p,aQ a H H'->jU K CB CP CR H' x p y->ps[y.pool]?=some p->Q (.ref x) H')
theorem f9:aI ["pools","words","pool_number","pool","stake","stake_place","how","how_place","sets","bet"] ["pools","words"] (ax fR):=fs
theorem C_ {CW CF CB CP CR aW:Addr}(B:GB K mg aW)(T:CK K mg "Words" cq CW)(TP:CK K mg "Pool" hZ CP)(TB:CK K mg "Bet" sk CB)(FL:Flt P w K mg base CF){k:Nat}(hk:5<=k)
  (FO:pQ P w K mg base (eX P w CF) k CW "take_one_of" ["self","known"] (pE K CW CF))(FTP:Fn P w K mg base (eX P w CF) k "take_pool" ["pools","words"] (uc K CW CF CP))(FS:Fn P w K mg base (eX P w CF) k "take_stake" ["words","unit"] (tD K CW CF))
  (FH:Fn P w K mg base (eX P w CF) k "take_how" ["words","pool"] (Ci K CW CF CP))(FSe:Fn P w K mg base (eX P w CF) k "take_sets" ["words","pool","how"] (v9 K CW CF CP))(FB:xn P w K mg base bJ 4 CB ["self","pool","pool_number","how","stake","sets","rows"] (xC K CB CR))
  (FF:pQ P w K mg base (eX P w CF) k CW "finish" ["self"] (CH K CW CF))(FM:Fn P w K mg base bJ k "rows_of" ["pool","how","sets"] (zd K CP CR))(FC:pQ P w K mg base bJ k CB "cost" ["self"] (qk K CB CP CR))
  {f:Addr}{fd:FuncData}(F:dI K "read_words" "read_words" fR f fd):bf P w K mg base (eX P w CF) (k+1) f fd ["pools","words"] (xK K CW CF CB CP CR):=by
 refine F.zb f9 (λvs H Q E h=>?_) (λcdv A outer s H vs Q E hr h=>?_)
 · obtain⟨_,_,_,_,_,_,rfl,_⟩:=h;rfl
 · obtain⟨a,b,ps,e,l,pl,rfl,hW,hPs,bw,q0,q1⟩:=h;refine⟨_,af (cZ (la FO T.cl (pv 1) hr (bS aJ rfl rfl) (aa (dk (aa bt ah)) ah)))
    (af (aN (i:=2) f9.nd rfl (Or.inl rfl) (aZ FTP hr (bS aJ rfl rfl) (aa (pv 0) (aa (pv 1) ah))))
    (af (aN (i:=3) f9.nd rfl (Or.inl rfl) (bq aR (pv 0) (pv 2) (λ_ _=>rfl)))
    (af (cZ (la FO T.cl (pv 1) hr (bS aJ rfl rfl) (aa (dk (aa bt ah)) ah)))
    (af (aN (i:=4) f9.nd rfl (Or.inl rfl) (aZ FS hr (bS aJ rfl rfl) (aa (pv 1) (aa (aX (pv 3) rfl) ah))))
    (af (aN (i:=5) f9.nd rfl (Or.inl rfl) (aX (pv 1) rfl))
    (af (aN (i:=6) f9.nd rfl (Or.inl rfl) (aZ FH hr (bS aJ rfl rfl) (aa (pv 1) (aa (pv 3) ah))))
    (af (aN (i:=7) f9.nd rfl (Or.inl rfl) (aX (pv 1) rfl))
    (af (aN (i:=8) f9.nd rfl (Or.inl rfl) (aZ FSe hr (bS aJ rfl rfl) (aa (pv 1) (aa (pv 3) (aa (pv 6) ah)))))
    (af (cZ (ka FF T.cl (pv 1) hr (bS aJ rfl rfl)))
    (af (aN (i:=9) f9.nd rfl (Or.inl rfl) (pX FB (hr.mono hk) TB.mg bh (aa (pv 3) (aa (pv 2) (aa (pv 6) (aa (pv 4) (aa (pv 8) (aa (aZ FM hr bh (aa (pv 3) (aa (pv 6) (aa (pv 8) ah)))) ah))))))))
    (af (aT (aB cg (aX (pv 9) rfl) aw (aM _)) (ak (fJ FL aJ (hr.mono (by omega)) (aa (bg B.comb) (aa (pv 7) ah)))) aC)
    (af (aT (aB kN (ka FC TB.cl (pv 9) hr bh) (bg B.cost) (aM _)) (ak (fJ FL aJ (hr.mono (by omega)) (aa (bg B.Kc) (aa (pv 5) ah)))) aC)
    (ak (aA (pv 9))))))))))))))),?_⟩
   obtain⟨d0,w0,m0,n0,ha0⟩:=hW.obj;unfold CI at q0 q1;refine⟨_,rfl,a,d0,_,rfl,ha0,cF (by decide +kernel),(by show 1<=sizeLine;decide),λt ht=>?_⟩;have St:au H (upd H t (.tup [V.str (Str.ofString "bet")])):=(au.refl H).laid ht;show fe _ _ _;unfold fe;dsimp only [Mq];refine lT (s:="bet") (by decide +kernel) (hW.same St) (bZ.of ae) (λy hy=>?_) (λm hm H1 v pl1 S1 hW1=>?_)
   · rw[hy] at q0;exact q0 _ rfl
   rw[hm] at q0 q1;have q0:∀t,Jd e ps m=.error t->Rz CF E (t.kind:Nat) (t.place:Nat):=q0;have q1:∀y,Jd e ps m=.ok y->_:=q1;have SX1:aQ a H H1:=St.x.trans S1;refine⟨_,rfl,_,rfl,a,b,ps,e,m,pl1,rfl,hW1,cW.jI hPs SX1 ha0,λz=>?_,λwn r hl hn=>?_,λwn r i hl hi H2 S2 hW2=>?_⟩
   · subst z;exact q0 ⟨3,e⟩ rfl
   · subst hl;refine q0 ⟨5,wn.at_⟩ ?_;show (match dQ ps (tx wn.w) with
      |none=>(Except.error ⟨5,wn.at_⟩:Except Fault bM)
      |some i=>match ps[i]? with
       |none=>.error ⟨5,wn.at_⟩
       |some p=>Cw e i p r)=_
     rw[hn]
   subst hl;have SX2:=SX1.trans S2;have hil:=xt hi;have eB:Jd e ps (wn::r)=Cw e i ps[i] r:=by
    show (match dQ ps (tx wn.w) with
     |none=>(Except.error ⟨5,wn.at_⟩:Except Fault bM)
     |some i=>match ps[i]? with
      |none=>.error ⟨5,wn.at_⟩
      |some p=>Cw e i p r)=_
    rw[hi];show (match ps[i]? with
      |none=>(Except.error ⟨5,wn.at_⟩:Except Fault bM)
      |some p=>Cw e i p r)=_
    rw[Ly hil]
   rw[eB] at q0 q1;have hO:=bw _ (Nf hil);have hPp:∃(as:List Addr) (pa:Addr),aS K H b (as.map V.ref)/\as[i]?=some pa/\dj K CP H pa ps[i]:=by
    obtain⟨as,h1,h2⟩:=hPs;obtain⟨pa,h3,h4⟩:=Paired.at2 h2 (Ly hil);exact⟨as,pa,h1,h3,h4⟩
   have hpi:ps[i]?=some ps[i]:=Ly hil;generalize ps[i]=p at q0 q1 hO hPp hpi;obtain⟨as,pa,hA,hpa,hPP⟩:=hPp;have pool:∀{H'},aQ a H H'->dj K CP H' pa p:=λS=>dj.jI hPP S ha0;refine cx (a_ (ag rfl) (ag rfl) (SX2.seq ha0 hA) (cj (by rw[Ls,hpa];rfl))) ?_;unfold Cw at q0 q1;obtain⟨d2,w2,m2,n2,ha2⟩:=hW2.obj;refine⟨_,rfl,a,d2,_,rfl,ha2,cF (by decide +kernel),(by show 1<=sizeLine;decide),λt3 ht3=>?_⟩;have St3:au H2 (upd H2 t3 (.tup [V.str (Str.ofString "for")])):=(au.refl H2).laid ht3;dsimp only [Mq];refine lT (s:="for") (by decide +kernel) (hW2.same St3) (bZ.of ae) (λy hy=>?_) (λm3 hm3 H3 v3 pl3 S3 hW3=>?_)
   · rw[hy] at q0;exact q0 _ rfl
   rw[hm3] at q0 q1;have q0:∀t,IE e i p m3=.error t->Rz CF E (t.kind:Nat) (t.place:Nat):=q0;have q1:∀y,IE e i p m3=.ok y->_:=q1;have SX3:aQ a H H3:=(SX2.trans St3.x).trans S3;obtain⟨dp,fap,hpo,hpl⟩:=pool SX3;refine⟨_,rfl,(bc (ag rfl) hpo TP.cl (TP.no _ (by simp)) xk) _ ⟨a,p.unit,e,m3,pl3,rfl,hO.unit,hW3,λz=>?_,λws r4 hl hn=>?_,λws r4 hl hs H4 S4 hW4=>?_⟩⟩
   · subst z;exact q0 ⟨3,e⟩ rfl
   · subst hl;refine q0 ⟨4,ws.at_⟩ ?_;show (if eG p.unit (tx ws.w) then _ else _)=_;rw[Lo (show ¬eG p.unit (tx ws.w) from hn)]
   subst hl;have eB:IE e i p (ws::r4)=JH e i p (ay (tx ws.w)).toNat ws.at_ r4:=by
    show (if eG p.unit (tx ws.w) then _ else _)=_;rw[Lp (show eG p.unit (tx ws.w) from hs)]
   rw[eB] at q0 q1;have hst:ay (tx ws.w)=(((ay (tx ws.w)).toNat:Nat):Int):=by have:=hs.1;omega
   have hsb:(ay (tx ws.w)).toNat<=1000000:=by have:=hs.2.1;omega
   generalize (ay (tx ws.w)).toNat=stake at q0 q1 hst hsb;rw[hst];have SX4:=SX3.trans S4;obtain⟨d4,w4,m4,n4,ha4⟩:=hW4.obj;refine cx (bc (ag rfl) ha4 T.cl (T.no _ (by simp)) bP) ?_;refine⟨_,rfl,_,rfl,a,pa,p,e,r4,ws.at_,rfl,hW4,pool SX4,λz=>?_,λwh r5 hl hn=>?_,λwh r5 how hl hh H5 S5 hW5=>?_⟩
   · subst z;exact q0 ⟨3,e⟩ rfl
   · subst hl;refine q0 ⟨3,wh.at_⟩ ?_;show (match ji p wh.w with
      |none=>(Except.error ⟨3,wh.at_⟩:Except Fault bM)
      |some how=>xX e i how stake wh.at_ ws.at_ p (fz e p how r5))=_
     rw[hn]
   subst hl;have eB:JH e i p stake ws.at_ (wh::r5)=xX e i how stake wh.at_ ws.at_ p (fz e p how r5):=by
    show (match ji p wh.w with
     |none=>(Except.error ⟨3,wh.at_⟩:Except Fault bM)
     |some how=>xX e i how stake wh.at_ ws.at_ p (fz e p how r5))=_
    rw[hh]
   rw[eB] at q0 q1;have SX5:=SX4.trans S5;obtain⟨d5,w5,m5,n5,ha5⟩:=hW5.obj;refine cx (bc (ag rfl) ha5 T.cl (T.no _ (by simp)) bP) ?_;have hway:how=0∨cQ p=true:=by
    unfold ji at hh;split at hh
    · exact .inl (L1 hh).symm
    · split at hh
      · rename_i z;exact .inr z.2
      · split at hh
        · rename_i z;exact .inr z.2
        · cases hh
   refine⟨_,rfl,_,rfl,_,rfl,a,pa,p,how,e,r5,wh.at_,rfl,hW5,pool SX5,hO,λt ht=>?_,λsets r6 hse H6 sa pl6 S6 hSa hW6=>?_⟩
   · rw[ht] at q0;exact q0 t rfl
   rw[hse] at q0 q1;have SX6:=SX5.trans S6;obtain⟨d6,w6,m6,n6,ha6⟩:=hW6.obj;refine⟨_,rfl,a,d6,_,rfl,ha6,cF (by decide +kernel),a,e,r6,pl6,rfl,hW6,λwr r7 hl=>?_,λhl=>?_⟩
   · subst hl;exact q0 ⟨3,wr.at_⟩ rfl
   subst hl;have q0:∀t,HU i how stake wh.at_ ws.at_ p sets=.error t->Rz CF E (t.kind:Nat) (t.place:Nat):=q0;have q1:∀y,HU i how stake wh.at_ ws.at_ p sets=.ok y->_:=q1;unfold HU at q0 q1;have hM:sv p how sets:=⟨hO,hway,e,r5,[],hse⟩;refine⟨_,rfl,_,rfl,_,rfl,_,rfl,_,rfl,_,rfl,_,rfl,_,rfl,pa,sa,p,how,sets,rfl,pool SX6,hSa.lists,hM,λH7 ra S7 hR=>?_⟩;have SX7:aQ a H H7:=SX6.trans S7.x;intro x dx hx hdx ndx;have Sn:au H7 (upd (upd H7 dx (.own x)) x (.ins CB dx [])):=((au.refl H7).laid hdx).laid hx;refine⟨x,dx,ra,_,_,_,_,_,p.kind,_,rfl,ae,hR.same Sn,λH8 SX hx8=>⟨rfl,?_⟩⟩;have hx8:H8 x=some (.ins CB dx (lO (.ref pa) (.int (i:Nat)) (.int (how:Nat)) (.int (stake:Nat)) (.ref sa) (.ref ra) (.int (countM p.kind (cI how) p.fields.length sets:Nat)))):=hx8;have S8:au H7 H8:=λb u z=>SX b u (Sn b u z) (ao z hx);have hB8:jU K CB CP CR H8 x p ⟨i,how,stake,sets⟩:=⟨dx,pa,sa,ra,hx8,(pool SX7).same S8,(hSa.same S7).same S8,hR.same S8,hsb,hM⟩;have SX8:aQ a H H8:=SX7.trans S8.x;refine a6 (aL (b9 (bc (ag rfl) hx8 TB.cl (TB.no _ (by simp)) rQ) aE)) (λh=>?_) (λh=>?_)
   · rw[bb] at h;rw[Lp (by have:=MR h;omega)] at q0;exact jv (ag rfl) (q0 _ rfl)
   have hm0:¬countM p.kind (cI how) p.fields.length sets=0:=λz=>by rw[z] at h;cases h
   rw[Lo hm0] at q0 q1;have evC:∀{σ:L2.St},σ[9]?=some (some (V.ref x))->Ev (vS CB "cost" (qk K CB CP CR) [] E0 (cH 9) λ_ H Q=>Q [] H) σ H8 (.int ((stake:Int)*(countM p.kind (cI how) p.fields.length sets:Nat))):=λz _ r =>
    ⟨_,z,x,dx,_,rfl,hx8,Dd (by decide +kernel),x,p,⟨i,how,stake,sets⟩,rfl,hB8,r⟩
   refine a6 (jy (evC rfl) aE) (λh=>?_) (λh=>?_)
   · have h:=LI h;have h:2147483647 < stake*countM p.kind (cI how) p.fields.length sets:=by
      have e1:((stake:Int)*(countM p.kind (cI how) p.fields.length sets:Int))=((stake*countM p.kind (cI how) p.fields.length sets:Nat):Int):=by rw[Int.natCast_mul]
      rw[e1] at h;omega
     rw[Lp h] at q0;exact jv (ag rfl) (q0 _ rfl)
   · have h:=L8 h;have h:¬2147483647 < stake*countM p.kind (cI how) p.fields.length sets:=by
      have e1:((stake:Int)*(countM p.kind (cI how) p.fields.length sets:Int))=((stake*countM p.kind (cI how) p.fields.length sets:Nat):Int):=by rw[Int.natCast_mul]
      rw[e1] at h;omega
     rw[Lo h] at q1;exact⟨_,rfl,q1 _ rfl H8 x p SX8 hB8 hpi⟩
end
def ib (b:Bytes):Ob:=b.map UInt8.toNat
theorem zc {b:Bytes}:10∈ib b↔(10:UInt8)∈b:=by
 unfold ib;rw[LX]
 exact⟨λ⟨x,h1,h2⟩=>by have:x=10:=ju h2
                      rwa [←this],λh=>⟨10,h,rfl⟩⟩
theorem o4 {xs:List V}{j:Nat}(h:j<=xs.length):fw xs none (some (j:Int))=xs.take j:=by
 unfold fw;rw[HT.i6,HT.iD,Nn h];simp
section
variable {P:Program}{w:World}{K:Oc}{mg:Oe}{base:Heap}
def Ay (K:Oc) (CF CB CP CR:Addr):Sp:=λvs H Q E=>∃(c b:Addr) (ps:List aO) (bs:Bytes),vs=[.ref b,.ref c]/\aS K H c (nV (ib bs))/\bs.length<=4096/\cW K CP H b ps/\(∀p∈ps,Dg p) /\
 (∀t,de ps bs=.error t->Rz CF E (t.kind:Nat) (t.place:Nat))/\(∀y,de ps bs=.ok y->∀H' x p,au H H'->jU K CB CP CR H' x p y->ps[y.pool]?=some p->Q (.ref x) H')
theorem sS:aI ["pools","codes","line_end","line","bet"] ["pools","codes"] (ax i8):=fs
theorem Hm {CW CF CB CP CR aW:Addr}(G:GW mg)(B:GB K mg aW)(T:CK K mg "Words" cq CW)(FL:Flt P w K mg base CF){k:Nat}(hk:2<=k)
  (FC:Fn P w K mg base (eX P w CF) k "check_line" ["line"] (wL K CF))(FR:Fn P w K mg base (eX P w CF) k "read_words" ["pools","words"] (xK K CW CF CB CP CR))(FX:Fn P w K mg base bJ k "text_of" ["codes"] (sW K))(FW:xn P w K mg base bJ 1 CW ["self","line"] (ph K CW))
  {f:Addr}{fd:FuncData}(F:dI K "read_bet" "read_bet" i8 f fd):bf P w K mg base (eX P w CF) (k+1) f fd ["pools","codes"] (Ay K CF CB CP CR):=by
 refine F.zb sS (λvs H Q E h=>?_) (λcdv A outer s H vs Q E hr h=>?_)
 · obtain⟨_,_,_,_,rfl,_⟩:=h;rfl
 · obtain⟨c,b,ps,bs,rfl,hS,hlen,hPs,bw,q0,q1⟩:=h;refine⟨_,af (aT (aB ej (bg B.nl) (pv 1) (by with_unfolding_all rfl)) (ak (fJ FL aJ (hr.mono hk) (aa (bg B.ended) (aa (aG az (by rfl) G.len PySem.boot_len (aa (pv 1) ah)) ah)))) aC)
    (af (aN (i:=2) sS.nd rfl (Or.inl rfl) (lJ PySem.F.plainAttrs_list PySem.F.slot_list_index PySem.F.type_list_index Cg (pv 1) (aa (bg B.nl) ah)))
    (af (aN (i:=3) sS.nd rfl (Or.inl rfl) (cK fq (pv 1) ft (cY (pv 2))))
    (af (cZ (aZ FC hr (bS aJ rfl rfl) (aa (pv 3) ah)))
    (af (aN (i:=4) sS.nd rfl (Or.inl rfl) (aZ FR hr (bS aJ rfl rfl) (aa (pv 0) (aa (pX FW (hr.mono hk) T.mg bh (aa (aZ FX hr bh (aa (pv 3) ah)) ah)) ah))))
    (af (aT (aB nG (bK d_ (pv 2) aw) (aG az (by rfl) G.len PySem.boot_len (aa (pv 1) ah)) (aM _)) (ak (fJ FL aJ (hr.mono hk) (aa (bg B.more) (aa (bK d_ (pv 2) aw) ah)))) aC)
    (ak (aA (pv 4)))))))),?_⟩
   have hbl:(ib bs).length=bs.length:=by unfold ib;rw[Ln]
   refine a6 (aL (lH aE (ag rfl) (.inl hS) rfl (fX _))) (λh=>?_) (λh=>?_)
   · have h:(!oa (V.int 10) (nV (ib bs)))=true:=h;rw[nq,Me,L6] at h;have hn:¬(10:UInt8)∈bs:=λz=>h ⟨10,zc.mpr z,rfl⟩;have hu:upTo bs=none:=by
      cases hu:upTo bs with
      |none=>rfl
      |some x =>
       obtain⟨l,r⟩:=x;obtain⟨e,_⟩:=jW hu;exact absurd (by rw[e];simp) hn
     rw[wQ hu] at q0;refine jv (p:=(bs.length:Nat)) ?_ (q0 _ rfl);have:=aY (K:=K) (σ:=L2.start ["pools","codes","line_end","line","bet"] [V.ref b,V.ref c]) (H:=H) (ag (n:=1) rfl) (.inl hS);rw[aP,hbl] at this;exact this
   have h:(!oa (V.int 10) (nV (ib bs)))=false:=h;rw[nq,Mh,Lw] at h;have hin:(10:UInt8)∈bs:=by
    obtain⟨n,h1,h2⟩:=h;have:n=10:=by omega
    subst this;exact zc.mp h1
   cases hu:upTo bs with
   |none=>exact absurd hin (su hu)
   |some x =>
   obtain⟨l,r⟩:=x;obtain⟨ebs,hl10⟩:=jW hu;rw[xE hu] at q0 q1;have ecs:nV (ib bs)=nV (ib l)++V.int 10::nV (ib r):=by
    rw[ebs];unfold nV ib;rw[LH,LH];rfl
   have hll:(nV (ib l)).length=l.length:=by rw[aP];unfold ib;rw[Ln]
   have hbs:bs.length=l.length+1+r.length:=by rw[ebs];simp;omega
   refine⟨_,rfl,.inl ⟨rfl,_,hS⟩,c,nV (ib bs),.int 10,l.length,.int 10,rfl,rfl,hS,rfl,fX _,?_,rfl,?_,?_⟩
   · rw[ecs,N9 (by omega),hll];simp
   · intro m z hm hz;rw[ecs,List.getElem?_append_left (by omega)] at hz;unfold nV ib at hz;rw[Ls,Ls,Option.map_map] at hz;obtain⟨y,hy,rfl⟩:=LZ.mp hz
     have hny:¬y.toNat=10:=λq=>hl10 (by have:y=10:=ju q
                                        rw[←this];exact LR hy)
     show ((y.toNat:Int)==10)=false;rw[LW];omega
   refine⟨_,rfl,_,rfl,_,rfl,c,_,rfl,hS,λp hp=>?_⟩;rw[o4 (by rw[aP,hbl,hbs];omega),ecs,List.take_append_of_le_length (by omega),Mj (by omega)];have S1:au H (upd H p (.lst (nV (ib l)))):=(au.refl H).laid hp;have e1:(upd H p (.lst (nV (ib l)))) p=some (.lst (nV (ib l))):=ae;generalize upd H p (.lst (nV (ib l)))=H1 at S1 e1;have eBad:badByte true 0 l=vh (ib l):=C5 l;unfold Ft at q0 q1;rw[eBad] at q0 q1;refine⟨_,rfl,p,ib l,rfl,aS.of e1,λi hi=>?_,λhi H2 S2=>?_⟩
   · rw[hi] at q0;exact q0 ⟨2,i⟩ rfl
   rw[hi] at q0 q1 eBad;have q0:∀t,(match CI l.length ps (wordsFrom 0 [] l) with
    |.error t=>(Except.error t:Except Fault bM)
    |.ok x=>if r=[] then .ok x else .error ⟨8,l.length+1⟩)=.error t->Rz CF E (t.kind:Nat) (t.place:Nat):=q0
   have q1:∀y,(match CI l.length ps (wordsFrom 0 [] l) with
    |.error t=>(Except.error t:Except Fault bM)
    |.ok x=>if r=[] then .ok x else .error ⟨8,l.length+1⟩)=.ok y->_:=q1
   have S02:=S1.trans S2;have etx:(ib l).map sg=tx l:=by
    unfold ib tx;rw[LP];rfl
   have hl4:l.length<=4096:=by omega
   refine⟨_,rfl,_,rfl,p,ib l,rfl,aS.of (S2 _ _ e1),by unfold ib;rw[Ln];omega,λH3 S3=>?_⟩;rw[etx];intro x dx hx hdx ndx;have htl:(tx l).length=l.length:=il l;refine⟨x,dx,tx l,rfl,ae,by omega,λH4 wl S4 hwl hwl4 hx4=>⟨rfl,?_⟩⟩;have S03:=S02.trans S3;have S04:au H H4:=λd o z=>by
    have z3:=S03 d o z;have n1:d≠x:=ao z3 hx;have n2:d≠dx:=ao z3 hdx;exact S4 d o (by rw[aq n1,aq n2];exact z3) n1
   have hxH:H x=none:=by
    cases hz:H x with
    |none=>rfl
    |some o=>rw[S03 x o hz] at hx;cases hx
   have t128:∀c∈tx l,c < 128:=λc hc=>by
    unfold tx at hc;obtain⟨d,_,rfl⟩:=LX.mp hc;exact Fv _
   have ok32:m7 (a8 32 [] (tx l)):=by
    have h3:=fh 32 (tx l) [];refine⟨by omega,λv hv=>?_⟩;obtain⟨z1,z2⟩:=dY 32 (tx l) [] v hv;refine⟨by simp at z1;omega,λc hc=>?_⟩;rcases z2 c hc with z|z
    · simp at z
    · exact t128 c z
   have hplace:=(words_of l [] 0 0 (Lx _) eBad).2;have hWx:a7 K CW H4 x l.length (wordsFrom 0 [] l) 0:=by
    refine⟨dx,wl,a8 32 [] (tx l),0,0,?_,aS.of hwl4,⟨ok32,j9 32 _ []⟩,LV _,?_,hplace⟩
    · rw[hx4,htl]
    · rw[pM 0 eBad];rfl
   have hPs4:cW K CP H4 b ps:=by
    obtain⟨as,h1,h2⟩:=hPs;exact⟨as,S04.seq h1,oZ h2 S04⟩
   refine⟨x,b,ps,l.length,wordsFrom 0 [] l,0,rfl,hWx,hPs4,bw,λt ht=>?_,λy hy H5 xb pp S5 hB hpp=>?_⟩
   · rw[ht] at q0;exact q0 t rfl
   rw[hy] at q0 q1;have q0:∀t,(if r=[] then (Except.ok y:Except Fault bM) else .error ⟨8,l.length+1⟩)=.error t->Rz CF E (t.kind:Nat) (t.place:Nat):=q0;have q1:∀y',(if r=[] then (Except.ok y:Except Fault bM) else .error ⟨8,l.length+1⟩)=.ok y'->_:=q1;have S05:au H H5:=λd o z=>S5 d o (S04 d o z) (ao z hxH);refine a6 (jy (jr (ag rfl) aE) (aY (ag rfl) (.inl (S05.seq hS)))) (λh=>?_) (λh=>?_)
   · rw[aP,hbl,hbs] at h;have h:=LI h;rw[Lo (λz=>by rw[z] at h;simp at h)] at q0;have e8:((l.length+1:Nat):Int)=(l.length:Int)+1:=by omega
     have q8:=q0 _ rfl;dsimp only at q8;rw[e8] at q8;exact jv (jr (ag rfl) aE) q8
   · rw[aP,hbl,hbs] at h;have h:=L8 h;rw[Lp (Nd.mp (by omega))] at q1;exact⟨_,rfl,q1 _ rfl H5 xb pp S05 hB hpp⟩
end
end Bw
namespace L2
open PySem PySem.Spec PyProof.Rows
def yB (K:Oc)(H:Hp):Prop:=∀b o,K.lookup b=some o->H b=none
def Bd (K:Oc):V->List V->Hp->VK->Prop:=λx vs H Q=>∃l xs y,x=.ref l/\vs=[y]/\H l=some (.lst xs)/\xs.length < sizeLine/\(yB K H->Q .b8 (upd H l (.lst (xs++[y]))))
theorem xH {X:Cx}:Ke X "list.append" (Bd X.K):=by
 intro pins s σ H x vs v us Q I rx rv h;obtain⟨l,xs,y,e1,e2,hH,hz,q⟩:=h;exact gd pins s σ H x vs v us Q I rx rv ⟨l,xs,y,e1,e2,hH,hz,q λb o hb=>(I.bs b o (I.ok.mod.FE _ _ hb)).2⟩
end L2
namespace Bw
open PySem PySem.Spec PyProof.Rows L2 Tote
section
variable {K:Oc}{H:Hp}{c fo a x:Addr}{ys zs:List V}{o:HO}{xs:List Addr}
theorem v_ (h:aS K H c ys) (hf:H fo=some (.lst zs)) (ne:ys≠zs):aS K (upd H fo o) c ys:=by
 rcases h with (h|⟨u,h⟩)|h
 · exact .inl (.inl (by rw[aq (dF h hf (by intro z;cases z;exact ne rfl))];exact h))
 · exact .inl (.inr ⟨u,by rw[aq (dF h hf (by intro z;cases z))];exact h⟩)
 · exact .inr h
theorem GP (hK:yB K H)(h:aS K H c ys){C dx:Addr}{fs:List (Str×V)}(hi:H c=some (.ins C dx fs)):False:=by
 rcases h with (h|⟨u,h⟩)|⟨u,_,_,h,_⟩
 · rw[hi] at h;cases h
 · rw[hi] at h;cases h
 · rw[hK _ _ h] at hi;cases hi
def Kn (H:Hp)(xs:List Addr):Prop:=∀x∈xs,∃C dx fs,H x=some (.ins C dx fs)
theorem yE {s:Ob}(h:s≠[]):nV s≠xs.map V.ref:=λe=>by
 cases s with
 |nil=>exact h rfl
 |cons n s =>
  cases xs with
  |nil=>cases e
  |cons x xs=>cases e
theorem uo {bs:List Addr}(ne:bs≠[])(hK:yB K H)(hG:∀b∈bs,∃ys,aS K H b ys)(hi:Kn H xs):bs.map V.ref≠xs.map V.ref:=λe=>by
 cases bs with
 |nil=>exact ne rfl
 |cons b bs =>
  cases xs with
  |nil=>cases e
  |cons x xs =>
   injection e with e1 e2;injection e1 with e1;subst e1;obtain⟨ys,h⟩:=hG b (by simp);obtain⟨C,dx,fs,hx⟩:=hi b (by simp);exact GP hK h hx
theorem gu {α β:Type}{F:α->β->Prop}{G:α->Prop}(k:∀a b,F a b->G a):∀{l:List α} {m:List β},Paired F l m->∀a∈l,G a
 |_,_,.nil,_,h=>by cases h
 |_,_,.cons h t,a,hm=>by
  rcases Lr.mp hm with rfl|hm
  · exact k _ _ h
  · exact gu k t a hm
theorem kr {α β:Type}{F G:α->β->Prop}:∀{l:List α} {m:List β},Paired F l m->(∀a b,b∈m->F a b->G a b)->Paired G l m
 |_,_,.nil,_=>.nil
 |_,_,.cons h t,k=>.cons (k _ _ (by simp) h) (kr t λa b hb z=>k a b (by simp[hb]) z)
theorem mN {α β:Type}{F:α->β->Prop}{l:List α}{m:List β}(h:Paired F l m)(n:m≠[]):l≠[]:=λe=>by
 subst e;cases h;exact n rfl
variable (hK:yB K H)(hf:H fo=some (.lst (xs.map V.ref)))(hi:Kn H xs)
include hK hf hi
theorem qZ {g:Oa}(h:bE K H a g)(ne:g≠[])(hs:∀s∈g,s≠[]):bE K (upd H fo o) a g:=by
 obtain⟨as,h1,h2⟩:=h;exact⟨as,v_ h1 hf (uo (mN h2 ne) hK (gu (λ_ _ z=>⟨_,z⟩) h2) hi),kr h2 λ_ s m z=>v_ z hf (yE (hs s m))⟩
theorem Ai {gs:List (Oa)}(h:dw K H a gs)(ne:gs≠[])(hs:∀g∈gs,g≠[]/\∀s∈g,s≠[]):dw K (upd H fo o) a gs:=by
 obtain⟨as,h1,h2⟩:=h;exact⟨as,v_ h1 hf (uo (mN h2 ne) hK (gu (λ_ _ ⟨_,z,_⟩=>⟨_,z⟩) h2) hi),kr h2 λ_ g m z=>qZ hK hf hi z (hs g m).1 (hs g m).2⟩
theorem ye {CB CP CR:Addr}{p:aO}{y:bM}(h:jU K CB CP CR H x p y):jU K CB CP CR (upd H fo o) x p y:=by
 obtain⟨dx,pa,sa,ra,h1,⟨dp,fa,h2,h3⟩,⟨as,h4,h5⟩,⟨dr,ga,qa,kvs,h6,h7,h8,h9,h10⟩,h11,m⟩:=h;have ins:∀{b C d:Addr} {fs:List (Str×V)},H b=some (.ins C d fs)->(upd H fo o) b=some (.ins C d fs):=λz=>by rw[aq (dF z hf (by intro z;cases z))];exact z
 have sne:y.sets≠[]:=λz=>by
  obtain⟨_,m0,m1,m2⟩:=m.all;have pos:0 < p.fields.length:=Ms.mpr m.ok.ne;by_cases z0:y.how=0
  · have:=(m0 z0).1;rw[z] at this;have:0=p.fields.length:=this;omega
  · by_cases z1:y.how=1
    · obtain⟨t,e,_⟩:=m1 z1;rw[e] at z;cases z
    · obtain⟨t,u,e,_⟩:=m2 z0 z1;rw[e] at z;cases z
 refine⟨dx,pa,sa,ra,ins h1,⟨dp,fa,ins h2,qZ hK hf hi h3 m.ok.ne m.JV⟩,⟨as,?_,kr h5 λb s hm z=>?_⟩,⟨dr,ga,qa,kvs,ins h6,Ai hK hf hi h7 h8.ne m.Lb,h8,?_,h10⟩,h11,m⟩
 · rw[aq (dF h4 hf (by
    intro z;injection z with z;exact uo (mN h5 sne) hK (gu (λ_ _ z=>⟨_,aS.of z⟩) h5) hi z))]
   exact h4
 · rw[aq (dF z hf (by intro q;injection q with q;exact yE (m.all.1 s hm).1 q))];exact z
 · rw[aq (dF h9 hf (by intro z;cases z))];exact h9
end
structure GD (mg:Oe):Prop where
 long:Gv mg "TOO_LONG" (.int (-2))
 G5:Gv mg "FAULTY_BET" (.int (-6))
 HV:Gv mg "NO_CARD" (.int (-8))
 Jb:Gv mg "MOST_CARD" (.int 65536)
 Jq:Gv mg "MOST_BET" (.int 4096)
theorem Dr {zs:List Int}:fw (zs.map V.int) none (some ((1:Nat):Int))=(zs.take 1).map V.int:=by
 unfold fw;rw[HT.i6,HT.iD];cases zs <;> simp
def readAll (ps:List aO):List Bytes->Except Fault (List bM)
 |[]=>.ok []
 |b::bs=>match de ps b with
  |.error f=>.error f
  |.ok y=>match readAll ps bs with
   |.error f=>.error f
   |.ok ys=>.ok (y::ys)
theorem jz {ps:List aO}:∀{l m:List Bytes} {ys:List bM},readAll ps l=.ok ys->readAll ps (l++m)=match readAll ps m with
  |.error f=>.error f
  |.ok zs=>.ok (ys++zs)
 |[],m,ys,h=>by
  injection h with h;subst h;cases h2:readAll ps m with
  |error f=>exact h2
  |ok zs=>exact h2
 |b::l,m,ys,h=>by
  show (match de ps b with
   |.error f=>(Except.error f:Except Fault (List bM))
   |.ok y=>match readAll ps (l++m) with
    |.error f=>.error f
    |.ok ys=>.ok (y::ys))=_
  have h:(match de ps b with
   |.error f=>(Except.error f:Except Fault (List bM))
   |.ok y=>match readAll ps l with
    |.error f=>.error f
    |.ok ys=>.ok (y::ys))=.ok ys:=h
  cases hb:de ps b with
  |error f=>rw[hb] at h;cases h
  |ok y =>
   rw[hb] at h;cases hl:readAll ps l with
   |error f=>rw[hl] at h;cases h
   |ok xs =>
    rw[hl] at h;injection h with h;subst h;show (match readAll ps (l++m) with
     |.error f=>(Except.error f:Except Fault (List bM))
     |.ok ys=>.ok (y::ys))=_
    rw[jz hl];cases readAll ps m <;> rfl
theorem nJ {ps:List aO}{b:Bytes}:readAll ps [b]=match de ps b with
  |.error f=>.error f
  |.ok y=>.ok [y]:=by
 show (match de ps b with
   |.error f=>(Except.error f:Except Fault (List bM))
   |.ok y=>.ok [y])=_
 cases de ps b <;> rfl
def ku (t:Bytes)(bs:List Bytes):Except (List Int) (List bM):=if 65536 < t.length∨(bs.any λb=>decide (4096 < b.length))=true then .error [-2] else match dE (tx t) with
 |none=>.error [-8]
 |some ps=>match readAll ps bs with
  |.error f=>.error [-6,(f.kind:Nat),(f.place:Nat)]
  |.ok ys=>.ok ys
theorem u_ {t b:Bytes}:ku t [b]=match fL t b with
  |.error z=>.error z
  |.ok y=>.ok [y]:=by
 unfold ku fL;have e:([b].any λb=>decide (4096 < b.length))=true↔4096 < b.length:=by simp
 rw[kh (p:=65536 < t.length∨([b].any λb=>decide (4096 < b.length))=true) (q:=65536 < t.length∨4096 < b.length) ⟨λh=>h.imp id e.mp,λh=>h.imp id e.mpr⟩];by_cases h:65536 < t.length∨4096 < b.length
 · rw[Lp h,Lp h]
 · rw[Lo h,Lo h];cases dE (tx t) with
   |none=>rfl
   |some ps =>
    show (match readAll ps [b] with
     |.error f=>(Except.error [-6,((f.kind:Nat):Int),((f.place:Nat):Int)]:Except (List Int) (List bM))
     |.ok ys=>.ok ys)=_
    rw[nJ];show _=(match (match de ps b with
     |.error f=>(Except.error [-6,((f.kind:Nat):Int),((f.place:Nat):Int)]:Except (List Int) bM)
     |.ok y=>.ok y) with
     |.error z=>(Except.error z:Except (List Int) (List bM))
     |.ok y=>.ok [y])
    cases de ps b <;> rfl
section
variable {P:Program}{w:World}{K:Oc}{mg:Oe}{base:Heap}
theorem ze {CX:mr} {N:List Str} {qual:Str} {scope:Scope} {f:Addr} {cd:Value} {A:Around} {outer:List Env} {s:Shared} {H:Hp} {E:XK}:mn (n_ CX P w K mg base N qual scope f cd A outer s H E).H_:=⟨rfl,rfl,rfl,rfl⟩
def sR (K:Oc)(CB CP CR:Addr)(ps:List aO)(H:Hp)(x:Addr)(y:bM):Prop:=∃p,jU K CB CP CR H x p y/\ps[y.pool]?=some p
def tY (K:Oc)(CB CP CR:Addr):Sp:=λvs H Q _=>∃(c d:Addr) (ds:List Addr) (t:Bytes) (bs:List Bytes),vs=[.ref c,.ref d]/\aS K H c (nV (ib t))/\aS K H d (ds.map V.ref)/\Paired (λa b=>aS K H a (nV (ib b))) ds bs/\bs.length<=2 /\
 (∀zs,ku t bs=.error zs->∀H' T L F,H' T=some (.tup [.ref L,.ref F])->H' L=some (.lst (zs.map V.int))->H' F=some (.lst [])->Q (.ref T) H') /\
 (∀ys,ku t bs=.ok ys->∀H' T L F xs ps,H' T=some (.tup [.ref L,.ref F])->H' L=some (.lst [])->H' F=some (.lst (xs.map V.ref))->Paired (sR K CB CP CR ps H') xs ys->dE (tx t)=some ps->Q (.ref T) H')
theorem gC:aI ["card","bets","bet","pools","found","fault"] ["card","bets"] (ax fj):=fs
theorem Bm {CF CB CP CR aW N fI:Addr}(hfok:∀t ps,dE (tx t)=some ps->∀p∈ps,Dg p)(G:GW mg)(B:GB K mg aW)(D:GD mg)(Z:oU K CF N fI)(hF:mg "Fault"=some (.ref CF)){k:Nat}
  (FC:Fn P w K mg base bJ k "read_card" ["codes"] (vZ K CP))(FB:Fn P w K mg base (eX P w CF) k "read_bet" ["pools","codes"] (Ay K CF CB CP CR))
  {f:Addr}{fd:FuncData}(F:dI K "look_at_all" "look_at_all" fj f fd):bf P w K mg base bJ (k+1) f fd ["card","bets"] (tY K CB CP CR):=by
 refine F.J3 gC (λvs H Q E h=>?_) (λcdv A outer s H vs Q E hr h=>?_)
 · obtain⟨_,_,_,_,_,rfl,_⟩:=h;rfl
 · obtain⟨c,d,ds,t,bs,rfl,hC,hD,hP,h2,q0,q1⟩:=h
   refine⟨_,iG (PS.zero (aT (PW.pt (d9 (aB kN (aG az (by rfl) G.len PySem.boot_len (aa (pv 0) ah)) (bg D.Jb) (aM _)) (cS (hU (aG (CU rfl) (by rfl) B.any (by decide +kernel) (aa (fC (te:=kG (qF λi j=>.bl (decide (j < i))) (Ie (λxs H Q=>∃p ys,xs=[.ref p]/\(aS K H p ys∨bZ K H p ys)/\Q (.int ys.length) H) (cM (cH 2) fe)) (tC (.int 4096))) rfl gC.nd (bG (pv 1)) (bA (own:=[("bet",2)]) rfl)
         (λ_ _ _ _ _=>aK (i:=2) gC.nd rfl (Or.inl rfl)) (λ_ _ _ _ _=>cn) (λ_ _ _ _ _=>fm kN (aG az (by rfl) G.len PySem.boot_len (aa (pv 2) ah)) (bg D.Jq) (aM _))) ah))))))
     (ak (aA (dk (aa (bU (aa (bg D.long) ah)) (aa (bU ah) ah))))) aC))
    (iG (PS.zero (aN (i:=3) gC.nd rfl (Or.inl rfl) (aZ FC hr bh (aa (pv 0) ah))))
    (iG (PS.zero (aT (aB tV (pv 3) cy (aM _)) (ak (aA (dk (aa (bU (aa (bg D.HV) ah)) (aa (bU ah) ah))))) aC))
    (iG (PS.zero (aN (i:=4) gC.nd rfl (Or.inl rfl) (bU ah)))
    (iG (Dx Mt rfl (bG (pv 1)) (aK (i:=2) gC.nd rfl (Or.inl rfl))
      (HB (i:=5) (R:=λk p=>∃ps y,dE (tx t)=some ps/\readAll ps bs=.error y/\k=(y.kind:Nat)/\p=(y.place:Nat)) ze Z (by rfl) hF gC.nd rfl rfl
       (ak (cZ (lJ PySem.F.plainAttrs_list PySem.F.slot_list_append PySem.F.type_list_append xH (pv 4) (aa (aZ FB hr (bS ze rfl rfl) (aa (pv 3) (aa (pv 2) ah))) ah))))
       (λ_=>ak (aA (dk (aa (bU (aa (bg D.G5) (aa (za Z Z.fK (pv 5) rfl) (aa (za Z Z.fP (pv 5) rfl) ah)))) (aa (bU ah) ah)))))))
    (ur.zero (ak (aA (dk (aa (bU ah) (aa (pv 4) ah)))))))))),?_⟩
   have lenD:ds.length=bs.length:=Paired.length hP;have tl:(ib t).length=t.length:=by unfold ib;rw[Ln]
   have bl:∀b:Bytes,(ib b).length=b.length:=λb=>by unfold ib;rw[Ln]
   have etx:(ib t).map sg=tx t:=by
    unfold ib tx;rw[LP];rfl
   have no:∀(zs:List Int) (H1:Hp) (L:Addr),ku t bs=.error zs->H1 L=none->∀F,(upd H1 L (.lst (zs.map V.int))) F=none->∀T,(upd (upd H1 L (.lst (zs.map V.int))) F (.lst [])) T=none->Q (.ref T) (upd (upd (upd H1 L (.lst (zs.map V.int))) F (.lst [])) T (.tup [.ref L,.ref F])):=λzs H1 L e hL F hF T hT=>by
    have nF:L≠F:=λz=>by rw[←z,ae] at hF;cases hF
    have nT:L≠T:=λz=>by rw[←z,aq nF,ae] at hT;cases hT
    have nT2:F≠T:=λz=>by rw[←z,ae] at hT;cases hT
    exact q0 zs e _ T L F ae (by rw[aq nT,aq nF];exact ae) (by rw[aq nT2];exact ae)
   unfold ku at no q1;refine (jy (aY (ag rfl) (.inl hC)) aE) _ ?_;rw[aP,tl];refine gH (λh=>?_) (λh=>?_)
   · have h:65536 < t.length:=by have:=LI h;omega
     rw[Lp (.inl h)] at no;exact n8 ⟨by show 1<=sizeLine;decide,λL hL=>⟨LV _,λF hF=>⟨by show 2<=sizeLine;decide,λT hT=>no [-2] _ L rfl hL F hF T hT⟩⟩⟩
   have h1:¬65536 < t.length:=λz=>h (L4 (by omega));refine⟨_,rfl,d,rfl,⟨_,hD⟩,λD0 hD0=>om (K:=K) (a:=d) (xs:=ds.map V.ref) (λi y _=>∃b,bs[i]?=some b/\y=.bl (decide (4096 < b.length))) (λi y H H' _ z=>z) hD hD0 (by rw[Ln,lenD];omega) ?_ ?_⟩
   · rintro i v H' hi S _ R hR;obtain⟨ai,hai,rfl⟩:=jA hi;obtain⟨b,hb,hI⟩:=Paired.qG hP hai;refine⟨rfl,_,rfl,ai,_,rfl,.inl (S.seq hI),_,_,rfl,rfl,hR _ _ (au.refl _) ⟨b,hb,?_⟩⟩;rw[aP,bl];show V.bl (decide _)=V.bl (decide _);congr 1;rw[M_];omega
   rintro ys H1 S1 e1 l1 f1;have ey:ys=(bs.map λb=>decide (4096 < b.length)).map V.bl:=by
    refine xr (by rw[l1];simp[lenD]) λi y hy=>?_;obtain⟨b,hb,rfl⟩:=f1 i y hy;rw[Ls,Ls,hb];rfl
   subst ey;refine⟨D0,_,rfl,aS.of e1,_,rfl,?_⟩;have ea:(bs.map λb=>decide (4096 < b.length)).any id=bs.any λb=>decide (4096 < b.length):=by rw[NN];rfl
   rw[ea];refine gH (λh=>?_) (λh=>?_)
   · rw[Lp (.inr h)] at no;exact⟨by show 1<=sizeLine;decide,λL hL=>⟨LV _,λF hF=>⟨by show 2<=sizeLine;decide,λT hT=>no [-2] _ L rfl hL F hF T hT⟩⟩⟩
   rw[Lo λz=>z.elim h1 h] at no q1;have small:∀b∈bs,b.length<=4096:=λb hb=>by
    have:¬4096 < b.length:=λz=>h (M0.mpr ⟨b,hb,L4 z⟩);omega
   refine⟨_,rfl,c,ib t,rfl,S1.seq hC,by omega,λhn H2 S2=>?_,λps hps H2 x S2 hPs=>?_⟩
   · rw[etx] at hn;rw[hn] at no;refine a6 (aL (tM (ag rfl))) (λh=>?_) (λh=>absurd h (by decide));exact⟨by show 1<=sizeLine;decide,λL hL=>⟨LV _,λF hF=>⟨by show 2<=sizeLine;decide,λT hT=>no [-8] _ L rfl hL F hF T hT⟩⟩⟩
   rw[etx] at hps;rw[hps] at no q1;have no:∀(zs:List Int) (H1:Hp) (L:Addr),(match readAll ps bs with
    |.error f=>(Except.error [-6,((f.kind:Nat):Int),((f.place:Nat):Int)]:Except (List Int) (List bM))
    |.ok ys=>.ok ys)=.error zs->_:=no
   have q1:∀ys,(match readAll ps bs with
    |.error f=>(Except.error [-6,((f.kind:Nat):Int),((f.place:Nat):Int)]:Except (List Int) (List bM))
    |.ok ys=>.ok ys)=.ok ys->_:=q1
   refine a6 (aL (tM (ag rfl))) (λh=>absurd (LI h) (by intro z;cases z)) (λh=>?_);refine⟨LV _,λfo hfo=>?_⟩;have SH:au H H2:=S1.trans S2;have Sf:au H2 (upd H2 fo (.lst [])):=(au.refl H2).laid hfo;refine⟨_,rfl,d,rfl,⟨_,(SH.trans Sf).seq hD⟩,cN (K:=K) (a:=d) (xs:=ds.map V.ref) (λi σ H'=>∃(v2:Option V) (xs:List Addr) (ys:List bM),σ=[some (.ref c),some (.ref d),v2,some (.ref x),some (.ref fo),none]/\au H2 H'/\H' fo=some (.lst (xs.map V.ref))/\readAll ps (bs.take i)=.ok ys/\Paired (sR K CB CP CR ps H') xs ys)
    ⟨none,[],[],rfl,Sf,ae,rfl,.nil⟩ (λi σ H' _ ⟨_,_,_,_,S,_⟩=>(SH.trans S).seq hD) ?_ ?_⟩
   · rintro i v σ H3 hi ⟨v2,xs,ys,rfl,S3,e3,r3,hF3⟩;obtain⟨ai,hai,rfl⟩:=jA hi;obtain⟨b,hb,hI⟩:=Paired.qG hP hai;have hil:i < bs.length:=(LB.mp hb).1;have hs:=small b (LR hb);have ed:bs=bs.take i++b::bs.drop (i+1):=by
      rw[←(LB.mp hb).2,List.getElem_cons_drop,List.take_append_drop]
     refine⟨?_,?_⟩
     · refine⟨_,rfl,.inl ⟨rfl,_,aS.of e3⟩,_,rfl,_,rfl,ai,x,ps,b,rfl,(SH.trans S3).seq hI,hs,hPs.same S3,hfok t ps hps,λy hy=>Ij ⟨ps,y,hps,?_,rfl,rfl⟩,λy hy H4 xb p S4 hBt hpp=>?_⟩
       · rw[ed,jz r3];show (match (match de ps b with
          |.error f=>(Except.error f:Except Fault (List bM))
          |.ok y=>match readAll ps (bs.drop (i+1)) with
           |.error f=>.error f
           |.ok ys=>.ok (y::ys)) with
          |.error f=>(Except.error f:Except Fault (List bM))
          |.ok zs=>.ok (ys++zs))=_
         rw[hy]
       · have lx:xs.length<=2:=by
          have z1:=Paired.length hF3;have z2:∀{l:List Bytes} {zs:List bM},readAll ps l=.ok zs->zs.length=l.length:=λ{l}=>by
           induction l with
           |nil=>intro zs h;injection h with h;subst h;rfl
           |cons b l ih =>
            intro zs h;have h:(match de ps b with
             |.error f=>(Except.error f:Except Fault (List bM))
             |.ok y=>match readAll ps l with
              |.error f=>.error f
              |.ok ys=>.ok (y::ys))=.ok zs:=h
            cases hb:de ps b with
            |error f=>rw[hb] at h;cases h
            |ok y =>
             rw[hb] at h;cases hl:readAll ps l with
             |error f=>rw[hl] at h;cases h
             |ok xs =>
              rw[hl] at h;injection h with h;subst h;rw[Lz,Lz,ih hl]
          have z3:=z2 r3;rw[LM] at z3;omega
         refine⟨fo,_,_,rfl,rfl,S4 _ _ e3,by rw[Ln,LQ];omega,λhK=>⟨some (.ref ai),xs++[xb],ys++[y],rfl,?_,by rw[ae,LH];rfl,?_,?_⟩⟩
         · intro b' u z;rw[aq (ao z hfo)];exact S4 b' u (S3 b' u z)
         · rw[take_snoc hb,jz r3,nJ,hy]
         · have old:Paired (sR K CB CP CR ps H4) xs ys:=Paired.d8 hF3 λ_ _ ⟨p,z1,z2⟩=>⟨p,z1.same S4,z2⟩;have hi:Kn H4 xs:=gu (λ_ _ ⟨p,⟨dx,_,_,_,z,_⟩,_⟩=>⟨_,dx,_,z⟩) old;exact gF (Paired.d8 old λ_ _ ⟨p,z1,z2⟩=>⟨p,ye hK (S4 _ _ e3) hi z1,z2⟩) (.cons ⟨p,ye hK (S4 _ _ e3) hi hBt,hpp⟩ .nil)
     · rintro σ' H' a dx k' p' ⟨ps',y,h1,h2,rfl,rfl⟩ hσ ha hdx;rw[hps] at h1;injection h1 with h1;subst h1;rw[h2] at no;refine⟨_,hσ,a,dx,_,_,rfl,ha,hdx,bC,_,hσ,a,dx,_,_,rfl,ha,hdx,(aU (by decide +kernel)).trans bC,by show 3<=sizeLine;decide,λL hL=>⟨LV _,λF hF=>⟨by show 2<=sizeLine;decide,λT hT=>?_⟩⟩⟩;exact no [-6,((y.kind:Nat):Int),((y.place:Nat):Int)] _ L rfl hL F hF T hT
   · rintro σ H3 ⟨v2,xs,ys,rfl,S3,e3,r3,hF3⟩;rw[Ln,lenD,Ml] at r3;rw[r3] at q1;refine⟨LV _,λL hL=>⟨_,rfl,by show 2<=sizeLine;decide,λT hT=>?_⟩⟩;have S4:au H3 (upd H3 L (.lst [])):=(au.refl H3).laid hL;have S5:au (upd H3 L (.lst [])) (upd (upd H3 L (.lst [])) T (.tup [.ref L,.ref fo])):=(au.refl _).laid hT;exact q1 ys rfl _ T L fo xs ps ae (S5 _ _ ae) (S5 _ _ (S4 _ _ e3)) (Paired.d8 hF3 λ_ _ ⟨p,z1,z2⟩=>⟨p,z1.same (S4.trans S5),z2⟩) rfl
def xo (K:Oc)(CB CP CR:Addr):Sp:=λvs H Q _=>∃(c d:Addr) (t b:Bytes),vs=[.ref c,.ref d]/\aS K H c (nV (ib t))/\aS K H d (nV (ib b)) /\
 (∀zs,fL t b=.error zs->∀H' T L,H' T=some (.tup [.ref L,.b8])->H' L=some (.lst (zs.map V.int))->Q (.ref T) H') /\
 (∀y,fL t b=.ok y->∀H' T L x p,H' T=some (.tup [.ref L,.ref x])->jU K CB CP CR H' x p y->(∃ps,dE (tx t)=some ps/\ps[y.pool]?=some p)->Q (.ref T) H')
theorem s_:aI ["card","bet","refusal","found"] ["card","bet"] (ax j1):=fs
theorem DN {CB CP CR:Addr}(G:GW mg){k:Nat}(FA:Fn P w K mg base bJ k "look_at_all" ["card","bets"] (tY K CB CP CR)){f:Addr}{fd:FuncData}(F:dI K "look_at" "look_at" j1 f fd):bf P w K mg base bJ (k+1) f fd ["card","bet"] (xo K CB CP CR):=by
 refine F.ok s_ (λvs H Q E h=>?_) (λcdv A outer s H vs Q E hr h=>?_)
 · obtain⟨_,_,_,_,rfl,_⟩:=h;rfl
 · obtain⟨c,d,t,b,rfl,hC,hB,q0,q1⟩:=h;refine⟨_,af (B2 (aZ FA hr bh (aa (pv 0) (aa (bU (aa (pv 1) ah)) ah))) (ly rfl (b7 (aK (i:=2) s_.nd rfl (Or.inl rfl)) (b7 (aK (i:=3) s_.nd rfl (Or.inl rfl)) i7))))
    (af (aT (aB cg (aG az (by rfl) G.len PySem.boot_len (aa (pv 3) ah)) aw (aM _)) (ak (aA (dk (aa (pv 2) (aa cy ah))))) aC)
    (ak (aA (dk (aa (pv 2) (aa (bq aR (pv 3) aw (λ_ _=>rfl)) ah)))))),?_⟩
   refine⟨_,rfl,_,rfl,by show 1<=sizeLine;decide,λl hl=>?_⟩;have Sl:au H (upd H l (.lst [V.ref d])):=(au.refl H).laid hl;have e1:=u_ (t:=t) (b:=b);refine⟨c,l,[d],t,[b],rfl,Sl.seq hC,aS.of ae,.cons (Sl.seq hB) .nil,by show 1<=2;decide,λzs hz H' T L F hT hL hF=>?_,λys hy H' T L F xs ps hT hL hF hP hps=>?_⟩
   · refine⟨T,_,rfl,bZ.of hT,rfl,_,_,rfl,_,_,rfl,rfl,?_⟩;refine a6 (aL (b9 (aY (ag rfl) (.inl (aS.of hF))) aE)) (λh=>?_) (λh=>absurd h (by decide));rw[e1] at hz;cases hm:fL t b with
     |ok y=>rw[hm] at hz;cases hz
     |error z =>
      rw[hm] at hz;injection hz with hz;subst hz;refine⟨_,rfl,by show 2<=sizeLine;decide,λT2 hT2=>q0 z hm _ T2 L ae ?_⟩;rw[aq (ao hL hT2)];exact hL
   · rw[e1] at hy;cases hm:fL t b with
     |error z=>rw[hm] at hy;cases hy
     |ok y =>
      rw[hm] at hy;injection hy with hy;subst hy;cases hP with
      |cons hx hn =>
       cases hn;rename_i x;obtain⟨p,hB',hpp⟩:=hx;refine⟨T,_,rfl,bZ.of hT,rfl,_,_,rfl,_,_,rfl,rfl,?_⟩;refine a6 (aL (b9 (aY (ag rfl) (.inl (aS.of hF))) aE)) (λh=>absurd h (by show ¬decide (V.int 1=V.int 0)=true;decide)) (λh=>?_);refine⟨_,rfl,(a_ (ag rfl) aE (aS.of hF) (v:=.ref x) rfl) _ ⟨by show 2<=sizeLine;decide,λT2 hT2=>q1 y hm _ T2 L x p ae (hB'.same ((au.refl H').laid hT2)) ⟨ps,hps,hpp⟩⟩⟩
end
section
variable {P:Program}{w:World}{K:Oc}{mg:Oe}{base:Heap}
theorem pQ.mono {CX:mr} {C:Addr} {m:Str} {ps:List Str} {j k:Nat} {sp:Sp} (F:pQ P w K mg base CX j C m ps sp) (h:j<=k):pQ P w K mg base CX k C m ps sp:=by
 obtain⟨f,fd,hm,hb,F⟩:=F;exact⟨f,fd,hm,hb,F.mono h⟩
structure TopW (K:Oc)(mg:Oe):Prop where
 G:GW mg
 sign:g_ K mg "sign_of" jZ
 text:g_ K mg "text_of" j0
 name:g_ K mg "is_name" j3
 num:g_ K mg "number_of" gP
section
variable (T:TopW K mg)
include T
theorem TopW.Dz:Fn P w K mg base bJ 1 "number_of" ["word"] kR:=T.num.mk (λ_ _ _ _ _ _ us h=>match us,h with|[_],_=>rfl) λ_ _ F=>HA T.G F
theorem TopW.FZ:Fn P w K mg base bJ 1 "is_name" ["word"] lN:=T.name.mk (λ_ _ _ _ _ _ us h=>match us,h with|[_],_=>rfl) λ_ _ F=>zE T.G F
theorem TopW.Fo:Fn P w K mg base bJ 2 "text_of" ["codes"] (sW K):=T.text.mk (λ_ _ _ _ _ _ us h=>match us,h with|[_],_=>rfl) λ_ _ F=>Du (T.sign.mk (λ_ _ _ _ _ _ us h=>match us,h with|[_],_=>rfl) λ_ _ F=>D9 T.G F) F
end
theorem Di.mk {CX:mr}{C:Addr}{qual:Str}{st:Stmt}{ps:List Str}{k:Nat}{sp:Sp}(D:Di K C qual st)
  (hb:∀(kV doc pm:Value) (an:Option Addr) (cdv ct:Value) (us:Og),us.length=ps.length->bindArgs (PySem.W.fnOf "__init__" qual (cU st) (ck st) (ax st) .none kV doc pm an cdv ct) ⟨us,[]⟩=pure (ps.zip us))
  (ok:∀f fd,dI K "__init__" qual st f fd->bf P w K mg base CX k f fd ps sp):xn P w K mg base CX k C ps sp:=by
 obtain⟨f,fd,hm,F⟩:=D;exact⟨f,fd,hm,F.binds hb,ok f fd F⟩
theorem xn.mono {CX:mr}{C:Addr}{ps:List Str}{j k:Nat}{sp:Sp}(F:xn P w K mg base CX j C ps sp)(h:j<=k):xn P w K mg base CX k C ps sp:=by
 obtain⟨f,fd,hm,hb,F⟩:=F;exact⟨f,fd,hm,hb,F.mono h⟩
theorem Dm.mk {CX:mr}{C:Addr}{m qual:Str}{st:Stmt}{ps:List Str}{k:Nat}{sp:Sp}(D:Dm K C m qual st)
  (hb:∀(kV doc pm:Value) (an:Option Addr) (cdv ct:Value) (us:Og),us.length=ps.length->bindArgs (PySem.W.fnOf m qual (cU st) (ck st) (ax st) .none kV doc pm an cdv ct) ⟨us,[]⟩=pure (ps.zip us))
  (ok:∀f fd,dI K m qual st f fd->bf P w K mg base CX k f fd ps sp):pQ P w K mg base CX k C m ps sp:=by
 obtain⟨f,fd,hm,F⟩:=D;exact⟨f,fd,hm,F.binds hb,ok f fd F⟩
structure TopC (P:Program)(w:World)(K:Oc)(mg:Oe)(dS aF CP:Addr):Prop where
 W:TopW K mg
 GC:GC P w K mg dS aF
 TP:CK K mg "Pool" hZ CP
 CY:Di K CP "Pool.__init__" gU
 day:g_ K mg "is_day" mq
 HN:g_ K mg "has_pool_form" dR
 BD:g_ K mg "are_terms_good" dz
 fields:g_ K mg "fields_of" gO
 pool:g_ K mg "read_pool" gZ
 race:g_ K mg "read_race" fA
 pools:g_ K mg "read_pools" f7
 HV:g_ K mg "read_card" gT
theorem TopC.IP {dS aF CP:Addr}(T:TopC P w K mg dS aF CP):Fn P w K mg base bJ 6 "read_card" ["codes"] (vZ K CP):=by
 have num:Fn P w K mg base bJ 2 "number_of" ["word"] kR:=T.W.Dz.mono (by decide);have day:Fn P w K mg base bJ 2 "is_day" ["words"] (CQ K):=T.day.mk (λ_ _ _ _ _ _ us h=>match us,h with|[_],_=>rfl) λ_ _ F=>Gk T.W.G T.W.FZ F;have HN:Fn P w K mg base bJ 2 "has_pool_form" ["words"] (xT K):=T.HN.mk (λ_ _ _ _ _ _ us h=>match us,h with|[_],_=>rfl) λ_ _ F=>Ef T.W.G T.GC T.W.FZ F;have BD:Fn P w K mg base bJ 2 "are_terms_good" ["words"] (tT K):=T.BD.mk (λ_ _ _ _ _ _ us h=>match us,h with|[_],_=>rfl) λ_ _ F=>A1 T.W.Dz F;have fields:Fn P w K mg base bJ 1 "fields_of" ["kind","size","race","races"] (pR K):=T.fields.mk (λ_ _ _ _ _ _ us h=>match us,h with|[_,_,_,_],_=>rfl) λ_ _ F=>Aq T.W.G T.GC F;have CY:xn P w K mg base bJ 1 CP ["self","name","kind","fields","unit"] (uj CP):=T.CY.mk (λ_ _ _ _ _ _ us h=>match us,h with|[_,_,_,_,_],_=>rfl) λ_ _ F=>Bu T.TP F;have pool:Fn P w K mg base bJ 4 "read_pool" ["words","races"] (wc K CP):=T.pool.mk (λ_ _ _ _ _ _ us h=>match us,h with|[_,_],_=>rfl) λ_ _ F=>EG T.W.G T.GC T.TP HN BD num (fields.mono (by decide)) (CY.mono (by decide)) F;have race:Fn P w K mg base bJ 2 "read_race" ["words"] (wW K):=T.race.mk (λ_ _ _ _ _ _ us h=>match us,h with|[_],_=>rfl) λ_ _ F=>E6 T.W.G T.GC T.W.Dz F;have pools:Fn P w K mg base bJ 5 "read_pools" ["lines","races"] (tK K CP):=T.pools.mk (λ_ _ _ _ _ _ us h=>match us,h with|[_,_],_=>rfl) λ_ _ F=>Cu T.W.G T.GC T.TP pool F;exact T.HV.mk (λ_ _ _ _ _ _ us h=>match us,h with|[_],_=>rfl) λ_ _ F=>D5 T.W.G T.GC (T.W.Fo.mono (by decide)) (day.mono (by decide)) (race.mono (by decide)) pools F
structure wG (K:Oc)(mg:Oe)(aW CR:Addr):Prop where
 G:GW mg
 B:GB K mg aW
 N:GN mg
 TR:CK K mg "Rows" jC CR
 prod:g_ K mg "product_of" fZ
 J0:g_ K mg "without" j_
 legs:g_ K mg "count_legs" fY
 Gh:g_ K mg "count_orders" eJ
 DP:g_ K mg "is_of" oy
 K6:g_ K mg "count_different" cV
 Lj:g_ K mg "picks_of" iO
 cst:g_ K mg "count_starts" eN
 Iq:Di K CR "Rows.__init__" gJ
 start:Dm K CR "starting" "Rows.starting" dP
 Le:g_ K mg "rows_on" kq
 JY:g_ K mg "rows_box" iV
 Ko:g_ K mg "rows_key" iH
 Hz:g_ K mg "seatings" gy
 Ky:g_ K mg "rows_of" ke
section
variable {aW CR:Addr}(T:wG K mg aW CR)
include T
theorem wG.IZ:Fn P w K mg base bJ 1 "without" ["numbers","taken"] (sL K):=T.J0.mk (λ_ _ _ _ _ _ us h=>match us,h with|[_,_],_=>rfl) λ_ _ F=>EU F
theorem wG.Gn:pQ P w K mg base bJ 3 CR "starting" ["self","start"] (sY K CR):=by
 have DP:Fn P w K mg base bJ 1 "is_of" ["sets","start"] (sT K):=T.DP.mk (λ_ _ _ _ _ _ us h=>match us,h with|[_,_],_=>rfl) λ_ _ F=>DM T.G T.N F;have legs:Fn P w K mg base bJ 2 "count_legs" ["sets","start"] (jf K kP):=T.legs.mk (λ_ _ _ _ _ _ us h=>match us,h with|[_,_],_=>rfl) λ_ _ F=>Eu T.G DP (T.prod.mk (λ_ _ _ _ _ _ us h=>match us,h with|[_],_=>rfl) λ_ _ F=>D6 F) F;have Gh:Fn P w K mg base bJ 2 "count_orders" ["sets","start"] (jf K tR):=T.Gh.mk (λ_ _ _ _ _ _ us h=>match us,h with|[_,_],_=>rfl) λ_ _ F=>De T.G T.N DP (T.K6.mk (λ_ _ _ _ _ _ us h=>match us,h with|[_],_=>rfl) λ_ _ F=>Gw T.G T.B T.N F) T.IZ F;exact T.start.mk (λ_ _ _ _ _ _ us h=>match us,h with|[_,_],_=>rfl) λ_ _ F=>Cv T.N T.TR Gh legs F
theorem wG.xg:xn P w K mg base bJ 2 CR ["self","kind","grids"] (ko K CR):=T.Iq.mk (λ_ _ _ _ _ _ us h=>match us,h with|[_,_,_],_=>rfl) λ_ _ F=>BN T.TR (T.cst.mk (λ_ _ _ _ _ _ us h=>match us,h with|[_],_=>rfl) λ_ _ F=>HM T.G T.N F) (T.Lj.mk (λ_ _ _ _ _ _ us h=>match us,h with|[_],_=>rfl) λ_ _ F=>Hb T.N F) F
theorem wG.Ku:Fn P w K mg base bJ 4 "rows_on" ["kind","sets"] (qA K CR):=T.Le.mk (λ_ _ _ _ _ _ us h=>match us,h with|[_,_],_=>rfl) λ_ _ F=>Hq T.TR T.xg F
theorem wG.J5 {CP:Addr}(TP:CK K mg "Pool" hZ CP):Fn P w K mg base bJ 5 "rows_of" ["pool","how","sets"] (zd K CP CR):=by
 have Hz:Fn P w K mg base bJ 1 "seatings" ["size","bankers","others"] (wZ K):=T.Hz.mk (λ_ _ _ _ _ _ us h=>match us,h with|[_,_,_],_=>rfl) λ_ _ F=>Eo T.N F;exact T.Ky.mk (λ_ _ _ _ _ _ us h=>match us,h with|[_,_,_],_=>rfl) λ_ _ F=>Hc T.G T.B TP T.Ku (T.JY.mk (λ_ _ _ _ _ _ us h=>match us,h with|[_,_,_],_=>rfl) λ_ _ F=>Ey T.N T.TR T.xg F) (T.Ko.mk (λ_ _ _ _ _ _ us h=>match us,h with|[_,_,_,_],_=>rfl) λ_ _ F=>EW T.TR (Hz.mono (by decide)) T.xg F) F
end
structure DS (P:Program)(w:World)(K:Oc)(mg:Oe)(dS aF CP CW CB CF nF fI aW CR:Addr):Prop where
 C:TopC P w K mg dS aF CP
 N:wG K mg aW CR
 D:GD mg
 TW:CK K mg "Words" cq CW
 TB:CK K mg "Bet" sk CB
 Z:oU K CF nF fI
 mF:mg "Fault"=some (.ref CF)
 Hv:∃fd,dI K "__init__" "Fault.__init__" fO fI fd
 GI:Di K CB "Bet.__init__" je
 cost:Dm K CB "cost" "Bet.cost" jb
 wJ:Di K CW "Words.__init__" f_
 take:Dm K CW "take" "Words.take" fN
 one:Dm K CW "take_one_of" "Words.take_one_of" cv
 fin:Dm K CW "finish" "Words.finish" eQ
 stake:g_ K mg "take_stake" fM
 set:g_ K mg "take_set" iM
 box:g_ K mg "take_box" ja
 key:g_ K mg "take_key" iP
 on:g_ K mg "take_on" jY
 sets:g_ K mg "take_sets" gM
 how:g_ K mg "take_how" iY
 pool:g_ K mg "take_pool" gY
 line:g_ K mg "check_line" fT
 words:g_ K mg "read_words" fR
 KD:g_ K mg "read_bet" i8
 JF:g_ K mg "look_at_all" fj
 look:g_ K mg "look_at" j1
section
variable {dS aF CP CW CB CF nF fI aW CR:Addr}(T:DS P w K mg dS aF CP CW CB CF nF fI aW CR)
include T
theorem DS.GR:Fn P w K mg base bJ 9 "look_at_all" ["card","bets"] (tY K CB CP CR):=by
 have G:=T.C.W.G;have B:=T.N.B;have FL:Flt P w K mg base CF:=by
  obtain⟨fd,F⟩:=T.Hv;exact⟨nF,fI,fd,T.Z,F.binds (λ_ _ _ _ _ _ us h=>match us,h with|[_,_,_],_=>rfl),Ao T.Z F,T.mF⟩
 have num:∀k,1<=k->Fn P w K mg base bJ k "number_of" ["word"] kR:=λk hk=>T.C.W.Dz.mono hk;have take:pQ P w K mg base (eX P w CF) 3 CW "take" ["self"] (mM K CW CF):=T.take.mk (λ_ _ _ _ _ _ us h=>match us,h with|[_],_=>rfl) λ_ _ F=>ER G B T.TW FL F;have one:pQ P w K mg base (eX P w CF) 4 CW "take_one_of" ["self","known"] (pE K CW CF):=T.one.mk (λ_ _ _ _ _ _ us h=>match us,h with|[_,_],_=>rfl) λ_ _ F=>HK B T.TW FL (by decide) take F;have fin:pQ P w K mg base (eX P w CF) 3 CW "finish" ["self"] (CH K CW CF):=T.fin.mk (λ_ _ _ _ _ _ us h=>match us,h with|[_],_=>rfl) λ_ _ F=>Hy G B T.TW FL F;have stake:Fn P w K mg base (eX P w CF) 4 "take_stake" ["words","unit"] (tD K CW CF):=T.stake.mk (λ_ _ _ _ _ _ us h=>match us,h with|[_,_],_=>rfl) λ_ _ F=>Bi B T.TW FL (by decide) take (num 3 (by decide)) F;have set:Fn P w K mg base (eX P w CF) 4 "take_set" ["words","field"] (vD K CW CF):=T.set.mk (λ_ _ _ _ _ _ us h=>match us,h with|[_,_],_=>rfl) λ_ _ F=>Ga G B T.TW FL (by decide) take (num 3 (by decide)) F;have box:Fn P w K mg base (eX P w CF) 5 "take_box" ["words","field","size"] (BI K CW CF):=T.box.mk (λ_ _ _ _ _ _ us h=>match us,h with|[_,_,_],_=>rfl) λ_ _ F=>Gj G B T.TW FL (by decide) set F;have key:Fn P w K mg base (eX P w CF) 5 "take_key" ["words","field","size"] (BK K CW CF):=T.key.mk (λ_ _ _ _ _ _ us h=>match us,h with|[_,_,_],_=>rfl) λ_ _ F=>GZ G B T.TW FL (by decide) set one F;have on:Fn P w K mg base (eX P w CF) 5 "take_on" ["words","fields"] (HP K CW CF):=T.on.mk (λ_ _ _ _ _ _ us h=>match us,h with|[_,_],_=>rfl) λ_ _ F=>Jn G B T.TW FL (by decide) set one F;have sets:Fn P w K mg base (eX P w CF) 6 "take_sets" ["words","pool","how"] (v9 K CW CF CP):=T.sets.mk (λ_ _ _ _ _ _ us h=>match us,h with|[_,_,_],_=>rfl) λ_ _ F=>EC G B T.C.TP on box key F;have how:Fn P w K mg base (eX P w CF) 5 "take_how" ["words","pool"] (Ci K CW CF CP):=T.how.mk (λ_ _ _ _ _ _ us h=>match us,h with|[_,_],_=>rfl) λ_ _ F=>HC B T.TW T.C.TP one F;have pool:Fn P w K mg base (eX P w CF) 4 "take_pool" ["pools","words"] (uc K CW CF CP):=T.pool.mk (λ_ _ _ _ _ _ us h=>match us,h with|[_,_],_=>rfl) λ_ _ F=>Bv B T.TW T.C.TP FL (by decide) take F;have line:Fn P w K mg base (eX P w CF) 3 "check_line" ["line"] (wL K CF):=T.line.mk (λ_ _ _ _ _ _ us h=>match us,h with|[_],_=>rfl) λ_ _ F=>C8 G B FL F;have GI:xn P w K mg base bJ 4 CB ["self","pool","pool_number","how","stake","sets","rows"] (xC K CB CR):=T.GI.mk (λ_ _ _ _ _ _ us h=>match us,h with|[_,_,_,_,_,_,_],_=>rfl) λ_ _ F=>Ea T.TB T.N.TR T.N.Gn F;have wJ:xn P w K mg base bJ 1 CW ["self","line"] (ph K CW):=T.wJ.mk (λ_ _ _ _ _ _ us h=>match us,h with|[_,_],_=>rfl) λ_ _ F=>Ap G T.TW F;have Ky:Fn P w K mg base bJ 6 "rows_of" ["pool","how","sets"] (zd K CP CR):=(T.N.J5 T.C.TP).mono (by decide);have cost:pQ P w K mg base bJ 6 CB "cost" ["self"] (qk K CB CP CR):=(T.cost.mk (λ_ _ _ _ _ _ us h=>match us,h with|[_],_=>rfl) λ_ _ F=>Ee T.TB F:pQ P w K mg base bJ 1 CB "cost" ["self"] (qk K CB CP CR)).mono (by decide);have words:Fn P w K mg base (eX P w CF) 7 "read_words" ["pools","words"] (xK K CW CF CB CP CR):=T.words.mk (λ_ _ _ _ _ _ us h=>match us,h with|[_,_],_=>rfl) λ_ _ F=>C_ B T.TW T.C.TP T.TB FL (k:=6) (by decide) (one.mono (by decide)) (pool.mono (by decide)) (stake.mono (by decide)) (how.mono (by decide)) sets GI (fin.mono (by decide)) Ky cost F;have KD:Fn P w K mg base (eX P w CF) 8 "read_bet" ["pools","codes"] (Ay K CF CB CP CR):=T.KD.mk (λ_ _ _ _ _ _ us h=>match us,h with|[_,_],_=>rfl) λ_ _ F=>Hm G B T.TW FL (k:=7) (by decide) (line.mono (by decide)) words (T.C.W.Fo.mono (by decide)) wJ F;exact T.JF.mk (λ_ _ _ _ _ _ us h=>match us,h with|[_,_],_=>rfl) λ_ _ F=>Bm A9 G B T.D T.Z T.mF (k:=8) (T.C.IP.mono (by decide)) KD F
theorem DS.Ja:Fn P w K mg base bJ 10 "look_at" ["card","bet"] (xo K CB CP CR):=T.look.mk (λ_ _ _ _ _ _ us h=>match us,h with|[_,_],_=>rfl) λ_ _ F=>DN T.C.W.G T.GR F
end
end
theorem Az {u:Value}{v:V}(r:Bf u=some v):RelV v u:=by
 cases u <;> cases r <;> first|rfl|exact⟨_,rfl⟩
theorem yR:∀{us:Og} {vs:List V},us.map Bf=vs.map some->Vals vs us
 |[],[],_=>.nil
 |[],_::_,h=>by cases h
 |_::_,[],h=>by cases h
 |u::us,v::vs,h=>by
  rw[LF,LF] at h;injection h with h1 h2;exact .cons (Az h1) (yR h2)
section
variable {P:Program}{w:World}{K:Oc}{mg:Oe}{h:Heap}{x m qual:Str}{st:Stmt}{f C:Addr}{u:Value}{v:V}{fs:List Str}
 {oc kV dc pm cd ct:Value}{od an:Option Addr}{sl:Array (Option Value)}
theorem dB (X:K.In h) (G:h.Ns mainGlobals mg) (e:PySem.W.nsIn K mainGlobals x=some none:=by k_is):mg x=none:=by
 obtain⟨o,es,ep,ho,hd,_,hf⟩:=G;rw[←hf x];have z:=ug e;unfold C1 at z;cases q:K.lookup mainGlobals with
 |none =>
  unfold PySem.W.nsIn at e;rw[q] at e;cases e
 |some o' =>
  have:=X _ _ q;rw[ho] at this;cases this;obtain⟨c,d,dt,sl⟩:=o;cases hd;rw[q] at z;exact z
theorem gv (X:K.In h)(G:h.Ns mainGlobals mg)(e:PySem.W.nsIn K mainGlobals x=some (some u):=by k_is)(r:Bf u=some v:=by first|rfl|decide +kernel):Gv mg x v:=⟨u,PySem.W.mg_of X G e,Az r⟩
theorem a9 (X:K.In h)(G:h.Ns mainGlobals mg)(a:PySem.W.nsIn K mainGlobals x=some (some (.ref f)):=by k_is)(l:K.lookup f=some ⟨oc,od,.func (PySem.W.fnOf x x (cU st) (ck st) (ax st) .none kV dc pm an cd ct),sl⟩:=by k_is)
  (c:PySem.W.codeIn K cd x=true:=by k_is)(k:PySem.W.keepIn K (.ref f)=true:=by k_is):g_ K mg x st:=⟨f,_,PySem.W.mg_of X G a,tS l c k⟩
theorem uJ (a:PySem.W.findIn K (.ref C) m=some (some (.ref f)):=by k_is)(i:PySem.W.isFn K (.ref f)=true:=by k_is)(l:K.lookup f=some ⟨oc,od,.func (PySem.W.fnOf m qual (cU st) (ck st) (ax st) .none kV dc pm an cd ct),sl⟩:=by k_is)
  (c:PySem.W.codeIn K cd qual=true:=by k_is)(k:PySem.W.keepIn K (.ref f)=true:=by k_is):Dm K C m qual st:=⟨f,_,⟨a,i,k⟩,tS l c k⟩
theorem yD (mk:PySem.W.makesIn K C=true:=by k_is)(kc:PySem.W.keepIn K (.ref C)=true:=by k_is)(a:PySem.W.findIn K (.ref C) "__init__"=some (some (.ref f)):=by k_is)(i:PySem.W.isFn K (.ref f)=true:=by k_is)(l:K.lookup f=some ⟨oc,od,.func (PySem.W.fnOf "__init__" qual (cU st) (ck st) (ax st) .none kV dc pm an cd ct),sl⟩:=by k_is)
  (c:PySem.W.codeIn K cd qual=true:=by k_is)(k:PySem.W.keepIn K (.ref f)=true:=by k_is):Di K C qual st:=⟨f,_,⟨mk,a,i,kc⟩,tS l c k⟩
theorem Iy (l:K.lookup f=some ⟨oc,od,.func (PySem.W.fnOf "__init__" qual (cU st) (ck st) (ax st) .none kV dc pm an cd ct),sl⟩:=by k_is)
  (c:PySem.W.codeIn K cd qual=true:=by k_is)(k:PySem.W.keepIn K (.ref f)=true:=by k_is):∃fd,dI K "__init__" qual st f fd:=⟨_,tS l c k⟩
def nE (K:Oc)(C:Addr)(fs:List Str):Prop:=∀f∈fs,hX K C f
theorem nE.nil:nE K C []:=λ_ h=>by cases h
theorem nE.cons {g:Str}(n:PySem.W.findIn K (.ref C) g=some none)(r:nE K C fs):nE K C (g::fs):=λf h=>by
 cases h with
 |head=>exact n
 |tail _ h=>exact r f h
theorem yt (X:K.In h)(G:h.Ns mainGlobals mg)(a:PySem.W.nsIn K mainGlobals x=some (some (.ref C)):=by k_is)(pg:PySem.W.plainGet K C Str.empty=true:=by k_is)(hd:PySem.W.hasDictIn K C=true:=by k_is)(po:PySem.W.plainOver K C=true:=by k_is)
  (sa:PySem.W.findIn K (.ref C) "__setattr__"=some (some (.builtin "object.__setattr__")):=by k_is)(no:nE K C fs:=by (repeat refine Bw.nE.cons (by k_is) ?_);exact Bw.nE.nil):CK K mg x fs C:=⟨⟨pg,hd,po,sa⟩,no,PySem.W.mg_of X G a⟩
theorem fg {a:Addr}{its:Array Value}{n:Nat}{xs:List V}(l:K.lookup a=some ⟨.type "tuple",od,.seq its n,sl⟩:=by k_is)(hs:its.size<=sizeLine:=by decide)(r:its.toList.map Bf=xs.map some:=by first|rfl|decide +kernel):∀H:Hp,bZ K H a xs:=λ_ =>
 .inr ⟨_,its,n,l,rfl,rfl,hs,yR r⟩
theorem Ds {a:Addr}{o:Obj}(l:K.lookup a=some o:=by k_is)(c:o.cls=.type "tuple":=by rfl)(d:o.dict=none:=by rfl):∃o,K.lookup a=some o/\o.cls=.type "tuple"/\o.dict=none:=⟨o,l,c,d⟩
theorem key_is {s:String}{t:Tok}:qh (.inr (Bw.st (Bw.cd s))) (.str (Str.ofString s) t)=true:=by rw[←kK];exact rP _ _
theorem yO {s:String}:PyData.keyHash w.params (Str.ofString s)=Iv w (.inr (Bw.st (Bw.cd s))):=by rw[←kK];rfl
theorem AZ {dS d1 d2 d3 d4:Addr}{t1 t2 t3 t4:Tok}{ep:Nat}(l:K.lookup dS=some ⟨.type "dict",none,.dict #[⟨PyData.keyHash w.params (Str.ofString "place"),.str (Str.ofString "place") t1,.ref d1⟩,⟨PyData.keyHash w.params (Str.ofString "order"),.str (Str.ofString "order") t2,.ref d2⟩,
      ⟨PyData.keyHash w.params (Str.ofString "any"),.str (Str.ofString "any") t3,.ref d3⟩,⟨PyData.keyHash w.params (Str.ofString "legs"),.str (Str.ofString "legs") t4,.ref d4⟩] ep,#[]⟩:=by k_is) (ne:(dS==sysModules)=false:=by decide)
  (h1:∀H,bZ K H d1 [.int 1,.int 4]:=by exact Bw.fg) (h2:∀H,bZ K H d2 [.int 2,.int 4]:=by exact Bw.fg) (h3:∀H,bZ K H d3 [.int 2,.int 3]:=by exact Bw.fg) (h4:∀H,bZ K H d4 [.int 2,.int 6]:=by exact Bw.fg) :
  ∃ts:Tote.Kind->Addr,yG P w K dS [(.inr (Bw.st (Bw.cd "place")),.ref (ts .place)),(.inr (Bw.st (Bw.cd "order")),.ref (ts .order)),(.inr (Bw.st (Bw.cd "any")),.ref (ts .any)),(.inr (Bw.st (Bw.cd "legs")),.ref (ts .legs))]/\∀(k:Tote.Kind) (H:Hp),bZ K H (ts k) [.int (sizeOf k).1,.int (sizeOf k).2]:=by
 have nd:([.inr (Bw.st (Bw.cd "place")),.inr (Bw.st (Bw.cd "order")),.inr (Bw.st (Bw.cd "any")),.inr (Bw.st (Bw.cd "legs"))]:List Key).Nodup:=by decide +kernel
 refine⟨fun|.place=>d1|.order=>d2|.any=>d3|.legs=>d4,⟨λh X=>⟨_,_,ep,X _ _ l,⟨rfl,rfl,rfl⟩,rfl,λe he=>?_,.cons (key_is (t:=t1)) rfl (.cons (key_is (t:=t2)) rfl (.cons (key_is (t:=t3)) rfl (.cons (key_is (t:=t4)) rfl .nil))),nd⟩,ne⟩,λk=>?_⟩
 · simp only[List.mem_toArray,Lr,Na,or_false] at he;rcases he with rfl|rfl|rfl|rfl
   · exact⟨.inr (Bw.st (Bw.cd "place")),key_is (s:="place") (t:=t1),yO (w:=w) (s:="place")⟩
   · exact⟨.inr (Bw.st (Bw.cd "order")),key_is (s:="order") (t:=t2),yO (w:=w) (s:="order")⟩
   · exact⟨.inr (Bw.st (Bw.cd "any")),key_is (s:="any") (t:=t3),yO (w:=w) (s:="any")⟩
   · exact⟨.inr (Bw.st (Bw.cd "legs")),key_is (s:="legs") (t:=t4),yO (w:=w) (s:="legs")⟩
 · cases k
   · exact h1
   · exact h2
   · exact h3
   · exact h4
theorem AO {aF t0 t1 t2 t3 t4 t5 t6:Addr}(l:∀H,bZ K H aF [.ref t0,.ref t1,.ref t2,.ref t3,.ref t4,.ref t5,.ref t6]:=by exact Bw.fg)(h0:∀H,bZ K H t0 [.int 0,.str (Str.ofString "pool")]:=by exact Bw.fg)(h1:∀H,bZ K H t1 [.int 4,.str (Str.ofString "from")]:=by exact Bw.fg)
  (h2:∀H,bZ K H t2 [.int 6,.str (Str.ofString "take")]:=by exact Bw.fg)(h3:∀H,bZ K H t3 [.int 8,.str (Str.ofString "break")]:=by exact Bw.fg)(h4:∀H,bZ K H t4 [.int 10,.str (Str.ofString "least")]:=by exact Bw.fg)(h5:∀H,bZ K H t5 [.int 12,.str (Str.ofString "unit")]:=by exact Bw.fg)(h6:∀H,bZ K H t6 [.int 14,.str (Str.ofString "none")]:=by exact Bw.fg) :
  ∃ts:List Addr,(∀H,bZ K H aF (ts.map V.ref))/\Paired (λt (p:Nat×W)=>∀H,bZ K H t [.int (p.1:Nat),.str (Bw.st p.2)]) ts eW:=by
 rw[kK] at h0 h1 h2 h3 h4 h5 h6;exact⟨[t0,t1,t2,t3,t4,t5,t6],l,.cons h0 (.cons h1 (.cons h2 (.cons h3 (.cons h4 (.cons h5 (.cons h6 .nil))))))⟩
theorem ES {N:Addr}{es:Array DictEntry}{ep:Nat}(l:K.lookup N=some ⟨oc,od,.dict es ep,sl⟩:=by k_is)(e:(es.toList.all λe=>match e.key with
  |.str _ _=>true
  |_=>false)=true:=by rfl):ic K N=true:=by
 unfold ic;rw[l];exact e
theorem G6 {N fI:Addr}{nm q:Str}{bs:Og}{sn:List Str}{sub:Og}{ab:Bool}{col:Option Bool}{dd:Option Addr}{k0 k1 k2 k3 k5:Option Value}(l:K.lookup C=some (excClassObj nm q C N bs BwX.qP true sn sub ab col dd k0 k1 k2 k3 k5 "Exception.__new__"):=by k_is)
  (keys:ic K N=true:=by exact Bw.ES)(init:PySem.W.nsIn K N "__init__"=some (some (.ref fI)):=by k_is)(fn:PySem.W.isFn K (.ref fI)=true:=by k_is)(kp:PySem.W.keepIn K (.ref C)=true:=by k_is)(Bz:PySem.W.nsIn K N "__setattr__"=some none:=by k_is)(KJ:PySem.W.nsIn K N "kind"=some none:=by k_is)(JW:PySem.W.nsIn K N "place"=some none:=by k_is)
  (sa:PySem.W.findIn K (.ref C) "__setattr__"=some (some (.builtin "object.__setattr__")):=by k_is)(ga:PySem.W.findIn K (.ref C) "__getattribute__"=some (some (.builtin "BaseException.__getattribute__")):=by k_is)(gt:PySem.W.findIn K (.ref C) "__getattr__"=some none:=by k_is)(fK:PySem.W.findIn K (.ref C) "kind"=some none:=by k_is)(fP:PySem.W.findIn K (.ref C) "place"=some none:=by k_is):oU K C N fI :=
 ⟨⟨_,l,nm,q,bs,sn,sub,ab,col,dd,k0,k1,k2,k3,k5,rfl⟩,keys,init,fn,kp,Bz,KJ,JW,sa,ga,gt,fK,fP⟩
end
theorem u6 {l:List Int}(h:∀i∈l,0<=i/\i<=255):nV (ib (BetNeutral.text l))=l.map V.int:=by
 unfold nV ib BetNeutral.text BetNeutral.nats;rw[LP,LP,LP];refine Mg λi hi=>?_;obtain⟨h1,h2⟩:=h i hi;show V.int (((UInt8.ofNat i.toNat).toNat:Nat):Int)=V.int i;have e:(UInt8.ofNat i.toNat).toNat=i.toNat:=by
  rw[UInt8.toNat_ofNat'];omega
 rw[e];congr 1;omega
theorem uF {l:List Int}(h:l.all (PySem.W.Codec.inInt (Int.ofNat 0) (Int.ofNat 255))=true):∀i∈l,0<=i/\i<=255:=λi hi=>by
 have z:=LU.mp h i hi;unfold PySem.W.Codec.inInt at z;simp only[Lv,Lw] at z;exact⟨z.1,z.2⟩
section
variable {K:Oc}{H:Hp}{xs:List V}{a b:List Int}
theorem J7 {lo hi lo2 hi2:Nat} (hx:iw K H xs (PySem.W.Codec.encAll [.list lo hi (.int (Int.ofNat 0) (Int.ofNat 255)),.list lo2 hi2 (.int (Int.ofNat 0) (Int.ofNat 255))] ((a,b,()):List Int×List Int×Unit)))
  (hwi:PySem.W.Codec.withinAll [.list lo hi (.int (Int.ofNat 0) (Int.ofNat 255)),.list lo2 hi2 (.int (Int.ofNat 0) (Int.ofNat 255))] ((a,b,()):List Int×List Int×Unit)=true) :
  ∃c d,xs=[.ref c,.ref d]/\aS K H c (nV (ib (BetNeutral.text a)))/\aS K H d (nV (ib (BetNeutral.text b))):=by
 have w:((PySem.W.Codec.inLen lo hi a&&a.all (PySem.W.Codec.inInt (Int.ofNat 0) (Int.ofNat 255)))&&((PySem.W.Codec.inLen lo2 hi2 b&&b.all (PySem.W.Codec.inInt (Int.ofNat 0) (Int.ofNat 255)))&&true))=true:=hwi;simp only[Lv] at w;cases hx with
 |cons h1 h2 =>
  cases h2 with
  |cons h2 h3 =>
   cases h3;cases h1 with
   |lst hs ha =>
    cases h2 with
    |lst hs2 ha2 =>
     have e:=L2.tw a _ ha;have e2:=L2.tw b _ ha2;subst e e2;exact⟨_,_,rfl,by rw[u6 (uF w.1.2)];exact hs,by rw[u6 (uF w.2.1.2)];exact hs2⟩
end
def Kh (P:Program)(w:World)(mg:Oe){K:Oc}{h:Heap}(_:K.In h):Prop:=∃dS aF CP CW CB CF nF fI aW CR,DS P w K mg dS aF CP CW CB CF nF fI aW CR
def Kx (mg:Oe){K:Oc}{h:Heap}(_:K.In h)(x:Str)(st:Stmt):Prop:=g_ K mg x st
section
variable {P:Program}{w:World}{K:Oc}{mg:Oe}{fa:Addr}{x:Str}{st:Stmt}{ps:List Str}{k:Nat}{sp:Sp}
theorem Hx (D:g_ K mg x st) (hmg:mg x=some (.ref fa))
  (hb:∀(kV doc pm:Value) (an:Option Addr) (cdv ct:Value) (us:Og),us.length=ps.length->bindArgs (PySem.W.fnOf x x (cU st) (ck st) (ax st) .none kV doc pm an cdv ct) ⟨us,[]⟩=pure (ps.zip us))
  (ok:∀(base:Heap) (f:Addr) (fd:FuncData),dI K x x st f fd->bf P w K mg base bJ k f fd ps sp) :
  ∃fd:FuncData,(∀(s:Shared) (us:Og),us.length=ps.length->BindsTo s fd ⟨us,[]⟩ (ps.zip us))/\∀base:Heap,K.In base->base.Ns mainGlobals mg->bf P w K mg base bJ k fa fd ps sp:=by
 obtain⟨f,fd,hm,F⟩:=D;rw[hmg] at hm;cases hm;obtain⟨oc,od,kV,doc,pm,an,cdv,ct,osl,rfl,lk,hcd⟩:=id F.ex;exact⟨_,λs us hu=>.of_eq (hb _ _ _ _ _ _ us hu),λbase _ _=>ok base _ _ F⟩
end
def front (y:bM)(i:Nat):List Int:=([0,((y.pool:Nat):Int),((y.how:Nat):Int),((y.stake:Nat):Int),((y.sets.length:Nat):Int)]:List Int)++(y.sets.take i).flatMap λs=>((s.length:Nat):Int)::s.map λ(n:Nat)=>(n:Int)
theorem vz {c:Nat}:∀(ss:Oa),(∀s∈ss,s.length<=c)->(ss.flatMap λs=>((s.length:Nat):Int)::s.map λ(n:Nat)=>(n:Int)).length<=ss.length*(c+1)
 |[],_=>by simp
 |s::ss,h=>by
  have h1:=vz ss λt ht=>h t (LG _ ht);have h2:=h s (L_ ..);rw[NL,LK,Lz,Lz,Ln,Nat.add_mul];omega
theorem zO {y:bM}{p:aO}(m:sv p y.how y.sets)(i:Nat):(front y i).length<=161:=by
 obtain⟨h1,h2⟩:=m.small;unfold front;have h3:=vz (c:=25) (y.sets.take i) λs hs=>h2 s (M5 hs);have h4:(y.sets.take i).length<=6:=by rw[LM];omega
 have h5:(y.sets.take i).length*26<=6*26:=Nat.mul_le_mul_right _ h4;rw[LK];show 5+_<=161;omega
theorem wg {y:bM}{i:Nat}{s:Ob}(h:y.sets[i]?=some s):((front y i).map V.int++[V.int (s.length:Nat)])++nV s=(front y (i+1)).map V.int:=by
 unfold front nV;rw[take_snoc h,List.flatMap_append,LH,LH,LH];simp
theorem Ei {t:TA}{i:Nat}{u:TS}{D:Ends}{σ:L2.St}{H:Hp}(q:t σ H λxs H1=>xs.length<=sizeLine/\∀p,H1 p=none->u D (σ.set i (some (.ref p))) (upd H1 p (.lst xs))):EY (zK (HR t) (gg i)) u D σ H:=q
theorem qx {te:TE}{t:TA}{σ:L2.St}{H:Hp}{v:V}{Q:List V->Hp->Prop}(h:Ev te σ H v)(q:t σ H λxs H2=>Q (v::xs) H2):cM te t σ H Q:=h _ q
section
variable {P:Program}{w:World}{K:Oc}{mg:Oe}{base:Heap}
def Jf (K:Oc) (g:bM->aO->List Int):Sp:=λvs H Q _=>∃(c d:Addr) (t b:Bytes),vs=[.ref c,.ref d]/\aS K H c (nV (ib t))/\aS K H d (nV (ib b))/\∀zs,Rs t b g zs->∀H' L,H' L=some (.lst (zs.map V.int))->Q (.ref L) H'
theorem jQ:aI ["card","bet","refusal","found","answer","numbers"] ["card","bet"] (ax gQ):=fs
theorem As {CB CP CR:Addr}(G:GW mg)(TB:CK K mg "Bet" sk CB){k:Nat}(FL:Fn P w K mg base bJ k "look_at" ["card","bet"] (xo K CB CP CR)){f:Addr}{fd:FuncData}(F:dI K "means" "means" gQ f fd):bf P w K mg base bJ (k+1) f fd ["card","bet"] (Jf K qr):=by
 refine F.ok jQ (λvs H Q E h=>?_) (λcdv A outer s H vs Q E hr h=>?_)
 · obtain⟨_,_,_,_,rfl,_⟩:=h;rfl
 · obtain⟨c,d,t,b,rfl,hC,hB,q⟩:=h;refine⟨_,af (B2 (aZ FL hr bh (aa (pv 0) (aa (pv 1) ah))) (ly rfl (b7 (aK (i:=2) jQ.nd rfl (Or.inl rfl)) (b7 (aK (i:=3) jQ.nd rfl (Or.inl rfl)) i7))))
    (af (aT (aB tV (pv 3) cy (aM _)) (ak (aA (cK fq (pv 2) ft (cY aw)))) aC)
    (af (aN (i:=4) jQ.nd rfl (Or.inl rfl) (bU (aa aw (aa (aX (pv 3) rfl) (aa (aX (pv 3) rfl) (aa (aX (pv 3) rfl) (aa (aG az (by rfl) G.len PySem.boot_len (aa (aX (pv 3) rfl) ah)) ah)))))))
    (af (cR Mt rfl (bG (aX (pv 3) rfl)) (aK (i:=5) jQ.nd rfl (Or.inl rfl))
     (af (cZ (lJ PySem.F.plainAttrs_list PySem.F.slot_list_append PySem.F.type_list_append gd (pv 4) (aa (aG az (by rfl) G.len PySem.boot_len (aa (pv 5) ah)) ah)))
     (ak (cZ (lJ PySem.F.plainAttrs_list PySem.F.slot_list_extend PySem.F.type_list_extend zH (pv 4) (aa (pv 5) ah))))))
    (ak (aA (pv 4)))))),?_⟩
   refine⟨_,rfl,_,rfl,c,d,t,b,rfl,hC,hB,λzs hz H' T L hT hL=>?_,λy hy H' T L x p hT hB' hp=>?_⟩
   · refine⟨T,_,rfl,bZ.of hT,rfl,_,_,rfl,_,_,rfl,rfl,?_⟩;refine a6 (aL (tM (ag rfl))) (λh=>?_) (λh=>absurd h (by decide));refine⟨_,rfl,_,rfl,L,_,rfl,aS.of hL,λp hp=>?_⟩;rw[show ((1:Int))=((1:Nat):Int) from rfl,Dr];exact q _ (.inl ⟨zs,hz,rfl⟩) _ p ae
   · refine⟨T,_,rfl,bZ.of hT,rfl,_,_,rfl,_,_,rfl,rfl,?_⟩;refine a6 (aL (tM (ag rfl))) (λh=>absurd (LI h) (by intro z;cases z)) (λh=>?_);obtain⟨ps,hps,hpp⟩:=hp;obtain⟨dx,pa,sa,ra,h1,h2,⟨as,h3,h3P⟩,_,h4,m⟩:=hB';have lenA:as.length=y.sets.length:=Paired.length h3P;obtain⟨vw,short⟩:=m.small;refine Ei (qx aE (qx (bc (ag rfl) h1 TB.cl (TB.no _ (by simp)) BZ) (qx (bc (ag rfl) h1 TB.cl (TB.no _ (by simp)) Cs) (qx (bc (ag rfl) h1 TB.cl (TB.no _ (by simp)) pP)
      (qx (aY (K:=K) (bc (ag rfl) h1 TB.cl (TB.no _ (by simp)) rq) (.inl (aS.of h3))) ⟨by show 5<=sizeLine;decide,λL' hL'=>?_⟩)))))
     rw[Ln,lenA];have S1:au H' (upd H' L' (.lst ((front y 0).map V.int))):=(au.refl H').laid hL';have e1:(upd H' L' (.lst ((front y 0).map V.int))) L'=some (.lst ((front y 0).map V.int)):=ae;have e0:upd H' L' (.lst [V.int 0,V.int ((y.pool:Nat):Int),V.int ((y.how:Nat):Int),V.int ((y.stake:Nat):Int),V.int ((y.sets.length:Nat):Int)])=upd H' L' (.lst ((front y 0).map V.int)):=rfl;refine⟨_,rfl,x,CB,dx,_,_,rfl,S1 _ _ h1,TB.cl,TB.no _ (by simp),rq,sa,rfl,⟨_,aS.of (S1 _ _ h3)⟩,cN (K:=K) (a:=sa) (xs:=as.map V.ref) (λi σ H2=>∃v5:Option V,σ=[some (.ref c),some (.ref d),some (.ref L),some (.ref x),some (.ref L'),v5]/\au H' H2/\H2 L'=some (.lst ((front y i).map V.int)))
      ⟨none,rfl,S1,e1⟩ (λi σ H2 _ ⟨_,_,S,_⟩=>aS.of (S _ _ h3)) ?_ ?_⟩
     · rintro i z σ H2 hi ⟨v5,rfl,S2,e2⟩;rw[Ls] at hi;obtain⟨ai,hai,rfl⟩:=LZ.mp hi;obtain⟨si,hsi,hI⟩:=Paired.qG h3P hai;have hl:=zO m i;have hI2:=S2 _ _ hI;have nL:ai≠L':=ao hI hL';have s25:=short si (LR hsi);refine⟨_,rfl,.inl ⟨rfl,_,aS.of e2⟩,(aY (K:=K) (ag rfl) (.inl (aS.of hI2))) _ ⟨L',_,_,rfl,rfl,e2,by rw[Ln,LQ];omega,?_⟩⟩;refine⟨_,rfl,.inl ⟨rfl,_,aS.of ae⟩,_,rfl,L',ai,_,_,rfl,rfl,ae,by rw[aq nL];exact hI2,?_,?_⟩
       · rw[LK,Ln,aP,LQ];simp;omega
       · rw[cu,aP,wg hsi];refine⟨_,rfl,λb' u z=>?_,ae⟩;rw[aq (ao z hL')];exact S2 b' u z
     · rintro σ H2 ⟨v5,rfl,S2,e2⟩;rw[Ln,lenA] at e2;refine⟨_,rfl,q _ (.inr ⟨y,ps,p,hy,hps,hpp,m,rfl⟩) _ L' ?_⟩;rw[e2];unfold front qr;rw[Ml]
end
end Bw
end
set_option Elab.async false
set_option linter.all false
set_option maxRecDepth 100000
open PySem PySem.W PyProof.Rows
set_option maxHeartbeats 0 in
theorem PySem.Challenge.cw_betwords_s02_means_holds : PySem.Challenge.rw_betwords_s02_means.Holds := by
 refine holds_os (r:=PySem.Challenge.rw_betwords_s02_means) (q:=Bw.qV) (loose:=Bw.lV) (Xt:=Bw.xV) (XP:=XL Bw.qV []) (Yf:=(PySem.W.kHook Bw.nX Bw.Aw Bw.By).obs) (Ya:=(PySem.W.kHook Bw.nX Bw.Aw Bw.By).val) (YP:=(PySem.W.kHook Bw.nX Bw.Aw Bw.By).says) (d:=Bw.dV) (kwd:=[]) (N:=5200) Bw.hl (PySem.W.kHook Bw.nX Bw.Aw Bw.By).of (PySem.W.kHook Bw.nX Bw.Aw Bw.By).keeps (λs e=>xl_of s (NX.mp e).1) XL.keeps (by kernel_rfl) (by kernel_rfl) (by kernel_rfl) (λs e=>recFacts_of (NX.mp e).2) os_shapes (by decide +kernel) (by decide +kernel) ⟨rfl,rfl,rfl,rfl,rfl,by decide +kernel⟩ ⟨[.list [],.list []],by decide +kernel,by decide +kernel⟩ ?_
 k_fillS
 refine L2.xu (r:=PySem.Challenge.rw_betwords_s02_means) (k:=11) (CX:=L2.bJ) (ps:=["card","bet"]) (sp:=(λK=>Bw.Jf K Bw.qr)) (by decide +kernel) rfl rfl ⟨rfl,by decide,by decide⟩ (λw h Y=>kIn_of Y) ?F ?S (λ_ _ _ _ z=>z)
 case F =>
  intro w mg fa h Y KX G hmg;have gw:Bw.GW mg:=⟨Bw.gv KX G,Bw.gv KX G,Bw.gv KX G,Bw.gv KX G,Bw.dB KX G,Bw.dB KX G,Bw.dB KX G⟩;have T:Bw.Kh PySem.Challenge.rw_betwords_s02_means.prog w mg KX:=⟨46,58,75,324,282,255,254,252,238,209,⟨⟨⟨gw,Bw.a9 KX G,Bw.a9 KX G,Bw.a9 KX G,Bw.a9 KX G⟩,⟨Bw.gv KX G,Bw.gv KX G,Bw.gv KX G,Bw.gv KX G,Bw.gv KX G,Bw.gv KX G,Bw.gv KX G,Bw.AZ,Bw.AO,Bw.dB KX G⟩,Bw.yt KX G,Bw.yD,Bw.a9 KX G,Bw.a9 KX G,Bw.a9 KX G,Bw.a9 KX G,Bw.a9 KX G,Bw.a9 KX G,Bw.a9 KX G,Bw.a9 KX G⟩,
    ⟨gw,⟨Bw.gv KX G,Bw.gv KX G,Bw.gv KX G,Bw.gv KX G,Bw.gv KX G,Bw.gv KX G,Bw.gv KX G,Bw.gv KX G,Bw.gv KX G,Bw.gv KX G,Bw.gv KX G,Bw.gv KX G,Bw.gv KX G,Bw.gv KX G,Bw.gv KX G,Bw.fg,Bw.Ds,Bw.dB KX G,Bw.dB KX G⟩,⟨Bw.dB KX G,Bw.dB KX G,Bw.dB KX G,Bw.dB KX G,Bw.dB KX G,Bw.gv KX G,Bw.dB KX G,Bw.dB KX G⟩,Bw.yt KX G,Bw.a9 KX G,Bw.a9 KX G,Bw.a9 KX G,Bw.a9 KX G,Bw.a9 KX G,Bw.a9 KX G,Bw.a9 KX G,Bw.a9 KX G,Bw.yD,Bw.uJ,Bw.a9 KX G,Bw.a9 KX G,Bw.a9 KX G,Bw.a9 KX G,Bw.a9 KX G⟩,
    ⟨Bw.gv KX G,Bw.gv KX G,Bw.gv KX G,Bw.gv KX G,Bw.gv KX G⟩,Bw.yt KX G,Bw.yt KX G,Bw.G6,mg_of KX G (by k_is),Bw.Iy,Bw.yD,Bw.uJ,Bw.yD,Bw.uJ,Bw.uJ,Bw.uJ,Bw.a9 KX G,Bw.a9 KX G,Bw.a9 KX G,Bw.a9 KX G,Bw.a9 KX G,Bw.a9 KX G,Bw.a9 KX G,Bw.a9 KX G,Bw.a9 KX G,Bw.a9 KX G,Bw.a9 KX G,Bw.a9 KX G,Bw.a9 KX G⟩⟩
  have J:Bw.Kx mg KX "means" Bw.gQ:=Bw.a9 KX G;obtain⟨dS,aF,CP,CW,CB,CF,nF,fI,aW,CR,T⟩:=T;exact Bw.Hx J hmg (λ_ _ _ _ _ _ us h=>match us,h with|[_,_],_=>rfl) (λbase f fd F=>Bw.As gw T.TB T.Ja F)
 case S =>
  intro K H xs a hO hwi hask hx;obtain⟨c,d,rfl,hc,hd⟩:=Bw.J7 (a:=a.1) (b:=a.2.1) hx hwi;refine⟨c,d,_,_,rfl,hc,hd,λzs hz H' L hL=>?_⟩;rw[Bw.zh hz] at hL;exact .lst (L2.aS.of hL) (L2.y_ _)
