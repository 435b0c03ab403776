import PyProof.Rows.All
import Wide.All
import OpenK.AllK
import Wide.FinOn
import PyProof.EqAt
import PyProof.EqKinds
import PyProof.TupleCall
import KE.BitLaws
import Open.SpecLaws
import KE.OsHead
import KE.OsGo
import TtAns
import TtBetSpec
import PyProof.StationsW
import PyProof.ExcInit
import PyProof.InstStore
import PyProof.InstStoreFacts
import PyProof.Rows.CatchOwn
import OpenK.KMake
import PyProof.ExcBaseAll.Exception
import PyProof.ExcAttrAll.Exception
import PyProof.ZipIter
import PyProof.WalksMore
import PyProof.Rows.SetFrom
import PyProof.FactsAll.subtypes_4
import PyWqaqcl
import PySem.Challenge.RW_betwords_s03_many
section
set_option Elab.async false
section
set_option autoImplicit false
open PySem PySem.Spec PyProof.Rows
abbrev Ld:=@wpAny_bind
abbrev Le:=@List.length_map
abbrev Lf:=@if_neg
abbrev Lg:=@if_pos
abbrev Lh:=@Heap.get?_push_of_some
abbrev Li:=@List.mem_cons
abbrev Lj:=@List.getElem?_map
abbrev Lk:=@wpAny_pure
abbrev Ll:=@Bool.and_eq_true
abbrev Lm:=@decide_eq_true_eq
abbrev Ln:=@Nat.le_refl
abbrev Lo:=@List.getElem?_eq_getElem
abbrev Lp:=@List.length_cons
abbrev Lq:=@Heap.lt_size
abbrev Lr:=@List.getElem?_eq_some_iff
abbrev Ls:=@List.mem_singleton
abbrev Lu:=@Heap.get?_push_size
abbrev Lv:=@List.map_cons
abbrev Lw:=@List.mem_cons_of_mem
abbrev Lx:=@List.map_append
abbrev Ly:=@of_decide_eq_true
abbrev Lz:=@List.size_toArray
abbrev LA:=@List.length_append
abbrev LB:=@List.length_take
abbrev LC:=@Bool.false_ne_true
abbrev LD:=@Heap.SameBut.update
abbrev LF:=@List.map_map
abbrev LG:=@sizeLine_eq
abbrev LH:=@List.mem_of_getElem?
abbrev LI:=@List.all_eq_true
abbrev LJ:=@Nat.zero_le
abbrev LK:=@beq_eq_false_iff_ne
abbrev LM:=@List.mem_map
abbrev LN:=@List.length_replicate
abbrev LO:=@Option.map_eq_some_iff
abbrev LP:=@Nat.ne_of_lt
abbrev LQ:=@Option.some.inj
abbrev LR:=@Bool.eq_iff_iff
abbrev LU:=@decide_eq_true
abbrev LV:=@Nat.lt_of_lt_of_le
abbrev LW:=@decide_eq_false_iff_not
abbrev LX:=@List.getD_eq_getElem?_getD
abbrev LY:=@of_decide_eq_false
abbrev LZ:=@Int.toNat_natCast
abbrev L0:=@List.mem_cons_self
abbrev L1:=@Nat.le_trans
abbrev L3:=@decide_eq_false
abbrev L4:=@List.mem_append
abbrev L5:=@beq_iff_eq
abbrev L6:=@Bool.not_eq_true'
abbrev L7:=@List.length_drop
abbrev L8:=@List.map_congr_left
abbrev L9:=@Bool.not_eq_false'
abbrev L_:=@List.nil_append
abbrev Ma:=@List.take_of_length_le
abbrev Mb:=@List.take_length
abbrev Mc:=@List.mem_append_right
abbrev Md:=@Heap.get?_update_self
abbrev Me:=@Bool.or_eq_true
abbrev Mf:=@List.eq_of_mem_replicate
abbrev Mg:=@List.append_nil
abbrev Mh:=@List.getElem?_eq_none
abbrev Mi:=@List.length_pos_iff
abbrev Mj:=@PassesOwn.never
abbrev Ml:=@congrArg
abbrev Mm:=@List.contains_eq_mem
abbrev Mn:=@Heap.size_push
abbrev Mo:=@List.mem_filter
abbrev Mp:=@Bool.or_eq_false_iff
abbrev Mq:=@List.nodup_cons
abbrev Mr:=@List.filter_cons
abbrev Ms:=@List.length_singleton
abbrev Mt:=@wpAny_truthy_bool
abbrev Mu:=@wpAny_callSpecial?_slot
abbrev Mv:=@PyProof.Rows.slot_tuple_getitem
abbrev Mw:=@wpAny_mono
abbrev Mx:=@List.pairwise_cons
abbrev My:=@wpAny_passesOwn
abbrev Mz:=@Nat.lt_irrefl
abbrev MA:=@wpAny_call_entry
abbrev MB:=@List.drop_eq_getElem_cons
abbrev MC:=@Bool.and_eq_false_iff
abbrev MD:=@List.map_nil
abbrev ME:=@Bool.false_eq_true
abbrev MF:=@PyProof.Rows.callWith_type1
abbrev MG:=@wpAny_newObj_type
abbrev MH:=@List.append_assoc
abbrev MI:=@eq_of_beq
abbrev MJ:=@List.foldl_cons
abbrev MK:=@decide_eq_true_iff
abbrev ML:=@List.sum_cons
abbrev MM:=@List.any_cons
abbrev MN:=@List.mem_of_mem_drop
abbrev MO:=@List.length_nil
abbrev MP:=@F.slot_dict_keyiterator_next
abbrev MQ:=@List.isEmpty_iff
abbrev MR:=@List.any_eq_true
abbrev MS:=@List.find?_cons
abbrev MT:=@List.pairwise_iff_forall_sublist
abbrev MU:=@List.nodup_append
abbrev MV:=@List.mem_of_mem_take
abbrev MW:=@List.length_erase_of_mem
abbrev MX:=@if_true
abbrev MY:=@List.getElem?_range
abbrev MZ:=@Array.length_toList
abbrev M0:=@decide_eq_decide
abbrev M1:=@List.not_mem_nil
abbrev M3:=@List.mem_range
abbrev M4:=@List.lookup_cons
abbrev M5:=@List.length_eq_zero_iff
abbrev M6:=@List.getElem_mem
abbrev M7:=@List.drop_length
abbrev M8:=@wpAny_typeNameOfWhole_keyiter
abbrev M9:=@List.filter_append
abbrev M_:=@List.drop_eq_nil_of_le
abbrev Na:=@Heap.get?_update_other
abbrev Nb:=@wpAny_execs_nil
abbrev Nc:=@if_false
abbrev Nd:=@Nat.min_eq_left
abbrev Nf:=@wpAny_holding
abbrev Ng:=@Nat.pow_le_pow_right
abbrev Nh:=@F.slot_tuple_iterator_next
abbrev Ni:=@Nat.pow_succ
abbrev Nj:=@List.mem_flatMap
abbrev Nk:=@List.cons_append
abbrev Nl:=@List.all_map
abbrev Nm:=@List.takeWhile_cons
abbrev Nn:=@wpAny_typeNameOf_keyiter
abbrev Np:=@Option.isSome_iff_exists
abbrev Nq:=@List.all_cons
abbrev Nr:=@Bool.or_false
abbrev Nu:=@wpAny_Call_Name_kw
abbrev Nv:=@List.findIdx?_eq_some_iff_getElem
abbrev Nw:=@Nat.mul_comm
abbrev Ny:=@List.length_range
abbrev Nz:=@List.length_pos_of_mem
abbrev NA:=@List.getElem?_set_self
abbrev NB:=@List.flatMap_cons
abbrev NC:=@List.ext_getElem?
abbrev ND:=@List.any_map
abbrev NF:=@F.called_set
abbrev NG:=@Calls.callWith_builtin
abbrev NH:=@List.length_filter_le
abbrev NI:=@typeIs_str
abbrev NJ:=@Nat.lt_succ_self
abbrev NK:=@Nat.le_add_right
abbrev NL:=@List.map_drop
abbrev NM:=@List.mem_erase_of_ne
abbrev NN:=@List.forall_mem_cons
abbrev NO:=@Bool.and_eq_true_iff
abbrev NP:=@List.replicate_succ
abbrev NQ:=@List.map_eq_nil_iff
abbrev NR:=@List.filterMap_cons
abbrev NS:=@List.dropWhile_cons
abbrev NT:=@codeAny_mono
abbrev NU:=@Ne.symm
abbrev NV:=@Nat.le_of_eq
abbrev NW:=@tupleKind_room_in1
abbrev NX:=@List.perm_ext_iff_of_nodup
abbrev NY:=@List.isPrefixOf_iff_prefix
abbrev NZ:=@List.getElem?_append_right
abbrev N0:=@Calls.spliced_cons
abbrev N2:=List (List Nat)
abbrev N3:=List Nat
abbrev N4:=PySem.W.Frag
abbrev N5:=Value->Shared->Prop
abbrev N6:=Str->Option Value
abbrev N7:=List (Addr×Obj)
abbrev N8:=List Value
end
section
set_option autoImplicit false
set_option linter.all false
set_option maxRecDepth 100000
set_option maxHeartbeats 0
namespace L2
open PySem PySem.Spec PyProof.Rows
def inClass (s:Stmt)(j:Nat):Stmt:=match s with
 |.ClassDef _ _ _ body _ _ _ _ _ _ _=>body.getD j (.Pass ⟨0,0,0,0⟩)
 |_=>.Pass ⟨0,0,0,0⟩
def cR (s:Stmt):Arguments:=match s with
 |.FunctionDef _ a _ _ _ _ _ _ _ _=>a
 |_=>{posonlyargs:=[],args:=[],vararg:=none,kwonlyargs:=[],kw_defaults:=[],kwarg:=none,defaults:=[]}
def cx (s:Stmt):List Stmt:=match s with
 |.FunctionDef _ _ b _ _ _ _ _ _ _=>b
 |_=>[]
def ax (s:Stmt):Scope:=match s with
 |.FunctionDef _ _ _ _ _ _ sc _ _ _=>sc
 |_=>{kind:=.function,names:=[],isGenerator:=false,isCoroutine:=false}
end L2
end
section
set_option autoImplicit false
set_option linter.all false
set_option maxRecDepth 100000
set_option maxHeartbeats 0
namespace Bw
open PySem L2
def top (i:Nat):Stmt:=PySem.Challenge.pw_betwords_s03_many.main.body.getD i (.Pass ⟨0,0,0,0⟩)
abbrev DU:Stmt:=top 0
abbrev kq:Stmt:=top 6
abbrev j8:Stmt:=top 7
abbrev j6:Stmt:=top 8
abbrev gQ:Stmt:=top 9
abbrev gJ:Stmt:=inClass (top 18) 0
abbrev gU:Stmt:=top 19
abbrev lF:Stmt:=top 20
abbrev fC:Stmt:=top 21
abbrev fU:Stmt:=top 22
abbrev gX:Stmt:=top 23
abbrev dR:Stmt:=top 24
abbrev dz:Stmt:=top 25
abbrev gT:Stmt:=top 26
abbrev fZ:Stmt:=top 28
abbrev j_:Stmt:=top 29
abbrev fT:Stmt:=top 30
abbrev eT:Stmt:=top 31
abbrev oa:Stmt:=top 32
abbrev cW:Stmt:=top 33
abbrev iG:Stmt:=top 34
abbrev eJ:Stmt:=top 35
abbrev gI:Stmt:=inClass (top 37) 0
abbrev dQ:Stmt:=inClass (top 37) 1
abbrev qI:Stmt:=inClass (top 37) 2
abbrev qH:Stmt:=inClass (top 37) 3
abbrev j9:Stmt:=top 38
abbrev iH:Stmt:=top 39
abbrev iZ:Stmt:=top 40
abbrev gp:Stmt:=top 41
abbrev fO:Stmt:=inClass (top 58) 0
abbrev iY:Stmt:=inClass (top 59) 0
abbrev jb:Stmt:=inClass (top 59) 1
abbrev fN:Stmt:=inClass (top 60) 0
abbrev fY:Stmt:=inClass (top 60) 1
abbrev cp:Stmt:=inClass (top 60) 2
abbrev ej:Stmt:=inClass (top 60) 3
abbrev i5:Stmt:=top 61
abbrev fS:Stmt:=top 62
abbrev fX:Stmt:=top 63
abbrev gS:Stmt:=top 64
abbrev fW:Stmt:=top 65
abbrev iT:Stmt:=top 66
abbrev gW:Stmt:=top 67
abbrev kj:Stmt:=top 68
abbrev iN:Stmt:=top 69
abbrev iO:Stmt:=top 70
abbrev iQ:Stmt:=top 71
abbrev jU:Stmt:=top 72
abbrev jM:Stmt:=top 79
abbrev kg:Stmt:=top 80
abbrev fj:Stmt:=top 81
end Bw
end
section
set_option autoImplicit false
set_option linter.all false
set_option maxRecDepth 100000
set_option maxHeartbeats 0
namespace Bw
open PySem L2
abbrev kS (s:String)(t:Nat):Value:=.str (Str.ofString s) t
abbrev kE (P:Params)(s:String)(t:Nat)(v:Value):DictEntry:=⟨PyData.keyHash P (Str.ofString s),.str (Str.ofString s) t,v⟩
abbrev kF (x q:String)(st:Stmt)(m:Value)(c:Nat):Obj:=⟨.type "function",none,.func (PySem.W.fnOf (Str.ofString x) (Str.ofString q) (cR st) (cx st) (ax st) .none .none .none m none (.ref c) .none),#[]⟩
abbrev kC (x q:String)(t l a g c:Nat)(b:Bool)(z d:Nat)(u v w y:Value)(k:Nat):Obj:=⟨.type "code",none,.fields #[kS x t,kS q (t+1),kS "/claim/cut.py" (t+2),.int l 0,.int a 0,.int 0 0,.int 0 0,.int g 0,.ref c,.bool b,.int z 0,.ref d,u,v,w,y,.int k 0,.int l 0,kS "/claim/cut.py" (k+1)],#[]⟩
abbrev kT (l:List Value)(n:Nat):Obj:=⟨.type "tuple",none,.seq l.toArray n,#[]⟩
abbrev kD (l:List DictEntry)(n:Nat):Obj:=⟨.type "dict",none,.dict l.toArray n,#[]⟩
noncomputable def nX (P:Params):PySem.W.Frag:=(nat_lit 3,kD [kE P "__name__" 165 (kS "betwords.desk" 814),kE P "__doc__" 166 .none,kE P "__package__" 167 .none,kE P "__loader__" 168 (.builtin "__main__.__loader__#opaque"),kE P "__spec__" 169 .none,kE P "__annotations__" 170 (.ref 6),kE P "__builtins__" 171 (.ref 4),kE P "__file__" 173 (kS "/claim/cut.py" 172),kE P "__cached__" 174 .none,kE P "_wall" 193 (.ref 21),kE P "LETTERS" 197 (kS "abcdefghijklmnopqrstuvwxyz" 196),kE P "DIGITS" 199 (kS "0123456789" 198),kE P "MOST_NAME" 201 (.int 12 200),kE P "MOST_DIGITS" 203 (.int 7 202),kE P "sign_of" 210 (.ref 28),kE P "text_of" 216 (.ref 33),kE P "is_name" 222 (.ref 38),kE P "number_of" 229 (.ref 45),kE P "MOST_RACES" 233 (.int 16 232),kE P "MOST_POOLS" 235 (.int 64 234),kE P "MOST_COUPLES" 237 (.int 8 236),kE P "MOST_RUNNERS" 239 (.int 24 238),kE P "SIZES" 256 (.ref 46),kE P "FIXED" 271 (.ref 58),kE P "POOL_WORDS" 273 (.int 16 272),kE P "Pool" 308 (.ref 75),kE P "read_card" 314 (.ref 84),kE P "is_day" 321 (.ref 91),kE P "read_race" 327 (.ref 96),kE P "read_pools" 339 (.ref 103),kE P "read_pool" 352 (.ref 110),kE P "has_pool_form" 358 (.ref 115),kE P "are_terms_good" 367 (.ref 122),kE P "fields_of" 373 (.ref 127),kE P "product_of" 384 (.ref 134),kE P "without" 390 (.ref 139),kE P "count_legs" 396 (.ref 144),kE P "count_orders" 402 (.ref 149),kE P "is_of" 408 (.ref 154),kE P "count_different" 414 (.ref 159),kE P "picks_of" 426 (.ref 166),kE P "count_starts" 437 (.ref 173),kE P "Rows" 492 (.ref 209),kE P "rows_on" 500 (.ref 220),kE P "rows_box" 506 (.ref 225),kE P "rows_key" 517 (.ref 232),kE P "seatings" 523 (.ref 237),kE P "NOT_ENDED" 527 (.int 1 526),kE P "BAD_BYTE" 529 (.int 2 528),kE P "BAD_WORD" 531 (.int 3 530),kE P "BAD_NUMBER" 533 (.int 4 532),kE P "NO_POOL" 535 (.int 5 534),kE P "NO_COMBINATION" 537 (.int 6 536),kE P "TOO_DEAR" 539 (.int 7 538),kE P "MORE_BYTES" 541 (.int 8 540),kE P "LINE_END" 543 (.int 10 542),kE P "BLANK" 545 (.int 32 544),kE P "MOST_STAKE" 547 (.int 1000000 546),kE P "MOST_COST" 549 (.int 2147483647 548),kE P "ON" 551 (.int 0 550),kE P "BOX" 553 (.int 1 552),kE P "WAYS" 557 (.ref 238),kE P "Fault" 588 (.ref 255),kE P "Bet" 635 (.ref 282),kE P "Words" 692 (.ref 324),kE P "read_bet" 703 (.ref 335),kE P "check_line" 712 (.ref 342),kE P "read_words" 728 (.ref 349),kE P "take_pool" 739 (.ref 356),kE P "take_stake" 748 (.ref 363),kE P "take_how" 756 (.ref 370),kE P "take_sets" 766 (.ref 377),kE P "take_on" 776 (.ref 384),kE P "take_box" 786 (.ref 391),kE P "take_key" 792 (.ref 396),kE P "take_set" 803 (.ref 403),kE P "rows_of" 813 (.ref 410),kE P "TOO_LONG" 818 (.int (-2) 817),kE P "FAULTY_BET" 821 (.int (-6) 820),kE P "NO_CARD" 824 (.int (-8) 823),kE P "MOST_CARD" 826 (.int 65536 825),kE P "MOST_BET" 828 (.int 4096 827),kE P "many" 838 (.ref 417),kE P "look_at" 848 (.ref 424),kE P "look_at_all" 854 (.ref 429)] 85) ::
 (nat_lit 6,kD [] 0) ::
 (nat_lit 20,kC "_wall" "_wall" 187 1 1 3 15 true 181 16 .none (.ref 17) (.ref 18) (.ref 19) 191) ::
 (nat_lit 21,kF "_wall" "_wall" DU (kS "__main__" 164) 20) ::
 (nat_lit 27,kC "sign_of" "sign_of" 204 9 1 3 22 true 181 23 .none (.ref 24) (.ref 25) (.ref 26) 208) ::
 (nat_lit 28,kF "sign_of" "sign_of" kq (kS "betwords.words" 194) 27) ::
 (nat_lit 32,kC "text_of" "text_of" 211 23 1 3 29 true 181 30 .none .none .none (.ref 31) 214) ::
 (nat_lit 33,kF "text_of" "text_of" j8 (kS "betwords.words" 194) 32) ::
 (nat_lit 37,kC "is_name" "is_name" 217 25 1 3 34 true 181 35 .none .none .none (.ref 36) 220) ::
 (nat_lit 38,kF "is_name" "is_name" j6 (kS "betwords.words" 194) 37) ::
 (nat_lit 44,kC "number_of" "number_of" 223 29 1 3 39 true 181 40 .none (.ref 41) (.ref 42) (.ref 43) 227) ::
 (nat_lit 45,kF "number_of" "number_of" gQ (kS "betwords.words" 194) 44) ::
 (nat_lit 46,kD [kE P "place" 240 (.ref 47),kE P "order" 243 (.ref 48),kE P "any" 246 (.ref 49),kE P "legs" 249 (.ref 50)] 4) ::
 (nat_lit 47,kT [.int 1 241,.int 4 242] 0) ::
 (nat_lit 48,kT [.int 2 244,.int 4 245] 0) ::
 (nat_lit 49,kT [.int 2 247,.int 3 248] 0) ::
 (nat_lit 50,kT [.int 2 250,.int 6 251] 0) ::
 (nat_lit 51,kT [.int 0 257,kS "pool" 258] 0) ::
 (nat_lit 52,kT [.int 4 259,kS "from" 260] 0) ::
 (nat_lit 53,kT [.int 6 261,kS "take" 262] 0) ::
 (nat_lit 54,kT [.int 8 263,kS "break" 264] 0) ::
 (nat_lit 55,kT [.int 10 265,kS "least" 266] 0) ::
 (nat_lit 56,kT [.int 12 267,kS "unit" 268] 0) ::
 (nat_lit 57,kT [.int 14 269,kS "none" 270] 0) ::
 (nat_lit 58,kT [.ref 51,.ref 52,.ref 53,.ref 54,.ref 55,.ref 56,.ref 57] 0) ::
 (nat_lit 71,kC "__init__" "Pool.__init__" 286 45 5 3 66 true 181 67 .none (.ref 68) (.ref 69) (.ref 70) 294) ::
 (nat_lit 72,kF "__init__" "Pool.__init__" gJ (kS "betwords.cards" 230) 71) ::
 (nat_lit 73,kT [kS "fields" 297,kS "kind" 298,kS "name" 299,kS "unit" 300] 0) ::
 (nat_lit 74,kD [kE P "__module__" 281 (kS "betwords.cards" 230),kE P "__firstlineno__" 285 (.int 43 284),kE P "__init__" 296 (.ref 72),kE P "__static_attributes__" 301 (.ref 73),kE P "__dict__" 303 (.ref 76),kE P "__weakref__" 305 (.ref 77),kE P "__doc__" 306 .none] 4) ::
 (nat_lit 75,⟨.type "type",none,.cls ⟨"Pool",[.type "object"],[.ref 75,.type "object"],74,"Pool",true,[],[],false,none,false⟩,#[none,none,some (kS "Pool" 274),some (kS "Pool" 282),some (.builtin "object.__new__"),some (.bool true)]⟩) ::
 (nat_lit 83,kC "read_card" "read_card" 309 50 1 3 80 true 181 81 .none .none .none (.ref 82) 312) ::
 (nat_lit 84,kF "read_card" "read_card" gU (kS "betwords.cards" 230) 83) ::
 (nat_lit 90,kC "is_day" "is_day" 315 64 1 3 85 true 181 86 .none (.ref 87) (.ref 88) (.ref 89) 319) ::
 (nat_lit 91,kF "is_day" "is_day" lF (kS "betwords.cards" 230) 90) ::
 (nat_lit 95,kC "read_race" "read_race" 322 66 1 3 92 true 181 93 .none .none .none (.ref 94) 325) ::
 (nat_lit 96,kF "read_race" "read_race" fC (kS "betwords.cards" 230) 95) ::
 (nat_lit 102,kC "read_pools" "read_pools" 328 85 2 3 97 true 181 98 .none (.ref 99) (.ref 100) (.ref 101) 337) ::
 (nat_lit 103,kF "read_pools" "read_pools" fU (kS "betwords.cards" 230) 102) ::
 (nat_lit 109,kC "read_pool" "read_pool" 340 97 2 3 104 true 181 105 .none (.ref 106) (.ref 107) (.ref 108) 350) ::
 (nat_lit 110,kF "read_pool" "read_pool" gX (kS "betwords.cards" 230) 109) ::
 (nat_lit 114,kC "has_pool_form" "has_pool_form" 353 110 1 3 111 true 181 112 .none .none .none (.ref 113) 356) ::
 (nat_lit 115,kF "has_pool_form" "has_pool_form" dR (kS "betwords.cards" 230) 114) ::
 (nat_lit 121,kC "are_terms_good" "are_terms_good" 359 116 1 3 116 true 181 117 .none (.ref 118) (.ref 119) (.ref 120) 365) ::
 (nat_lit 122,kF "are_terms_good" "are_terms_good" dz (kS "betwords.cards" 230) 121) ::
 (nat_lit 126,kC "fields_of" "fields_of" 368 126 4 3 123 true 181 124 .none .none .none (.ref 125) 371) ::
 (nat_lit 127,kF "fields_of" "fields_of" gT (kS "betwords.cards" 230) 126) ::
 (nat_lit 133,kC "product_of" "product_of" 376 138 1 3 128 true 181 129 .none (.ref 130) (.ref 131) (.ref 132) 382) ::
 (nat_lit 134,kF "product_of" "product_of" fZ (kS "betwords.counts" 374) 133) ::
 (nat_lit 138,kC "without" "without" 385 143 2 3 135 true 181 136 .none .none .none (.ref 137) 388) ::
 (nat_lit 139,kF "without" "without" j_ (kS "betwords.counts" 374) 138) ::
 (nat_lit 143,kC "count_legs" "count_legs" 391 145 2 3 140 true 181 141 .none .none .none (.ref 142) 394) ::
 (nat_lit 144,kF "count_legs" "count_legs" fT (kS "betwords.counts" 374) 143) ::
 (nat_lit 148,kC "count_orders" "count_orders" 397 149 2 3 145 true 181 146 .none .none .none (.ref 147) 400) ::
 (nat_lit 149,kF "count_orders" "count_orders" eT (kS "betwords.counts" 374) 148) ::
 (nat_lit 153,kC "is_of" "is_of" 403 153 2 3 150 true 181 151 .none .none .none (.ref 152) 406) ::
 (nat_lit 154,kF "is_of" "is_of" oa (kS "betwords.counts" 374) 153) ::
 (nat_lit 158,kC "count_different" "count_different" 409 155 1 3 155 true 181 156 .none .none .none (.ref 157) 412) ::
 (nat_lit 159,kF "count_different" "count_different" cW (kS "betwords.counts" 374) 158) ::
 (nat_lit 165,kC "picks_of" "picks_of" 415 163 1 3 160 true 181 161 .none (.ref 162) (.ref 163) (.ref 164) 424) ::
 (nat_lit 166,kF "picks_of" "picks_of" iG (kS "betwords.counts" 374) 165) ::
 (nat_lit 172,kC "count_starts" "count_starts" 427 173 1 3 167 true 181 168 .none (.ref 169) (.ref 170) (.ref 171) 435) ::
 (nat_lit 173,kF "count_starts" "count_starts" eJ (kS "betwords.counts" 374) 172) ::
 (nat_lit 186,kC "__init__" "Rows.__init__" 452 183 3 3 181 true 181 182 .none (.ref 183) (.ref 184) (.ref 185) 458) ::
 (nat_lit 187,kF "__init__" "Rows.__init__" gI (kS "betwords.rows" 438) 186) ::
 (nat_lit 191,kC "starting" "Rows.starting" 461 188 2 3 188 true 181 189 .none .none .none (.ref 190) 464) ::
 (nat_lit 192,kF "starting" "Rows.starting" dQ (kS "betwords.rows" 438) 191) ::
 (nat_lit 198,kC "row_at" "Rows.row_at" 467 195 2 3 193 true 181 194 .none (.ref 195) (.ref 196) (.ref 197) 472) ::
 (nat_lit 199,kF "row_at" "Rows.row_at" qI (kS "betwords.rows" 438) 198) ::
 (nat_lit 205,kC "listed" "Rows.listed" 475 198 1 3 200 true 181 201 .none (.ref 202) (.ref 203) (.ref 204) 479) ::
 (nat_lit 206,kF "listed" "Rows.listed" qH (kS "betwords.rows" 438) 205) ::
 (nat_lit 207,kT [kS "grids" 482,kS "kind" 483,kS "picks" 484] 0) ::
 (nat_lit 208,kD [kE P "__module__" 447 (kS "betwords.rows" 438),kE P "__firstlineno__" 451 (.int 181 450),kE P "__init__" 460 (.ref 187),kE P "starting" 466 (.ref 192),kE P "row_at" 474 (.ref 199),kE P "listed" 481 (.ref 206),kE P "__static_attributes__" 485 (.ref 207),kE P "__dict__" 487 (.ref 210),kE P "__weakref__" 489 (.ref 211),kE P "__doc__" 490 .none] 4) ::
 (nat_lit 209,⟨.type "type",none,.cls ⟨"Rows",[.type "object"],[.ref 209,.type "object"],208,"Rows",true,[],[],false,none,false⟩,#[none,none,some (kS "Rows" 440),some (kS "Rows" 448),some (.builtin "object.__new__"),some (.bool true)]⟩) ::
 (nat_lit 219,kC "rows_on" "rows_on" 493 200 2 3 214 true 181 215 .none (.ref 216) (.ref 217) (.ref 218) 498) ::
 (nat_lit 220,kF "rows_on" "rows_on" j9 (kS "betwords.rows" 438) 219) ::
 (nat_lit 224,kC "rows_box" "rows_box" 501 202 3 3 221 true 181 222 .none .none .none (.ref 223) 504) ::
 (nat_lit 225,kF "rows_box" "rows_box" iH (kS "betwords.rows" 438) 224) ::
 (nat_lit 231,kC "rows_key" "rows_key" 507 204 4 3 226 true 181 227 .none (.ref 228) (.ref 229) (.ref 230) 515) ::
 (nat_lit 232,kF "rows_key" "rows_key" iZ (kS "betwords.rows" 438) 231) ::
 (nat_lit 236,kC "seatings" "seatings" 518 209 3 3 233 true 181 234 .none .none .none (.ref 235) 521) ::
 (nat_lit 237,kF "seatings" "seatings" gp (kS "betwords.rows" 438) 236) ::
 (nat_lit 238,kT [kS "on" 554,kS "box" 555,kS "key" 556] 0) ::
 (nat_lit 251,kC "__init__" "Fault.__init__" 570 237 3 3 246 true 181 247 .none (.ref 248) (.ref 249) (.ref 250) 576) ::
 (nat_lit 252,kF "__init__" "Fault.__init__" fO (kS "betwords.bets" 524) 251) ::
 (nat_lit 253,kT [kS "kind" 579,kS "place" 580] 0) ::
 (nat_lit 254,kD [kE P "__module__" 565 (kS "betwords.bets" 524),kE P "__firstlineno__" 569 (.int 235 568),kE P "__init__" 578 (.ref 252),kE P "__static_attributes__" 581 (.ref 253),kE P "__weakref__" 583 (.ref 256),kE P "__doc__" 584 .none] 3) ::
 (nat_lit 255,⟨.type "type",none,.cls ⟨"Fault",[.type "Exception"],[.ref 255,.type "Exception",.type "BaseException",.type "object"],254,"Fault",true,[],[],false,none,false⟩,#[some (.ref 239),none,some (kS "Fault" 558),some (kS "Fault" 566),some (.builtin "Exception.__new__"),some (.bool true)]⟩) ::
 (nat_lit 271,kC "__init__" "Bet.__init__" 601 242 7 3 266 true 181 267 .none (.ref 268) (.ref 269) (.ref 270) 611) ::
 (nat_lit 272,kF "__init__" "Bet.__init__" iY (kS "betwords.bets" 524) 271) ::
 (nat_lit 278,kC "cost" "Bet.cost" 614 251 1 3 273 true 181 274 .none (.ref 275) (.ref 276) (.ref 277) 618) ::
 (nat_lit 279,kF "cost" "Bet.cost" jb (kS "betwords.bets" 524) 278) ::
 (nat_lit 280,kT [kS "how" 621,kS "many" 622,kS "pool" 623,kS "pool_number" 624,kS "rows" 625,kS "sets" 626,kS "stake" 627] 0) ::
 (nat_lit 281,kD [kE P "__module__" 596 (kS "betwords.bets" 524),kE P "__firstlineno__" 600 (.int 240 599),kE P "__init__" 613 (.ref 272),kE P "cost" 620 (.ref 279),kE P "__static_attributes__" 628 (.ref 280),kE P "__dict__" 630 (.ref 283),kE P "__weakref__" 632 (.ref 284),kE P "__doc__" 633 .none] 4) ::
 (nat_lit 282,⟨.type "type",none,.cls ⟨"Bet",[.type "object"],[.ref 282,.type "object"],281,"Bet",true,[],[],false,none,false⟩,#[none,none,some (kS "Bet" 589),some (kS "Bet" 597),some (.builtin "object.__new__"),some (.bool true)]⟩) ::
 (nat_lit 299,kC "__init__" "Words.__init__" 648 255 2 3 294 true 181 295 .none (.ref 296) (.ref 297) (.ref 298) 653) ::
 (nat_lit 300,kF "__init__" "Words.__init__" fN (kS "betwords.bets" 524) 299) ::
 (nat_lit 306,kC "take" "Words.take" 656 262 1 3 301 true 181 302 .none (.ref 303) (.ref 304) (.ref 305) 661) ::
 (nat_lit 307,kF "take" "Words.take" fY (kS "betwords.bets" 524) 306) ::
 (nat_lit 313,kC "take_one_of" "Words.take_one_of" 664 271 2 3 308 true 181 309 .none (.ref 310) (.ref 311) (.ref 312) 670) ::
 (nat_lit 314,kF "take_one_of" "Words.take_one_of" cp (kS "betwords.bets" 524) 313) ::
 (nat_lit 320,kC "finish" "Words.finish" 673 277 1 3 315 true 181 316 .none (.ref 317) (.ref 318) (.ref 319) 677) ::
 (nat_lit 321,kF "finish" "Words.finish" ej (kS "betwords.bets" 524) 320) ::
 (nat_lit 322,kT [kS "line_end" 680,kS "met" 681,kS "next_place" 682,kS "place" 683,kS "words" 684] 0) ::
 (nat_lit 323,kD [kE P "__module__" 643 (kS "betwords.bets" 524),kE P "__firstlineno__" 647 (.int 253 646),kE P "__init__" 655 (.ref 300),kE P "take" 663 (.ref 307),kE P "take_one_of" 672 (.ref 314),kE P "finish" 679 (.ref 321),kE P "__static_attributes__" 685 (.ref 322),kE P "__dict__" 687 (.ref 325),kE P "__weakref__" 689 (.ref 326),kE P "__doc__" 690 .none] 4) ::
 (nat_lit 324,⟨.type "type",none,.cls ⟨"Words",[.type "object"],[.ref 324,.type "object"],323,"Words",true,[],[],false,none,false⟩,#[none,none,some (kS "Words" 636),some (kS "Words" 644),some (.builtin "object.__new__"),some (.bool true)]⟩) ::
 (nat_lit 334,kC "read_bet" "read_bet" 693 280 2 3 329 true 181 330 .none (.ref 331) (.ref 332) (.ref 333) 701) ::
 (nat_lit 335,kF "read_bet" "read_bet" i5 (kS "betwords.bets" 524) 334) ::
 (nat_lit 341,kC "check_line" "check_line" 704 290 1 3 336 true 181 337 .none (.ref 338) (.ref 339) (.ref 340) 710) ::
 (nat_lit 342,kF "check_line" "check_line" fS (kS "betwords.bets" 524) 341) ::
 (nat_lit 348,kC "read_words" "read_words" 713 298 2 3 343 true 181 344 .none (.ref 345) (.ref 346) (.ref 347) 726) ::
 (nat_lit 349,kF "read_words" "read_words" fX (kS "betwords.bets" 524) 348) ::
 (nat_lit 355,kC "take_pool" "take_pool" 729 315 2 3 350 true 181 351 .none (.ref 352) (.ref 353) (.ref 354) 737) ::
 (nat_lit 356,kF "take_pool" "take_pool" gS (kS "betwords.bets" 524) 355) ::
 (nat_lit 362,kC "take_stake" "take_stake" 740 321 2 3 357 true 181 358 .none (.ref 359) (.ref 360) (.ref 361) 746) ::
 (nat_lit 363,kF "take_stake" "take_stake" fW (kS "betwords.bets" 524) 362) ::
 (nat_lit 369,kC "take_how" "take_how" 749 326 2 3 364 true 181 365 .none (.ref 366) (.ref 367) (.ref 368) 754) ::
 (nat_lit 370,kF "take_how" "take_how" iT (kS "betwords.bets" 524) 369) ::
 (nat_lit 376,kC "take_sets" "take_sets" 757 331 3 3 371 true 181 372 .none (.ref 373) (.ref 374) (.ref 375) 764) ::
 (nat_lit 377,kF "take_sets" "take_sets" gW (kS "betwords.bets" 524) 376) ::
 (nat_lit 383,kC "take_on" "take_on" 767 338 2 3 378 true 181 379 .none (.ref 380) (.ref 381) (.ref 382) 774) ::
 (nat_lit 384,kF "take_on" "take_on" kj (kS "betwords.bets" 524) 383) ::
 (nat_lit 390,kC "take_box" "take_box" 777 345 3 3 385 true 181 386 .none (.ref 387) (.ref 388) (.ref 389) 784) ::
 (nat_lit 391,kF "take_box" "take_box" iN (kS "betwords.bets" 524) 390) ::
 (nat_lit 395,kC "take_key" "take_key" 787 350 3 3 392 true 181 393 .none .none .none (.ref 394) 790) ::
 (nat_lit 396,kF "take_key" "take_key" iO (kS "betwords.bets" 524) 395) ::
 (nat_lit 402,kC "take_set" "take_set" 793 359 2 3 397 true 181 398 .none (.ref 399) (.ref 400) (.ref 401) 801) ::
 (nat_lit 403,kF "take_set" "take_set" iQ (kS "betwords.bets" 524) 402) ::
 (nat_lit 409,kC "rows_of" "rows_of" 804 367 3 3 404 true 181 405 .none (.ref 406) (.ref 407) (.ref 408) 811) ::
 (nat_lit 410,kF "rows_of" "rows_of" jU (kS "betwords.bets" 524) 409) ::
 (nat_lit 416,kC "many" "many" 829 380 2 3 411 true 181 412 .none (.ref 413) (.ref 414) (.ref 415) 836) ::
 (nat_lit 417,kF "many" "many" jM (kS "betwords.desk" 814) 416) ::
 (nat_lit 423,kC "look_at" "look_at" 839 385 2 3 418 true 181 419 .none (.ref 420) (.ref 421) (.ref 422) 846) ::
 (nat_lit 424,kF "look_at" "look_at" kg (kS "betwords.desk" 814) 423) ::
 (nat_lit 428,kC "look_at_all" "look_at_all" 849 390 2 3 425 true 181 426 .none .none .none (.ref 427) 852) ::
 (nat_lit 429,kF "look_at_all" "look_at_all" fj (kS "betwords.desk" 814) 428)::[]
def Am:List Nat:=[3,6,20,21,27,28,32,33,37,38,44,45,46,47,48,49,50,51,52,53,54,55,56,57,58,71,72,73,74,75,83,84,90,91,95,96,102,103,109,110,114,115,121,122,126,127,133,134,138,139,143,144,148,149,153,154,158,159,165,166,172,173,186,187,191,192,198,199,205,206,207,208,209,219,220,224,225,231,232,236,237,238,251,252,253,254,255,271,272,278,279,280,281,282,299,300,306,307,313,314,320,321,322,323,324,334,335,341,342,348,349,355,356,362,363,369,370,376,377,383,384,390,391,395,396,402,403,409,410,416,417,423,424,428,429]
def I_:List Str:=List.map Str.ofString ["_wall","LETTERS","DIGITS","MOST_NAME","MOST_DIGITS","sign_of","text_of","is_name","number_of","MOST_RACES","MOST_POOLS","MOST_COUPLES","MOST_RUNNERS","SIZES","FIXED","POOL_WORDS","Pool","read_card","is_day","read_race","read_pools","read_pool","has_pool_form","are_terms_good","fields_of","product_of","without","count_legs","count_orders","is_of","count_different","picks_of","count_starts","Rows","rows_on","rows_box","rows_key","seatings","NOT_ENDED","BAD_BYTE","BAD_WORD","BAD_NUMBER","NO_POOL","NO_COMBINATION","TOO_DEAR","MORE_BYTES","LINE_END","BLANK","MOST_STAKE","MOST_COST","ON","BOX","WAYS","Fault","Bet","Words","read_bet","check_line","read_words","take_pool","take_stake","take_how","take_sets","take_on","take_box","take_key","take_set","rows_of","TOO_LONG","FAULTY_BET","NO_CARD","MOST_CARD","MOST_BET","many","look_at","look_at_all"]
end Bw
end
section
set_option autoImplicit false
set_option linter.all false
set_option maxRecDepth 100000
set_option maxHeartbeats 0
namespace Bw
open PySem PyProof.Rows L2
theorem Au (P:Params):Am=(nX P).map (·.1):=by kernel_rfl
def qV:Program:={PySem.Challenge.pw_betwords_s03_many with main:={PySem.Challenge.pw_betwords_s03_many.main with body:=[jM]}}
def lV:List Str:=I_.filter λk=>k != "many"
def xV (s:Shared):Bool:=PySem.W.xlAt qV [] s&&PySem.W.recOk [] s
def dV:DefRec:=match jM with
 |.FunctionDef n a b _ _ _ c _ _ p=>⟨n,a,b,c,p⟩
 |_=>⟨"",cR jM,[],ax jM,⟨0,0,0,0⟩⟩
theorem gA0 {a b c:Type}{o:Option a}{f:a->b}{g:a->c}{x:b}{y:c}(h:o.map f=some x)(k:o.map g=some y):o.map (fun s=>(f s,g s))=some (x,y):=by
 cases o with
 |none=>cases h
 |some z=>cases h;cases k;rfl
theorem gA1 {a b c:Type}{o:Option a}{f:a->b×c}{x:b×c}(h:o.map (fun s=>(f s).1)=some x.1)(k:o.map (fun s=>(f s).2)=some x.2):o.map f=some x:=by
 cases o with
 |none=>cases h
 |some z=>exact congrArg some (Prod.ext (Option.some.inj h) (Option.some.inj k))
theorem gA2 {a b:Type}{o:Option a}{f:a->List b}{x:List b}(n:Nat)(h:o.map (fun s=>List.take n (f s))=some (List.take n x))(k:o.map (fun s=>List.drop n (f s))=some (List.drop n x)):o.map f=some x:=by
 cases o with
 |none=>cases h
 |some z=>exact congrArg some ((List.take_append_drop n (f z)).symm.trans ((congr (congrArg _ (Option.some.inj h)) (Option.some.inj k)).trans (List.take_append_drop n x)))
theorem gB01 (w:World):(PySem.W.openEnds treeTable PySem.Challenge.pw_betwords_s03_many (w.withFollow "special-get-raises" false) 5200).map (fun s=>(PySem.W.openSeen qV lV (importedModules PySem.Challenge.pw_betwords_s03_many.main.body) xV true s).1)=some (PySem.W.openGood qV lV).1:=by kernel_rfl
theorem gB02 (w:World):(PySem.W.openEnds treeTable PySem.Challenge.pw_betwords_s03_many (w.withFollow "special-get-raises" false) 5200).map (fun s=>(PySem.W.openSeen qV lV (importedModules PySem.Challenge.pw_betwords_s03_many.main.body) xV true s).2)=some (PySem.W.openGood qV lV).2:=by kernel_rfl
theorem gB03 (w:World):(PySem.W.openEnds treeTable PySem.Challenge.pw_betwords_s03_many (w.withFollow "special-get-raises" false) 5200).map (fun s=>List.take 68 ((PySem.W.kHook Bw.nX Bw.Am Bw.Au).obs s))=some (List.take 68 ((PySem.W.kHook Bw.nX Bw.Am Bw.Au).val (w.withFollow "special-get-raises" false))):=by kernel_rfl
theorem gB04 (w:World):(PySem.W.openEnds treeTable PySem.Challenge.pw_betwords_s03_many (w.withFollow "special-get-raises" false) 5200).map (fun s=>List.drop 68 ((PySem.W.kHook Bw.nX Bw.Am Bw.Au).obs s))=some (List.drop 68 ((PySem.W.kHook Bw.nX Bw.Am Bw.Au).val (w.withFollow "special-get-raises" false))):=by kernel_rfl
theorem La (w:World):(PySem.W.openEnds treeTable PySem.Challenge.pw_betwords_s03_many (w.withFollow "special-get-raises" false) 5200).map (fun s=>(PySem.W.openSeen qV lV (importedModules PySem.Challenge.pw_betwords_s03_many.main.body) xV true s,(PySem.W.kHook Bw.nX Bw.Am Bw.Au).obs s))=some (PySem.W.openGood qV lV,(PySem.W.kHook Bw.nX Bw.Am Bw.Au).val (w.withFollow "special-get-raises" false)):=gA0 (gA1 (gB01 w) (gB02 w)) (gA2 68 (gB03 w) (gB04 w))
theorem gB11 (w:World):(PySem.W.openEnds treeTable PySem.Challenge.pw_betwords_s03_many (w.withFollow "special-get-raises" true) 5200).map (fun s=>(PySem.W.openSeen qV lV (importedModules PySem.Challenge.pw_betwords_s03_many.main.body) xV true s).1)=some (PySem.W.openGood qV lV).1:=by kernel_rfl
theorem gB12 (w:World):(PySem.W.openEnds treeTable PySem.Challenge.pw_betwords_s03_many (w.withFollow "special-get-raises" true) 5200).map (fun s=>(PySem.W.openSeen qV lV (importedModules PySem.Challenge.pw_betwords_s03_many.main.body) xV true s).2)=some (PySem.W.openGood qV lV).2:=by kernel_rfl
theorem gB13 (w:World):(PySem.W.openEnds treeTable PySem.Challenge.pw_betwords_s03_many (w.withFollow "special-get-raises" true) 5200).map (fun s=>List.take 68 ((PySem.W.kHook Bw.nX Bw.Am Bw.Au).obs s))=some (List.take 68 ((PySem.W.kHook Bw.nX Bw.Am Bw.Au).val (w.withFollow "special-get-raises" true))):=by kernel_rfl
theorem gB14 (w:World):(PySem.W.openEnds treeTable PySem.Challenge.pw_betwords_s03_many (w.withFollow "special-get-raises" true) 5200).map (fun s=>List.drop 68 ((PySem.W.kHook Bw.nX Bw.Am Bw.Au).obs s))=some (List.drop 68 ((PySem.W.kHook Bw.nX Bw.Am Bw.Au).val (w.withFollow "special-get-raises" true))):=by kernel_rfl
theorem KZ (w:World):(PySem.W.openEnds treeTable PySem.Challenge.pw_betwords_s03_many (w.withFollow "special-get-raises" true) 5200).map (fun s=>(PySem.W.openSeen qV lV (importedModules PySem.Challenge.pw_betwords_s03_many.main.body) xV true s,(PySem.W.kHook Bw.nX Bw.Am Bw.Au).obs s))=some (PySem.W.openGood qV lV,(PySem.W.kHook Bw.nX Bw.Am Bw.Au).val (w.withFollow "special-get-raises" true)):=gA0 (gA1 (gB11 w) (gB12 w)) (gA2 68 (gB13 w) (gB14 w))
theorem hl:PySem.W.LeftO PySem.Challenge.pw_betwords_s03_many qV lV xV (PySem.W.kHook Bw.nX Bw.Am Bw.Au).obs (PySem.W.kHook Bw.nX Bw.Am Bw.Au).val 5200:=PySem.W.byRow2 "special-get-raises" La KZ
end Bw
end
section
set_option autoImplicit false
set_option linter.all false
namespace Bw
open Tote
theorem sum_map_add {α:Type}(f g:α->Nat):∀l:List α,(l.map λx=>f x+g x).sum=(l.map f).sum+(l.map g).sum
 |[]=>rfl
 |x::l=>by
  simp only[Lv,ML,sum_map_add f g l];omega
theorem sum_map_congr {α:Type}{f g:α->Nat}:∀{l:List α},(∀x∈l,f x=g x)->(l.map f).sum=(l.map g).sum
 |[],_=>rfl
 |x::l,h=>by
  simp only[Lv,ML];rw[h x (by simp),sum_map_congr λy hy=>h y (by simp[hy])]
theorem sum_map_const {α:Type}(c:Nat):∀l:List α,(l.map λ_=>c).sum=l.length*c
 |[]=>by simp
 |x::l=>by
  simp only[Lv,ML,sum_map_const c l,Lp,Nat.add_mul];omega
theorem fG {α β:Type}(f:α->List β):∀l:List α,(l.flatMap f).length=(l.map λx=>(f x).length).sum
 |[]=>rfl
 |x::l=>by simp[NB,fG f l]
theorem ng {α:Type}(p:α->Bool)(c d:Nat):∀l:List α,(l.map λx=>if p x=true then c else d).sum=(l.filter p).length*c+(l.filter λx=>!p x).length*d
 |[]=>by simp
 |x::l=>by
  have ih:=ng p c d l;simp only[Lv,ML,Mr];by_cases h:p x=true
  · simp only[h,MX,Bool.not_true,ME,Nc,Lp,Nat.add_mul,ih];omega
  · have h':p x=false:=by simpa using h
    simp only[h',ME,Nc,Bool.not_false,MX,Lp,Nat.add_mul,ih];omega
section
variable (A u:N3)
end
theorem i6:∀(k:Nat) (l r:N3),r∈risingRows k l->r.Sublist l
 |0,_,r,h=>by
  have:r=[]:=by simpa [risingRows] using h
  subst this;exact List.nil_sublist _
 |k+1,[],r,h=>by simp[risingRows] at h
 |k+1,x::l,r,h=>by
  rw[risingRows,L4] at h;rcases h with h|h
  · obtain⟨q,hq,rfl⟩:=LM.mp h;exact (i6 k l q hq).cons₂ x
  · exact (i6 (k+1) l r h).cons x
def dk:N2->(Nat->Bool)->Nat
 |[],_=>1
 |s::ss,p=>((s.filter p).map λy=>dk ss λz=>p z&&z != y).sum
theorem gE:∀(ss:N2) {p q:Nat->Bool},(∀s∈ss,∀y∈s,p y=q y)->dk ss p=dk ss q
 |[],_,_,_=>rfl
 |s::ss,p,q,h=>by
  unfold dk;have e:s.filter p=s.filter q:=List.filter_congr λy hy=>h s (by simp) y hy;rw[e];refine sum_map_congr λy _=>gE ss λt ht z hz=>?_;rw[h t (by simp[ht]) z hz]
theorem rV:∀(ss:N2) (had:N3),(apartRows ss had).length=dk ss λz=>!had.contains z
 |[],_=>rfl
 |s::ss,had=>by
  unfold dk;rw[apartRows,fG];refine sum_map_congr λy _=>?_;rw[Le,rV ss (y::had)];refine gE ss λt _ z _=>?_;simp only[Mm,Li];by_cases c1:z∈had <;> by_cases c2:z=y <;> simp[c1,c2]
def outs (x:Nat):N2->List (N2)
 |[]=>[]
 |s::ss=>(if s.contains x=true then [ss] else [])++(outs x ss).map λr=>s::r
theorem kN {α β:Type}(f:α->β->Nat):∀(l:List α) (m:List β),(l.map λx=>(m.map λy=>f x y).sum).sum=(m.map λy=>(l.map λx=>f x y).sum).sum
 |[],m=>by
  simp only[MD,List.sum_nil];rw[sum_map_const 0 m];simp
 |x::l,m=>by
  simp only[Lv,ML];rw[kN f l m,←sum_map_add]
theorem k7 {x:Nat}:∀{s:N3},s.Nodup->s.filter (λy=>y==x)=if s.contains x=true then [x] else []
 |[],_=>rfl
 |y::s,nd=>by
  obtain⟨h1,h2⟩:=Mq.mp nd;have ih:=k7 (x:=x) h2;by_cases e:y=x
  · subst e;have:s.filter (λz=>z==y)=[]:=List.filter_eq_nil_iff.mpr λz hz c=>h1 ((L5.mp c) ▸ hz);simp[this]
  · have e':¬x=y:=λz=>e z.symm;rw[Mr,Lf (by simp[e]),ih];simp[e']
theorem kK {f:Nat->Nat}{p q:Nat->Bool}(hd:∀y,p y=true->q y=false):∀l:N3,((l.filter λy=>p y||q y).map f).sum=((l.filter p).map f).sum+((l.filter q).map f).sum
 |[]=>rfl
 |y::l=>by
  have ih:=kK (f:=f) hd l;rw[Mr,Mr,Mr];by_cases c:p y=true
  · have:=hd y c;simp only[c,this,Nr,MX,ME,Nc,Lv,ML,ih];omega
  · have c':p y=false:=by simpa using c
    by_cases c2:q y=true
    · simp only[c',c2,Bool.or_true,MX,ME,Nc,Lv,ML,ih];omega
    · have c2':q y=false:=by simpa using c2
      simp only[c',c2',Nr,ME,Nc,ih]
theorem rk (x:Nat):∀(ss:N2) (p:Nat->Bool),(∀s∈ss,s.Nodup)->p x=false ->
  dk ss (λz=>p z||z==x)=dk ss p+((outs x ss).map λr=>dk r p).sum
 |[],_,_,_=>rfl
 |s::ss,p,nd,hx=>by
  have nds:s.Nodup:=nd s (by simp);have ndr:∀t∈ss,t.Nodup:=λt ht=>nd t (by simp[ht]);have dis:∀y,p y=true->(y==x)=false:=λy hy=>by
   by_cases e:y=x
   · rw[e,hx] at hy;cases hy
   · simp[e]
  show ((s.filter λz=>p z||z==x).map λy=>dk ss λz=>(p z||z==x)&&z != y).sum=_;rw[kK (q:=λy=>y==x) dis,k7 nds];have e1:((s.filter p).map λy=>dk ss λz=>(p z||z==x)&&z != y).sum
    = ((s.filter p).map λy=>dk ss (λz=>p z&&z != y)+((outs x ss).map λr=>dk r λz=>p z&&z != y).sum).sum:=by
   refine sum_map_congr λy hy=>?_;have py:p y=true:=(Mo.mp hy).2;have ne:x≠y:=λe=>by rw[e,py] at hx;cases hx
   rw[←rk x ss (λz=>p z&&z != y) ndr (by simp[hx])];refine gE ss λt _ z _=>?_;show ((p z||z==x)&&z != y)=(p z&&z != y||z==x);cases hpz:p z <;> by_cases c:z=x <;> by_cases d:z=y <;> simp_all
  rw[e1,sum_map_add,kN (λy r=>dk r λz=>p z&&z != y)];have e2:(((if s.contains x=true then [x] else []:N3)).map λy=>dk ss λz=>(p z||z==x)&&z != y).sum
    = (((if s.contains x=true then [ss] else []:List (N2))).map λr=>dk r p).sum:=by
   by_cases c:s.contains x=true
   · rw[Lg c,Lg c];simp only[Lv,MD,ML,List.sum_nil,Nat.add_zero];refine gE ss λt _ z _=>?_;show ((p z||z==x)&&z != x)=p z;cases hpz:p z <;> by_cases d:z=x <;> simp_all
   · rw[Lf c,Lf c];rfl
  rw[e2];show _=dk (s::ss) p+(((if s.contains x=true then [ss] else [])++(outs x ss).map λr=>s::r).map λr=>dk r p).sum;rw[Lx,List.sum_append,LF];show ((s.filter p).map λy=>dk ss λz=>p z&&z != y).sum+((outs x ss).map λr=>((s.filter p).map λy=>dk r λz=>p z&&z != y).sum).sum+_
   = ((s.filter p).map λy=>dk ss λz=>p z&&z != y).sum+(_+((outs x ss).map λr=>((s.filter p).map λy=>dk r λz=>p z&&z != y).sum).sum)
  omega
def sel:Nat->N2->N2
 |_,[]=>[]
 |m,s::ss=>(if m % 2=1 then [s] else [])++sel (m / 2) ss
def bitsOf (x:Nat):Nat->N2->N3
 |_,[]=>[]
 |b,s::ss=>(if s.contains x=true then [b] else [])++bitsOf x (2*b) ss
theorem nj (x:Nat):∀(ss:N2) (b:Nat),bitsOf x (2*b) ss=(bitsOf x b ss).map λc=>2*c
 |[],_=>rfl
 |s::ss,b=>by
  unfold bitsOf;rw[Lx,nj x ss (2*b)];congr 1;by_cases c:s.contains x=true
  · simp only[Lg c];rfl
  · simp only[Lf c];rfl
def bD (m b:Nat):Bool:=m / b % 2==1
theorem oN (m:Nat)(s:N3)(ss:N2):sel m (s::ss)=(if m % 2=1 then [s] else [])++sel (m / 2) ss:=rfl
theorem uV:∀ss:N2,sel 0 ss=[]
 |[]=>rfl
 |s::ss=>by
  unfold sel;rw[uV ss];rfl
theorem uT (x:Nat):∀(ss:N2) (m:Nat),outs x (sel m ss)=((bitsOf x 1 ss).filter (bD m)).map λb=>sel (m - b) ss
 |[],_=>rfl
 |s::ss,m=>by
  have ih:=uT x ss (m / 2);have e1:bitsOf x 1 (s::ss)=(if s.contains x=true then [1] else [])++(bitsOf x 1 ss).map λc=>2*c:=by
   show (if s.contains x=true then [1] else [])++bitsOf x (2*1) ss=_;rw[nj]
  have f1:∀c,bD m (2*c)=bD (m / 2) c:=λc=>by
   unfold bD;rw[Nat.div_div_eq_div_mul]
  have e2:(((bitsOf x 1 ss).map λc=>2*c).filter (bD m))=((bitsOf x 1 ss).filter (bD (m / 2))).map λc=>2*c:=by
   rw[List.filter_map];congr 1;exact List.filter_congr λc _=>f1 c
  rw[e1,M9,Lx,e2,LF];have big:∀c∈(bitsOf x 1 ss).filter (bD (m / 2)),c<=m / 2:=λc hc=>by
   have h:=(Mo.mp hc).2;unfold bD at h;have h':m / 2 / c % 2=1:=by simpa using h
   by_cases z:c<=m / 2
   · exact z
   · rw[Nat.div_eq_of_lt (by omega)] at h';simp at h'
  have e3:((bitsOf x 1 ss).filter (bD (m / 2))).map ((λb=>sel (m - b) (s::ss)) ∘ λc=>2*c)
    = ((bitsOf x 1 ss).filter (bD (m / 2))).map λc=>(if m % 2=1 then [s] else [])++sel (m / 2 - c) ss:=by
   refine L8 λc hc=>?_;have:=big c hc;show (if (m - 2*c) % 2=1 then [s] else [])++sel ((m - 2*c) / 2) ss=_;have a1:(m - 2*c) % 2=m % 2:=by omega
   have a2:(m - 2*c) / 2=m / 2 - c:=by omega
   rw[a1,a2]
  rw[e3,oN];by_cases odd:m % 2=1
  · simp only[Lg odd,List.singleton_append];have hb1:bD m 1=true:=by unfold bD;simp[odd]
    rw[outs,ih,LF];congr 1;by_cases c:s.contains x=true
    · simp only[Lg c,Mr,hb1,MX,List.filter_nil,Lv,MD];have a1:¬(m - 1) % 2=1:=by omega
      have a2:(m - 1) / 2=m / 2:=by omega
      rw[oN,Lf a1,a2];rfl
    · simp only[Lf c];rfl
  · have hb1:bD m 1=false:=by unfold bD;simp[odd]
    simp only[Lf odd,L_];rw[ih];by_cases c:s.contains x=true
    · simp only[Lg c,Mr,hb1,ME,Nc,List.filter_nil,MD,L_]
    · simp only[Lf c,List.filter_nil,MD,L_]
theorem yX:∀{ss:N2} {m:Nat} {s:N3},s∈sel m ss->s∈ss
 |[],_,_,h=>by simp[sel] at h
 |t::ss,m,s,h=>by
  unfold sel at h;rcases L4.mp h with h|h
  · by_cases c:m % 2=1
    · rw[Lg c] at h;simp at h;simp[h]
    · rw[Lf c] at h;simp at h
  · exact Lw _ (yX h)
theorem vm:∀ss:N2,sel (2 ^ ss.length - 1) ss=ss
 |[]=>rfl
 |s::ss=>by
  have hp:0 < 2 ^ ss.length:=Nat.two_pow_pos _;have e:2 ^ (s::ss).length - 1=2*(2 ^ ss.length - 1)+1:=by
   rw[Lp,Ni];omega
  unfold sel;rw[e];have a1:(2*(2 ^ ss.length - 1)+1) % 2=1:=by omega
  have a2:(2*(2 ^ ss.length - 1)+1) / 2=2 ^ ss.length - 1:=by omega
  rw[Lg a1,a2,vm ss];rfl
theorem zH (x m:Nat)(ss:N2)(p:Nat->Bool)(nd:∀s∈ss,s.Nodup)(hx:p x=false) :
  dk (sel m ss) (λz=>p z||z==x)=dk (sel m ss) p+(((bitsOf x 1 ss).filter (bD m)).map λb=>dk (sel (m - b) ss) p).sum:=by
 rw[rk x (sel m ss) p (λs hs=>nd s (yX hs)) hx,uT,LF];rfl
abbrev cG (l:N3):Prop:=l.Pairwise (· < ·)
theorem j4:∀l:N3,risesN l=true↔cG l
 |[]=>by simp[risesN]
 |[x]=>by simp[risesN]
 |x::y::l=>by
  have ih:=j4 (y::l);rw[risesN,Ll,MK,ih];constructor
  · rintro⟨h1,h2⟩;refine Mx.mpr ⟨λz hz=>?_,h2⟩;rcases Li.mp hz with rfl|hz
    · exact h1
    · exact Nat.lt_trans h1 ((Mx.mp h2).1 z hz)
  · intro h;obtain⟨h1,h2⟩:=Mx.mp h;exact⟨h1 y (by simp),h2⟩
theorem cG.nodup {l:N3}(h:cG l):l.Nodup:=List.Pairwise.imp (λh=>LP h) h
theorem hX {α:Type} [DecidableEq α]:∀{l m:List α},l.Nodup->(∀x∈l,x∈m)->l.length<=m.length
 |[],_,_,_=>LJ _
 |x::l,m,nd,h=>by
  obtain⟨h1,h2⟩:=Mq.mp nd;have hx:x∈m:=h x (by simp);have ih:=hX (l:=l) (m:=m.erase x) h2 λy hy=>by
   have:y≠x:=λe=>h1 (e ▸ hy);exact (NM this).mpr (h y (by simp[hy]))
  have e:=MW hx;have:0 < m.length:=Nz hx;rw[Lp];omega
def f9 (n:Nat):N3->N3
 |[]=>[n]
 |x::r=>if n < x then n::x::r else x::f9 n r
theorem mG {n y:Nat}:∀{l:N3},y∈f9 n l↔y=n∨y∈l
 |[]=>by simp[f9]
 |x::r=>by
  unfold f9;by_cases c:n < x
  · rw[Lg c];simp
  · rw[Lf c,Li,mG (l:=r),Li];constructor
    · rintro (h|h|h) <;> simp[h]
    · rintro (h|h|h) <;> simp[h]
theorem kU {n:Nat}:∀{l:N3},cG l->¬n∈l->cG (f9 n l)
 |[],_,_=>by simp[f9]
 |x::r,h,hn=>by
  obtain⟨h1,h2⟩:=Mx.mp h;unfold f9;by_cases c:n < x
  · rw[Lg c];refine Mx.mpr ⟨λz hz=>?_,h⟩;rcases Li.mp hz with rfl|hz
    · exact c
    · exact Nat.lt_trans c (h1 z hz)
  · rw[Lf c];have ne:n≠x:=λe=>hn (by simp[e]);refine Mx.mpr ⟨λz hz=>?_,kU h2 λm=>hn (by simp[m])⟩;rcases mG.mp hz with rfl|hz
    · omega
    · exact h1 z hz
theorem oO {n:Nat}:∀{l:N3},cG l->n∈l->f9 n (l.erase n)=l
 |[],_,h=>by simp at h
 |x::r,h,hn=>by
  obtain⟨h1,h2⟩:=Mx.mp h;by_cases e:x=n
  · subst e;rw[List.erase_cons_head];cases r with
    |nil=>rfl
    |cons y r=>unfold f9;rw[Lg (h1 y (by simp))]
  · have hn':n∈r:=by
     rcases Li.mp hn with z|z
     · exact absurd z.symm e
     · exact z
    rw[List.erase_cons_tail (by simpa using e)];have:=h1 n hn';unfold f9;rw[Lf (by omega),oO h2 hn']
theorem pD {n:Nat}:∀{l:N3},¬n∈l->(f9 n l).erase n=l
 |[],_=>by simp[f9]
 |x::r,h=>by
  have ne:x≠n:=λe=>h (by simp[e]);unfold f9;by_cases c:n < x
  · rw[Lg c,List.erase_cons_head]
  · rw[Lf c,List.erase_cons_tail (by simpa using ne),pD λm=>h (by simp[m])]
def jT (K:N2)(k:N3):N2:=if K.contains k=true then K else K++[k]
def cu (pick:N3)(K:N2)(n:Nat):N2:=if pick.contains n=true then K else jT K (f9 n pick)
def cN (s:N3)(K:N2)(pick:N3):N2:=s.foldl (cu pick) K
def fc (picks:N2)(s:N3):N2:=picks.foldl (cN s) []
def bz (ss:N2):N2:=ss.foldl fc [[]]
theorem w_ {K:N2}{k r:N3}:r∈jT K k↔r∈K∨r=k:=by
 unfold jT;by_cases c:K.contains k=true
 · rw[Lg c];have c':k∈K:=by simpa using c
   exact⟨.inl,λh=>h.elim id λe=>e ▸ c'⟩
 · rw[Lf c];simp
theorem mz {K:N2}{k:N3}(h:K.Nodup):(jT K k).Nodup:=by
 unfold jT;by_cases c:K.contains k=true
 · rw[Lg c];exact h
 · rw[Lf c];have c':¬k∈K:=by simpa using c
   refine MU.mpr ⟨h,by simp,λa ha b hb=>?_⟩;have:b=k:=by simpa using hb
   subst this;exact λe=>c' (e ▸ ha)
theorem oP {pick r:N3}:∀{s:N3} {K:N2},r∈cN s K pick↔r∈K∨∃n∈s,¬n∈pick/\r=f9 n pick
 |[],K=>by simp[cN]
 |n::s,K=>by
  show r∈cN s (cu pick K n) pick↔_;rw[oP (s:=s)];unfold cu;by_cases c:pick.contains n=true
  · rw[Lg c];have c':n∈pick:=by simpa using c
    constructor
    · rintro (h|⟨m,hm,h1,h2⟩)
      · exact .inl h
      · exact .inr ⟨m,by simp[hm],h1,h2⟩
    · rintro (h|⟨m,hm,h1,h2⟩)
      · exact .inl h
      · rcases Li.mp hm with rfl|hm
        · exact absurd c' h1
        · exact .inr ⟨m,hm,h1,h2⟩
  · rw[Lf c,w_];have c':¬n∈pick:=by simpa using c
    constructor
    · rintro ((h|h)|⟨m,hm,h1,h2⟩)
      · exact .inl h
      · exact .inr ⟨n,by simp,c',h⟩
      · exact .inr ⟨m,by simp[hm],h1,h2⟩
    · rintro (h|⟨m,hm,h1,h2⟩)
      · exact .inl (.inl h)
      · rcases Li.mp hm with rfl|hm
        · exact .inl (.inr h2)
        · exact .inr ⟨m,hm,h1,h2⟩
theorem mi {pick:N3}:∀{s:N3} {K:N2},K.Nodup->(cN s K pick).Nodup
 |[],_,h=>h
 |n::s,K,h=>by
  show (cN s (cu pick K n) pick).Nodup;refine mi (s:=s) ?_;unfold cu;by_cases c:pick.contains n=true
  · rw[Lg c];exact h
  · rw[Lf c];exact mz h
theorem uY {s r:N3}:∀{picks K:N2},r∈picks.foldl (cN s) K↔r∈K∨∃pick∈picks,∃n∈s,¬n∈pick/\r=f9 n pick
 |[],K=>by simp
 |p::ps,K=>by
  rw[MJ,uY (picks:=ps),oP];constructor
  · rintro ((h|h)|⟨q,hq,h⟩)
    · exact .inl h
    · exact .inr ⟨p,by simp,h⟩
    · exact .inr ⟨q,by simp[hq],h⟩
  · rintro (h|⟨q,hq,h⟩)
    · exact .inl (.inl h)
    · rcases Li.mp hq with rfl|hq
      · exact .inl (.inr h)
      · exact .inr ⟨q,hq,h⟩
theorem qy {s:N3}:∀{picks K:N2},K.Nodup->(picks.foldl (cN s) K).Nodup
 |[],_,h=>h
 |p::ps,K,h=>by
  rw[MJ];exact qy (picks:=ps) (mi h)
theorem snoc_ind {α:Type}{P:List α->Prop}(h0:P [])(h1:∀l a,P l->P (l++[a]))(l:List α):P l:=by
 have:∀m:List α,P m.reverse:=λm=>by
  induction m with
  |nil=>exact h0
  |cons a m ih=>rw[List.reverse_cons];exact h1 _ a ih
 have h:=this l.reverse
 rwa [List.reverse_reverse] at h
theorem dY {row s:N3}{t:N2}:fillsSets row (s::t)=true↔∃x∈row,x∈s/\fillsSets (row.erase x) t=true:=by
 show (row.any λ(x:Nat)=>s.contains x&&fillsSets (row.erase x) t)=true↔_;rw[MR];constructor
 · rintro⟨x,hx,h⟩;rw[Ll] at h;exact⟨x,hx,by simpa using h.1,h.2⟩
 · rintro⟨x,hx,h1,h2⟩;exact⟨x,hx,by rw[Ll];exact⟨by simpa using h1,h2⟩⟩
theorem m9 {row:N3}:fillsSets row []=true↔row=[]:=by
 show row.isEmpty=true↔_;exact MQ
theorem jE {x y:Nat}{l:N3}(hy:y∈l)(hx:x∈l.erase y):x∈l/\y∈l.erase x:=by
 refine⟨List.mem_of_mem_erase hx,?_⟩;by_cases e:y=x
 · subst e;exact hx
 · exact (NM e).mpr hy
theorem lu {s:N3}:∀{ss:N2} {row:N3},fillsSets row (ss++[s])=true↔∃x∈row,x∈s/\fillsSets (row.erase x) ss=true
 |[],row=>by rw[L_,dY]
 |t::ss,row=>by
  rw[Nk,dY];constructor
  · rintro⟨y,hy,hyt,h⟩;obtain⟨x,hx,hxs,h⟩:=lu.mp h;obtain⟨a,b⟩:=jE hy hx;exact⟨x,a,hxs,dY.mpr ⟨y,b,hyt,by rw[List.erase_comm];exact h⟩⟩
  · rintro⟨x,hx,hxs,h⟩;obtain⟨y,hy,hyt,h⟩:=dY.mp h;obtain⟨a,b⟩:=jE hx hy;exact⟨y,a,hyt,lu.mpr ⟨x,b,hxs,by rw[List.erase_comm];exact h⟩⟩
theorem cG.erase {l:N3}(n:Nat)(h:cG l):cG (l.erase n):=List.Pairwise.sublist List.erase_sublist h
theorem nZ {n:Nat}{l:N3}(h:l.Nodup):¬n∈l.erase n:=λm=>by
 have:=(h.mem_erase_iff).mp m;exact this.1 rfl
theorem iU (ss:N2)(s:N3):bz (ss++[s])=fc (bz ss) s:=by
 unfold bz;rw[List.foldl_append];rfl
theorem kb (ss:N2):∀r,r∈bz ss↔cG r/\fillsSets r ss=true:=by
 refine snoc_ind (P:=λss=>∀r,r∈bz ss↔cG r/\fillsSets r ss=true) ?_ ?_ ss
 · intro r;show r∈([[]]:N2)↔_;rw[m9,Ls];constructor
   · rintro rfl;exact⟨List.Pairwise.nil,rfl⟩
   · exact λh=>h.2
 · intro ss s ih r;rw[iU];unfold fc;rw[uY,lu];constructor
   · rintro (h|⟨p,hp,n,hn,h1,rfl⟩)
     · simp at h
     · obtain⟨rp,fp⟩:=(ih p).mp hp;exact⟨kU rp h1,n,mG.mpr (.inl rfl),hn,by rw[pD h1];exact fp⟩
   · rintro⟨hr,n,hn,hs,h⟩;exact .inr ⟨r.erase n,(ih _).mpr ⟨hr.erase n,h⟩,n,hs,nZ hr.nodup,(oO hr hn).symm⟩
theorem vK (ss:N2):(bz ss).Nodup:=by
 refine snoc_ind (P:=λss=>(bz ss).Nodup) ?_ ?_ ss
 · show ([[]]:N2).Nodup;simp
 · intro ss s _;rw[iU];exact qy List.nodup_nil
theorem j5:∀{ss:N2} {row:N3},fillsSets row ss=true->row.length=ss.length/\∀x∈row,∃s∈ss,x∈s
 |[],row,h=>by
  have:=m9.mp h;subst this;exact⟨rfl,λx hx=>by simp at hx⟩
 |t::ss,row,h=>by
  obtain⟨y,hy,hyt,h⟩:=dY.mp h;obtain⟨h1,h2⟩:=j5 h;have e:=MW hy;have:0 < row.length:=Nz hy;refine⟨by rw[Lp];omega,λx hx=>?_⟩;by_cases c:x=y
  · subst c;exact⟨t,by simp,hyt⟩
  · obtain⟨s,hs,hxs⟩:=h2 x ((NM c).mpr hx);exact⟨s,by simp[hs],hxs⟩
theorem i_:∀{k:Nat} {l r:N3},r.Sublist l->r.length=k->r∈risingRows k l
 |0,l,r,_,h=>by
  have:r=[]:=M5.mp h;subst this;simp[risingRows]
 |k+1,_,_,.slnil,h=>by simp at h
 |k+1,x::l,r,.cons _ h',h=>by
  rw[risingRows,L4];exact .inr (i_ h' h)
 |k+1,x::l,_::r,.cons_cons _ h',h=>by
  rw[risingRows,L4];exact .inl (LM.mpr ⟨r,i_ h' (by simpa using h),rfl⟩)
theorem kW:∀(k:Nat) (l r:N3),r∈risingRows k l->r.length=k
 |0,_,r,h=>by
  have:r=[]:=by simpa [risingRows] using h
  subst this;rfl
 |k+1,[],r,h=>by simp[risingRows] at h
 |k+1,x::l,r,h=>by
  rw[risingRows,L4] at h;rcases h with h|h
  · obtain⟨q,hq,rfl⟩:=LM.mp h;rw[Lp,kW k l q hq]
  · exact kW (k+1) l r h
theorem jd:∀(k:Nat) (l:N3),l.Nodup->(risingRows k l).Nodup
 |0,_,_=>by simp[risingRows]
 |k+1,[],_=>by simp[risingRows]
 |k+1,x::l,nd=>by
  obtain⟨h1,h2⟩:=Mq.mp nd;rw[risingRows];refine MU.mpr ⟨?_,jd (k+1) l h2,?_⟩
  · exact List.Pairwise.map _ (λa b (h:a≠b) e=>h (by injection e)) (jd k l h2)
  · intro a ha b hb e;obtain⟨q,_,rfl⟩:=LM.mp ha;subst e;exact h1 ((i6 _ _ _ hb).subset (by simp))
theorem fQ:∀{u r:N3},cG u->cG r->(∀x∈r,x∈u)->r.Sublist u
 |_,[],_,_,_=>List.nil_sublist _
 |[],x::r,_,_,h=>by simpa using h x (by simp)
 |y::u,x::r,hu,hr,h=>by
  obtain⟨u1,u2⟩:=Mx.mp hu;obtain⟨r1,r2⟩:=Mx.mp hr;by_cases e:x=y
  · subst e;refine (fQ u2 r2 λz hz=>?_).cons_cons x;rcases Li.mp (h z (by simp[hz])) with q|q
    · have:=r1 z hz;omega
    · exact q
  · have hx:x∈u:=by
     rcases Li.mp (h x (by simp)) with q|q
     · exact absurd q e
     · exact q
    refine (fQ u2 hr λz hz=>?_).cons y;have lt:=u1 x hx;rcases Li.mp (h z hz) with q|q
    · subst q;rcases Li.mp hz with q|q
      · exact absurd q.symm e
      · have:=r1 z q;omega
    · exact q
theorem fV {l:N2}{x:Nat}:x∈together l↔x < 32/\∃s∈l,x∈s:=by
 unfold together;rw[Mo,M3,MR];constructor
 · rintro⟨h,s,hs,hx⟩;exact⟨h,s,hs,by simpa using hx⟩
 · rintro⟨h,s,hs,hx⟩;exact⟨h,s,hs,by simpa using hx⟩
theorem df (l:N2):cG (together l):=List.Pairwise.filter _ List.pairwise_lt_range
structure bJ (heads s:N3):Prop where
 rise:cG s
 sub:∀x∈s,x∈heads
structure cM (heads:N3):Prop where
 rise:cG heads
 lo:∀x∈heads,1<=x
 hi:∀x∈heads,x<=24
def lA (z:Nat):Bool:=decide (1<=z)&&decide (z<=24)
def fits:N3->N2->Prop
 |[],[]=>True
 |x::r,s::g=>x∈s/\fits r g
 |_,_=>False
theorem vi:∀{r:N3} {g:N2},fits r g->r.length=g.length
 |[],[],_=>rfl
 |_::_,_::_,h=>by simp[vi h.2]
 |[],_::_,h=>h.elim
 |_::_,[],h=>h.elim
theorem eX:∀{g:N2} {had r:N3},r∈apartRows g had↔fits r g/\r.Nodup/\∀x∈r,¬x∈had
 |[],_,[]=>by simp[apartRows,fits]
 |[],_,_::_=>by simp[apartRows,fits]
 |s::g,_,[]=>by simp[apartRows,fits]
 |s::g,had,x::r=>by
  simp only[apartRows,Nj,Mo,LM,List.cons.injEq,fits,Mq,NN];constructor
  · rintro⟨y,⟨h1,h2⟩,q,hq,rfl,rfl⟩;obtain⟨a,b,c⟩:=eX.mp hq;exact⟨⟨h1,a⟩,⟨λm=>c y m (by simp),b⟩,by simpa using h2,λz hz m=>c z hz (by simp[m])⟩
  · rintro⟨⟨h1,a⟩,⟨n,b⟩,h2,c⟩;refine⟨x,⟨h1,by simpa using h2⟩,r,eX.mpr ⟨a,b,λz hz m=>?_⟩,rfl,rfl⟩;rcases Li.mp m with rfl|m
    · exact n hz
    · exact c z hz m
theorem oX {x:Nat}{l:N2}(h:l.Nodup):(l.map λr=>x::r).Nodup:=List.pairwise_map.mpr (List.Pairwise.imp (λn e=>n (List.cons.inj e).2) h)
theorem vA {f:Nat->N2}{s:N3}(hs:s.Nodup)(h:∀x∈s,(f x).Nodup):(s.flatMap λx=>(f x).map λr=>x::r).Nodup:=by
 refine List.pairwise_flatMap.mpr ⟨λx hx=>oX (h x hx),List.Pairwise.imp (λn a ha b hb e=>?_) hs⟩;obtain⟨p,_,rfl⟩:=LM.mp ha;obtain⟨q,_,rfl⟩:=LM.mp hb;exact n (List.cons.inj e).1
theorem jH:∀{g:N2} {had:N3},(∀s∈g,s.Nodup)->(apartRows g had).Nodup
 |[],_,_=>by simp[apartRows]
 |s::g,had,h=>vA ((h s (by simp)).filter _) λ_ _=>jH λt ht=>h t (by simp[ht])
theorem vI:∀{r:N3} {g:N2},fits r g->(∀x∈r,∃s∈g,x∈s)/\∀s∈g,∃x∈r,x∈s
 |[],[],_=>by simp
 |x::r,s::g,h=>by
  obtain⟨a,b⟩:=vI h.2;refine⟨λy hy=>?_,λt ht=>?_⟩
  · rcases Li.mp hy with rfl|hy
    · exact⟨s,by simp,h.1⟩
    · obtain⟨t,ht,hyt⟩:=a y hy;exact⟨t,by simp[ht],hyt⟩
  · rcases Li.mp ht with rfl|ht
    · exact⟨x,by simp,h.1⟩
    · obtain⟨y,hy,hyt⟩:=b t ht;exact⟨y,by simp[hy],hyt⟩
 |[],_::_,h=>h.elim
 |_::_,[],h=>h.elim
theorem vj {B:N3}:∀{k:Nat} {r:N3},fits r (List.replicate k B)↔r.length=k/\∀x∈r,x∈B
 |0,[]=>by simp[fits]
 |0,_::_=>by simp[fits]
 |k+1,[]=>by simp[fits,NP]
 |k+1,x::r=>by
  rw[NP];show x∈B/\fits r _↔_;rw[vj];simp only[Lp,NN,Nat.add_right_cancel_iff];exact⟨λ⟨a,b,c⟩=>⟨b,a,c⟩,λ⟨b,a,c⟩=>⟨a,b,c⟩⟩
def jo (a:Nat)(B:N3):N2->List (N2)
 |[]=>[]
 |s::g=>(if s==B then [[a]::g] else [])++(jo a B g).map λr=>s::r
def bE (B:N3)(A:N3)(gs:List (N2)):List (N2):=A.foldl (λgs a=>gs.flatMap (jo a B)) gs
theorem tq {x:Nat}{B:N3}(h:¬x∈B):[x]≠B:=λe=>h (e ▸ Ls.mpr rfl)
theorem sG {a:Nat}{B s:N3}{g t:N2}:t∈jo a B (s::g)↔(s=B/\t=[a]::g)∨∃r∈jo a B g,t=s::r:=by
 show t∈(if s==B then [[a]::g] else [])++(jo a B g).map (λr=>s::r)↔_;rw[L4,LM];have z:(∃r,r∈jo a B g/\s::r=t)↔∃r∈jo a B g,t=s::r:=⟨λ⟨r,h,e⟩=>⟨r,h,e.symm⟩,λ⟨r,h,e⟩=>⟨r,h,e.symm⟩⟩;rw[z];by_cases e:s=B <;> simp[e]
structure Good (B had:N3)(k:Nat)(g:N2):Prop where
 len:g.length=k
 are:∀s∈g,s=B∨∃a∈had,s=[a]
 all:∀a∈had,[a]∈g
theorem oz {a:Nat}{B:N3}:∀{g t:N2},t∈jo a B g->t.length=g.length/\(∀s∈t,s=[a]∨s∈g)/\[a]∈t/\∀s∈g,s=B∨s∈t
 |[],t,h=>by cases h
 |s::g,t,h=>by
  rcases sG.mp h with ⟨rfl,rfl⟩|⟨r,hr,rfl⟩
  · refine⟨rfl,λu hu=>?_,by simp,λu hu=>?_⟩
    · rcases Li.mp hu with e|hu
      · exact .inl e
      · exact .inr (by simp[hu])
    · rcases Li.mp hu with e|hu
      · exact .inl e
      · exact .inr (by simp[hu])
  · obtain⟨a1,a2,a3,a4⟩:=oz hr;refine⟨by simp[a1],λu hu=>?_,by simp[a3],λu hu=>?_⟩
    · rcases Li.mp hu with e|hu
      · exact .inr (by simp[e])
      · exact (a2 u hu).imp id λm=>by simp[m]
    · rcases Li.mp hu with e|hu
      · exact .inr (by simp[e])
      · exact (a4 u hu).imp id λm=>by simp[m]
theorem Bx {a k:Nat}{B had:N3}{g t:N2}(hB:∀x∈had,¬x∈B)(G:Good B had k g)(h:t∈jo a B g):Good B (had++[a]) k t:=by
 obtain⟨a1,a2,a3,a4⟩:=oz h;refine⟨a1.trans G.len,λs hs=>?_,λx hx=>?_⟩
 · rcases a2 s hs with e|m
   · exact .inr ⟨a,by simp,e⟩
   · exact (G.are s m).imp id λ⟨x,hx,e⟩=>⟨x,by simp[hx],e⟩
 · rcases L4.mp hx with hx|hx
   · exact (a4 _ (G.all x hx)).resolve_left (tq (hB x hx))
   · rw[Ls] at hx;exact hx ▸ a3
def vL (a:Nat)(B:N3)(g:N2):N2:=g.map λs=>if s=[a] then B else s
theorem vY {a:Nat}{B:N3}{g:N2}(h:¬[a]∈g):vL a B g=g:=by
 unfold vL
 conv=>rhs;rw[←List.map_id g]
 refine L8 λs hs=>?_;rw[Lf λe=>h (by rw[←e];exact hs)];rfl
theorem qA {a:Nat}{B:N3}:∀{g t:N2},¬[a]∈g->t∈jo a B g->vL a B t=g
 |[],t,_,h=>by cases h
 |s::g,t,n,h=>by
  have n2:¬[a]∈g:=λm=>n (by simp[m]);rcases sG.mp h with ⟨rfl,rfl⟩|⟨r,hr,rfl⟩
  · show (if [a]=[a] then s else [a])::vL a s g=_;rw[Lg rfl,vY n2]
  · show (if s=[a] then B else s)::vL a B r=_;rw[Lf λe=>n (by simp[e]),qA n2 hr]
theorem rD {a:Nat}{B:N3}(hB:¬a∈B):∀g:N2,(jo a B g).Nodup
 |[]=>by simp[jo]
 |s::g=>by
  have m:((jo a B g).map λr=>s::r).Nodup:=List.pairwise_map.mpr (List.Pairwise.imp (λn e=>n (List.cons.inj e).2) (rD hB g));unfold jo;by_cases e:s=B
  · rw[Lg (by simp[e])];refine Mq.mpr ⟨λh=>?_,m⟩;obtain⟨r,_,hr⟩:=LM.mp h;exact tq hB ((List.cons.inj hr).1 ▸ e)
  · rw[Lf (by simp[e])];exact m
theorem iI {B:N3}{k:Nat}:∀{A had:N3} {gs:List (N2)},(∀x∈had++A,¬x∈B)->(had++A).Nodup->gs.Nodup->(∀g∈gs,Good B had k g)->(bE B A gs).Nodup/\∀g∈bE B A gs,Good B (had++A) k g
 |[],had,gs,_,_,h2,h3=>by
  rw[Mg];exact⟨h2,h3⟩
 |a::A,had,gs,hB,nd,h2,h3=>by
  have e:had++a::A=(had++[a])++A:=by simp
  rw[e] at hB nd ⊢;have n1:=MU.mp (MU.mp nd).1;have ha:¬a∈had:=λm=>n1.2.2 a m a (by simp) rfl;have hb:∀x∈had,¬x∈B:=λx hx=>hB x (by simp[hx]);have no:∀g∈gs,¬[a]∈g:=λg hg m=>by
   rcases (h3 g hg).are _ m with e|⟨x,hx,e⟩
   · exact tq (hB a (by simp)) e
   · have:a=x:=by simpa using e
     exact ha (this ▸ hx)
  refine iI hB nd ?_ λg hg=>?_
  · refine List.pairwise_flatMap.mpr ⟨λg _=>rD (hB a (by simp)) g,MT.mpr λ{g g'} hs x hx y hy e=>?_⟩;have m1:=hs.subset (show g∈[g,g'] by simp);have m2:=hs.subset (show g'∈[g,g'] by simp);have:=MT.mp h2 hs;exact this (by rw[←qA (no g m1) hx,e,qA (no g' m2) hy])
  · obtain⟨g0,h0,hr⟩:=Nj.mp hg;exact Bx hb (h3 g0 h0) hr
def gm (A B:N3)(r:N3):N2:=r.map λx=>if x∈A then [x] else B
theorem uz {a:Nat}{B had:N3}(ha:¬a∈had):∀{r:N3},r.Nodup->a∈r->gm (had++[a]) B r∈jo a B (gm had B r)
 |[],_,h=>by cases h
 |y::r,nd,h=>by
  obtain⟨n1,n2⟩:=Mq.mp nd;have step:∀z,z≠a->(if z∈had++[a] then [z] else B)=if z∈had then [z] else B:=λz hz=>by simp[hz]
  refine sG.mpr ?_;by_cases e:y=a
  · subst e;refine .inl ⟨Lf ha,?_⟩;show (if y∈had++[y] then [y] else B)::gm (had++[y]) B r=_;rw[Lg (by simp)];congr 1;exact L8 λz hz=>step z λe=>n1 (e ▸ hz)
  · refine .inr ⟨_,uz ha n2 ((Li.mp h).resolve_left λz=>e z.symm),?_⟩;show (if y∈had++[a] then [y] else B)::_=_;rw[step y e];rfl
theorem qr {B r:N3}(nr:r.Nodup):∀{A had:N3} {gs:List (N2)},(had++A).Nodup->(∀a∈A,a∈r)->gm had B r∈gs->gm (had++A) B r∈bE B A gs
 |[],had,gs,_,_,h=>by rwa [Mg]
 |a::A,had,gs,nd,h1,h=>by
  have e:had++a::A=(had++[a])++A:=by simp
  rw[e] at nd ⊢;have n1:=MU.mp (MU.mp nd).1;exact qr nr nd (λx hx=>h1 x (by simp[hx])) (Nj.mpr ⟨_,h,uz (λm=>n1.2.2 a m a (by simp) rfl) nr (h1 a (by simp))⟩)
theorem CN {B r:N3}:gm [] B r=List.replicate r.length B:=by
 unfold gm;rw[←List.map_const'];exact L8 λx _=>by simp
theorem rj {A B:N3}:∀{r:N3},(∀x∈r,x∈A∨x∈B)->fits r (gm A B r)
 |[],_=>trivial
 |x::r,h=>by
  refine⟨?_,rj λy hy=>h y (by simp[hy])⟩;by_cases e:x∈A
  · simp[e]
  · simpa [e] using (h x (by simp)).resolve_left e
theorem mZ {A B:N3}(hB:∀x∈A,¬x∈B):∀{r:N3} {g:N2},(∀s∈g,s=B∨∃a∈A,s=[a])->fits r g->g=gm A B r
 |[],[],_,_=>rfl
 |x::r,s::g,h,f=>by
  show s::g=(if x∈A then [x] else B)::gm A B r;rw[←mZ hB (λt ht=>h t (by simp[ht])) f.2];congr 1;rcases h s (by simp) with rfl|⟨a,ha,rfl⟩
  · rw[Lf λm=>hB x m f.1]
  · have:x=a:=by simpa using f.1
    rw[this,Lg ha]
 |[],_::_,_,f=>f.elim
 |_::_,[],_,f=>f.elim
theorem xk {A B:N3}{k:Nat}(nA:A.Nodup)(nB:B.Nodup)(dis:∀x∈A,¬x∈B) :
  ((bE B A [List.replicate k B]).flatMap λg=>apartRows g []).Nodup /\
  ∀r,r∈(bE B A [List.replicate k B]).flatMap (λg=>apartRows g [])↔r.length=k/\r.Nodup/\(∀a∈A,a∈r)/\∀x∈r,x∈A∨x∈B:=by
 obtain⟨h1,h2⟩:=iI (B:=B) (k:=k) (A:=A) (had:=[]) (gs:=[List.replicate k B]) (by simpa using dis) (by simpa using nA) (by simp) (λg hg=>by
  rw[Ls] at hg;subst hg;exact⟨by simp,λs hs=>.inl (Mf hs),by simp⟩)
 rw[L_] at h2;refine⟨List.pairwise_flatMap.mpr ⟨λg hg=>jH λs hs=>?_,MT.mpr λ{g g'} hs x hx y hy e=>?_⟩,λr=>?_⟩
 · rcases (h2 g hg).are s hs with rfl|⟨a,_,rfl⟩
   · exact nB
   · simp
 · have m1:=hs.subset (show g∈[g,g'] by simp);have m2:=hs.subset (show g'∈[g,g'] by simp);refine MT.mp h1 hs ?_;rw[mZ dis (h2 g m1).are (eX.mp hx).1,e,←mZ dis (h2 g' m2).are (eX.mp hy).1]
 · rw[Nj];constructor
   · rintro⟨g,hg,hr⟩;obtain⟨f,nr,_⟩:=eX.mp hr;have G:=h2 g hg;obtain⟨f1,f2⟩:=vI f;refine⟨(vi f).trans G.len,nr,λa ha=>?_,λx hx=>?_⟩
     · obtain⟨x,hx,e⟩:=f2 _ (G.all a ha);have:x=a:=by simpa using e
       exact this ▸ hx
     · obtain⟨s,hs,hxs⟩:=f1 x hx;rcases G.are s hs with rfl|⟨a,ha,rfl⟩
       · exact .inr hxs
       · have:x=a:=by simpa using hxs
         exact .inl (this ▸ ha)
   · rintro⟨hl,nr,ha,hx⟩;refine⟨gm A B r,?_,eX.mpr ⟨rj hx,nr,by simp⟩⟩;have:=qr (B:=B) nr (A:=A) (had:=[]) (gs:=[List.replicate k B]) (by simpa using nA) ha (by rw[CN,hl];simp);simpa using this
theorem k_ {B:N3}:∀{A P:N3} {j:Nat} {rest:List (N2)},(∀x∈P++A,¬x∈B)->A.length<=j->∃q,bE B A ((P.map (λa=>[a])++List.replicate j B)::rest)=((P++A).map (λa=>[a])++List.replicate (j - A.length) B)::q
 |[],P,j,rest,_,_=>⟨rest,by simp[bE]⟩
 |a::A,P,j,rest,h,hj=>by
  obtain⟨j,rfl⟩:∃i,j=i+1:=⟨j - 1,by rw[Lp] at hj;omega⟩;have first:∀P:N3,(∀x∈P,¬x∈B)->∃q,jo a B (P.map (λa=>[a])++List.replicate (j+1) B)=(P.map (λa=>[a])++[a]::List.replicate j B)::q:=by
   intro P
   induction P with
   |nil=>intro _;exact⟨_,by rw[MD,L_,L_,NP];unfold jo;rw[Lg (by simp)];rfl⟩
   |cons x P ih =>
    intro hP;obtain⟨q,e⟩:=ih λy hy=>hP y (by simp[hy]);refine⟨q.map λr=>[x]::r,?_⟩;rw[Lv,Nk];unfold jo;rw[e,Lf (by simpa using tq (hP x (by simp)))];rfl
  obtain⟨q,e⟩:=first P λx hx=>h x (by simp[hx])
  obtain⟨q',e'⟩:=k_ (B:=B) (A:=A) (P:=P++[a]) (j:=j) (rest:=q++rest.flatMap (jo a B)) (by simpa using h) (by rw[Lp] at hj;omega);refine⟨q',?_⟩;show bE B A (((P.map (λa=>[a])++List.replicate (j+1) B)::rest).flatMap (jo a B))=_;rw[NB,e,Nk];have e1:P.map (λa=>[a])++[a]::List.replicate j B=(P++[a]).map (λa=>[a])++List.replicate j B:=by simp
  rw[e1,e'];simp
theorem k8 {B:N3}:∀{j:Nat} {r:N3},fillsSets r (List.replicate j B)=true↔r.length=j/\∀x∈r,x∈B
 |0,r=>by
  rw[List.replicate_zero,m9];exact⟨λh=>by subst h;simp,λh=>M5.mp h.1⟩
 |j+1,r=>by
  rw[NP,dY];constructor
  · rintro⟨x,hx,hb,h⟩;obtain⟨h1,h2⟩:=k8.mp h;have:=MW hx;have:=Nz hx;refine⟨by omega,λy hy=>?_⟩;by_cases e:y=x
    · exact e ▸ hb
    · exact h2 y ((NM e).mpr hy)
  · rintro⟨hl,h⟩
    match r,hl,h with
    |x::r,hl,h=>exact⟨x,by simp,h x (by simp),k8.mpr ⟨by simpa using hl,λy hy=>h y (by simp only[List.erase_cons_head] at hy;simp[hy])⟩⟩
theorem kY {B:N3}{j:Nat}:∀{A r:N3},A.Nodup->(∀x∈B,¬x∈A)->r.Nodup ->
  (fillsSets r (A.map (λa=>[a])++List.replicate j B)=true↔(∀a∈A,a∈r)/\r.length=A.length+j/\∀x∈r,x∈A∨x∈B)
 |[],r,_,_,_=>by
  rw[MD,L_,k8];simp
 |a::A,r,nA,dis,nr=>by
  obtain⟨n1,n2⟩:=Mq.mp nA;rw[Lv,Nk,dY];have ih:=kY (B:=B) (j:=j) n2 (λx hx m=>dis x hx (Lw _ m)) (nr.erase a);have me:∀x,x∈r.erase a↔x≠a/\x∈r:=λx=>nr.mem_erase_iff;constructor
  · rintro⟨x,hx,ha,h⟩;have:x=a:=by simpa using ha
    subst this;obtain⟨h1,h2,h3⟩:=ih.mp h;have:=MW hx;have:=Nz hx;refine⟨λy hy=>?_,by rw[Lp];omega,λy hy=>?_⟩
    · rcases Li.mp hy with rfl|hy
      · exact hx
      · exact ((me y).mp (h1 y hy)).2
    · by_cases e:y=x
      · exact .inl (by simp[e])
      · exact (h3 y ((me y).mpr ⟨e,hy⟩)).imp (Lw _) id
  · rintro⟨h1,h2,h3⟩;have ha:=h1 a (by simp);have:=MW ha;rw[Lp] at h2;refine⟨a,ha,by simp,ih.mpr ⟨λy hy=>(me y).mpr ⟨λe=>n1 (e ▸ hy),h1 y (Lw _ hy)⟩,by omega,λy hy=>?_⟩⟩;obtain⟨e,hy⟩:=(me y).mp hy;rcases h3 y hy with m|m
    · exact .inl ((Li.mp m).resolve_left e)
    · exact .inr m
def jO (kind:Kind)(how:How)(k:Nat)(sets:N2):List (N2):=match how with
 |.on=>[sets]
 |.box=>[List.replicate k (sets.headD [])]
 |.key=>if kind=.any then (bE (sets.getD 1 []) (sets.headD []) [List.replicate k (sets.getD 1 [])]).take 1 else bE (sets.getD 1 []) (sets.headD []) [List.replicate k (sets.getD 1 [])]
def rR (kind:Kind)(gs:List (N2)):N2:=match kind with
 |.order=>gs.flatMap λg=>apartRows g []
 |.any=>bz (gs.headD [])
 |_=>gs.flatMap rowsOf
def B_ (kind:Kind)(how:How)(k:Nat)(sets:N2):N2:=rR kind (jO kind how k sets)
def countM (kind:Kind)(how:How)(k:Nat)(sets:N2):Nat:=(B_ kind how k sets).length
section
variable {C:Card}{b:Bet}{p:Pool}
theorem u_ (hl:p.kind≠.legs):(C.sets p).headD []=C.headsOf p.race:=by
 unfold Card.sets Pool.legs;rw[Lf hl];rfl
theorem uQ {row:N3}(hk:p.kind=.order):C.isCombo p row=(row.length==p.k&&(decide row.Nodup&&row.all λx=>(C.headsOf p.race).contains x)):=by
 unfold Card.isCombo;rw[hk];simp only[u_ (C:=C) (p:=p) (by rw[hk];decide)]
theorem sq {row:N3}(hk:p.kind=.any):C.isCombo p row=(row.length==p.k&&(risesN row&&row.all λx=>(C.headsOf p.race).contains x)):=by
 unfold Card.isCombo;rw[hk];simp only[u_ (C:=C) (p:=p) (by rw[hk];decide)]
structure yQ (C:Card)(b:Bet)(p:Pool):Prop where
 pool:C.pool b.pool=p
 heads:p.kind≠.legs->cM (C.headsOf p.race)
 k:p.kind≠.legs->p.kind≠.place->2<=p.k/\p.k<=mostK p.kind
 good:p.kind≠.legs->∀s∈b.sets,bJ (C.headsOf p.race) s
 place:p.kind=.place->b.how=.on/\b.sets.length=1
 legs:p.kind=.legs->b.how=.on
 on:p.kind≠.legs->p.kind≠.place->b.how=.on->b.sets.length=p.k
 box:b.how=.box->∃s,b.sets=[s]/\p.k<=s.length
 key:b.how=.key->∃s t,b.sets=[s,t]/\s.length < p.k/\(∀x∈t,¬x∈s)/\p.k<=s.length+t.length
theorem iR {l:N2}{heads:N3}(h:∀s∈l,bJ heads s):∀x∈together l,x∈heads:=λx hx=>by
 obtain⟨_,s,hs,hxs⟩:=fV.mp hx;exact (h s hs).sub x hxs
theorem iM {l:N2}{heads s:N3}(gh:cM heads)(h:∀s∈l,bJ heads s)(hs:s∈l):∀x∈s,x∈together l:=λx hx =>
 fV.mpr ⟨Nat.lt_of_le_of_lt (gh.hi x ((h s hs).sub x hx)) (by decide),s,hs,hx⟩
theorem zj (hk:p.kind=.order)(gh:cM (C.headsOf p.race))(hp:C.pool b.pool=p){A B:N3}(good:∀s∈b.sets,bJ (C.headsOf p.race) s)(hu:∀x,(∃s∈b.sets,x∈s)↔x∈A∨x∈B)(hf:∀r,(∀x∈r,x∈A∨x∈B)->(C.has b r=(C.isCombo p r&&A.all λx=>r.contains x)))(r:N3) :
  r∈(apartRows (List.replicate p.k (together b.sets)) []).filter (C.has b)↔r.length=p.k/\r.Nodup/\(∀a∈A,a∈r)/\∀x∈r,x∈A∨x∈B:=by
 have inT:∀x,x∈together b.sets↔x∈A∨x∈B:=λx=>by
  rw[←hu];exact⟨λh=>(fV.mp h).2,λ⟨s,hs,hx⟩=>iM gh good hs x hx⟩
 rw[Mo,eX,vj];constructor
 · rintro⟨⟨⟨h1,h2⟩,h3,_⟩,h4⟩;have sub:∀x∈r,x∈A∨x∈B:=λx hx=>(inT x).mp (h2 x hx);rw[hf r sub] at h4;simp only[Ll,LI] at h4;exact⟨h1,h3,λa ha=>by simpa using h4.2 a ha,sub⟩
 · rintro⟨h1,h2,h3,h4⟩;refine⟨⟨⟨h1,λx hx=>(inT x).mpr (h4 x hx)⟩,h2,by simp⟩,?_⟩;rw[hf r h4,uQ hk];simp only[Ll,LI,Lm];exact⟨⟨by simpa using h1,h2,λx hx=>by simpa using iR good x ((inT x).mpr (h4 x hx))⟩,λa ha=>by simpa using h3 a ha⟩
theorem Eb (hk:p.kind=.any)(gh:cM (C.headsOf p.race))(hp:C.pool b.pool=p){A B:N3}(good:∀s∈b.sets,bJ (C.headsOf p.race) s)(hu:∀x,(∃s∈b.sets,x∈s)↔x∈A∨x∈B)(hf:∀r,(∀x∈r,x∈A∨x∈B)->(C.has b r=(C.isCombo p r&&A.all λx=>r.contains x)))(r:N3) :
  r∈(risingRows p.k (together b.sets)).filter (C.has b)↔cG r/\(∀a∈A,a∈r)/\r.length=p.k/\∀x∈r,x∈A∨x∈B:=by
 have inT:∀x,x∈together b.sets↔x∈A∨x∈B:=λx=>by
  rw[←hu];exact⟨λh=>(fV.mp h).2,λ⟨s,hs,hx⟩=>iM gh good hs x hx⟩
 rw[Mo];constructor
 · rintro⟨h1,h4⟩;have hs:=i6 _ _ _ h1;have sub:∀x∈r,x∈A∨x∈B:=λx hx=>(inT x).mp (hs.subset hx);rw[hf r sub] at h4;simp only[Ll,LI] at h4;exact⟨List.Pairwise.sublist hs (df _),λa ha=>by simpa using h4.2 a ha,kW _ _ _ h1,sub⟩
 · rintro⟨h1,h2,h3,h4⟩;refine⟨i_ (fQ (df _) h1 λx hx=>(inT x).mpr (h4 x hx)) h3,?_⟩;rw[hf r h4,sq hk];simp only[Ll,LI,Lm];exact⟨⟨by simpa using h3,(j4 r).mpr h1,λx hx=>by simpa using iR good x ((inT x).mpr (h4 x hx))⟩,λa ha=>by simpa using h2 a ha⟩
theorem y_ (v:yQ C b p)(nl:p.kind≠.legs)(hn:b.how≠.on):∃A B,jO p.kind b.how p.k b.sets=(if p.kind=.any then (bE B A [List.replicate p.k B]).take 1 else bE B A [List.replicate p.k B])/\A.Nodup/\B.Nodup/\(∀x∈B,¬x∈A)/\A.length<=p.k /\
  (∀x,(∃s∈b.sets,x∈s)↔x∈A∨x∈B)/\∀r,(∀x∈r,x∈A∨x∈B)->(C.has b r=(C.isCombo p r&&A.all λx=>r.contains x)):=by
 cases hh:b.how with
 |on=>exact absurd hh hn
 |box =>
  obtain⟨s,hs,hl⟩:=v.box hh;have g:bJ (C.headsOf p.race) s:=v.good nl s (by rw[hs];simp);refine⟨[],s,?_,by simp,g.rise.nodup,by simp,by simp,λx=>by rw[hs];simp,λr hr=>?_⟩
  · rw[hs];unfold jO bE;by_cases e:p.kind=.any <;> simp[e]
  · unfold Card.has;rw[v.pool,hh,hs];have:(r.all λx=>([s].headD []).contains x)=true:=by
     rw[LI];intro x hx;simpa using hr x hx
    simp only[this,List.all_nil]
 |key =>
  obtain⟨s,t,hs,hl,dis,hkl⟩:=v.key hh;have gs:bJ (C.headsOf p.race) s:=v.good nl s (by rw[hs];simp);have gt:bJ (C.headsOf p.race) t:=v.good nl t (by rw[hs];simp);refine⟨s,t,by rw[hs];rfl,gs.rise.nodup,gt.rise.nodup,dis,by omega,λx=>by rw[hs];simp,λr hr=>?_⟩;unfold Card.has;rw[v.pool,hh,hs];have:(r.all λx=>s.contains x||t.contains x)=true:=by
   rw[LI];intro x hx;simpa using hr x hx
  show (C.isCombo p r&&((s.all λx=>r.contains x)&&r.all λx=>s.contains x||t.contains x))=_;rw[this,Bool.and_true]
theorem w9 (hp:C.pool b.pool=p)(hk:p.kind=.order)(hh:b.how≠.on):C.rows b=(apartRows (List.replicate p.k (together b.sets)) []).filter (C.has b):=by
 unfold Card.rows;rw[hp];dsimp only;rw[hk];cases hb:b.how with
 |on=>exact absurd hb hh
 |box=>rfl
 |key=>rfl
theorem zy (v:yQ C b p):(B_ p.kind b.how p.k b.sets).Perm (C.rows b):=by
 have hp:=v.pool;unfold B_ Card.rows;rw[hp];dsimp only;cases hk:p.kind with
 |legs =>
  rw[v.legs hk];show ([b.sets].flatMap rowsOf).Perm _;simp
 |place =>
  obtain⟨h1,h2⟩:=v.place hk;rw[h1]
  match hs:b.sets,h2 with
  |[s],_ =>
   show ([[s]].flatMap rowsOf).Perm (s.map λx=>[x]);simp[rowsOf,←List.map_eq_flatMap]
 |order =>
  have nl:p.kind≠.legs:=by rw[hk];decide
  have gh:=v.heads nl;by_cases hh:b.how=.on
  · rw[hh];show ([b.sets].flatMap λg=>apartRows g []).Perm (apartRows b.sets []);simp
  · have e:=w9 hp hk hh;unfold Card.rows at e;rw[hp] at e;dsimp only at e;rw[hk] at e;rw[e];obtain⟨A,B,e1,nA,nB,dis,_,hu,hf⟩:=y_ v nl hh;rw[hk,Lf (by decide)] at e1;rw[e1];obtain⟨r1,r2⟩:=xk (k:=p.k) nA nB λx hx m=>dis x m hx;refine (NX r1 ((jH λs hs=>?_).filter _)).mpr λr=>(r2 r).trans (zj hk gh hp (v.good nl) hu hf r).symm;rw[Mf hs];exact (df _).nodup
 |any =>
  have nl:p.kind≠.legs:=by rw[hk];decide
  have np:p.kind≠.place:=by rw[hk];decide
  have gh:=v.heads nl;show (bz ((jO .any b.how p.k b.sets).headD [])).Perm ((risingRows p.k (together b.sets)).filter (C.has b));refine (NX (vK _) ((jd _ _ (df _).nodup).filter _)).mpr λr=>?_;by_cases hh:b.how=.on
  · rw[hh];show r∈bz b.sets↔_;rw[Mo,kb];have hlen:=v.on nl np hh;have has_eq:C.has b r=(C.isCombo p r&&fillsSets r b.sets):=by
     unfold Card.has;rw[hp,hh];show (C.isCombo p r&&if p.kind=.any then _ else _)=_;rw[Lg hk]
    rw[has_eq,sq hk];constructor
    · rintro⟨h1,h2⟩;obtain⟨l1,l2⟩:=j5 h2;have inu:∀x∈r,x∈together b.sets:=λx hx=>by
       obtain⟨s,hs,hxs⟩:=l2 x hx;exact iM gh (v.good nl) hs x hxs
      refine⟨i_ (fQ (df _) h1 inu) (by rw[l1,hlen]),?_⟩;simp only[Ll];refine⟨⟨by simp[l1,hlen],(j4 r).mpr h1,?_⟩,h2⟩;rw[LI];intro x hx;simpa using iR (v.good nl) x (inu x hx)
    · rintro⟨h1,h2⟩;simp only[Ll] at h2;exact⟨(j4 r).mp h2.1.2.1,h2.2⟩
  · obtain⟨A,B,e1,nA,nB,dis,hA,hu,hf⟩:=y_ v nl hh;rw[hk,Lg rfl] at e1;obtain⟨q,e2⟩:=k_ (B:=B) (A:=A) (P:=[]) (j:=p.k) (rest:=[]) (λx hx m=>dis x m (by simpa using hx)) hA;rw[MD,L_,L_] at e2;rw[e1,e2];show r∈bz (A.map (λa=>[a])++List.replicate (p.k - A.length) B)↔_;rw[kb,Eb hk gh hp (v.good nl) hu hf r];constructor
    · rintro⟨h1,h2⟩;obtain⟨a1,a2,a3⟩:=(kY nA dis h1.nodup).mp h2;exact⟨h1,a1,by omega,a3⟩
    · rintro⟨h1,a1,a2,a3⟩;exact⟨h1,(kY nA dis h1.nodup).mpr ⟨a1,by omega,a3⟩⟩
theorem jt:∀(g:N2),(rowsOf g).length=product (g.map List.length)
 |[]=>rfl
 |s::g=>by
  have fold:∀(l:N3) (a:Nat),l.foldl (λa b=>a*b) a=a*product l:=by
   intro l
   induction l with
   |nil=>intro a;simp[product]
   |cons x l ih=>intro a;unfold product;rw[MJ,MJ,ih,ih (1*x)];simp[Nat.mul_assoc]
  unfold rowsOf;rw[fG,Lv];show _=(g.map List.length).foldl (λa b=>a*b) (1*s.length);rw[fold,Nat.one_mul,←jt g];simp only[Le];rw[sum_map_const]
theorem sJ (v:yQ C b p):C.manyOf b=countM p.kind b.how p.k b.sets:=by
 unfold countM;rw[(zy v).length_eq];unfold Card.manyOf;rw[v.pool];by_cases h:p.kind=.legs
 · rw[Lg h,←jt];unfold Card.rows;rw[v.pool];dsimp only;rw[h]
 · rw[Lf h]
end
abbrev W:=N3
def isLet (c:Nat):Bool:=decide (97<=c)&&decide (c<=122)
def bX (c:Nat):Bool:=decide (48<=c)&&decide (c<=57)
def tX (c:Nat):Bool:=isLet c||bX c||c==32||c==10||c==44||c==47
def sg (c:Nat):Nat:=if tX c=true then c else 63
def tx (w:Bytes):W:=w.map λc=>sg c.toNat
def cd (s:String):W:=s.toList.map Char.toNat
theorem uv {c d:Nat}(h:tX d=true):sg c=d↔c=d:=by
 unfold sg;by_cases e:tX c=true
 · rw[Lg e]
 · rw[Lf e];constructor
   · intro q;subst q;exact absurd h (by decide)
   · rintro rfl;exact absurd h e
theorem oT (c:Nat):isLet (sg c)=isLet c:=by
 unfold sg;by_cases e:tX c=true
 · rw[Lg e]
 · rw[Lf e];have:isLet c=false:=by
    cases h:isLet c with
    |false=>rfl
    |true=>exact absurd (by unfold tX;rw[h];simp) e
   rw[this];decide
theorem pV (c:Nat):bX (sg c)=bX c:=by
 unfold sg;by_cases e:tX c=true
 · rw[Lg e]
 · rw[Lf e];have:bX c=false:=by
    cases h:bX c with
    |false=>rfl
    |true=>exact absurd (by unfold tX;rw[h];simp) e
   rw[this];decide
theorem zd {c:Nat}(h:bX c=true):sg c=c:=by
 unfold sg tX;rw[h];simp
theorem iq (w:Bytes):(tx w).length=w.length:=by unfold tx;rw[Le]
theorem rm (v w:Bytes):tx (v++w)=tx v++tx w:=by unfold tx;rw[Lx]
theorem A0:tx []=[]:=rfl
theorem tu (c:UInt8)(w:Bytes):tx (c::w)=sg c.toNat::tx w:=rfl
theorem jx {a b:UInt8}(h:a.toNat=b.toNat):a=b:=UInt8.toNat_inj.mp h
theorem qP {v:Bytes}:∀{w:Bytes},(∀c∈v,tX c.toNat=true)->(tx w=v.map UInt8.toNat↔w=v):=by
 induction v with
 |nil =>
  intro w _;cases w with
  |nil=>simp[tx]
  |cons=>simp[tx]
 |cons d v ih =>
  intro w h;cases w with
  |nil=>simp[tx]
  |cons c w =>
   have h1:=h d (by simp);have h2:=ih (w:=w) λc hc=>h c (by simp[hc]);rw[tu,Lv,List.cons.injEq,List.cons.injEq,uv h1,h2];exact and_congr_left' ⟨jx,λe=>e ▸ rfl⟩
def plainT (s:String):Bool:=s.toList.all λc=>tX c.toNat&&decide (c.toNat < 256)
theorem u9 {s:String}(h:plainT s=true):(ascii s).map UInt8.toNat=cd s:=by
 unfold ascii cd;rw[LF];refine L8 λc hc=>?_;have:=(LI.mp h) c hc;rw[Ll] at this;have lt:c.toNat < 256:=Ly this.2;show (UInt8.ofNat c.toNat).toNat=c.toNat;rw[UInt8.toNat_ofNat'];exact Nat.mod_eq_of_lt lt
theorem bp {s:String}(w:Bytes)(h:plainT s=true):tx w=cd s↔w=ascii s:=by
 rw[←u9 h];refine qP λc hc=>?_;unfold ascii at hc;obtain⟨d,hd,rfl⟩:=LM.mp hc;have:=(LI.mp h) d hd;rw[Ll] at this;have lt:d.toNat < 256:=Ly this.2;rw[UInt8.toNat_ofNat',Nat.mod_eq_of_lt lt];exact this.1
def eN (w:W):Bool:=decide (1<=w.length)&&decide (w.length<=12)&&isLet (w.headD 0)&&w.all λc=>isLet c||bX c
theorem j2 (w:Bytes):eN (tx w)=isName w:=by
 unfold eN isName;rw[iq];have e1:((tx w).all λc=>isLet c||bX c)=w.all λc=>isSmall c||isDigit c:=by
  unfold tx;rw[Nl];congr 1;funext c;show (isLet (sg c.toNat)||bX (sg c.toNat))=_;rw[oT,pV];rfl
 rw[e1];cases w with
 |nil=>rfl
 |cons c r =>
  have e2:isLet ((tx (c::r)).headD 0)=(((c::r).head?.map isSmall).getD false):=by
   show isLet (sg c.toNat)=isSmall c;rw[oT];rfl
  rw[e2];unfold NAME;generalize decide (1<=(c::r).length)=a;generalize decide ((c::r).length<=12)=b;generalize ((c::r).head?.map isSmall).getD false=d;generalize ((c::r).all λc=>isSmall c||isDigit c)=f;cases a <;> cases b <;> cases d <;> cases f <;> rfl
def xF (w:W):Nat:=w.foldl (λn c=>10*n+(c - 48)) 0
def ay (w:W):Int :=
 if 7 < w.length∨w=[]∨w.all bX=false then -1 else if w.headD 0=48/\w≠[48] then -1 else (xF w:Int)
theorem yY:∀(w:Bytes) (n m:Nat),m<=n->m*10 ^ w.length<=w.foldl (λ(n:Nat) (c:UInt8)=>10*n+(c.toNat - 48)) n
 |[],n,m,h=>by simpa using h
 |c::w,n,m,h=>by
  have:=yY w (10*n+(c.toNat - 48)) (10*m) (by omega);rw[MJ,Lp,Ni];have e:m*(10 ^ w.length*10)=10*m*10 ^ w.length:=by
   rw[Nw (10 ^ w.length) 10,←Nat.mul_assoc,Nw m 10]
  omega
theorem lX {w:Bytes}{n:Nat}(h:numberOf w=some n)(hl:7 < w.length):10000000<=n:=by
 unfold numberOf at h;split at h
 · cases h
 · rename_i hc;have hc':¬(w.isEmpty=true)/\¬(w.all isDigit=false)/\¬(w.head?=some 48/\w≠[48]):=⟨λz=>hc (.inl z),λz=>hc (.inr (.inl z)),λz=>hc (.inr (.inr z))⟩;injection h with h;subst h
   match w,hl with
   |c::r,hl =>
    have hd:isDigit c=true:=by
     have:(c::r).all isDigit=true:=by simpa using hc'.2.1
     rw[Nq,Ll] at this;exact this.1
    have c0:c≠48:=λe=>hc'.2.2 ⟨by rw[e];rfl,λq=>by rw[q] at hl;simp at hl⟩;unfold isDigit at hd;rw[Ll,MK,MK] at hd;have h1:48<=c.toNat:=hd.1;have h2:c.toNat≠48:=λe=>c0 (jx e);have:=yY r (10*0+(c.toNat - 48)) 1 (by omega);rw[MJ];have p:10 ^ 7<=10 ^ r.length:=Ng (by decide) (by simp at hl;omega);have p7:(10:Nat) ^ 7=10000000:=by decide
    omega
theorem yR:∀(w:Bytes) (n:Nat),w.all isDigit=true->(tx w).foldl (λn c=>10*n+(c - 48)) n=w.foldl (λ(n:Nat) (c:UInt8)=>10*n+(c.toNat - 48)) n
 |[],_,_=>rfl
 |c::w,n,h=>by
  rw[Nq,Ll] at h;have:sg c.toNat=c.toNat:=zd h.1;rw[tu,MJ,MJ,this];exact yR w _ h.2
theorem xA (w:Bytes):(tx w).all bX=w.all isDigit:=by
 unfold tx;rw[Nl];congr 1;funext c;exact pV c.toNat
theorem AK (w:Bytes):ay (tx w)=if 7 < w.length then -1 else match numberOf w with
  |none=>-1
  |some n=>(n:Int):=by
 unfold ay numberOf;rw[iq,xA];by_cases h7:7 < w.length
 · rw[Lg h7,Lg (.inl h7)]
 · rw[Lf h7];by_cases c1:w=[]
   · subst c1;rfl
   · have e1:¬tx w=[]:=λz=>c1 (by
      have:=Ml List.length z;rw[iq] at this;exact M5.mp this)
     have e1':¬w.isEmpty=true:=λz=>c1 (MQ.mp z);by_cases c2:w.all isDigit=false
     · rw[Lg (.inr (.inr c2)),Lg (.inr (.inl c2))]
     · rw[Lf (λz=>z.elim h7 λz=>z.elim e1 c2)];have c2':w.all isDigit=true:=by simpa using c2
       have k:((tx w).headD 0=48/\tx w≠[48])↔(w.head?=some 48/\w≠[48]):=by
        have a:tx w=[48]↔w=[48]:=qP (v:=[48]) (w:=w) (by decide)
        match w,c1 with
        |c::r,_ =>
         have b:(tx (c::r)).headD 0=48↔(c::r).head?=some 48:=by
          show sg c.toNat=48↔some c=some 48;rw[uv (by decide)];constructor
          · intro e;rw[jx (show c.toNat=(48:UInt8).toNat from e)]
          · intro e;injection e with e;rw[e];rfl
         rw[b];exact and_congr_right λ_=>not_congr a
       by_cases c3:w.head?=some 48/\w≠[48]
       · rw[Lg (k.mpr c3),Lg (.inr (.inr c3))]
       · rw[Lf (λz=>c3 (k.mp z)),Lf (λz=>z.elim e1' λz=>z.elim c2 c3)];show ((xF (tx w):Nat):Int)=_;unfold xF;rw[yR w 0 c2']
theorem eY {w:Bytes}{lo hi:Nat}(hh:hi < 10000000):((lo:Int)<=ay (tx w)/\ay (tx w)<=(hi:Int))↔∃n,numberOf w=some n/\lo<=n/\n<=hi/\ay (tx w)=(n:Int):=by
 rw[AK];by_cases h7:7 < w.length
 · rw[Lg h7];constructor
   · rintro⟨a,_⟩;omega
   · rintro⟨n,e,_,b,_⟩;have:=lX e h7;omega
 · rw[Lf h7];cases e:numberOf w with
   |none =>
    constructor
    · rintro⟨a,_⟩;have a':(lo:Int)<=-1:=a;omega
    · rintro⟨n,e,_⟩;cases e
   |some n =>
    constructor
    · rintro⟨a,b⟩;have a':(lo:Int)<=n:=a;have b':(n:Int)<=hi:=b;exact⟨n,rfl,by omega,by omega,rfl⟩
    · rintro⟨m,e,a,b,_⟩;injection e with e;subst e;show (lo:Int)<=n/\(n:Int)<=hi;omega
theorem dW {w:Bytes}{m:Nat}(hm:m < 10000000):ay (tx w)=(m:Int)↔numberOf w=some m:=by
 constructor
 · intro e;obtain⟨n,h1,h2,h3,_⟩:=(eY (w:=w) (lo:=m) (hi:=m) hm).mp ⟨by omega,by omega⟩;have:n=m:=by omega
   subst this;exact h1
 · intro e;obtain⟨a,b⟩:=(eY (w:=w) (lo:=m) (hi:=m) hm).mpr ⟨m,e,Ln _,Ln _,by
    rw[AK];by_cases h7:7 < w.length
    · have:=lX e h7;omega
    · rw[Lf h7,e]⟩
   omega
def a6 (c:Nat):W->W->List W
 |w,[]=>[w]
 |w,x::r=>if x=c then w::a6 c [] r else a6 c (w++[x]) r
theorem iD {c:UInt8}(hc:tX c.toNat=true):∀(l w:Bytes),a6 c.toNat (tx w) (tx l)=(splitOn c w l).map tx
 |[],w=>rfl
 |x::r,w=>by
  rw[tu];unfold a6 splitOn;by_cases e:x=c
  · rw[Lg ((uv hc).mpr (by rw[e])),Lg e,Lv];have:=iD hc r [];rw[A0] at this;rw[this]
  · rw[Lf (λz=>e (jx ((uv hc).mp z))),Lf e];have:=iD hc r (w++[x]);rw[rm] at this;exact this
def Placed:Nat->List Word->Prop
 |_,[]=>True
 |p,w::r=>w.at_=p/\Placed (p+w.w.length+1) r
theorem words_of:∀(l w:Bytes) (p q:Nat),w.length<=p->badByte w.isEmpty q l=none->(wordsFrom p w l).map (·.w)=splitOn 32 w l/\Placed (p - w.length) (wordsFrom p w l)
 |[],w,p,q,hl,h=>by
  unfold badByte at h;by_cases e:w.isEmpty=true
  · rw[Lg e] at h;cases h
  · unfold wordsFrom;rw[Lf e];exact⟨rfl,rfl,trivial⟩
 |c::r,w,p,q,hl,h=>by
  unfold badByte at h;by_cases c1:c < 32∨126 < c
  · rw[Lg c1] at h;cases h
  · rw[Lf c1] at h;unfold wordsFrom splitOn;by_cases c2:c=32
    · rw[Lg c2] at h;by_cases e:w.isEmpty=true
      · rw[Lg e] at h;cases h
      · rw[Lf e] at h;by_cases e2:r.isEmpty=true
        · rw[Lg e2] at h;cases h
        · rw[Lf e2] at h;obtain⟨a,b⟩:=words_of r [] (p+1) (q+1) (LJ _) h;rw[Lg c2,Lg c2,Lv,a];refine⟨rfl,rfl,?_⟩;have:p - w.length+w.length+1=p+1 - ([]:Bytes).length:=by simp;omega
          show Placed (p - w.length+w.length+1) _;rw[this];exact b
    · rw[Lf c2] at h;have e:(w++[c]).isEmpty=false:=by simp
      rw[←e] at h;obtain⟨a,b⟩:=words_of r (w++[c]) (p+1) (q+1) (by simp;omega) h;rw[Lf c2,Lf c2,a];refine⟨rfl,?_⟩;have:p - w.length=p+1 - (w++[c]).length:=by rw[LA,Ms];omega
      rw[this];exact b
def AR (w:Bytes):Prop:=w≠[]/\∀c∈w,32 < c/\c<=126
theorem xM:∀(l w:Bytes) (q:Nat),(∀v∈splitOn 32 w l,AR v)->(∀c∈w,32 < c/\c<=126)->badByte w.isEmpty q l=none
 |[],w,q,h,_=>by
  have:=h w (by simp[splitOn]);unfold badByte;rw[Lf (λz=>this.1 (MQ.mp z))]
 |c::r,w,q,h,hw=>by
  unfold splitOn at h;unfold badByte;by_cases c2:c=32
  · rw[Lg c2] at h;have pw:=h w (by simp);have e:¬w.isEmpty=true:=λz=>pw.1 (MQ.mp z);rw[Lf (by rw[c2];decide),Lg c2,Lf e];have hr:¬r.isEmpty=true:=λz=>by
     have:r=[]:=MQ.mp z;subst this;have:=h [] (by simp[splitOn]);exact this.1 rfl
    rw[Lf hr];exact xM r [] (q+1) (λv hv=>h v (by simp[hv])) (by simp)
  · rw[Lf c2] at h;have hc:32 < c/\c<=126:=by
     have first:∀(l w:Bytes),∃v∈splitOn 32 w l,∃t,v=w++t:=λl=>by
      induction l with
      |nil=>exact λw=>⟨w,by simp[splitOn],[],by simp⟩
      |cons d l ih =>
       intro w;unfold splitOn;by_cases e:d=32
       · rw[Lg e];exact⟨w,by simp,[],by simp⟩
       · rw[Lf e];obtain⟨v,hv,t,rfl⟩:=ih (w++[d]);exact⟨_,hv,d::t,by simp⟩
     obtain⟨v,hv,t,e⟩:=first r (w++[c])
     exact (h v hv).2 c (by rw[e];simp)
    have n1:¬(c < 32∨126 < c):=by
     rintro (z|z)
     · exact absurd (Nat.lt_trans (show c.toNat < 32 from z) (show 32 < c.toNat from hc.1)) (Mz _)
     · exact absurd (LV (show 126 < c.toNat from z) (show c.toNat<=126 from hc.2)) (Mz _)
    rw[Lf n1,Lf c2];have e:(w++[c]).isEmpty=false:=by simp
    rw[←e];exact xM r (w++[c]) (q+1) h λd hd=>by
     rcases L4.mp hd with z|z
     · exact hw d z
     · have:d=c:=by simpa using z
       exact this ▸ hc
theorem aG {ε α β:Type}{x:Except ε α}{f:α->Except ε β}{y:β}:(x >>= f)=.ok y↔∃a,x=.ok a/\f a=.ok y:=by
 cases x with
 |error e=>exact⟨λh=>(nomatch h),λ⟨_,h,_⟩=>(nomatch h)⟩
 |ok a=>exact⟨λh=>⟨a,rfl,h⟩,λ⟨_,h,k⟩=>by cases h;exact k⟩
theorem ow {e:Nat}{l:List Word}{x:Word×List Word}:next e l=.ok x↔l=x.1::x.2:=by
 cases l with
 |nil=>exact⟨λh=>(nomatch h),λh=>(nomatch h)⟩
 |cons w r =>
  constructor
  · intro h;injection h with h;rw[←h]
  · intro h;injection h with h1 h2;subst h1;subst h2;rfl
theorem cS {e:Nat}{s:String}{l r:List Word}:must e s l=.ok r↔∃w,l=w::r/\w.w=ascii s:=by
 unfold must;rw[aG];constructor
 · rintro⟨x,h,k⟩;have h:=ow.mp h;split at k
   · rename_i c;injection k with k;exact⟨x.1,by rw[h,k],c⟩
   · cases k
 · rintro⟨w,rfl,c⟩;exact⟨(w,r),rfl,by rw[Lg c];rfl⟩
theorem bx {e lo hi:Nat}{l:List Word}{x:(Nat×Nat)×List Word}:number e lo hi l=.ok x↔∃w,l=w::x.2/\numberOf w.w=some x.1.1/\lo<=x.1.1/\x.1.1<=hi/\x.1.2=w.at_:=by
 unfold number;rw[aG];constructor
 · rintro⟨y,h,k⟩;have h:=ow.mp h;cases c:numberOf y.1.w with
   |none=>rw[c] at k;cases k
   |some n =>
    rw[c] at k;dsimp only at k;split at k
    · cases k
    · rename_i b;injection k with k;subst k;exact⟨y.1,h,c,by dsimp only;omega,by dsimp only;omega,rfl⟩
 · rintro⟨w,rfl,c,h1,h2,h3⟩;refine⟨(w,x.2),rfl,?_⟩;dsimp only;rw[c];dsimp only;rw[Lf (by omega)];show Except.ok ((x.1.1,w.at_),x.2)=Except.ok x;rw[←h3]
theorem dM {b:Bool}{k p:Nat}{u:Unit}:holds b k p=.ok u↔b=true:=by
 unfold holds;by_cases c:b=true
 · rw[Lg c];exact⟨λ_=>c,λ_=>rfl⟩
 · rw[Lf c];exact⟨λh=>(nomatch h),λh=>absurd h c⟩
theorem jV {l:List Word}{u:Unit}:closed l=.ok u↔l=[]:=by
 cases l with
 |nil=>exact⟨λ_=>rfl,λ_=>rfl⟩
 |cons=>exact⟨λh=>(nomatch h),λh=>(nomatch h)⟩
theorem i9 {e:Nat}{had:List Bytes}{l:List Word}{x:Bytes×List Word}:newName e had l=.ok x↔∃w,l=w::x.2/\isName w.w=true/\had.contains w.w=false/\x.1=w.w:=by
 unfold newName;rw[aG];constructor
 · rintro⟨y,h,k⟩;have h:=ow.mp h;split at k
   · cases k
   · rename_i c1;split at k
     · cases k
     · rename_i c2;injection k with k;subst k;exact⟨y.1,h,by simpa using c1,by simpa using c2,rfl⟩
 · rintro⟨w,rfl,c1,c2,c3⟩;refine⟨(w,x.2),rfl,?_⟩;dsimp only;rw[Lf (by rw[c1];decide),Lf (by rw[c2];decide),←c3];rfl
theorem mn {α:Type}{e:Nat}{t:List (α×String)}{l:List Word}{x:(α×Nat)×List Word} :
  oneOf e t l=.ok x↔∃w y,l=w::x.2/\(t.find? λ(y:α×String)=>ascii y.2==w.w)=some y/\x.1=(y.1,w.at_):=by
 unfold oneOf;rw[aG];constructor
 · rintro⟨y,h,k⟩;have h:=ow.mp h;cases c:(t.find? λ(z:α×String)=>ascii z.2==y.1.w) with
   |none=>rw[c] at k;cases k
   |some z =>
    rw[c] at k;injection k with k;subst k;exact⟨y.1,z,h,c,rfl⟩
 · rintro⟨w,y,rfl,c,h3⟩;refine⟨(w,x.2),rfl,?_⟩;dsimp only;rw[c];show Except.ok ((y.1,w.at_),x.2)=Except.ok x;rw[←h3]
def di (runners:Nat):List W->N3->N3->Option (N3)
 |[],_,ss=>some ss
 |c::a::b::r,fs,ss =>
  if c=cd "couple"/\1<=ay a/\ay a < ay b/\ay b<=(runners:Int)/\¬(ay a).toNat∈ss/\¬(ay b).toNat∈fs/\¬(ay b).toNat∈ss
  then di runners r (fs++[(ay a).toNat]) (ss++[(ay b).toNat]) else none
 |_,_,_=>none
def dv (runners:Nat)(ss:N3):N3:=((List.range runners).map λi=>i+1).filter λn=>!ss.contains n
def bC (ws:List W):Option (N3) :=
 match ws with
 |_::n::r=>if r.length % 3=0/\r.length<=24/\2<=ay n/\ay n<=24 then (di (ay n).toNat r [] []).map (dv (ay n).toNat) else none
 |_=>none
structure As (had:List (Nat×Nat))(fs ss:N3):Prop where
 f:∀x,(∃y,(x,y)∈had)↔x∈fs
 s:∀y,(∃x,(x,y)∈had)↔y∈ss
 lt:∀x y,(x,y)∈had->x < y
theorem fD {c x:Nat×Nat}:∀{l:List (Nat×Nat)},x∈putB c l↔x=c∨x∈l
 |[]=>by simp[putB]
 |y::l=>by
  unfold putB;by_cases h:c.2 < y.2
  · rw[Lg h];simp
  · rw[Lf h,Li,fD (l:=l),Li];constructor
    · rintro (h|h|h) <;> simp[h]
    · rintro (h|h|h) <;> simp[h]
theorem As.put {had:List (Nat×Nat)}{fs ss:N3}(h:As had fs ss){a b:Nat}(lt:a < b):As (putB (a,b) had) (fs++[a]) (ss++[b]) where
 f:=λx=>by
  rw[L4,←h.f x];constructor
  · rintro⟨y,hy⟩;rcases fD.mp hy with e|e
    · injection e with e1 e2;subst e1;exact .inr (by simp)
    · exact .inl ⟨y,e⟩
  · rintro (⟨y,hy⟩|e)
    · exact⟨y,fD.mpr (.inr hy)⟩
    · have:x=a:=by simpa using e
      subst this;exact⟨b,fD.mpr (.inl rfl)⟩
 s:=λy=>by
  rw[L4,←h.s y];constructor
  · rintro⟨x,hx⟩;rcases fD.mp hx with e|e
    · injection e with e1 e2;subst e2;exact .inr (by simp)
    · exact .inl ⟨x,e⟩
  · rintro (⟨x,hx⟩|e)
    · exact⟨x,fD.mpr (.inr hx)⟩
    · have:y=b:=by simpa using e
      subst this;exact⟨a,fD.mpr (.inl rfl)⟩
 lt:=λx y hxy=>by
  rcases fD.mp hxy with e|e
  · injection e with e1 e2;subst e1;subst e2;exact lt
  · exact h.lt x y e
theorem As.IP {had:List (Nat×Nat)}{fs ss:N3}(h:As had fs ss)(a:Nat):(had.any λx=>x.2==a)=true↔a∈ss:=by
 rw[MR,←h.s a];constructor
 · rintro⟨⟨x,y⟩,hx,e⟩;have:y=a:=by simpa using e
   subst this;exact⟨x,hx⟩
 · rintro⟨x,hx⟩;exact⟨(x,a),hx,by simp⟩
theorem As.Jg {had:List (Nat×Nat)}{fs ss:N3}(h:As had fs ss)(b:Nat):(had.any λx=>x.1==b||x.2==b)=true↔b∈fs∨b∈ss:=by
 rw[MR,←h.s b,←h.f b];constructor
 · rintro⟨⟨x,y⟩,hx,e⟩;have:x=b∨y=b:=by simpa using e
   rcases this with rfl|rfl
   · exact .inl ⟨y,hx⟩
   · exact .inr ⟨x,hx⟩
 · rintro (⟨y,hx⟩|⟨x,hx⟩)
   · exact⟨(b,y),hx,by simp⟩
   · exact⟨(x,b),hx,by simp⟩
def og (l:List Word):List W:=l.map λw=>tx w.w
theorem ni {e runners k:Nat}{had had':List (Nat×Nat)}{l:List Word}:l≠[]->(couplesIn e runners (k+1) had l=.ok had' ↔
  ∃c a b r na nb,l=c::a::b::r/\c.w=ascii "couple"/\numberOf a.w=some na/\1<=na/\na<=runners/\(had.any λx=>x.2==na)=false /\
   numberOf b.w=some nb/\1<=nb/\nb<=runners/\na < nb/\(had.any λx=>x.1==nb||x.2==nb)=false/\couplesIn e runners k (putB (na,nb) had) r=.ok had'):=by
 intro hl;have he:¬l.isEmpty=true:=λz=>hl (MQ.mp z);have step:couplesIn e runners (k+1) had l=(do
  let m ←must e "couple" l
  let a ←number e 1 runners m
  let _ ←holds (!(had.any λ(x:Nat×Nat)=>x.2==a.1.1)) 4 a.1.2
  let b ←number e 1 runners a.2
  let _ ←holds (decide (a.1.1 < b.1.1)&&!(had.any λ(x:Nat×Nat)=>x.1==b.1.1||x.2==b.1.1)) 4 b.1.2
  couplesIn e runners k (putB (a.1.1,b.1.1) had) b.2):=Lf he
 rw[step,aG];constructor
 · rintro⟨m,hm,h0⟩;obtain⟨c,hc0,hc⟩:=cS.mp hm;obtain⟨a,ha,h1⟩:=aG.mp h0;obtain⟨wa,ha0,a1,a2,a3,a4⟩:=bx.mp ha;obtain⟨_,g1,h2⟩:=aG.mp h1;have g1:=dM.mp g1;obtain⟨b,hb,h3⟩:=aG.mp h2;obtain⟨wb,hb0,b1,b2,b3,b4⟩:=bx.mp hb;obtain⟨_,g2,h4⟩:=aG.mp h3;have g2:=dM.mp g2;rw[Ll,MK] at g2;exact⟨c,wa,wb,b.2,a.1.1,b.1.1,by rw[hc0,ha0,hb0],hc,a1,a2,a3,by simpa using g1,b1,b2,b3,g2.1,by simpa using g2.2,h4⟩
 · rintro⟨c,a,b,r,na,nb,rfl,hc,a1,a2,a3,a4,b1,b2,b3,b4,b5,h⟩;refine⟨_,cS.mpr ⟨c,rfl,hc⟩,?_⟩;refine aG.mpr ⟨((na,a.at_),b::r),bx.mpr ⟨a,rfl,a1,a2,a3,rfl⟩,?_⟩;refine aG.mpr ⟨(),dM.mpr (by rw[a4];rfl),?_⟩;refine aG.mpr ⟨((nb,b.at_),r),bx.mpr ⟨b,rfl,b1,b2,b3,rfl⟩,?_⟩;exact aG.mpr ⟨(),dM.mpr (by rw[b5,LU b4];rfl),h⟩
theorem fB {e runners:Nat}(hr:runners<=24):∀(k:Nat) (had:List (Nat×Nat)) (fs ss:N3) (l:List Word),As had fs ss ->
  (∀had',couplesIn e runners k had l=.ok had'->l.length<=3*k/\∃fs' ss',di runners (og l) fs ss=some ss'/\As had' fs' ss') /\
  (∀ss',l.length<=3*k->di runners (og l) fs ss=some ss'->∃had',couplesIn e runners k had l=.ok had')
 |0,had,fs,ss,l,hd=>by
  cases l with
  |nil=>exact⟨λhad' h=>by injection h with h;subst h;exact⟨Ln _,fs,ss,rfl,hd⟩,λ_ _ _=>⟨had,rfl⟩⟩
  |cons w r =>
   constructor
   · intro had' h;have h:(if w.w=ascii "couple" then Except.error ⟨6,w.at_⟩ else Except.error ⟨3,w.at_⟩:Except Fault (List (Nat×Nat)))=.ok had':=h;by_cases c:w.w=ascii "couple"
     · rw[Lg c] at h;cases h
     · rw[Lf c] at h;cases h
   · intro _ h;simp at h
 |k+1,had,fs,ss,[],hd=>⟨λhad' h=>by
   have h:Except.ok had=Except.ok had':=h;injection h with h;subst h;exact⟨LJ _,fs,ss,rfl,hd⟩,λ_ _ _=>⟨had,rfl⟩⟩
 |k+1,had,fs,ss,w::l,hd=>by
  constructor
  · intro had' h;obtain⟨c,a,b,r,na,nb,el,hc,a1,a2,a3,a4,b1,b2,b3,b4,b5,h⟩:=(ni (by simp)).mp h;have hd2:=hd.put b4;obtain⟨hl,fs',ss',h1,h2⟩:=(fB hr k _ _ _ r hd2).1 had' h;rw[el];refine⟨by simp only[Lp];omega,fs',ss',?_,h2⟩;show di runners (tx c.w::tx a.w::tx b.w::og r) fs ss=_;have ea:ay (tx a.w)=(na:Int):=(dW (by omega)).mpr a1;have eb:ay (tx b.w)=(nb:Int):=(dW (by omega)).mpr b1;unfold di;rw[ea,eb,LZ,LZ];have n1:¬na∈ss:=λz=>by rw[(hd.IP na).mpr z] at a4;cases a4
    have n2:¬(nb∈fs∨nb∈ss):=λz=>by rw[(hd.Jg nb).mpr z] at b5;cases b5
    rw[Lg ⟨(bp _ (by decide)).mpr hc,by omega,by omega,by omega,n1,λz=>n2 (.inl z),λz=>n2 (.inr z)⟩];exact h1
  · intro ss' hl h
    match l,hl,h with
    |[],_,h=>cases h
    |[_],_,h=>cases h
    |a::b::r,hl,h =>
     have h:di runners (tx w.w::tx a.w::tx b.w::og r) fs ss=some ss':=h;unfold di at h;split at h
     · rename_i q;obtain⟨q1,q2,q3,q4,q5,q6,q7⟩:=q;obtain⟨na,a1,a2,a3,a4⟩:=(eY (w:=a.w) (lo:=1) (hi:=24) (by decide)).mp ⟨q2,by omega⟩;obtain⟨nb,b1,b2,b3,b4⟩:=(eY (w:=b.w) (lo:=1) (hi:=24) (by decide)).mp ⟨by omega,by omega⟩;rw[a4,b4,LZ,LZ] at h;rw[a4,LZ] at q5;rw[b4,LZ] at q6 q7;have lt:na < nb:=by omega
       obtain⟨had',h'⟩:=(fB hr k _ _ _ r (hd.put lt)).2 ss' (by simp only[Lp] at hl;omega) h;refine⟨had',(ni (by simp)).mpr ⟨w,a,b,r,na,nb,rfl,(bp _ (by decide)).mp q1,a1,a2,by omega,?_,b1,b2,by omega,lt,?_,h'⟩⟩
       · cases c:(had.any λx=>x.2==na) with
         |false=>rfl
         |true=>exact absurd ((hd.IP na).mp c) q5
       · cases c:(had.any λx=>x.1==nb||x.2==nb) with
         |false=>rfl
         |true=>exact absurd ((hd.Jg nb).mp c) λz=>z.elim q6 q7
     · cases h
theorem uR:∀{runners:Nat} (l:List W) (fs ss ss':N3),di runners l fs ss=some ss'->l.length % 3=0
 |_,[],_,_,_,_=>rfl
 |_,[_],_,_,_,h=>by cases h
 |_,[_,_],_,_,_,h=>by cases h
 |runners,c::a::b::r,fs,ss,ss',h=>by
  unfold di at h;split at h
  · have:=uR r _ _ _ h;simp only[Lp];omega
  · cases h
theorem uF {n:Nat}{had:List (Nat×Nat)}{fs ss:N3}(hd:As had fs ss):Race.heads ⟨n,had⟩=dv n ss:=by
 unfold Race.heads dv;refine List.filter_congr λx _=>?_;unfold Race.head;cases c:had.find? (λc=>c.2==x) with
 |none =>
  have:¬x∈ss:=λz=>by
   obtain⟨y,hy⟩:=(hd.s x).mpr z;have:=List.find?_eq_none.mp c (y,x) hy;simp at this
  simp[this]
 |some z =>
  obtain⟨a,b⟩:=z;have h1:=List.mem_of_find?_eq_some c;have h2:=List.find?_some c;have h2:b=x:=by simpa using h2
  subst h2;have:=hd.lt a b h1;have hb:b∈ss:=(hd.s b).mp ⟨a,h1⟩;have e1:(a==b)=false:=by
   rw[LK];omega
  simp[hb,e1]
theorem vB {e:Nat}{w:Word}{l:List Word}:(∀r,raceIn e l=.ok r->bC (og (w::l))=some r.heads)/\(∀hs,bC (og (w::l))=some hs->∃r,raceIn e l=.ok r/\r.heads=hs):=by
 have nil:As [] [] []:=⟨by simp,by simp,by simp⟩;constructor
 · intro r h;unfold raceIn at h;obtain⟨n,hn,h0⟩:=aG.mp h;obtain⟨wn,hl0,a1,a2,a3,a4⟩:=bx.mp hn;obtain⟨c,hc,h1⟩:=aG.mp h0;injection h1 with h1;subst h1;rw[hl0];have a3:n.1.1<=24:=a3;obtain⟨hl,fs',ss',h1,h2⟩:=(fB a3 8 [] [] [] n.2 nil).1 c hc;have en:ay (tx wn.w)=(n.1.1:Int):=(dW (by omega)).mpr a1;show bC (tx w.w::tx wn.w::og n.2)=_;unfold bC;dsimp only;rw[en,LZ,h1];have:=uR _ _ _ _ h1;have len:(og n.2).length=n.2.length:=Le ..;rw[Lg ⟨this,by omega,by omega,by omega⟩,uF h2];rfl
 · intro hs h
   match l,h with
   |wn::l,h =>
    have h:bC (tx w.w::tx wn.w::og l)=some hs:=h;unfold bC at h;dsimp only at h;split at h
    · rename_i q;obtain⟨q1,q2,q3,q4⟩:=q;obtain⟨n,a1,a2,a3,a4⟩:=(eY (w:=wn.w) (lo:=2) (hi:=24) (by decide)).mp ⟨q3,q4⟩;rw[a4,LZ] at h;cases c:di n (og l) [] [] with
      |none=>rw[c] at h;cases h
      |some ss =>
       rw[c] at h;injection h with h;have len:(og l).length=l.length:=Le ..;obtain⟨had,hh⟩:=(fB (e:=e) (runners:=n) a3 8 [] [] [] l nil).2 ss (by omega) c;obtain⟨_,fs',ss',h1,h2⟩:=(fB (e:=e) (runners:=n) a3 8 [] [] [] l nil).1 had hh;rw[c] at h1;injection h1 with h1;subst h1;refine⟨⟨n,had⟩,?_,by rw[uF h2];exact h⟩;unfold raceIn;refine aG.mpr ⟨((n,wn.at_),l),bx.mpr ⟨wn,rfl,a1,a2,a3,rfl⟩,?_⟩;exact aG.mpr ⟨had,hh,rfl⟩
    · cases h
theorem qp {n:Nat}(hn:n<=24)(ss:N3):cM (dv n ss) where
 rise:=by
  refine List.Pairwise.filter _ (List.Pairwise.map _ (λa b (h:a < b)=>?_) List.pairwise_lt_range);show a+1 < b+1;omega
 lo:=λx hx=>by
  obtain⟨h,_⟩:=Mo.mp hx;obtain⟨i,_,rfl⟩:=LM.mp h;omega
 hi:=λx hx=>by
  obtain⟨h,_⟩:=Mo.mp hx;obtain⟨i,hi,rfl⟩:=LM.mp h;have:=M3.mp hi;omega
theorem zP {ws:List W}{hs:N3}(h:bC ws=some hs):cM hs:=by
 unfold bC at h;split at h
 · rename_i w0 n r;split at h
   · rename_i q;cases c:di (ay n).toNat r [] [] with
     |none=>rw[c] at h;cases h
     |some ss =>
      rw[c] at h;injection h with h;subst h;exact qp (by omega) _
   · cases h
 · cases h
structure aO where
 name:W
 kind:Kind
 fields:N2
 unit:Nat
def kindS:Kind->String
 |.place=>"place"
 |.order=>"order"
 |.any=>"any"
 |.legs=>"legs"
def dD (w:W):Option Kind :=
 if w=cd "place" then some .place else if w=cd "order" then some .order else if w=cd "any" then some .any else if w=cd "legs" then some .legs else none
def fq (kind:Kind)(k rc:Nat)(races:N2):N2 :=
 match kind with
 |.legs=>(races.drop (rc - 1)).take k
 |.place=>[races.getD (rc - 1) []]
 |_=>List.replicate k (races.getD (rc - 1) [])
def dw (races:N2)(kind:Kind)(p nm k fr rc tk t br b le m un u no z:W):Prop :=
 p=cd "pool"/\fr=cd "from"/\tk=cd "take"/\br=cd "break"/\le=cd "least"/\un=cd "unit"/\no=cd "none"/\eN nm=true /\
 (0<=ay t/\ay t<=400)/\(1<=ay b/\ay b<=1000)/\(1<=ay u/\ay u<=10000)/\(ay m=0∨(ay u<=ay m/\ay m<=2*ay u)) /\
 ((z=cd "fewer"/\kind≠.place)∨z=cd "refund"∨z=cd "carry")/\((leastK kind:Int)<=ay k/\ay k<=(mostK kind:Int))/\(1<=ay rc/\ay rc<=(races.length:Int)) /\
 ((kind=.legs/\ay rc+ay k - 1<=(races.length:Int))∨(kind≠.legs/\ay k<=((races.getD (ay rc - 1).toNat []).length:Int)))
instance (races:N2)(kind:Kind)(p nm k fr rc tk t br b le m un u no z:W):Decidable (dw races kind p nm k fr rc tk t br b le m un u no z):=by
 unfold dw;infer_instance
def eU (ws:List W)(races:N2):Option aO :=
 match ws with
 |[p,nm,kd,k,fr,rc,tk,t,br,b,le,m,un,u,no,z] =>
  match dD kd with
  |none=>none
  |some kind=>if dw races kind p nm k fr rc tk t br b le m un u no z then some ⟨nm,kind,fq kind (ay k).toNat (ay rc).toNat races,(ay u).toNat⟩ else none
 |_=>none
def fieldsOf (C:Card)(p:Pool):N2:=if p.kind=.legs then C.sets p else List.replicate p.places (C.headsOf p.race)
def aB (C:Card)(p:Pool):aO:=⟨tx p.name,p.kind,fieldsOf C p,p.unit⟩
def rh (C:Card):N2:=C.races.map Race.heads
structure dU (C:Card)(p:Pool):Prop where
 name:isName p.name=true
 Ja:leastK p.kind<=p.k
 Gs:p.k<=mostK p.kind
 Ex:1<=p.race
 J5:p.race<=C.races.length
 legs:p.kind=.legs->p.race+p.k<=C.races.length+1
 vR:p.kind≠.legs->p.k<=(C.headsOf p.race).length
 unit:1<=p.unit
 Lc:p.unit<=10000
theorem pJ {w:Bytes}{y:Kind×String}:(KINDS.find? λ(x:Kind×String)=>ascii x.2==w)=some y↔dD (tx w)=some y.1/\y.2=kindS y.1:=by
 have a1:=bp (s:="place") w (by decide);have a2:=bp (s:="order") w (by decide);have a3:=bp (s:="any") w (by decide);have a4:=bp (s:="legs") w (by decide);unfold dD KINDS;obtain⟨yk,ys⟩:=y;simp only[MS,List.find?_nil];by_cases c1:w=ascii "place"
 · have:(ascii "place"==w)=true:=by rw[c1];simp
   rw[this,Lg (a1.mpr c1)];constructor
   · intro h;injection h with h;injection h with h1 h2;subst h1;subst h2;exact⟨rfl,rfl⟩
   · rintro⟨h1,h2⟩;injection h1 with h1;have h1:Kind.place=yk:=h1;subst h1;have h2:ys="place":=h2;subst h2;rfl
 · have e1:(ascii "place"==w)=false:=by rw[LK];exact λz=>c1 z.symm
   rw[e1,Lf (λz=>c1 (a1.mp z))];by_cases c2:w=ascii "order"
   · have:(ascii "order"==w)=true:=by rw[c2];simp
     rw[this,Lg (a2.mpr c2)];constructor
     · intro h;injection h with h;injection h with h1 h2;subst h1;subst h2;exact⟨rfl,rfl⟩
     · rintro⟨h1,h2⟩;injection h1 with h1;have h1:Kind.order=yk:=h1;subst h1;have h2:ys="order":=h2;subst h2;rfl
   · have e2:(ascii "order"==w)=false:=by rw[LK];exact λz=>c2 z.symm
     rw[e2,Lf (λz=>c2 (a2.mp z))];by_cases c3:w=ascii "any"
     · have:(ascii "any"==w)=true:=by rw[c3];simp
       rw[this,Lg (a3.mpr c3)];constructor
       · intro h;injection h with h;injection h with h1 h2;subst h1;subst h2;exact⟨rfl,rfl⟩
       · rintro⟨h1,h2⟩;injection h1 with h1;have h1:Kind.any=yk:=h1;subst h1;have h2:ys="any":=h2;subst h2;rfl
     · have e3:(ascii "any"==w)=false:=by rw[LK];exact λz=>c3 z.symm
       rw[e3,Lf (λz=>c3 (a3.mp z))];by_cases c4:w=ascii "legs"
       · have:(ascii "legs"==w)=true:=by rw[c4];simp
         rw[this,Lg (a4.mpr c4)];constructor
         · intro h;injection h with h;injection h with h1 h2;subst h1;subst h2;exact⟨rfl,rfl⟩
         · rintro⟨h1,h2⟩;injection h1 with h1;have h1:Kind.legs=yk:=h1;subst h1;have h2:ys="legs":=h2;subst h2;rfl
       · have e4:(ascii "legs"==w)=false:=by rw[LK];exact λz=>c4 z.symm
         rw[e4,Lf (λz=>c4 (a4.mp z))];exact⟨λh=>(nomatch h),λh=>(nomatch h.1)⟩
theorem pO {w:Bytes}{kind:Kind}:(∃y,((if kind=.place then NONES.take 2 else NONES).find? λ(x:None_×String)=>ascii x.2==w)=some y) ↔
  ((tx w=cd "fewer"/\kind≠.place)∨tx w=cd "refund"∨tx w=cd "carry"):=by
 have a1:=bp (s:="fewer") w (by decide);have a2:=bp (s:="refund") w (by decide);have a3:=bp (s:="carry") w (by decide);rw[a1,a2,a3,←Np,List.find?_isSome];constructor
 · rintro⟨x,hx,e⟩;have e:ascii x.2=w:=by simpa using e
   by_cases c:kind=.place
   · rw[Lg c] at hx;have hx:x=(.refund,"refund")∨x=(.carry,"carry"):=by simpa [NONES] using hx
     rcases hx with rfl|rfl
     · exact .inr (.inl e.symm)
     · exact .inr (.inr e.symm)
   · rw[Lf c] at hx;have hx:x=(.refund,"refund")∨x=(.carry,"carry")∨x=(.fewer,"fewer"):=by simpa [NONES] using hx
     rcases hx with rfl|rfl|rfl
     · exact .inr (.inl e.symm)
     · exact .inr (.inr e.symm)
     · exact .inl ⟨e.symm,c⟩
 · rintro (⟨e,c⟩|e|e)
   · exact⟨(.fewer,"fewer"),by rw[Lf c];simp[NONES],by simp[e]⟩
   · refine⟨(.refund,"refund"),?_,by simp[e]⟩;split <;> simp[NONES]
   · refine⟨(.carry,"carry"),?_,by simp[e]⟩;split <;> simp[NONES]
theorem jN (C:Card)(r:Nat)(_:1<=r):C.headsOf r=(rh C).getD (r - 1) []:=by
 unfold Card.headsOf rh;rw[LX,Lj]
theorem rP (C:Card)(p:Pool)(hk:p.kind=.legs)(h1:1<=p.race)(h2:p.race+p.k<=C.races.length+1):C.sets p=((rh C).drop (p.race - 1)).take p.k:=by
 unfold Card.sets Pool.legs;rw[Lg hk];have len:(rh C).length=C.races.length:=Le ..
 apply NC
 intro i;rw[Lj,List.getElem?_take,List.getElem?_drop];by_cases c:i < p.k
 · rw[MY c,Lg c];show some (C.headsOf (p.race+i))=_;rw[jN C _ (by omega),LX];have e:p.race+i - 1=p.race - 1+i:=by omega
   rw[e];have lt:p.race - 1+i < (rh C).length:=by omega
   rw[Lo lt];rfl
 · rw[Lf c,Mh (by simp;omega)];rfl
theorem zE {C:Card}{p:Pool}(h:dU C p):fieldsOf C p=fq p.kind p.k p.race (rh C):=by
 unfold fieldsOf fq;cases hk:p.kind with
 |legs=>rw[Lg rfl];exact rP C p hk h.Ex (h.legs hk)
 |place =>
  rw[Lf (by decide)];unfold Pool.places;rw[Lg hk,jN C _ h.Ex];rfl
 |order =>
  rw[Lf (by decide)];unfold Pool.places;rw[Lf (by rw[hk];decide),jN C _ h.Ex]
 |any =>
  rw[Lf (by decide)];unfold Pool.places;rw[Lf (by rw[hk];decide),jN C _ h.Ex]
theorem Br {e:Nat}{C:Card}{w:Word}{l:List Word}{p:Pool}(hC:C.races.length<=16)(hw:w.w=ascii "pool")(h:poolIn e C l=.ok p) :
  dU C p/\(C.pools.map λ(p:Pool)=>p.name).contains p.name=false/\eU (og (w::l)) (rh C)=some (aB C p):=by
 unfold poolIn at h;obtain⟨n,x1,h1⟩:=aG.mp h;obtain⟨wn,e1,nm1,nm2,nm3⟩:=i9.mp x1;obtain⟨kd,x2,h2⟩:=aG.mp h1;obtain⟨wk,yk,e2,kf,kx⟩:=mn.mp x2;obtain⟨k,x3,h3⟩:=aG.mp h2;obtain⟨wkk,e3,k1,k2,k3,k4⟩:=bx.mp x3;obtain⟨l4,x4,h4⟩:=aG.mp h3;obtain⟨wfr,e4,f1⟩:=cS.mp x4;obtain⟨r,x5,h5⟩:=aG.mp h4;obtain⟨wr,e5,r1,r2,r3,r4⟩:=bx.mp x5;obtain⟨_,x6,h6⟩:=aG.mp h5;have y6:=dM.mp x6;obtain⟨_,x7,h7⟩:=aG.mp h6;have y7:=dM.mp x7;obtain⟨l8,x8,h8⟩:=aG.mp h7;obtain⟨wtk,e8,f8⟩:=cS.mp x8;obtain⟨t,x9,h9⟩:=aG.mp h8;obtain⟨wt,e9,t1,t2,t3,t4⟩:=bx.mp x9;obtain⟨l10,x10,h10⟩:=aG.mp h9;obtain⟨wbr,e10,f10⟩:=cS.mp x10;obtain⟨b,x11,h11⟩:=aG.mp h10;obtain⟨wb,e11,b1,b2,b3,b4⟩:=bx.mp x11;obtain⟨l12,x12,h12⟩:=aG.mp h11;obtain⟨wle,e12,f12⟩:=cS.mp x12;obtain⟨m,x13,h13⟩:=aG.mp h12;obtain⟨wm,e13,m1,m2,m3,m4⟩:=bx.mp x13;obtain⟨l14,x14,h14⟩:=aG.mp h13;obtain⟨wun,e14,f14⟩:=cS.mp x14;obtain⟨u,x15,h15⟩:=aG.mp h14;obtain⟨wu,e15,u1,u2,u3,u4⟩:=bx.mp x15;obtain⟨_,x16,h16⟩:=aG.mp h15;have y16:=dM.mp x16;obtain⟨l17,x17,h17⟩:=aG.mp h16;obtain⟨wno,e17,f17⟩:=cS.mp x17;obtain⟨z,x18,h18⟩:=aG.mp h17;obtain⟨wz,yz,e18,z1,z2⟩:=mn.mp x18;obtain⟨_,x19,h19⟩:=aG.mp h18;have y19:=jV.mp x19;injection h19 with h19;have kk:kd.1.1=yk.1:=by rw[kx]
 obtain⟨km,_⟩:=pJ.mp kf;rw[←kk] at km;have hm6:mostK kd.1.1<=6:=by cases kd.1.1 <;> decide
 have ek:ay (tx wkk.w)=(k.1.1:Int):=(dW (by omega)).mpr k1;have er:ay (tx wr.w)=(r.1.1:Int):=(dW (by omega)).mpr r1;have et:ay (tx wt.w)=(t.1.1:Int):=(dW (by omega)).mpr t1;have eb:ay (tx wb.w)=(b.1.1:Int):=(dW (by omega)).mpr b1;have em:ay (tx wm.w)=(m.1.1:Int):=(dW (by omega)).mpr m1;have eu:ay (tx wu.w)=(u.1.1:Int):=(dW (by omega)).mpr u1;have lenr:(rh C).length=C.races.length:=Le ..;have d6:kd.1.1=.legs->r.1.1+k.1.1<=C.races.length+1:=λq=>by
  rw[q] at y6;simpa using y6
 have d7:kd.1.1≠.legs->k.1.1<=(C.headsOf r.1.1).length:=λq=>by
  have q':(kd.1.1==Kind.legs)=false:=by rw[LK];exact q
  rw[q',Bool.false_or] at y7;unfold Card.headsOf;cases c:C.races[r.1.1 - 1]? with
  |none=>rw[c] at y7;cases y7
  |some x =>
   rw[c] at y7;simpa using y7
 have ok:dU C p:=by
  subst h19;exact⟨by rw[nm3];exact nm1,k2,k3,r2,r3,d6,d7,u2,u3⟩
 refine⟨ok,by subst h19;show List.contains _ n.1=false;rw[nm3];exact nm2,?_⟩;have hl:og (w::l)=[tx w.w,tx wn.w,tx wk.w,tx wkk.w,tx wfr.w,tx wr.w,tx wtk.w,tx wt.w,tx wbr.w,tx wb.w,tx wle.w,tx wm.w,tx wun.w,tx wu.w,tx wno.w,tx wz.w]:=by
  rw[e1,e2,e3,e4,e5,e8,e9,e10,e11,e12,e13,e14,e15,e17,e18,y19];rfl
 have hf:=zE ok;rw[hl];show (match dD (tx wk.w) with
  |none=>none
  |some kind=>_)=_
 rw[km];dsimp only;rw[Lg ?_,ek,er,eu,LZ,LZ,LZ]
 · unfold aB;rw[hf];subst h19;dsimp only;rw[nm3]
 · refine⟨(bp _ (by decide)).mpr hw,(bp _ (by decide)).mpr f1,(bp _ (by decide)).mpr f8,(bp _ (by decide)).mpr f10,(bp _ (by decide)).mpr f12,(bp _ (by decide)).mpr f14,(bp _ (by decide)).mpr f17,
    by rw[j2];exact nm1,by rw[et];omega,by rw[eb];omega,by rw[eu];omega,?_,?_,by rw[ek];omega,by rw[er,lenr];omega,?_⟩
   · rw[em,eu];rw[Me] at y16;rcases y16 with q|q
     · left;have:m.1.1=0:=by simpa using q
       omega
     · right;unfold inside at q;rw[Ll,MK,MK] at q;omega
   · exact pO.mp ⟨yz,z1⟩
   · rw[er,ek,lenr];by_cases q:kd.1.1=.legs
     · left;exact⟨q,by have:=d6 q;omega⟩
     · right;refine⟨q,?_⟩;have:=d7 q;rw[jN C _ r2] at this;have e:((r.1.1:Int) - 1).toNat=r.1.1 - 1:=by omega
       rw[e];omega
theorem Ap {e:Nat}{C:Card}{w:Word}{l:List Word}{q:aO}(hC:C.races.length<=16)(h:eU (og (w::l)) (rh C)=some q)(hn:(C.pools.map λ(p:Pool)=>tx p.name).contains q.name=false)
  (ok:∀p∈C.pools,isName p.name=true) :
  ∃p,poolIn e C l=.ok p:=by
 unfold eU at h;split at h
 · rename_i p nm kd k fr rc tk t br b le m un u no z hl;have hl:tx w.w::og l=_:=hl;injection hl with hw0 hl
   match l,hl with
   |[wn,wk,wkk,wfr,wr,wtk,wt,wbr,wb,wle,wm,wun,wu,wno,wz],hl =>
    have hl:[tx wn.w,tx wk.w,tx wkk.w,tx wfr.w,tx wr.w,tx wtk.w,tx wt.w,tx wbr.w,tx wb.w,tx wle.w,tx wm.w,tx wun.w,tx wu.w,tx wno.w,tx wz.w]=[nm,kd,k,fr,rc,tk,t,br,b,le,m,un,u,no,z]:=hl;simp only[List.cons.injEq,and_true] at hl;obtain⟨l1,l2,l3,l4,l5,l6,l7,l8,l9,l10,l11,l12,l13,l14,l15⟩:=hl;subst l1;subst l2;subst l3;subst l4;subst l5;subst l6;subst l7;subst l8;subst l9;subst l10;subst l11;subst l12;subst l13;subst l14;subst l15;cases km:dD (tx wk.w) with
    |none=>rw[km] at h;cases h
    |some kind =>
     rw[km] at h;dsimp only at h;split at h
     · rename_i cs;injection h with h;obtain⟨c1,c2,c3,c4,c5,c6,c7,c8,c9,c10,c11,c12,c13,c14,c15,c16⟩:=cs;have hm6:mostK kind<=6:=by cases kind <;> decide
       have lenr:(rh C).length=C.races.length:=Le ..;obtain⟨nt,t1,t2,t3,t4⟩:=(eY (w:=wt.w) (lo:=0) (hi:=400) (by decide)).mp c9;obtain⟨nb,b1,b2,b3,b4⟩:=(eY (w:=wb.w) (lo:=1) (hi:=1000) (by decide)).mp c10;obtain⟨nu,u1,u2,u3,u4⟩:=(eY (w:=wu.w) (lo:=1) (hi:=10000) (by decide)).mp c11;obtain⟨nk,k1,k2,k3,k4⟩:=(eY (w:=wkk.w) (lo:=leastK kind) (hi:=mostK kind) (by omega)).mp c14;obtain⟨nr,r1,r2,r3,r4⟩:=(eY (w:=wr.w) (lo:=1) (hi:=(rh C).length) (by omega)).mp c15;rw[u4] at c12;obtain⟨nmm,m1,m2,m3,m4⟩:=(eY (w:=wm.w) (lo:=0) (hi:=20000) (by decide)).mp (by
        rcases c12 with z|⟨z1,z2⟩
        · rw[z];omega
        · omega)
       rw[m4] at c12;rw[r4,k4,lenr] at c16;obtain⟨yz,hz⟩:=pO.mpr c13;have hkf:(KINDS.find? λ(x:Kind×String)=>ascii x.2==wk.w)=some (kind,kindS kind):=pJ.mpr ⟨km,rfl⟩;have nmn:(C.pools.map λ(p:Pool)=>p.name).contains wn.w=false:=by
        subst h;cases c:(C.pools.map λ(p:Pool)=>p.name).contains wn.w with
        |false=>rfl
        |true =>
         exfalso;have c:wn.w∈C.pools.map λ(p:Pool)=>p.name:=by simpa using c
         obtain⟨p0,hp0,ep⟩:=LM.mp c;have:tx wn.w∈C.pools.map λ(p:Pool)=>tx p.name:=LM.mpr ⟨p0,hp0,by rw[ep]⟩;have hn':¬tx wn.w∈C.pools.map λ(p:Pool)=>tx p.name:=by simpa using hn
         exact hn' this
       refine⟨⟨wn.w,kind,nk,nr,yz.1,nt,nb,nmm,nu⟩,?_⟩;unfold poolIn;refine aG.mpr ⟨(wn.w,_),i9.mpr ⟨wn,rfl,by rw[←j2];exact c8,nmn,rfl⟩,?_⟩;refine aG.mpr ⟨((kind,wk.at_),_),mn.mpr ⟨wk,_,rfl,hkf,rfl⟩,?_⟩;refine aG.mpr ⟨((nk,wkk.at_),_),bx.mpr ⟨wkk,rfl,k1,k2,k3,rfl⟩,?_⟩;refine aG.mpr ⟨_,cS.mpr ⟨wfr,rfl,(bp _ (by decide)).mp c2⟩,?_⟩;refine aG.mpr ⟨((nr,wr.at_),_),bx.mpr ⟨wr,rfl,r1,r2,lenr ▸ r3,rfl⟩,?_⟩;refine aG.mpr ⟨(),dM.mpr ?_,?_⟩
       · show (kind != Kind.legs||decide (nr+nk<=C.races.length+1))=true;rcases c16 with ⟨z1,z2⟩|⟨z1,z2⟩
         · rw[Me];right;exact LU (by omega)
         · rw[Me];left;simpa using z1
       refine aG.mpr ⟨(),dM.mpr ?_,?_⟩
       · show (kind==Kind.legs||((C.races[nr - 1]?).map λ(x:Race)=>decide (nk<=x.heads.length)).getD false)=true;rw[Me];rcases c16 with ⟨z1,z2⟩|⟨z1,z2⟩
         · left;rw[z1];rfl
         · right;have lt:nr - 1 < C.races.length:=by omega
           rw[Lo lt];show decide _=true;refine LU ?_;have e:((nr:Int) - 1).toNat=nr - 1:=by omega
           rw[e] at z2;unfold rh at z2;rw[LX,Lj,Lo lt] at z2;have z2:(nk:Int)<=((C.races[nr - 1]).heads.length:Int):=z2;omega
       refine aG.mpr ⟨_,cS.mpr ⟨wtk,rfl,(bp _ (by decide)).mp c3⟩,?_⟩;refine aG.mpr ⟨((nt,wt.at_),_),bx.mpr ⟨wt,rfl,t1,t2,t3,rfl⟩,?_⟩;refine aG.mpr ⟨_,cS.mpr ⟨wbr,rfl,(bp _ (by decide)).mp c4⟩,?_⟩;refine aG.mpr ⟨((nb,wb.at_),_),bx.mpr ⟨wb,rfl,b1,b2,b3,rfl⟩,?_⟩;refine aG.mpr ⟨_,cS.mpr ⟨wle,rfl,(bp _ (by decide)).mp c5⟩,?_⟩;refine aG.mpr ⟨((nmm,wm.at_),_),bx.mpr ⟨wm,rfl,m1,m2,m3,rfl⟩,?_⟩;refine aG.mpr ⟨_,cS.mpr ⟨wun,rfl,(bp _ (by decide)).mp c6⟩,?_⟩;refine aG.mpr ⟨((nu,wu.at_),_),bx.mpr ⟨wu,rfl,u1,u2,u3,rfl⟩,?_⟩;refine aG.mpr ⟨(),dM.mpr ?_,?_⟩
       · show (nmm==0||inside nu (2*nu) nmm)=true;rw[Me];rcases c12 with z|⟨z1,z2⟩
         · left;have:nmm=0:=by omega
           rw[this];rfl
         · right;unfold inside;rw[Ll,MK,MK];omega
       refine aG.mpr ⟨_,cS.mpr ⟨wno,rfl,(bp _ (by decide)).mp c7⟩,?_⟩;refine aG.mpr ⟨((yz.1,wz.at_),[]),mn.mpr ⟨wz,yz,rfl,hz,rfl⟩,?_⟩;exact aG.mpr ⟨(),jV.mpr rfl,rfl⟩
     · cases h
 · cases h
def ik (ws:List W):Bool:=ws.length==2&&ws.getD 0 []==cd "day"&&eN (ws.getD 1 [])
def bY (races:N2):List aO->List (List W)->Option (List aO)
 |acc,[]=>some acc
 |acc,ws::ls=>match eU ws races with
  |none=>none
  |some p=>if (acc.map (·.name)).contains p.name=true then none else bY races (acc++[p]) ls
def iL (lines:List (List W))(races:N2):Option (List aO):=if 64 < lines.length then none else bY races [] lines
def aT (ws:List W):Bool:=ws.headD []==cd "race"
def eQ:N2->List (List W)->Option (List aO)
 |acc,[]=>if acc=[] then none else some []
 |acc,ws::ls=>if aT ws=true then (if 16<=acc.length then none else match bC ws with
  |none=>none
  |some h=>eQ (acc++[h]) ls) else if acc=[] then none else iL (ws::ls) acc
def oJ (t:W):List (List W):=(a6 10 [] t.dropLast).map (a6 32 [])
def dE (t:W):Option (List aO) :=
 if t.getLast?=some 10 then match oJ t with
  |[]=>none
  |d::ls=>if ik d=true then eQ [] ls else none
 else none
theorem pX:∀(ls:List (List W)) (acc:N2),acc.length<=16 ->
  eQ acc ls=if 1<=acc.length+(ls.takeWhile aT).length/\acc.length+(ls.takeWhile aT).length<=16/\¬none∈(ls.takeWhile aT).map bC then iL (ls.dropWhile aT) (acc++((ls.takeWhile aT).map bC).filterMap id) else none
 |[],acc,h=>by
  show (if acc=[] then none else some [])=_;by_cases c:acc=[]
  · subst c;rfl
  · rw[Lf c,Lg]
    · rfl
    · have:0 < acc.length:=Mi.mpr c;exact⟨by simp;omega,by simpa using h,by simp⟩
 |ws::ls,acc,h=>by
  show (if aT ws=true then _ else _)=_;by_cases c:aT ws=true
  · rw[Lg c,Nm,NS,Lg c,Lg c];by_cases c2:16<=acc.length
    · rw[Lg c2,Lf];rintro⟨_,z,_⟩;rw[Lp] at z;omega
    · rw[Lf c2];cases hr:bC ws with
      |none =>
       dsimp only;rw[Lf];rintro⟨_,_,z⟩;exact z (by rw[Lv,hr];simp)
      |some hs =>
       dsimp only;rw[pX ls (acc++[hs]) (by rw[LA,Ms];omega)];have e1:(acc++[hs]).length=acc.length+1:=by simp
       rw[e1,Lv,hr,NR,Lp,MH];have k:(1<=acc.length+1+(ls.takeWhile aT).length/\acc.length+1+(ls.takeWhile aT).length<=16/\¬none∈(ls.takeWhile aT).map bC) ↔
         (1<=acc.length+((ls.takeWhile aT).length+1)/\acc.length+((ls.takeWhile aT).length+1)<=16/\¬none∈some hs::(ls.takeWhile aT).map bC):=by
        have:(¬none∈some hs::(ls.takeWhile aT).map bC)↔¬none∈(ls.takeWhile aT).map bC:=by simp
        rw[this];constructor
        · rintro⟨a,b,d⟩;exact⟨by omega,by omega,d⟩
        · rintro⟨a,b,d⟩;exact⟨by omega,by omega,d⟩
       by_cases q:(1<=acc.length+1+(ls.takeWhile aT).length/\acc.length+1+(ls.takeWhile aT).length<=16/\¬none∈(ls.takeWhile aT).map bC)
       · rw[Lg q,Lg (k.mp q)];rfl
       · rw[Lf q,Lf (λz=>q (k.mpr z))]
  · rw[Lf c,Nm,NS,Lf c,Lf c];by_cases d:acc=[]
    · subst d;rfl
    · rw[Lf d,Lg]
      · simp
      · have:0 < acc.length:=Mi.mpr d;exact⟨by simp;omega,by simpa using h,by simp⟩
def jm (w:W):Prop:=w≠[]/\∀c∈w,(isLet c||bX c)=true
theorem wx {v:Bytes}(h:jm (tx v)):AR v:=by
 refine⟨λe=>h.1 (by rw[e];rfl),λc hc=>?_⟩;have:=h.2 (sg c.toNat) (LM.mpr ⟨c,hc,rfl⟩);rw[oT,pV] at this;unfold isLet bX at this;simp only[Me,Ll,Lm] at this;constructor
 · show 32 < c.toNat;omega
 · show c.toNat<=126;omega
theorem j7 {w:W}(h:eN w=true):jm w:=by
 unfold eN at h;simp only[Ll,Lm] at h;refine⟨λe=>?_,λc hc=>(LI.mp h.2) c hc⟩;rw[e] at h;simp at h
theorem eD {w:W}(h:0<=ay w):jm w:=by
 unfold ay at h;split at h
 · omega
 · rename_i q;have q1:¬w=[]:=λz=>q (.inr (.inl z));have q2:¬w.all bX=false:=λz=>q (.inr (.inr z));refine⟨q1,λc hc=>?_⟩;have q2:w.all bX=true:=by simpa using q2
   rw[(LI.mp q2) c hc,Bool.or_true]
def Bq (w:W):Bool:=!w.isEmpty&&w.all λc=>isLet c||bX c
theorem Ey {w:W}(h:Bq w=true):jm w:=by
 unfold Bq at h;rw[Ll] at h;exact⟨λe=>by rw[e] at h;simp at h,λc hc=>(LI.mp h.2) c hc⟩
theorem bO {w:W}{s:String}(e:w=cd s)(h:Bq (cd s)=true):jm w:=e ▸ Ey h
theorem AJ {ws:List W}(h:ik ws=true):∀w∈ws,jm w:=by
 unfold ik at h;simp only[Ll,L5] at h
 match ws,h with
 |[a,b],h =>
  intro w hw;rcases Li.mp hw with rfl|hw
  · exact bO h.1.2 (by decide)
  · have:w=b:=by simpa using hw
    subst this;exact j7 h.2
theorem qM:∀{n:Nat} (l:List W) (fs ss ss':N3),di n l fs ss=some ss'->∀w∈l,jm w
 |_,[],_,_,_,_=>by simp
 |_,[_],_,_,_,h=>by cases h
 |_,[_,_],_,_,_,h=>by cases h
 |n,c::a::b::r,fs,ss,ss',h=>by
  unfold di at h;split at h
  · rename_i q;intro w hw;rcases Li.mp hw with rfl|hw
    · exact bO q.1 (by decide)
    · rcases Li.mp hw with rfl|hw
      · exact eD (by omega)
      · rcases Li.mp hw with rfl|hw
        · exact eD (by omega)
        · exact qM r _ _ _ h w hw
  · cases h
theorem zJ {ws:List W}{hs:N3}(h0:aT ws=true)(h:bC ws=some hs):∀w∈ws,jm w:=by
 unfold bC at h;split at h
 · rename_i w0 n r;split at h
   · rename_i q;cases c:di (ay n).toNat r [] [] with
     |none=>rw[c] at h;cases h
     |some ss =>
      intro w hw;rcases Li.mp hw with rfl|hw
      · unfold aT at h0;exact bO (L5.mp h0) (by decide)
      · rcases Li.mp hw with rfl|hw
        · exact eD (by omega)
        · exact qM r _ _ _ c w hw
   · cases h
 · cases h
theorem zw {w:W}{k:Kind}(h:dD w=some k):jm w:=by
 unfold dD at h;split at h
 · rename_i e;exact bO e (by decide)
 · split at h
   · rename_i e;exact bO e (by decide)
   · split at h
     · rename_i e;exact bO e (by decide)
     · split at h
       · rename_i e;exact bO e (by decide)
       · cases h
theorem rX {ws:List W}{races:N2}{q:aO}(h:eU ws races=some q):(∀w∈ws,jm w)/\ws.headD []=cd "pool":=by
 unfold eU at h;split at h
 · rename_i p nm kd k fr rc tk t br b le m un u no z;cases km:dD kd with
   |none=>rw[km] at h;cases h
   |some kind =>
    rw[km] at h;dsimp only at h;split at h
    · rename_i cs;obtain⟨c1,c2,c3,c4,c5,c6,c7,c8,c9,c10,c11,c12,c13,c14,c15,c16⟩:=cs;have hm:0<=ay m:=by omega
      have gz:jm z:=by
       rcases c13 with ⟨e,_⟩|e|e
       · exact bO e (by decide)
       · exact bO e (by decide)
       · exact bO e (by decide)
      refine⟨λw hw=>?_,c1⟩;simp only[Li,M1,or_false] at hw;rcases hw with rfl|rfl|rfl|rfl|rfl|rfl|rfl|rfl|rfl|rfl|rfl|rfl|rfl|rfl|rfl|rfl
      · exact bO c1 (by decide)
      · exact j7 c8
      · exact zw km
      · exact eD (by omega)
      · exact bO c2 (by decide)
      · exact eD (by omega)
      · exact bO c3 (by decide)
      · exact eD (by omega)
      · exact bO c4 (by decide)
      · exact eD (by omega)
      · exact bO c5 (by decide)
      · exact eD hm
      · exact bO c6 (by decide)
      · exact eD (by omega)
      · exact bO c7 (by decide)
      · exact gz
    · cases h
 · cases h
def lw (l:Bytes):List W:=a6 32 [] (tx l)
theorem AW (l:Bytes):lw l=(splitOn 32 [] l).map tx:=iD (c:=32) (by decide) l []
theorem lC {l:Bytes}(h:∀w∈lw l,jm w):badByte true 0 l=none:=by
 refine xM l [] 0 (λv hv=>wx (h (tx v) ?_)) (by simp);rw[AW];exact LM.mpr ⟨v,hv,rfl⟩
theorem pG {l:Bytes}(p:Nat)(h:badByte true 0 l=none):og (wordsFrom p [] l)=lw l:=by
 obtain⟨a,_⟩:=words_of l [] p 0 (LJ _) h;rw[AW,←a,LF];rfl
def bQ:Nat->Option Card->List Bytes->Except Fault (Option Card)
 |_,h,[]=>.ok h
 |p,h,l::ls=>match badByte true 0 l with
  |some i=>.error ⟨2,p+i⟩
  |none=>match lineIn h ⟨wordsFrom p [] l,p+l.length⟩ with
   |.error e=>.error e
   |.ok t=>bQ (p+l.length+1) t ls
def dI (ls:List Bytes):Bytes:=ls.flatMap λl=>l++[10]
theorem oY {r:Bytes}:∀{l:Bytes},¬10∈l->upTo (l++10::r)=some (l,r)
 |[],_=>by simp[upTo]
 |c::l,h=>by
  have hc:¬c=10:=λe=>h (by simp[e]);show (if c=10 then some ([],l++10::r) else (upTo (l++10::r)).map λ(x:Bytes×Bytes)=>(c::x.1,x.2))=_;rw[Lf hc,oY λm=>h (by simp[m])];rfl
theorem ki:∀{b l r:Bytes},upTo b=some (l,r)->b=l++10::r/\¬10∈l
 |[],_,_,h=>by cases h
 |c::b,l,r,h=>by
  have h:(if c=10 then some ([],b) else (upTo b).map λ(x:Bytes×Bytes)=>(c::x.1,x.2))=some (l,r):=h;by_cases e:c=10
  · rw[Lg e] at h;injection h with h;injection h with h1 h2;subst h1;subst h2;subst e;exact⟨rfl,by simp⟩
  · rw[Lf e] at h;cases q:upTo b with
    |none=>rw[q] at h;cases h
    |some x =>
     rw[q] at h;injection h with h;injection h with h1 h2;obtain⟨a1,a2⟩:=ki (b:=b) (l:=x.1) (r:=x.2) q;subst h1;subst h2;exact⟨by rw[Nk,←a1],λm=>by
      rcases Li.mp m with z|z
      · exact e z.symm
      · exact a2 z⟩
theorem qZ:∀{b:Bytes},upTo b=none->¬10∈b
 |[],_=>by simp
 |c::b,h=>by
  have h:(if c=10 then some ([],b) else (upTo b).map λ(x:Bytes×Bytes)=>(c::x.1,x.2))=none:=h;by_cases e:c=10
  · rw[Lg e] at h;cases h
  · rw[Lf e] at h;cases q:upTo b with
    |none =>
     have:=qZ q;intro m;rcases Li.mp m with z|z
     · exact e z.symm
     · exact this z
    |some x=>rw[q] at h;cases h
theorem pI:∀(ls:List Bytes) (k p:Nat) (h:Option Card),(∀l∈ls,¬10∈l)->(dI ls).length < k->linesIn lineIn k p h (dI ls)=bQ p h ls
 |[],0,_,_,_,hk=>by simp at hk
 |[],k+1,p,h,_,_=>rfl
 |l::ls,0,_,_,_,hk=>by simp at hk
 |l::ls,k+1,p,h,hn,hk=>by
  have e:dI (l::ls)=l++10::dI ls:=by
   unfold dI;rw[NB,MH];rfl
  rw[e] at hk ⊢;have ne:¬(l++10::dI ls).isEmpty=true:=by simp
  show (if (l++10::dI ls).isEmpty=true then Except.ok h else match upTo (l++10::dI ls) with
   |none=>_
   |some (l,r)=>_)=_
  rw[Lf ne,oY (hn l (by simp))];dsimp only;unfold bQ;cases hb:badByte true 0 l with
  |some i=>rfl
  |none =>
   dsimp only;cases hl:lineIn h ⟨wordsFrom p [] l,p+l.length⟩ with
   |error e=>rfl
   |ok t =>
    dsimp only;exact pI ls k (p+l.length+1) t (λm hm=>hn m (by simp[hm])) (by simp only[LA,Lp] at hk;omega)
theorem pY:∀(k p:Nat) (h h':Option Card) (b:Bytes),b.length < k->linesIn lineIn k p h b=.ok h'->b=[]∨b.getLast?=some 10
 |0,_,_,_,_,hk,_=>by omega
 |k+1,p,h,h',b,hk,q=>by
  by_cases e:b=[]
  · exact .inl e
  · right;have ne:¬b.isEmpty=true:=λz=>e (MQ.mp z);rw[linesIn,Lf ne] at q;cases hu:upTo b with
    |none=>rw[hu] at q;cases q
    |some x =>
     obtain⟨l,r⟩:=x;rw[hu] at q;dsimp only at q;obtain⟨hb,_⟩:=ki hu;cases hbad:badByte true 0 l with
     |some i=>rw[hbad] at q;cases q
     |none =>
      rw[hbad] at q;dsimp only at q;cases hl:lineIn h ⟨wordsFrom p [] l,p+l.length⟩ with
      |error e=>rw[hl] at q;cases q
      |ok t =>
       rw[hl] at q;dsimp only at q;have:=pY k _ t h' r (by rw[hb] at hk;simp only[LA,Lp] at hk;omega) q;rw[hb];rcases this with z|z
       · subst z;simp
       · rw[List.getLast?_append];cases r with
         |nil=>simp at z
         |cons c r =>
          rw[List.getLast?_cons_cons,z];rfl
theorem join_split:∀(b w:Bytes),dI (splitOn 10 w b)=w++b++[10]
 |[],w=>by
  show dI [w]=_;unfold dI;simp
 |c::b,w=>by
  show dI (if c=10 then w::splitOn 10 [] b else splitOn 10 (w++[c]) b)=_;by_cases e:c=10
  · rw[Lg e];have:=join_split b [];unfold dI at this ⊢;rw[NB,this,e];simp
  · rw[Lf e,join_split b (w++[c])];simp
theorem lz:∀(b w:Bytes),¬10∈w->∀l∈splitOn 10 w b,¬10∈l
 |[],w,hw,l,hl=>by
  have:l=w:=by simpa [splitOn] using hl
  exact this ▸ hw
 |c::b,w,hw,l,hl=>by
  have hl:l∈(if c=10 then w::splitOn 10 [] b else splitOn 10 (w++[c]) b):=hl;by_cases e:c=10
  · rw[Lg e] at hl;rcases Li.mp hl with rfl|hl
    · exact hw
    · exact lz b [] (by simp) l hl
  · rw[Lf e] at hl;refine lz b (w++[c]) (λm=>?_) l hl;rcases L4.mp m with z|z
    · exact hw z
    · exact e (by simpa using (Ls.mp z).symm)
structure cg (C:Card):Prop where
 vR:C.races.length<=16
 heads:∀r∈C.races,cM r.heads
 pools:∀p∈C.pools,dU C p
 np:C.pools.length<=64
theorem k6 (c:UInt8):∀(l w:Bytes),splitOn c w l≠[]
 |[],_=>by simp[splitOn]
 |x::l,w=>by
  unfold splitOn;by_cases e:x=c
  · rw[Lg e];simp
  · rw[Lf e];exact k6 c l _
theorem iK {l:Bytes}(p:Nat)(h:badByte true 0 l=none):∃w r,wordsFrom p [] l=w::r/\lw l=tx w.w::og r:=by
 have e:=pG p h;cases hw:wordsFrom p [] l with
 |nil =>
  exfalso;rw[hw] at e;have e:[]=lw l:=e;rw[AW] at e;exact k6 32 l [] (NQ.mp e.symm)
 |cons w r=>exact⟨w,r,rfl,by rw[←e,hw];rfl⟩
theorem qR {C D:Card}{p:Pool}(h:dU C p)(e:D.races=C.races):dU D p:=by
 have hh:D.headsOf=C.headsOf:=by
  funext r;unfold Card.headsOf;rw[e]
 exact⟨h.name,h.Ja,h.Gs,h.Ex,by rw[e];exact h.J5,by rw[e];exact h.legs,by rw[hh];exact h.vR,h.unit,h.Lc⟩
theorem pd:∀(ls:List Bytes) (p:Nat) (C:Card),cg C->C.races≠[]->(C.pools=[]->∀l∈ls.head?,aT (lw l)=false) ->
  (∀C',bQ p (some C) ls=.ok C'->∃D,C'=some D/\cg D/\D.races=C.races/\C.pools.length+ls.length<=64/\bY (rh C) (C.pools.map (aB C)) (ls.map lw)=some (D.pools.map (aB D))) /\
  (∀e,bQ p (some C) ls=.error e->64 < C.pools.length+ls.length∨bY (rh C) (C.pools.map (aB C)) (ls.map lw)=none)
 |[],p,C,ok,_,_=>⟨λC' h=>by
   have h:Except.ok (some C)=Except.ok C':=h;injection h with h;subst h;exact⟨C,rfl,ok,rfl,ok.np,rfl⟩,λe h=>nomatch h⟩
 |l::ls,p,C,ok,hr,hf=>by
  have none_of:eU (lw l) (rh C)=none->bY (rh C) (C.pools.map (aB C)) ((l::ls).map lw)=none:=λq=>by
   rw[Lv];unfold bY;rw[q]
  cases hb:badByte true 0 l with
  |some i =>
   have q:eU (lw l) (rh C)=none:=by
    cases c:eU (lw l) (rh C) with
    |none=>rfl
    |some z =>
     have:=lC (rX c).1;rw[hb] at this;cases this
   have e0:bQ p (some C) (l::ls)=.error ⟨2,p+i⟩:=by
    unfold bQ;rw[hb]
   rw[e0];exact⟨λ_ h=>(nomatch h),λ_ _=>.inr (none_of q)⟩
  |none =>
   obtain⟨w,r,hw,hlw⟩:=iK p hb;have e0:bQ p (some C) (l::ls)=match lineIn (some C) ⟨w::r,p+l.length⟩ with
     |.error e=>.error e
     |.ok t=>bQ (p+l.length+1) t ls:=by
    conv=>lhs;unfold bQ
    rw[hb,hw]
    all_goals rfl
   have nr:¬(w.w=ascii "race"/\C.pools=[]):=λ⟨z1,z2⟩=>by
    have:=hf z2 l (by simp);unfold aT at this;rw[hlw] at this;have:(tx w.w==cd "race")=false:=this;rw[LK] at this;exact this ((bp _ (by decide)).mpr z1)
   have e1:lineIn (some C) ⟨w::r,p+l.length⟩=if w.w=ascii "pool"/\C.races≠[] then (if POOLS<=C.pools.length then .error ⟨6,w.at_⟩ else withPool (p+l.length) C r) else .error ⟨3,w.at_⟩:=by
    show (if w.w=ascii "race"/\C.pools=[] then _ else _)=_;rw[Lf nr]
   rw[e1] at e0;by_cases hp:w.w=ascii "pool"
   · rw[Lg ⟨hp,hr⟩] at e0;by_cases h64:POOLS<=C.pools.length
     · rw[Lg h64] at e0;rw[e0];have h64:64<=C.pools.length:=h64;exact⟨λ_ h=>(nomatch h),λ_ _=>.inl (by rw[Lp];omega)⟩
     · rw[Lf h64] at e0;have h64:¬64<=C.pools.length:=h64;unfold withPool at e0;cases hi:poolIn (p+l.length) C r with
       |error e =>
        rw[hi] at e0;have e0:bQ p (some C) (l::ls)=.error e:=e0;rw[e0];refine⟨λ_ h=>(nomatch h),λ_ _=>.inr ?_⟩;cases c:eU (lw l) (rh C) with
        |none=>exact none_of c
        |some q =>
         rw[Lv];unfold bY;rw[c];dsimp only;cases d:((C.pools.map (aB C)).map (·.name)).contains q.name with
         |true=>rfl
         |false =>
          exfalso;rw[hlw] at c;have d':(C.pools.map λ(p:Pool)=>tx p.name).contains q.name=false:=by
           rw[LF] at d;exact d
          obtain⟨z,hz⟩:=Ap (e:=p+l.length) ok.vR c d' (λp hp=>(ok.pools p hp).name);rw[hi] at hz;cases hz
       |ok q =>
        rw[hi] at e0;have e0:bQ p (some C) (l::ls)=bQ (p+l.length+1) (some {C with pools:=C.pools++[q]}) ls:=e0;obtain⟨okq,hn,hm⟩:=Br (w:=w) ok.vR hp hi;rw[e0];have okD:cg {C with pools:=C.pools++[q]}:=⟨ok.vR,ok.heads,λx hx=>by
          have hx:x∈C.pools++[q]:=hx;rcases L4.mp hx with z|z
          · exact qR (ok.pools x z) rfl
          · have:x=q:=by simpa using z
            subst this;exact qR okq rfl,by show (C.pools++[q]).length<=64;rw[LA,Ms];omega⟩
        have ih:=pd ls (p+l.length+1) {C with pools:=C.pools++[q]} okD hr (λz=>by
         have z:C.pools++[q]=[]:=z;simp at z)
        have step:bY (rh C) (C.pools.map (aB C)) ((l::ls).map lw)=bY (rh C) ((C.pools++[q]).map (aB C)) (ls.map lw):=by
         rw[Lv]
         conv=>lhs;unfold bY
         have hm':eU (lw l) (rh C)=some (aB C q):=by rw[hlw];exact hm
         rw[hm'];dsimp only;have:((C.pools.map (aB C)).map (·.name)).contains (aB C q).name=false:=by
          rw[LF];cases d:(C.pools.map ((λ(x:aO)=>x.name) ∘ aB C)).contains (aB C q).name with
          |false=>rfl
          |true =>
           exfalso;have d:(aB C q).name∈C.pools.map ((λ(x:aO)=>x.name) ∘ aB C):=by simpa using d
           obtain⟨x,hx,ex⟩:=LM.mp d;have ex:tx x.name=tx q.name:=ex;have nx:=(ok.pools x hx).name;have:q.name=x.name:=by
            have key:∀c∈x.name,tX c.toNat=true:=λc hc=>by
             have gx:=j7 (by rw[j2];exact nx);have:=gx.2 (sg c.toNat) (LM.mpr ⟨c,hc,rfl⟩);rw[oT,pV] at this;unfold tX;rw[this];rfl
            have own:tx x.name=x.name.map UInt8.toNat:=(qP key).mpr rfl;exact (qP key).mp (by rw[←ex,own])
           have hn':¬q.name∈C.pools.map λ(p:Pool)=>p.name:=by simpa using hn
           exact hn' (LM.mpr ⟨x,hx,this.symm⟩)
         rw[Lf (by rw[this];decide),Lx];rfl
        have len:(C.pools++[q]).length=C.pools.length+1:=by simp
        rw[step];constructor
        · intro C' h;obtain⟨D,h1,h2,h3,h4,h5⟩:=ih.1 C' h;refine⟨D,h1,h2,h3,?_,h5⟩;have h4:(C.pools++[q]).length+ls.length<=64:=h4;rw[Lp];omega
        · intro e h;rcases ih.2 e h with z|z
          · left;have z:64 < (C.pools++[q]).length+ls.length:=z;rw[Lp];omega
          · exact .inr z
   · rw[Lf (λz=>hp z.1)] at e0;rw[e0];refine⟨λ_ h=>(nomatch h),λ_ _=>.inr (none_of ?_)⟩;cases c:eU (lw l) (rh C) with
     |none=>rfl
     |some q =>
      exfalso;have:=(rX c).2;rw[hlw] at this;exact hp ((bp _ (by decide)).mp this)
theorem pS:∀(ls:List Bytes) (p:Nat) (C:Card),cg C->C.pools=[] ->
  (∀C',bQ p (some C) ls=.ok C'->∃D,C'=some D/\((D.races=[]/\eQ (rh C) (ls.map lw)=none)∨(D.races≠[]/\cg D/\eQ (rh C) (ls.map lw)=some (D.pools.map (aB D))))) /\
  (∀e,bQ p (some C) ls=.error e->eQ (rh C) (ls.map lw)=none)
 |[],p,C,ok,hp=>⟨λC' h=>by
   have h:Except.ok (some C)=Except.ok C':=h;injection h with h;subst h;refine⟨C,rfl,?_⟩;by_cases c:C.races=[]
   · left;refine⟨c,?_⟩;show (if rh C=[] then none else some [])=none;rw[Lg (by unfold rh;rw[c];rfl)]
   · right;refine⟨c,ok,?_⟩;show (if rh C=[] then none else some [])=_;rw[Lf (λ(z:rh C=[])=>c (NQ.mp z)),hp];rfl,λe h=>nomatch h⟩
 |l::ls,p,C,ok,hp=>by
  have lenr:(rh C).length=C.races.length:=Le ..;by_cases isr:aT (lw l)=true
  · have step:eQ (rh C) ((l::ls).map lw)=if 16<=C.races.length then none else match bC (lw l) with
      |none=>none
      |some h=>eQ (rh C++[h]) (ls.map lw):=by
     rw[Lv];show (if aT (lw l)=true then (if 16<=(rh C).length then none else _) else _)=_;rw[Lg isr,lenr]
     all_goals rfl
    rw[step];cases hb:badByte true 0 l with
    |some i =>
     have q:bC (lw l)=none:=by
      cases c:bC (lw l) with
      |none=>rfl
      |some z =>
       have:=lC (zJ isr c);rw[hb] at this;cases this
     have e0:bQ p (some C) (l::ls)=.error ⟨2,p+i⟩:=by
      unfold bQ;rw[hb]
     rw[e0,q];refine⟨λ_ h=>(nomatch h),λ_ _=>?_⟩;split <;> rfl
    |none =>
     obtain⟨w,r,hw,hlw⟩:=iK p hb;have wr:w.w=ascii "race":=by
      unfold aT at isr;rw[hlw] at isr;exact (bp _ (by decide)).mp (L5.mp isr)
     have e0:bQ p (some C) (l::ls)=match lineIn (some C) ⟨w::r,p+l.length⟩ with
       |.error e=>.error e
       |.ok t=>bQ (p+l.length+1) t ls:=by
      conv=>lhs;unfold bQ
      rw[hb,hw]
      all_goals rfl
     have e1:lineIn (some C) ⟨w::r,p+l.length⟩=if RACES<=C.races.length then .error ⟨6,w.at_⟩ else withRace (p+l.length) C r:=by
      show (if w.w=ascii "race"/\C.pools=[] then _ else _)=_;rw[Lg ⟨wr,hp⟩]
     rw[e1] at e0;by_cases h16:RACES<=C.races.length
     · rw[Lg h16] at e0;rw[e0,Lg (show 16<=C.races.length from h16)];exact⟨λ_ h=>(nomatch h),λ_ _=>rfl⟩
     · rw[Lf h16] at e0;have h16:¬16<=C.races.length:=h16;rw[Lf h16];unfold withRace at e0;cases hi:raceIn (p+l.length) r with
       |error e =>
        rw[hi] at e0;have e0:bQ p (some C) (l::ls)=.error e:=e0;rw[e0];refine⟨λ_ h=>(nomatch h),λ_ _=>?_⟩;cases c:bC (lw l) with
        |none=>rfl
        |some hs =>
         exfalso;rw[hlw] at c;obtain⟨q,hq,_⟩:=(vB (e:=p+l.length) (w:=w) (l:=r)).2 hs c;rw[hi] at hq;cases hq
       |ok q =>
        rw[hi] at e0;have e0:bQ p (some C) (l::ls)=bQ (p+l.length+1) (some {C with races:=C.races++[q]}) ls:=e0;have hm:=(vB (e:=p+l.length) (w:=w) (l:=r)).1 q hi;have hm':bC (lw l)=some q.heads:=by rw[hlw];exact hm
        rw[e0,hm'];dsimp only;have okD:cg {C with races:=C.races++[q]}:=⟨by show (C.races++[q]).length<=16;rw[LA,Ms];omega,λx hx=>by
          have hx:x∈C.races++[q]:=hx;rcases L4.mp hx with z|z
          · exact ok.heads x z
          · have:x=q:=by simpa using z
            subst this;exact zP hm',λx hx=>by
          have hx:x∈C.pools:=hx;rw[hp] at hx;simp at hx,ok.np⟩
        have ih:=pS ls (p+l.length+1) {C with races:=C.races++[q]} okD hp;have e2:rh {C with races:=C.races++[q]}=rh C++[q.heads]:=by
         unfold rh;rw[Lx];rfl
        rw[e2] at ih;exact ih
  · have isr':aT (lw l)=false:=by simpa using isr
    have step:eQ (rh C) ((l::ls).map lw)=if rh C=[] then none else iL ((l::ls).map lw) (rh C):=by
     rw[Lv];show (if aT (lw l)=true then _ else _)=_;rw[Lf isr]
    rw[step];by_cases hr:C.races=[]
    · rw[Lg (by unfold rh;rw[hr];rfl)];have e0:∃e,bQ p (some C) (l::ls)=.error e:=by
       unfold bQ;cases hb:badByte true 0 l with
       |some i=>exact⟨_,rfl⟩
       |none =>
        obtain⟨w,r,hw,hlw⟩:=iK p hb;dsimp only;rw[hw];have wr:¬w.w=ascii "race":=λz=>by
         apply isr
         unfold aT;rw[hlw];exact L5.mpr ((bp _ (by decide)).mpr z)
        have e1:lineIn (some C) ⟨w::r,p+l.length⟩=.error ⟨3,w.at_⟩:=by
         show (if w.w=ascii "race"/\C.pools=[] then _ else if w.w=ascii "pool"/\C.races≠[] then _ else _)=_;rw[Lf (λz=>wr z.1),Lf (λz=>z.2 hr)]
        rw[e1];exact⟨_,rfl⟩
      obtain⟨e,e0⟩:=e0;rw[e0];exact⟨λ_ h=>(nomatch h),λ_ _=>rfl⟩
    · rw[Lf (λ(z:rh C=[])=>hr (NQ.mp z))];have ih:=pd (l::ls) p C ok hr (λ_ l' hl'=>by
       have:l'=l:=by simpa using hl'.symm
       subst this;exact isr')
      rw[hp] at ih;have len:((l::ls).map lw).length=(l::ls).length:=Le ..;unfold iL;rw[len];constructor
      · intro C' h;obtain⟨D,h1,h2,h3,h4,h5⟩:=ih.1 C' h;refine⟨D,h1,.inr ⟨by rw[h3];exact hr,h2,?_⟩⟩;rw[Lf (by simp only[MO] at h4;omega)];exact h5
      · intro e h;by_cases c:64 < (l::ls).length
        · rw[Lg c]
        · rw[Lf c];rcases ih.2 e h with z|z
          · simp only[MO] at z;omega
          · exact z
theorem yL:∀(b:Bytes),(tx b).getLast?=some 10↔b.getLast?=some 10:=λb=>by
 unfold tx;rw[List.getLast?_map];cases b.getLast? with
 |none=>simp
 |some c =>
  show some (sg c.toNat)=some 10↔some c=some 10;constructor
  · intro h;injection h with h;rw[jx (show c.toNat=(10:UInt8).toNat from (uv (by decide)).mp h)]
  · intro h;injection h with h;rw[h];rfl
theorem mj (b:Bytes):(∀C,readCard b=.ok C->cg C/\C.races≠[]/\dE (tx b)=some (C.pools.map (aB C)))/\(∀e,readCard b=.error e->dE (tx b)=none):=by
 by_cases hl:b.getLast?=some 10
 · obtain⟨b',rfl⟩:∃b',b=b'++[10]:=by
    have ne:b≠[]:=λe=>by rw[e] at hl;simp at hl
    refine⟨b.dropLast,?_⟩;have:=List.dropLast_concat_getLast ne;rw[List.getLast?_eq_some_getLast ne] at hl;injection hl with hl;rw[hl] at this;exact this.symm
   have hj:dI (splitOn 10 [] b')=b'++[10]:=by rw[join_split];simp
   have hfold:linesIn lineIn ((b'++[10]).length+1) 0 none (b'++[10])=bQ 0 none (splitOn 10 [] b'):=by
    rw[←hj];exact pI _ _ _ _ (lz b' [] (by simp)) (NJ _)
   have hlm:oJ (tx (b'++[10]))=(splitOn 10 [] b').map lw:=by
    unfold oJ;have e:(tx (b'++[10])).dropLast=tx b':=by
     rw[rm];show (tx b'++[sg 10]).dropLast=_;rw[List.dropLast_concat]
    have:=iD (c:=10) (by decide) b' [];rw[A0] at this;rw[e];show (a6 (10:UInt8).toNat [] (tx b')).map _=_;rw[this,LF];rfl
   have hc:dE (tx (b'++[10]))=match (splitOn 10 [] b').map lw with
     |[]=>none
     |d::ls=>if ik d=true then eQ [] ls else none:=by
    unfold dE;rw[Lg ((yL _).mpr hl),hlm]
    all_goals rfl
   rw[hc];unfold readCard;rw[hfold];cases hs:splitOn 10 [] b' with
   |nil=>exact absurd hs (k6 10 b' [])
   |cons l ls =>
    rw[Lv];dsimp only;have day:(ik (lw l)=false/\∃e,bQ 0 none (l::ls)=.error e)∨(ik (lw l)=true/\∃n,bQ 0 none (l::ls)=bQ (0+l.length+1) (some {noCard with name:=n}) ls):=by
     cases hb:badByte true 0 l with
     |some i =>
      left;refine⟨?_,⟨2,0+i⟩,by unfold bQ;rw[hb]⟩;cases c:ik (lw l) with
      |false=>rfl
      |true =>
       have:=lC (AJ c);rw[hb] at this;cases this
     |none =>
      obtain⟨w,r,hw,hlw⟩:=iK 0 hb;have e0:bQ 0 none (l::ls)=match lineIn none ⟨w::r,0+l.length⟩ with
        |.error e=>.error e
        |.ok t=>bQ (0+l.length+1) t ls:=by
       conv=>lhs;unfold bQ
       rw[hb,hw]
       all_goals rfl
      have e1:lineIn none ⟨w::r,0+l.length⟩=if w.w=ascii "day" then dayIn (0+l.length) r else .error ⟨3,w.at_⟩:=rfl;rw[e1] at e0;by_cases hd:w.w=ascii "day"
      · rw[Lg hd] at e0;cases hi:dayIn (0+l.length) r with
        |error e =>
         left;rw[hi] at e0;refine⟨?_,e,e0⟩;cases c:ik (lw l) with
         |false=>rfl
         |true =>
          exfalso;unfold ik at c;rw[hlw] at c;simp only[Ll,L5] at c
          match r,c,hi with
          |[wn],c,hi =>
           have nm:isName wn.w=true:=by rw[←j2];exact c.2
           have:dayIn (0+l.length) [wn]=.ok (some {noCard with name:=wn.w}):=by
            unfold dayIn;refine aG.mpr ⟨(wn.w,[]),i9.mpr ⟨wn,rfl,nm,rfl,rfl⟩,?_⟩;exact aG.mpr ⟨(),jV.mpr rfl,rfl⟩
           rw[this] at hi;cases hi
          |[],c,_=>have:=c.1.1;simp[og] at this
          |_::_::_,c,_=>have:=c.1.1;simp[og] at this
        |ok t =>
         right;rw[hi] at e0;unfold dayIn at hi;obtain⟨n,x1,h1⟩:=aG.mp hi;obtain⟨wn,er,n1,n2,n3⟩:=i9.mp x1;obtain⟨_,x2,h2⟩:=aG.mp h1;have y2:=jV.mp x2;injection h2 with h2;subst h2;refine⟨?_,n.1,e0⟩;unfold ik;rw[hlw,er,y2];have a1:(tx w.w==cd "day")=true:=L5.mpr ((bp _ (by decide)).mpr hd);show ((2==2)&&(tx w.w==cd "day")&&eN (tx wn.w))=true;rw[a1,j2,n1];rfl
      · rw[Lf hd] at e0;left;refine⟨?_,_,e0⟩;cases c:ik (lw l) with
        |false=>rfl
        |true =>
         exfalso;unfold ik at c;rw[hlw] at c;simp only[Ll,L5] at c;exact hd ((bp _ (by decide)).mp c.1.2)
    rcases day with ⟨d,e,h⟩|⟨d,n,h⟩
    · rw[d,h];exact⟨λ_ q=>(nomatch q),λ_ _=>rfl⟩
    · rw[Lg d,h];have Kc:cg {noCard with name:=n}:=⟨LJ _,λr hr=>by
        have hr:r∈([]:List Race):=hr;simp at hr,λp hp=>by
        have hp:p∈([]:List Pool):=hp;simp at hp,LJ _⟩
      have ih:=pS ls (0+l.length+1) {noCard with name:=n} Kc rfl;have e2:rh {noCard with name:=n}=[]:=rfl;rw[e2] at ih;cases hf:bQ (0+l.length+1) (some {noCard with name:=n}) ls with
      |error e =>
       dsimp only;exact⟨λ_ q=>(nomatch q),λ_ _=>ih.2 e hf⟩
      |ok C' =>
       obtain⟨D,rfl,q⟩:=ih.1 C' hf;dsimp only;rcases q with ⟨q1,q2⟩|⟨q1,q2,q3⟩
       · rw[Lg q1];exact⟨λ_ q=>(nomatch q),λ_ _=>q2⟩
       · rw[Lf q1];exact⟨λC q=>by injection q with q;subst q;exact⟨q2,q1,q3⟩,λ_ q=>nomatch q⟩
 · have hn:dE (tx b)=none:=by
    unfold dE;rw[Lf (λz=>hl ((yL b).mp z))]
   rw[hn];refine⟨λC h=>?_,λ_ _=>rfl⟩;exfalso;unfold readCard at h;cases q:linesIn lineIn (b.length+1) 0 none b with
   |error e=>rw[q] at h;cases h
   |ok h' =>
    rcases pY _ _ _ _ _ (NJ _) q with z|z
    · subst z;have q':linesIn lineIn 1 0 none []=.ok h':=q;have q':(Except.ok none:Except Fault (Option Card))=.ok h':=q';injection q' with q';subst q';rw[q] at h;cases h
    · exact hl z
def Fits (fd acc:N3)(p:W):Prop:=∃n:Nat,ay p=(n:Int)/\n∈fd/\∀x,acc.getLast?=some x->x < n
theorem BK {fd acc:N3}{p:W}:Fits fd acc p↔0<=ay p/\(ay p).toNat∈fd/\∀x∈acc.getLast?,x < (ay p).toNat:=by
 constructor
 · rintro⟨n,e,h1,h2⟩;have en:(ay p).toNat=n:=by omega
   rw[en];exact⟨by omega,h1,λx hx=>h2 x hx⟩
 · rintro⟨h0,h1,h2⟩;exact⟨_,by omega,h1,λx hx=>h2 x hx⟩
instance {fd acc:N3}{p:W}:Decidable (Fits fd acc p):=decidable_of_iff _ BK.symm
def jl (fd:N3):List W->N3->Option (N3)
 |[],acc=>some acc
 |p::r,acc=>if Fits fd acc p then jl fd r (acc++[(ay p).toNat]) else none
def setM (fd:N3)(w:W):Option (N3):=jl fd (a6 44 [] w) []
theorem kZ {x:Nat}{l:N3}:risesN (x::l)=true↔(∀y,l.head?=some y->x < y)/\risesN l=true:=by
 cases l with
 |nil=>exact⟨λ_=>⟨λ_ z=>(by cases z),rfl⟩,λ_=>rfl⟩
 |cons y r =>
  show (decide (x < y)&&risesN (y::r))=true↔_;rw[Ll,Lm];exact⟨λ⟨a,b⟩=>⟨λz e=>by injection e with e;omega,b⟩,λ⟨a,b⟩=>⟨a y rfl,b⟩⟩
theorem mapM_some {α β:Type}{f:α->Option β}{x:α}{r:List α}{t:List β}:(x::r).mapM f=some t↔∃b s,f x=some b/\r.mapM f=some s/\t=b::s:=by
 rw[List.mapM_cons];cases h:f x with
 |none =>
  constructor
  · intro z;cases z
  · rintro⟨b,s,e,_⟩;cases e
 |some b =>
  cases h2:r.mapM f with
  |none =>
   constructor
   · intro z;rw[show ((some b:Option β) >>= λb=>(none:Option (List β)) >>= λs=>pure (b::s))=none from rfl] at z;cases z
   · rintro⟨b,s,_,e,_⟩;cases e
  |some s =>
   constructor
   · intro z;have z:some (b::s)=some t:=z;injection z with z;exact⟨b,s,rfl,rfl,z.symm⟩
   · rintro⟨b',s',e1,e2,rfl⟩;injection e1 with e1;injection e2 with e2;subst e1 e2;rfl
theorem iB {fd:N3}(hf:∀x∈fd,x<=24):∀(ps:List Bytes) (acc s:N3),jl fd (ps.map tx) acc=some s↔∃t,ps.mapM numberOf=some t/\s=acc++t/\(∀x y,acc.getLast?=some x->t.head?=some y->x < y)/\risesN t=true/\∀x∈t,x∈fd
 |[],acc,s=>by
  show some acc=some s↔_;constructor
  · intro e;injection e with e;exact⟨[],rfl,by simp[e],λ_ _ _ z=>(by cases z),rfl,λ_ z=>(by cases z)⟩
  · rintro⟨t,e,rfl,_⟩;have e:some []=some t:=e;injection e with e;subst e;simp
 |p::r,acc,s=>by
  show (if Fits fd acc (tx p) then jl fd (r.map tx) (acc++[(ay (tx p)).toNat]) else none)=some s↔_;constructor
  · intro h;split at h
    · rename_i hn;obtain⟨n,e1,e2,e3⟩:=hn;have hn24:=hf n e2;have e4:=(dW (w:=p) (m:=n) (by omega)).mp e1;obtain⟨t,a1,a2,a3,a4,a5⟩:=(iB hf r _ s).mp h;have en:(ay (tx p)).toNat=n:=by omega
      rw[en] at a2 a3;refine⟨n::t,mapM_some.mpr ⟨n,t,e4,a1,rfl⟩,by rw[a2,MH];rfl,λx y hx hy=>?_,kZ.mpr ⟨λy hy=>a3 n y (by rw[List.getLast?_append];rfl) hy,a4⟩,λx hx=>?_⟩
      · injection hy with hy;subst hy;exact e3 x hx
      · rcases Li.mp hx with rfl|hx
        · exact e2
        · exact a5 x hx
    · cases h
  · rintro⟨t,a1,a2,a3,a4,a5⟩;obtain⟨n,t',e4,a1',rfl⟩:=mapM_some.mp a1;have e2:=a5 n (by simp);have hn24:=hf n e2;have e1:=(dW (w:=p) (m:=n) (by omega)).mpr e4;rw[Lg ⟨n,e1,e2,λx hx=>a3 x n hx rfl⟩];have en:(ay (tx p)).toNat=n:=by omega
    rw[en];obtain⟨r1,r2⟩:=kZ.mp a4;refine (iB hf r _ s).mpr ⟨t',a1',by rw[a2,MH];rfl,λx y hx hy=>?_,r2,λx hx=>a5 x (by simp[hx])⟩;rw[List.getLast?_append] at hx;have hx:some n=some x:=hx;injection hx with hx;subst hx;exact r1 y hy
theorem Kq {fd t:N3}(h:∀x∈t,x∈fd):t.all fd.contains=true:=by
 rw[LI];intro x hx;rw[Mm];exact LU (h x hx)
theorem K1 {fd t:N3}(h:t.all fd.contains=true):∀x∈t,x∈fd:=λx hx=>by
 have:=(LI.mp h) x hx;rw[Mm] at this;exact Ly this
theorem zN {e:Nat}{fd:N3}:setIn e fd []=.error ⟨3,e⟩:=rfl
theorem oF {e:Nat}{fd:N3}(hf:∀x∈fd,x<=24){w:Word}{r:List Word}:setIn e fd (w::r)=match setM fd (tx w.w) with
  |none=>.error ⟨4,w.at_⟩
  |some s=>.ok ((s,w.at_),r):=by
 have sp:a6 44 [] (tx w.w)=(splitOn 44 [] w.w).map tx:=iD (c:=44) (by decide) w.w [];show (match (splitOn 44 [] w.w).mapM numberOf with
 |none=>(Except.error ⟨4,w.at_⟩:Except Fault ((N3×Nat)×List Word))
 |some s=>if risesN s=true/\s.all fd.contains=true then (pure ((s,w.at_),r):Except Fault _) else .error ⟨4,w.at_⟩)=_
 unfold setM;rw[sp];generalize splitOn 44 [] w.w=ps;cases h:jl fd (ps.map tx) [] with
 |some s =>
  obtain⟨t,a1,a2,_,a4,a5⟩:=(iB hf ps [] s).mp h;rw[L_] at a2;subst a2;rw[a1];show (if risesN s=true/\s.all fd.contains=true then (pure ((s,w.at_),r):Except Fault _) else .error ⟨4,w.at_⟩)=_;rw[Lg ⟨a4,Kq a5⟩];rfl
 |none =>
  cases h1:ps.mapM numberOf with
  |none=>rfl
  |some t =>
   show (if risesN t=true/\t.all fd.contains=true then (pure ((t,w.at_),r):Except Fault _) else .error ⟨4,w.at_⟩)=_;rw[Lf];rintro⟨b1,b2⟩;have:=(iB hf ps [] t).mpr ⟨t,h1,by simp,λ_ _ z=>(by cases z),b1,K1 b2⟩;rw[this] at h;cases h
theorem oH {fd:N3}:∀(ps:List W) (acc s:N3),jl fd ps acc=some s->ps≠[]∨acc≠[]->s≠[]
 |[],acc,s,h,hn=>by
  have h:some acc=some s:=h;injection h with h;subst h;simpa using hn
 |p::r,acc,s,h,_=>by
  have h:(if Fits fd acc p then jl fd r (acc++[(ay p).toNat]) else none)=some s:=h;split at h
  · exact oH r _ s h (.inr (by simp))
  · cases h
theorem vN {c:Nat}:∀(l w:W),a6 c w l≠[]
 |[],w=>by show [w]≠[];simp
 |x::r,w=>by
  unfold a6;split
  · simp
  · exact vN r _
theorem Bm {l:N3}(h:risesN l=true):cG l:=by
 induction l with
 |nil=>exact List.Pairwise.nil
 |cons x r ih =>
  obtain⟨h1,h2⟩:=kZ.mp h;have ih:=ih h2;refine List.Pairwise.cons (λy hy=>?_) ih;cases r with
  |nil=>cases hy
  |cons z r =>
   have h1:=h1 z rfl;rcases Li.mp hy with rfl|hy
   · exact h1
   · have:=(Mx.mp ih).1 y hy;omega
theorem c_ {e:Nat}{fd:N3}(hf:∀x∈fd,x<=24){l:List Word}{x:(N3×Nat)×List Word}(h:setIn e fd l=.ok x):bJ fd x.1.1/\x.1.1≠[]/\∃w,l=w::x.2/\x.1.2=w.at_/\setM fd (tx w.w)=some x.1.1:=by
 cases l with
 |nil=>cases h
 |cons w r =>
  rw[oF hf] at h;cases hs:setM fd (tx w.w) with
  |none=>rw[hs] at h;cases h
  |some s =>
   rw[hs] at h;injection h with h;subst h;have sp:a6 44 [] (tx w.w)=(splitOn 44 [] w.w).map tx:=iD (c:=44) (by decide) w.w [];have hs':=hs;unfold setM at hs';have ne:s≠[]:=oH _ _ _ hs' (.inl (vN _ _));rw[sp] at hs';obtain⟨t,_,a2,_,a4,a5⟩:=(iB hf _ _ s).mp hs';rw[L_] at a2;subst a2;exact⟨⟨Bm a4,a5⟩,ne,w,rfl,rfl,hs⟩
theorem Ck {e:Nat}{s:String}:must e s []=.error ⟨3,e⟩:=rfl
theorem rY {e:Nat}{s:String}{w:Word}{r:List Word}:must e s (w::r)=if w.w=ascii s then .ok r else .error ⟨3,w.at_⟩:=rfl
abbrev Got:=Except Fault (N2×List Word)
def jn (e:Nat):N2->N2->List Word->Got
 |[],acc,l=>.ok (acc,l)
 |h::t,acc,l=>match (if 0 < acc.length then must e "/" l else .ok l) with
  |.error x=>.error x
  |.ok m=>match setIn e h m with
   |.error x=>.error x
   |.ok s=>jn e t (acc++[s.1.1]) s.2
def xJ (e k:Nat)(heads:N3)(l:List Word):Got:=match setIn e heads l with
 |.error x=>.error x
 |.ok s=>if k<=s.1.1.length then .ok ([s.1.1],s.2) else .error ⟨4,s.1.2⟩
def sr (e k:Nat)(heads sa:N3)(m:List Word):Got:=match setIn e heads m with
 |.error x=>.error x
 |.ok b=>if (∀x∈b.1.1,¬x∈sa)/\k<=sa.length+b.1.1.length then .ok ([sa,b.1.1],b.2) else .error ⟨4,b.1.2⟩
def rC (e k:Nat)(heads sa:N3)(p:Nat)(r:List Word):Got:=if sa.length < k then (match must e "with" r with
  |.error x=>.error x
  |.ok m=>sr e k heads sa m) else .error ⟨4,p⟩
def xD (e k:Nat)(heads:N3)(l:List Word):Got:=match setIn e heads l with
 |.error x=>.error x
 |.ok a=>rC e k heads a.1.1 a.1.2 a.2
def iS (x:Got):Except Fault (N2):=match x with
 |.error t=>.error t
 |.ok y=>match y.2 with
  |[]=>.ok y.1
  |w::_=>.error ⟨3,w.at_⟩
theorem Hk {e:Nat}{p:Pool}{heads:N3}{l:List Word}:boxIn e p heads l=iS (xJ e p.k heads l):=by
 unfold boxIn xJ;cases h:setIn e heads l with
 |error x=>rfl
 |ok s =>
  by_cases hk:p.k<=s.1.1.length
  · show (holds (decide (p.k<=s.1.1.length)) 4 s.1.2 >>= λ_=>closed s.2 >>= λ_=>pure [s.1.1])=iS (if p.k<=s.1.1.length then .ok ([s.1.1],s.2) else .error ⟨4,s.1.2⟩);rw[Lg hk];unfold holds;rw[Lg (LU hk)];show (closed s.2 >>= λ_=>pure [s.1.1])=iS (.ok ([s.1.1],s.2));unfold iS;show _=(match s.2 with
     |[]=>(Except.ok [s.1.1]:Except Fault _)
     |w::_=>.error ⟨3,w.at_⟩)
    cases s.2 <;> rfl
  · show (holds (decide (p.k<=s.1.1.length)) 4 s.1.2 >>= λ_=>closed s.2 >>= λ_=>pure [s.1.1])=iS (if p.k<=s.1.1.length then .ok ([s.1.1],s.2) else .error ⟨4,s.1.2⟩);rw[Lf hk];unfold holds;rw[Lf (by simpa using hk)];rfl
theorem Dt {a b:N3}{k:Nat}:(!(b.any λ(x:Nat)=>a.contains x)&&decide (k<=a.length+b.length))=decide ((∀x∈b,¬x∈a)/\k<=a.length+b.length):=by
 rw[LR];simp
theorem Gq {e:Nat}{p:Pool}{heads:N3}{l:List Word}:keyIn e p heads l=iS (xD e p.k heads l):=by
 unfold keyIn xD;cases h:setIn e heads l with
 |error x=>rfl
 |ok a =>
  show (holds (decide (a.1.1.length < p.k)) 4 a.1.2 >>= λ_=>must e "with" a.2 >>= λm=>setIn e heads m >>= λb=>holds (!(b.1.1.any λ(x:Nat)=>a.1.1.contains x)&&decide (p.k<=a.1.1.length+b.1.1.length)) 4 b.1.2 >>= λ_=>closed b.2 >>= λ_=>pure [a.1.1,b.1.1])
   = iS (if a.1.1.length < p.k then (match must e "with" a.2 with
    |.error x=>.error x
    |.ok m=>match setIn e heads m with
     |.error x=>.error x
     |.ok b=>if (∀x∈b.1.1,¬x∈a.1.1)/\p.k<=a.1.1.length+b.1.1.length then .ok ([a.1.1,b.1.1],b.2) else .error ⟨4,b.1.2⟩) else .error ⟨4,a.1.2⟩)
  by_cases hk:a.1.1.length < p.k
  · rw[Lg hk];unfold holds;rw[Lg (LU hk)];cases hm:must e "with" a.2 with
    |error x=>rfl
    |ok m =>
     show (setIn e heads m >>= λb=>(if (!(b.1.1.any λ(x:Nat)=>a.1.1.contains x)&&decide (p.k<=a.1.1.length+b.1.1.length))=true then Except.ok () else .error ⟨4,b.1.2⟩) >>= λ_=>closed b.2 >>= λ_=>pure [a.1.1,b.1.1])=iS (match setIn e heads m with
      |.error x=>.error x
      |.ok b=>if (∀x∈b.1.1,¬x∈a.1.1)/\p.k<=a.1.1.length+b.1.1.length then .ok ([a.1.1,b.1.1],b.2) else .error ⟨4,b.1.2⟩)
     cases hb:setIn e heads m with
     |error x=>rfl
     |ok b =>
      show ((if (!(b.1.1.any λ(x:Nat)=>a.1.1.contains x)&&decide (p.k<=a.1.1.length+b.1.1.length))=true then Except.ok () else .error ⟨4,b.1.2⟩) >>= λ_=>closed b.2 >>= λ_=>pure [a.1.1,b.1.1])=iS (if (∀x∈b.1.1,¬x∈a.1.1)/\p.k<=a.1.1.length+b.1.1.length then .ok ([a.1.1,b.1.1],b.2) else .error ⟨4,b.1.2⟩);rw[Dt];by_cases hq:(∀x∈b.1.1,¬x∈a.1.1)/\p.k<=a.1.1.length+b.1.1.length
      · rw[Lg hq,Lg (LU hq)];show (closed b.2 >>= λ_=>pure [a.1.1,b.1.1])=(match b.2 with
         |[]=>Except.ok [a.1.1,b.1.1]
         |w::_=>.error ⟨3,w.at_⟩)
        cases b.2 <;> rfl
      · rw[Lf hq,Lf (by rw[Lm];exact hq)];rfl
  · rw[Lf hk];unfold holds;rw[Lf (by simpa using hk)];rfl
def mm (acc:N2)(x:Except Fault (N2)):Except Fault (N2):=match x with
 |.error t=>.error t
 |.ok y=>.ok (acc++y)
theorem Cm {e:Nat}:∀(fs acc:N2) (l:List Word),acc≠[]->fs≠[]->iS (jn e fs acc l)=mm acc (must e "/" l >>= λm=>setsIn e fs m)
 |[],_,_,_,h=>absurd rfl h
 |h::t,acc,l,ha,_=>by
  have hl:0 < acc.length:=Mi.mpr ha;unfold jn;rw[Lg hl];cases hm:must e "/" l with
  |error x=>rfl
  |ok m =>
   show iS (match setIn e h m with
    |.error x=>.error x
    |.ok s=>jn e t (acc++[s.1.1]) s.2)=mm acc (setsIn e (h::t) m)
   cases t with
   |nil =>
    show _=mm acc (setIn e h m >>= λs=>closed s.2 >>= λ_=>pure [s.1.1]);cases hs:setIn e h m with
    |error x=>rfl
    |ok s =>
     show iS (.ok (acc++[s.1.1],s.2))=mm acc (closed s.2 >>= λ_=>pure [s.1.1]);unfold iS;show (match s.2 with
      |[]=>(Except.ok (acc++[s.1.1]):Except Fault _)
      |w::_=>.error ⟨3,w.at_⟩)=_
     cases s.2 <;> rfl
   |cons h2 t2 =>
    show _=mm acc (setIn e h m >>= λs=>must e "/" s.2 >>= λm=>setsIn e (h2::t2) m >>= λr=>pure (s.1.1::r));cases hs:setIn e h m with
    |error x=>rfl
    |ok s =>
     show iS (jn e (h2::t2) (acc++[s.1.1]) s.2)=mm acc (must e "/" s.2 >>= λm=>setsIn e (h2::t2) m >>= λr=>pure (s.1.1::r));rw[Cm (h2::t2) (acc++[s.1.1]) s.2 (by simp) (by simp)];cases must e "/" s.2 with
     |error x=>rfl
     |ok m2 =>
      show mm _ (setsIn e (h2::t2) m2)=mm acc (setsIn e (h2::t2) m2 >>= λr=>pure (s.1.1::r));cases setsIn e (h2::t2) m2 with
      |error x=>rfl
      |ok r =>
       show Except.ok (acc++[s.1.1]++r)=Except.ok (acc++(s.1.1::r));rw[MH];rfl
theorem Jj {e:Nat}{fs:N2}{l:List Word}:setsIn e fs l=iS (jn e fs [] l):=by
 cases fs with
 |nil =>
  show (closed l).map (λ(_:Unit)=>[])=(match l with
   |[]=>Except.ok []
   |w::_=>.error ⟨3,w.at_⟩)
  cases l <;> rfl
 |cons h t =>
  show _=iS (match setIn e h l with
   |.error x=>.error x
   |.ok s=>jn e t ([]++[s.1.1]) s.2)
  cases t with
  |nil =>
   show (setIn e h l >>= λs=>closed s.2 >>= λ_=>pure [s.1.1])=_;cases hs:setIn e h l with
   |error x=>rfl
   |ok s =>
    show (closed s.2 >>= λ_=>pure [s.1.1])=(match s.2 with
     |[]=>Except.ok ([]++[s.1.1])
     |w::_=>.error ⟨3,w.at_⟩)
    cases s.2 <;> rfl
  |cons h2 t2 =>
   show (setIn e h l >>= λs=>must e "/" s.2 >>= λm=>setsIn e (h2::t2) m >>= λr=>pure (s.1.1::r))=_;cases hs:setIn e h l with
   |error x=>rfl
   |ok s =>
    show (must e "/" s.2 >>= λm=>setsIn e (h2::t2) m >>= λr=>pure (s.1.1::r))=iS (jn e (h2::t2) ([]++[s.1.1]) s.2);rw[Cm (h2::t2) ([]++[s.1.1]) s.2 (by simp) (by simp)];cases must e "/" s.2 with
    |error x=>rfl
    |ok m2 =>
     show (setsIn e (h2::t2) m2 >>= λr=>pure (s.1.1::r))=mm _ (setsIn e (h2::t2) m2);cases setsIn e (h2::t2) m2 with
     |error x=>rfl
     |ok r=>rfl
structure DV (p:aO):Prop where
 ne:p.fields≠[]
 len:p.fields.length<=24
 hi:∀fd∈p.fields,∀x∈fd,x<=24
 unit:1<=p.unit
 six:p.fields.length<=6
 EN:p.kind=.any->p.fields.length<=3
 lo:∀fd∈p.fields,∀x∈fd,1<=x
 JW:p.kind=.order->p.fields.length<=4
 J9:p.kind≠.legs->∀fd∈p.fields,fd≠[]
def fz (e:Nat)(p:aO)(how:Nat)(l:List Word):Got:=if how=0 then jn e p.fields [] l else if how=1 then xJ e p.fields.length (p.fields.getD 0 []) l else xD e p.fields.length (p.fields.getD 0 []) l
def cP (p:aO):Bool:=p.kind==.order||p.kind==.any
def jj (p:aO)(w:Bytes):Option Nat:=if w=ascii "on" then some 0 else if w=ascii "box"/\cP p=true then some 1 else if w=ascii "key"/\cP p=true then some 2 else none
def dO (ps:List aO)(w:W):Option Nat:=ps.findIdx? λp=>p.name==w
def cf (n:Nat):How:=if n=0 then .on else if n=1 then .box else .key
structure bP where
 pool:Nat
 how:Nat
 stake:Nat
 sets:N2
structure uq (p:aO)(how:Nat)(sets:N2):Prop where
 ok:DV p
 way:how=0∨cP p=true
 read:∃e l r,fz e p how l=.ok (sets,r)
def d9 (u:Nat)(w:W):Prop:=1<=ay w/\ay w<=1000000/\ay w % (u:Int)=0
instance {u:Nat}{w:W}:Decidable (d9 u w):=by unfold d9;exact inferInstance
def Gb (i how stake hp sp:Nat)(p:aO)(sets:N2):Except Fault bP :=
 if countM p.kind (cf how) p.fields.length sets=0 then .error ⟨6,hp⟩ else if 2147483647 < stake*countM p.kind (cf how) p.fields.length sets then .error ⟨7,sp⟩ else .ok ⟨i,how,stake,sets⟩
def wW (e i how stake hp sp:Nat)(p:aO)(x:Got):Except Fault bP:=match iS x with
 |.error t=>.error t
 |.ok sets=>Gb i how stake hp sp p sets
def IK (e i:Nat)(p:aO)(stake sp:Nat):List Word->Except Fault bP
 |[]=>.error ⟨3,e⟩
 |hw::r=>match jj p hw.w with
  |none=>.error ⟨3,hw.at_⟩
  |some how=>wW e i how stake hw.at_ sp p (fz e p how r)
def Iy (e i:Nat)(p:aO):List Word->Except Fault bP
 |[]=>.error ⟨3,e⟩
 |sw::r=>if d9 p.unit (tx sw.w) then IK e i p (ay (tx sw.w)).toNat sw.at_ r else .error ⟨4,sw.at_⟩
def BS (e i:Nat)(p:aO)(l:List Word):Except Fault bP:=match must e "for" l with
 |.error t=>.error t
 |.ok m=>Iy e i p m
def Jk (e:Nat)(ps:List aO):List Word->Except Fault bP
 |[]=>.error ⟨3,e⟩
 |n::r=>match dO ps (tx n.w) with
  |none=>.error ⟨5,n.at_⟩
  |some i=>match ps[i]? with
   |none=>.error ⟨5,n.at_⟩
   |some p=>BS e i p r
def BU (e:Nat)(ps:List aO)(l:List Word):Except Fault bP:=match must e "bet" l with
 |.error t=>.error t
 |.ok m=>Jk e ps m
theorem vU {ps:List aO}{w:W}{i:Nat}(h:dO ps w=some i):i < ps.length:=by
 unfold dO at h;rw[Nv] at h;exact h.1
theorem vk {v:Bytes}(h:isName v=true):∀c∈v,tX c.toNat=true:=λc hc=>by
 rw[←j2] at h;have h2:=j7 h;have:sg c.toNat∈tx v:=LM.mpr ⟨c,hc,rfl⟩;have h3:=h2.2 _ this;rw[oT,pV] at h3;unfold tX;rw[h3];rfl
theorem DX {C:Card}(o:cg C)(v:Bytes):dO (C.pools.map (aB C)) (tx v)=C.pools.findIdx? λp=>p.name==v:=by
 unfold dO;rw[List.findIdx?_map];have:∀(l:List Pool),(∀p∈l,isName p.name=true)->List.findIdx? ((λp=>p.name==tx v) ∘ aB C) l=l.findIdx? λp=>p.name==v:=λl=>by
  induction l with
  |nil=>intro _;rfl
  |cons p r ih =>
   intro hn;rw[List.findIdx?_cons,List.findIdx?_cons,ih λq hq=>hn q (by simp[hq])];have e:((λp=>p.name==tx v) ∘ aB C) p=(p.name==v):=by
    show (tx p.name==tx v)=_;rw[LR,L5,L5];constructor
    · intro z;have:=(qP (v:=p.name) (w:=v) (vk (hn p (by simp)))).mp;have e2:tx p.name=p.name.map UInt8.toNat:=(qP (v:=p.name) (w:=p.name) (vk (hn p (by simp)))).mpr rfl;exact (this (by rw[←z,e2])).symm
    · intro z;rw[z]
   rw[e]
 exact this C.pools λp hp=>(o.pools p hp).name
theorem pN {C:Card}(o:cg C){r:Nat}(h1:1<=r)(h2:r<=C.races.length):cM (C.headsOf r):=by
 unfold Card.headsOf;rw[Lo (by omega)];exact o.heads _ (M6 _)
theorem il {p:Pool}(h:p.kind=.order∨p.kind=.any):p.places=p.k:=by
 unfold Pool.places;rw[Lf];rcases h with h|h <;> rw[h] <;> decide
theorem gL {C:Card}{p:Pool}(h:dU C p)(hk:p.kind≠.legs):fieldsOf C p=List.replicate p.places (C.headsOf p.race):=by
 unfold fieldsOf;rw[Lf hk]
theorem tj {k:Kind}:mostK k<=6:=by cases k <;> decide
theorem lj {C:Card}{p:Pool}(h:dU C p):1<=p.places:=by
 unfold Pool.places;split
 · exact Ln _
 · have:=h.Ja;have:1<=leastK p.kind:=by cases p.kind <;> decide
   omega
theorem zu {C:Card}{p:Pool}(h:dU C p):p.places<=6:=by
 unfold Pool.places;split
 · decide
 · have:=h.Gs;have:=tj (k:=p.kind);omega
theorem KR {C:Card}(o:cg C){p:Pool}(h:dU C p):DV (aB C p):=by
 have hu:=h.unit;by_cases hk:p.kind=.legs
 · have e:(aB C p).fields=((rh C).drop (p.race - 1)).take p.k:=by
    show fieldsOf C p=_;unfold fieldsOf;rw[Lg hk];exact rP C p hk h.Ex (h.legs hk)
   have hl:=h.legs hk;have hr:=h.Ex;have hlo:=h.Ja;have hm:2<=p.k:=by rw[hk] at hlo;exact hlo
   have hn:(rh C).length=C.races.length:=by unfold rh;rw[Le]
   have hlen:(aB C p).fields.length=p.k:=by
    rw[e,LB,L7];omega
   have of:∀fd∈(aB C p).fields,cM fd:=λfd hf=>by
    rw[e] at hf;have:fd∈rh C:=MN (MV hf);unfold rh at this;obtain⟨r,hr,rfl⟩:=LM.mp this;exact o.heads r hr
   refine⟨λz=>by rw[z] at hlen;simp at hlen;omega,by have:=h.Gs;have:=tj (k:=p.kind);omega,λfd hf x hx=>?_,hu,by have:=h.Gs;have:=tj (k:=p.kind);omega,λz=>(by have z:p.kind=.any:=z;rw[hk] at z;cases z),λfd hf x hx=>(of fd hf).lo x hx,λz=>(by have z:p.kind=.order:=z;rw[hk] at z;cases z),λz=>absurd hk z⟩;exact (of fd hf).hi x hx
 · have e:(aB C p).fields=List.replicate p.places (C.headsOf p.race):=gL h hk;have p1:=lj h;have p2:=zu h;have of:∀fd∈(aB C p).fields,cM fd:=λfd hf=>by
    rw[e] at hf;rw[Mf hf];exact pN o h.Ex h.J5
   refine⟨λz=>by rw[z] at e;have:=Ml List.length e;simp at this;omega,by rw[e,LN];omega,λfd hf x hx=>?_,hu,by rw[e,LN];omega,λz=>by
    have z:p.kind=.any:=z;rw[e,LN,il (.inr z)];have:=h.Gs;rw[z] at this;exact this,λfd hf x hx=>(of fd hf).lo x hx,λz=>by
    have z:p.kind=.order:=z;rw[e,LN,il (.inl z)];have:=h.Gs;rw[z] at this;exact this,λ_ fd hf z=>by
    rw[e] at hf;rw[Mf hf] at z;have f:=h.vR hk;rw[z] at f;have l:=h.Ja;have:1<=leastK p.kind:=by cases p.kind <;> decide
    have f:p.k<=0:=f;omega⟩
   exact (of fd hf).hi x hx
theorem oM {e:Nat}:∀(fs acc:N2) (l:List Word) (s:N2) (r:List Word),(∀fd∈fs,∀x∈fd,x<=24)->jn e fs acc l=.ok (s,r)->s.length=acc.length+fs.length/\(∀x∈s,x∈acc∨∃fd∈fs,bJ fd x/\x≠[])/\(∀x∈acc,x∈s)/\∀fd∈fs,∃x∈s,bJ fd x/\x≠[]
 |[],acc,l,s,r,_,h=>by
  have h:(Except.ok (acc,l):Got)=.ok (s,r):=h;injection h with h;injection h with h1 h2;subst h1;exact⟨rfl,λx hx=>.inl hx,λx hx=>hx,λfd hf=>by cases hf⟩
 |f::fs,acc,l,s,r,hf,h=>by
  have h:(match (if 0 < acc.length then must e "/" l else .ok l) with
   |.error x=>(Except.error x:Got)
   |.ok m=>match setIn e f m with
    |.error x=>.error x
    |.ok s=>jn e fs (acc++[s.1.1]) s.2)=.ok (s,r):=h
  cases hm:(if 0 < acc.length then must e "/" l else .ok l) with
  |error x=>rw[hm] at h;cases h
  |ok m =>
   rw[hm] at h;have h:(match setIn e f m with
    |.error x=>(Except.error x:Got)
    |.ok s=>jn e fs (acc++[s.1.1]) s.2)=.ok (s,r):=h
   have ef:=hf f (by simp);cases hs:setIn e f m with
   |error x=>rw[hs] at h;cases h
   |ok y =>
    rw[hs] at h;obtain⟨g,ne,_⟩:=c_ ef hs;obtain⟨i1,i2,i3,i4⟩:=oM fs (acc++[y.1.1]) y.2 s r (λfd hfd=>hf fd (by simp[hfd])) h;refine⟨by rw[i1];simp;omega,λx hx=>?_,λx hx=>i3 x (by simp[hx]),λfd hfd=>?_⟩
    · rcases i2 x hx with z|⟨fd,hfd,z⟩
      · rcases L4.mp z with z|z
        · exact .inl z
        · rw[Ls] at z;subst z;exact .inr ⟨f,by simp,g,ne⟩
      · exact .inr ⟨fd,by simp[hfd],z⟩
    · rcases Li.mp hfd with rfl|hfd
      · exact⟨y.1.1,i3 _ (by simp),g,ne⟩
      · exact i4 fd hfd
theorem C5 {e:Nat}{heads:N3}(h24:∀x∈heads,x<=24)(fs acc:N2)(l:List Word)(s:N2)(r:List Word)(hf:∀fd∈fs,fd=heads)(h:jn e fs acc l=.ok (s,r)):s.length=acc.length+fs.length/\∀x∈s,x∈acc∨bJ heads x:=by
 obtain⟨h1,h2,_⟩:=oM fs acc l s r (λfd hfd=>by rw[hf fd hfd];exact h24) h;exact⟨h1,λx hx=>(h2 x hx).imp id λ⟨fd,hfd,g,_⟩=>by rwa [hf fd hfd] at g⟩
theorem xX {e k:Nat}{heads:N3}(h24:∀x∈heads,x<=24){l r:List Word}{s:N2}(h:xJ e k heads l=.ok (s,r)):∃t,s=[t]/\k<=t.length/\bJ heads t:=by
 unfold xJ at h;cases hs:setIn e heads l with
 |error x=>rw[hs] at h;cases h
 |ok y =>
  rw[hs] at h;have h:(if k<=y.1.1.length then (Except.ok ([y.1.1],y.2):Got) else .error ⟨4,y.1.2⟩)=.ok (s,r):=h;split at h
  · rename_i hk;injection h with h;injection h with h1 h2;exact⟨_,h1.symm,hk,(c_ h24 hs).1⟩
  · cases h
theorem xZ {e k:Nat}{heads:N3}(h24:∀x∈heads,x<=24){l r:List Word}{s:N2}(h:xD e k heads l=.ok (s,r)):∃a b,s=[a,b]/\a.length < k/\(∀x∈b,¬x∈a)/\k<=a.length+b.length/\bJ heads a/\bJ heads b/\a≠[]:=by
 unfold xD at h;cases hs:setIn e heads l with
 |error x=>rw[hs] at h;cases h
 |ok y =>
  rw[hs] at h;have h:rC e k heads y.1.1 y.1.2 y.2=.ok (s,r):=h;unfold rC at h;split at h
  · rename_i hk;cases hm:must e "with" y.2 with
    |error x=>rw[hm] at h;cases h
    |ok m =>
     rw[hm] at h;have h:sr e k heads y.1.1 m=.ok (s,r):=h;unfold sr at h;cases hb:setIn e heads m with
     |error x=>rw[hb] at h;cases h
     |ok z =>
      rw[hb] at h;have h:(if (∀x∈z.1.1,¬x∈y.1.1)/\k<=y.1.1.length+z.1.1.length then (Except.ok ([y.1.1,z.1.1],z.2):Got) else .error ⟨4,z.1.2⟩)=.ok (s,r):=h;split at h
      · rename_i hq;injection h with h;injection h with h1 h2;exact⟨_,_,h1.symm,hk,hq.1,hq.2,(c_ h24 hs).1,(c_ h24 hb).1,(c_ h24 hs).2.1⟩
      · cases h
  · cases h
theorem lH {s:N3}(h:cG s)(h24:∀x∈s,x<=24):s.length<=25:=by
 have:=hX (m:=List.range 25) h.nodup λx hx=>M3.mpr (by have:=h24 x hx;omega);simpa using this
structure CS (ss:N2):Prop where
 len:ss.length<=6
 good:∀s∈ss,cG s/\∀x∈s,x<=24
 lo:∀s∈ss,∀x∈s,1<=x
structure ur (kd:Kind)(gs:List (N2)):Prop where
 ne:gs≠[]
 vR:gs.length<=4096
 ok:∀g∈gs,CS g
 any:kd=.any->∀g∈gs,g.length<=3
theorem tU {p:aO}(o:DV p):p.fields.getD 0 []∈p.fields:=by
 have hl:0 < p.fields.length:=Mi.mpr o.ne;have eg:p.fields.getD 0 []=p.fields[0]:=by rw[LX,Lo hl];rfl
 rw[eg];exact M6 hl
theorem uq.all {p:aO}{how:Nat}{sets:N2}(m:uq p how sets):(∀s∈sets,s≠[]/\∃fd∈p.fields,bJ fd s)/\(how=0->sets.length=p.fields.length/\∀fd∈p.fields,fd≠[])/\(how=1->∃t,sets=[t]/\p.fields.length<=t.length)/\(how≠0->how≠1->∃a b,sets=[a,b]/\a.length < p.fields.length/\(∀x∈b,¬x∈a)/\p.fields.length<=a.length+b.length):=by
 obtain⟨e,l,r,hr⟩:=m.read;unfold fz at hr;by_cases h0:how=0
 · rw[Lg h0] at hr;obtain⟨h1,h2,_,h4⟩:=oM _ [] l sets r m.ok.hi hr;refine⟨λs hs=>?_,λ_=>⟨by simpa using h1,λfd hf z=>?_⟩,λz=>by omega,λz=>absurd h0 z⟩
   · obtain⟨fd,hf,g,ne⟩:=(h2 s hs).resolve_left (by simp);exact⟨ne,fd,hf,g⟩
   · obtain⟨s,_,g,ne⟩:=h4 fd hf;obtain⟨x,hx⟩:=List.exists_mem_of_ne_nil s ne;have:=g.sub x hx;rw[z] at this;cases this
 · rw[Lf h0] at hr;have f:=m.ok.hi _ (tU m.ok);by_cases h1:how=1
   · rw[Lg h1] at hr;obtain⟨t,rfl,h2,g⟩:=xX f hr;have pos:0 < p.fields.length:=Mi.mpr m.ok.ne;exact⟨λs hs=>by rw[Ls.mp hs];exact⟨λz=>by rw[z] at h2;have h2:p.fields.length<=0:=h2;omega,_,tU m.ok,g⟩,λz=>absurd z h0,λ_=>⟨t,rfl,h2⟩,λ_ z=>absurd h1 z⟩
   · rw[Lf h1] at hr;obtain⟨a,b,rfl,z2,z3,z4,g1,g2,g3⟩:=xZ f hr;refine⟨λs hs=>?_,λz=>absurd z h0,λz=>absurd z h1,λ_ _=>⟨a,b,rfl,z2,z3,z4⟩⟩;rcases Li.mp hs with e|e
     · rw[e];exact⟨g3,_,tU m.ok,g1⟩
     · rw[Ls.mp e];exact⟨λz=>by rw[z] at z4;simp at z4;omega,_,tU m.ok,g2⟩
theorem uq.good {p:aO}{how:Nat}{sets:N2}(m:uq p how sets):∀s∈sets,cG s/\(∀x∈s,x<=24)/\∀x∈s,1<=x:=λs hs=>by
 obtain⟨_,fd,hf,g⟩:=m.all.1 s hs;exact⟨g.rise,λx hx=>m.ok.hi fd hf x (g.sub x hx),λx hx=>m.ok.lo fd hf x (g.sub x hx)⟩
theorem sv {a:Nat}{B:N3}:∀g:N2,(jo a B g).length<=g.length
 |[]=>Ln _
 |s::g=>by
  have:=sv (a:=a) (B:=B) g;show ((if s==B then [[a]::g] else [])++(jo a B g).map λr=>s::r).length<=_;rw[LA,Le,Lp];split
  · show 1+_<=_;omega
  · show 0+_<=_;omega
theorem pK {α β:Type}{f:α->List β}{c:Nat}:∀{l:List α},(∀x∈l,(f x).length<=c)->(l.flatMap f).length<=l.length*c
 |[],_=>LJ _
 |x::l,h=>by
  rw[NB,LA,Lp,Nat.succ_mul];have:=h x (by simp);have:=pK (l:=l) λy hy=>h y (by simp[hy]);omega
theorem mY {B:N3}{k:Nat}:∀{A:N3} {gs:List (N2)},(∀g∈gs,g.length=k)->(bE B A gs).length<=gs.length*k ^ A.length
 |[],gs,_=>by simp[bE]
 |a::A,gs,h=>by
  have ih:=mY (B:=B) (A:=A) (gs:=gs.flatMap (jo a B)) (k:=k) λg hg=>by
   obtain⟨g0,h0,hr⟩:=Nj.mp hg;rw[(oz hr).1,h g0 h0]
  have l1:(gs.flatMap (jo a B)).length<=gs.length*k:=pK λg hg=>by rw[←h g hg];exact sv g
  show (bE B A (gs.flatMap (jo a B))).length<=_;rw[Lp,Ni,Nw (k ^ A.length) k,←Nat.mul_assoc];exact L1 ih (Nat.mul_le_mul_right _ l1)
theorem Df {t:N3}{k:Nat}(h6:k<=6)(g:cG t/\(∀x∈t,x<=24)/\∀x∈t,1<=x):CS (List.replicate k t) :=
 ⟨by rw[LN];exact h6,λs hs=>by rw[Mf hs];exact⟨g.1,g.2.1⟩,λs hs=>by rw[Mf hs];exact g.2.2⟩
theorem ur.bE {kd:Kind}{A B:N3}{k:Nat}(gA:cG A/\(∀x∈A,x<=24)/\∀x∈A,1<=x)(gB:cG B/\(∀x∈B,x<=24)/\∀x∈B,1<=x)(dis:∀x∈B,¬x∈A)(hA:A.length < k)(h4:k<=4)(h3:kd=.any->k<=3):ur kd (bE B A [List.replicate k B]):=by
 obtain⟨h1,h2⟩:=iI (B:=B) (k:=k) (A:=A) (had:=[]) (gs:=[List.replicate k B]) (λx hx m=>dis x m (by simpa using hx)) (by simpa using gA.1.nodup) (by simp) (λg hg=>by
  rw[Ls] at hg;subst hg;exact⟨by simp,λs hs=>.inl (Mf hs),by simp⟩)
 obtain⟨q,e⟩:=k_ (B:=B) (A:=A) (P:=[]) (j:=k) (rest:=[]) (λx hx m=>dis x m (by simpa using hx)) (by omega);rw[MD,L_,L_] at e;rw[L_] at h2;have len:=mY (B:=B) (A:=A) (k:=k) (gs:=[List.replicate k B]) (λg hg=>by rw[Ls.mp hg,LN]);have pw:k ^ A.length<=4 ^ 3:=L1 (Nat.pow_le_pow_left h4 _) (Ng (by decide) (by omega));have is:∀g∈Bw.bE B A [List.replicate k B],∀s∈g,cG s/\(∀x∈s,x<=24)/\∀x∈s,1<=x:=λg hg s hs=>by
  rcases (h2 g hg).are s hs with rfl|⟨a,ha,rfl⟩
  · exact gB
  · exact⟨by simp,λx hx=>by rw[Ls.mp hx];exact gA.2.1 a ha,λx hx=>by rw[Ls.mp hx];exact gA.2.2 a ha⟩
 refine⟨by rw[e];simp,by rw[Ms,Nat.one_mul] at len;omega,λg hg=>⟨by rw[(h2 g hg).len];omega,λs hs=>⟨(is g hg s hs).1,(is g hg s hs).2.1⟩,λs hs=>(is g hg s hs).2.2⟩,λz g hg=>by rw[(h2 g hg).len];exact h3 z⟩
theorem uq.k4 {p:aO}{how:Nat}{sets:N2}(m:uq p how sets)(h0:how≠0):p.fields.length<=4:=by
 have w:=m.way.resolve_left h0;unfold cP at w;rw[Me] at w;rcases w with w|w
 · exact m.ok.JW (MI w)
 · exact Nat.le_succ_of_le (m.ok.EN (MI w))
theorem ur.cut {kd:Kind}{gs:List (N2)}(o:ur kd gs):ur kd (gs.take 1) :=
 ⟨λz=>o.ne (by simpa using z),by have:=o.vR;rw[LB];omega,λg hg=>o.ok g (MV hg),λz g hg=>o.any z g (MV hg)⟩
theorem uq.IL {p:aO}{how:Nat}{sets:N2}(m:uq p how sets):ur p.kind (jO p.kind (cf how) p.fields.length sets):=by
 obtain⟨_,h0,h1,h2⟩:=m.all;have good:=m.good;have one:∀{ss:N2},CS ss->(p.kind=.any->ss.length<=3)->ur p.kind [ss]:=λo h=>⟨by simp,by show 1<=4096;decide,λg hg=>by rw[Ls.mp hg];exact o,λz g hg=>by rw[Ls.mp hg];exact h z⟩;unfold cf;by_cases z0:how=0
 · rw[Lg z0];have hl:=(h0 z0).1;exact one ⟨by rw[hl];exact m.ok.six,λs hs=>⟨(good s hs).1,(good s hs).2.1⟩,λs hs=>(good s hs).2.2⟩ λz=>by rw[hl];exact m.ok.EN z
 · rw[Lf z0];have k4:=m.k4 z0;by_cases z1:how=1
   · rw[Lg z1];obtain⟨t,rfl,_⟩:=h1 z1;exact one (Df m.ok.six (good t (by simp))) λz=>by rw[LN];exact m.ok.EN z
   · rw[Lf z1];obtain⟨a,b,rfl,q1,q2,q3⟩:=h2 z0 z1;have G:ur p.kind (Bw.bE b a [List.replicate p.fields.length b]):=ur.bE (good a (by simp)) (good b (by simp)) q2 q1 k4 m.ok.EN;show ur p.kind (if p.kind=.any then (Bw.bE b a [List.replicate p.fields.length b]).take 1 else Bw.bE b a [List.replicate p.fields.length b]);split
     · exact G.cut
     · exact G
theorem uq.J9 {p:aO}{how:Nat}{sets:N2}(m:uq p how sets):∀fd∈p.fields,fd≠[]:=by
 by_cases hk:p.kind=.legs
 · refine (m.all.2.1 (m.way.resolve_right λw=>?_)).2;unfold cP at w;rw[hk] at w;cases w
 · exact m.ok.J9 hk
theorem uq.K9 {p:aO}{how:Nat}{sets:N2}(m:uq p how sets):∀g∈jO p.kind (cf how) p.fields.length sets,g≠[]/\∀s∈g,s≠[]:=by
 obtain⟨ha,h0,h1,h2⟩:=m.all;have pos:0 < p.fields.length:=Mi.mpr m.ok.ne;unfold cf;intro g hg;by_cases z0:how=0
 · rw[Lg z0] at hg;have e:g=sets:=Ls.mp hg;subst e;exact⟨λz=>by have:=(h0 z0).1;rw[z] at this;simp at this;omega,λs hs=>(ha s hs).1⟩
 · rw[Lf z0] at hg;by_cases z1:how=1
   · rw[Lg z1] at hg;obtain⟨t,rfl,_⟩:=h1 z1;have e:g=List.replicate p.fields.length t:=Ls.mp hg;subst e;exact⟨λz=>by have:=Ml List.length z;rw[LN] at this;have:p.fields.length=0:=this;omega,λs hs=>by rw[Mf hs];exact (ha t (by simp)).1⟩
   · rw[Lf z1] at hg;obtain⟨a,b,rfl,q1,q2,q3⟩:=h2 z0 z1;have hg:g∈Bw.bE b a [List.replicate p.fields.length b]:=by
      have hg:g∈(if p.kind=.any then (Bw.bE b a [List.replicate p.fields.length b]).take 1 else Bw.bE b a [List.replicate p.fields.length b]):=hg;split at hg
      · exact MV hg
      · exact hg
     have G:=(iI (B:=b) (k:=p.fields.length) (A:=a) (had:=[]) (gs:=[List.replicate p.fields.length b]) (λx hx m=>q2 x m (by simpa using hx)) (by simpa using (m.good a (by simp)).1.nodup) (by simp) (λg hg=>by
      rw[Ls] at hg;subst hg;exact⟨by simp,λs hs=>.inl (Mf hs),by simp⟩)).2 g hg
     refine⟨λz=>by have:=G.len;rw[z] at this;simp at this;omega,λs hs=>?_⟩;rcases G.are s hs with rfl|⟨x,_,rfl⟩
     · exact (ha s (by simp)).1
     · simp
theorem BO {h:Nat}:cf h=.box↔h=1:=by
 unfold cf;by_cases h0:h=0
 · rw[Lg h0];constructor
   · intro z;cases z
   · intro z;omega
 · rw[Lf h0];by_cases h1:h=1
   · rw[Lg h1];simp[h1]
   · rw[Lf h1];constructor
     · intro z;cases z
     · intro z;exact absurd z h1
theorem uN {h:Nat}:cf h=.on↔h=0:=by
 unfold cf;by_cases h0:h=0
 · rw[Lg h0];simp[h0]
 · rw[Lf h0];by_cases h1:h=1
   · rw[Lg h1];constructor
     · intro z;cases z
     · intro z;omega
   · rw[Lf h1];constructor
     · intro z;cases z
     · intro z;exact absurd z h0
theorem Bf {h:Nat}:cf h=.key↔h≠0/\h≠1:=by
 unfold cf;by_cases h0:h=0
 · rw[Lg h0];constructor
   · intro z;cases z
   · intro z;exact absurd h0 z.1
 · rw[Lf h0];by_cases h1:h=1
   · rw[Lg h1];constructor
     · intro z;cases z
     · intro z;exact absurd h1 z.2
   · rw[Lf h1];simp[h0,h1]
theorem j3 {C:Card}{p:Pool}:cP (aB C p)=true↔p.kind=.order∨p.kind=.any:=by
 show (p.kind==.order||p.kind==.any)=true↔_;cases p.kind <;> decide
theorem uE {α:Type}{n:Nat}{x d:α}(h:1<=n):(List.replicate n x).getD 0 d=x:=by
 cases n with
 |zero=>omega
 |succ n=>rfl
theorem Cf {C:Card}(o:cg C){i:Nat}{p:Pool}(hi:C.pool i=p)(hP:dU C p){how stake e:Nat}{l r:List Word}{sets:N2}(way:how=0∨cP (aB C p)=true)(h:fz e (aB C p) how l=.ok (sets,r)):yQ C ⟨i,cf how,sets,stake⟩ p:=by
 have nm:p.kind≠.legs->fieldsOf C p=List.replicate p.places (C.headsOf p.race):=gL hP;have gh:=pN o hP.Ex hP.J5;unfold fz at h;have hk0:p.kind=.place∨p.kind=.legs->how=0:=λz=>by
  rcases way with w|w
  · exact w
  · rw[j3] at w;rcases z with z|z <;> rcases w with w|w <;> rw[z] at w <;> cases w
 have fld0:how≠0->(aB C p).fields.getD 0 []=C.headsOf p.race/\(aB C p).fields.length=p.k:=λhn=>by
  have w:p.kind=.order∨p.kind=.any:=by
   rcases way with w|w
   · exact absurd w hn
   · exact j3.mp w
  have hl:p.kind≠.legs:=by rcases w with w|w <;> rw[w] <;> decide
  have e:(aB C p).fields=List.replicate p.places (C.headsOf p.race):=nm hl;rw[e,LN];exact⟨uE (lj hP),il w⟩
 have onOk:how=0->p.kind≠.legs->sets.length=p.places/\∀s∈sets,bJ (C.headsOf p.race) s:=λhz hl=>by
  rw[Lg hz] at h;have e:(aB C p).fields=List.replicate p.places (C.headsOf p.race):=nm hl;rw[e] at h;obtain⟨h1,h2⟩:=C5 gh.hi _ [] l sets r (λfd hf=>Mf hf) h;rw[LN] at h1;exact⟨by simpa using h1,λs hs=>(h2 s hs).resolve_left (by simp)⟩
 have boxOk:how=1->∃t,sets=[t]/\p.k<=t.length/\bJ (C.headsOf p.race) t:=λhz=>by
  obtain⟨f1,f2⟩:=fld0 (by omega);rw[Lf (by omega),Lg hz,f1,f2] at h;exact xX gh.hi h
 have keyOk:how≠0->how≠1->∃a b,sets=[a,b]/\a.length < p.k/\(∀x∈b,¬x∈a)/\p.k<=a.length+b.length/\bJ (C.headsOf p.race) a/\bJ (C.headsOf p.race) b:=λh0 h1=>by
  obtain⟨f1,f2⟩:=fld0 h0;rw[Lf h0,Lf h1,f1,f2] at h;obtain⟨a,b,z1,z2,z3,z4,z5,z6,_⟩:=xZ gh.hi h;exact⟨a,b,z1,z2,z3,z4,z5,z6⟩
 refine⟨hi,λ_=>gh,λh1 h2=>?_,λh1 s hs=>?_,λh1=>?_,λh1=>uN.mpr (hk0 (.inr h1)),λh1 h2 h3=>?_,λh1=>?_,λh1=>?_⟩
 · refine⟨?_,hP.Gs⟩;have:=hP.Ja;have e2:leastK p.kind=2:=by
    cases hk:p.kind with
    |place=>exact absurd hk h2
    |order=>rfl
    |any=>rfl
    |legs=>exact absurd hk h1
   omega
 · by_cases z0:how=0
   · exact (onOk z0 h1).2 s hs
   · by_cases z1:how=1
     · obtain⟨t,e,_,g⟩:=boxOk z1;have hs:s∈sets:=hs;rw[e,Ls] at hs;subst hs;exact g
     · obtain⟨a,b,e,_,_,_,g1,g2⟩:=keyOk z0 z1;have hs:s∈sets:=hs;rw[e] at hs;rcases Li.mp hs with rfl|hs
       · exact g1
       · rw[Ls] at hs;subst hs;exact g2
 · have z0:=hk0 (.inl h1);refine⟨uN.mpr z0,?_⟩;have:=(onOk z0 (by rw[h1];decide)).1;rw[show p.places=1 by unfold Pool.places;rw[Lg h1]] at this;exact this
 · have z0:=uN.mp h3;have:=(onOk z0 h1).1;rw[show p.places=p.k by unfold Pool.places;rw[Lf h2]] at this;exact this
 · obtain⟨t,e,hk,_⟩:=boxOk (BO.mp h1);exact⟨t,e,hk⟩
 · obtain⟨z0,z1⟩:=Bf.mp h1;obtain⟨a,b,e,h2,h3,h4,_⟩:=keyOk z0 z1;exact⟨a,b,e,h2,h3,h4⟩
theorem yU {C:Card}(o:cg C){i:Nat}{p:Pool}(hi:C.pool i=p)(hP:dU C p){how stake e:Nat}{l r:List Word}{sets:N2}(way:how=0∨cP (aB C p)=true)(h:fz e (aB C p) how l=.ok (sets,r)) :
  countM p.kind (cf how) (aB C p).fields.length sets=C.manyOf ⟨i,cf how,sets,stake⟩:=by
 rw[sJ (Cf o hi hP way h)];show _=countM p.kind (cf how) p.k sets;by_cases h0:how=0
 · rw[uN.mpr h0];rfl
 · have w:p.kind=.order∨p.kind=.any:=by
    rcases way with w|w
    · exact absurd w h0
    · exact j3.mp w
   have hl:p.kind≠.legs:=by rcases w with w|w <;> rw[w] <;> decide
   have e:(aB C p).fields=List.replicate p.places (C.headsOf p.race):=gL hP hl;rw[e,LN,il w]
def qG (h:How):Nat:=match h with
 |.on=>0
 |.box=>1
 |.key=>2
theorem E2 {h:Nat}(h2:h<=2):qG (cf h)=h:=by
 have:h=0∨h=1∨h=2:=by omega
 rcases this with rfl|rfl|rfl <;> rfl
def tw (x:Except Fault Bet):Except Fault bP:=match x with
 |.error t=>.error t
 |.ok b=>.ok ⟨b.pool,qG b.how,b.stake,b.sets⟩
def ji (C:Card)(hp sp:Nat)(b:Bet):Except Fault Bet:=holds (decide (0 < C.manyOf b)) 6 hp >>= λ_=>holds (decide (b.stake*C.manyOf b<=COST)) 7 sp >>= λ_=>pure b
theorem EG {C:Card}{i how stake hp sp:Nat}{p:Pool}{sets:N2}(h2:how<=2)(hm:countM p.kind (cf how) (aB C p).fields.length sets=C.manyOf ⟨i,cf how,sets,stake⟩) :
  Gb i how stake hp sp (aB C p) sets=tw (ji C hp sp ⟨i,cf how,sets,stake⟩):=by
 have hm:countM (aB C p).kind (cf how) (aB C p).fields.length sets=C.manyOf ⟨i,cf how,sets,stake⟩:=hm;unfold Gb ji;rw[hm];generalize C.manyOf ⟨i,cf how,sets,stake⟩=m;by_cases h0:m=0
 · rw[Lg h0];unfold holds;rw[Lf (by simp[h0])];rfl
 · rw[Lf h0];unfold holds;rw[Lg (show decide (0 < m)=true from LU (by omega))];by_cases h1:2147483647 < stake*m
   · rw[Lg h1];show _=tw ((if decide (stake*m<=COST)=true then Except.ok () else .error ⟨7,sp⟩) >>= λ_=>pure _);rw[Lf (by rw[Lm];unfold COST;omega)];rfl
   · rw[Lf h1];show _=tw ((if decide (stake*m<=COST)=true then Except.ok () else .error ⟨7,sp⟩) >>= λ_=>pure _);rw[Lg (by rw[Lm];unfold COST;omega)];show _=Except.ok (⟨i,qG (cf how),stake,sets⟩:bP);rw[E2 h2]
def sh (C:Card)(e i:Nat)(p:Pool)(stake sp:Nat)(l:List Word):Except Fault Bet:=next e l >>= λw =>
 if w.1.w=ascii "on" then (setsIn e (if p.kind=.legs then C.sets p else List.replicate p.places (C.headsOf p.race)) w.2).map (λ(q:N2)=>(⟨i,.on,q,stake⟩:Bet)) >>= λb=>ji C w.1.at_ sp b
 else if w.1.w=ascii "box"/\(p.kind==.order||p.kind==.any)=true then (boxIn e p (C.headsOf p.race) w.2).map (λ(q:N2)=>(⟨i,.box,q,stake⟩:Bet)) >>= λb=>ji C w.1.at_ sp b
 else if w.1.w=ascii "key"/\(p.kind==.order||p.kind==.any)=true then (keyIn e p (C.headsOf p.race) w.2).map (λ(q:N2)=>(⟨i,.key,q,stake⟩:Bet)) >>= λb=>ji C w.1.at_ sp b
 else (.error ⟨3,w.1.at_⟩:Except Fault Bet) >>= λb=>ji C w.1.at_ sp b
theorem o4 {C:Card}(o:cg C){i:Nat}{p:Pool}(hi:C.pool i=p)(hP:dU C p){e how stake hp sp:Nat}(h2:how<=2)(way:how=0∨cP (aB C p)=true){r:List Word}{x:Except Fault (N2)}(hx:x=iS (fz e (aB C p) how r)) :
  wW e i how stake hp sp (aB C p) (fz e (aB C p) how r)=tw ((x.map λ(q:N2)=>(⟨i,cf how,q,stake⟩:Bet)) >>= λb=>ji C hp sp b):=by
 subst hx;unfold wW;cases hs:fz e (aB C p) how r with
 |error t=>rfl
 |ok y =>
  obtain⟨sets,r'⟩:=y;cases r' with
  |nil =>
   show Gb i how stake hp sp (aB C p) sets=tw (ji C hp sp ⟨i,cf how,sets,stake⟩);exact EG h2 (yU o hi hP way hs)
  |cons w r'=>rfl
theorem By {C:Card}(o:cg C){i:Nat}{p:Pool}(hi:C.pool i=p)(hP:dU C p){e stake sp:Nat}{l:List Word}:IK e i (aB C p) stake sp l=tw (sh C e i p stake sp l):=by
 cases l with
 |nil=>rfl
 |cons w r =>
  show (match jj (aB C p) w.w with
   |none=>(Except.error ⟨3,w.at_⟩:Except Fault bP)
   |some how=>wW e i how stake w.at_ sp (aB C p) (fz e (aB C p) how r))=tw (if w.w=ascii "on" then (setsIn e (if p.kind=.legs then C.sets p else List.replicate p.places (C.headsOf p.race)) r).map (λ(q:N2)=>(⟨i,.on,q,stake⟩:Bet)) >>= λb=>ji C w.at_ sp b
   else if w.w=ascii "box"/\cP (aB C p)=true then (boxIn e p (C.headsOf p.race) r).map (λ(q:N2)=>(⟨i,.box,q,stake⟩:Bet)) >>= λb=>ji C w.at_ sp b
   else if w.w=ascii "key"/\cP (aB C p)=true then (keyIn e p (C.headsOf p.race) r).map (λ(q:N2)=>(⟨i,.key,q,stake⟩:Bet)) >>= λb=>ji C w.at_ sp b
   else (.error ⟨3,w.at_⟩:Except Fault Bet) >>= λb=>ji C w.at_ sp b)
  have fld:cP (aB C p)=true->(aB C p).fields.getD 0 []=C.headsOf p.race/\(aB C p).fields.length=p.k:=λhw=>by
   have w:=j3.mp hw;have hl:p.kind≠.legs:=by rcases w with w|w <;> rw[w] <;> decide
   have e:(aB C p).fields=List.replicate p.places (C.headsOf p.race):=gL hP hl;rw[e,LN];exact⟨uE (lj hP),il w⟩
  unfold jj;by_cases c0:w.w=ascii "on"
  · rw[Lg c0,Lg c0];refine o4 o hi hP (by decide) (.inl rfl) ?_;rw[Jj];rfl
  · rw[Lf c0,Lf c0];by_cases c1:w.w=ascii "box"/\cP (aB C p)=true
    · rw[Lg c1,Lg c1];refine o4 (how:=1) o hi hP (by decide) (.inr c1.2) ?_;obtain⟨f1,f2⟩:=fld c1.2;rw[Hk];unfold fz;rw[Lf (by decide),Lg rfl,f1,f2]
    · rw[Lf c1,Lf c1];by_cases c2:w.w=ascii "key"/\cP (aB C p)=true
      · rw[Lg c2,Lg c2];refine o4 (how:=2) o hi hP (by decide) (.inr c2.2) ?_;obtain⟨f1,f2⟩:=fld c2.2;rw[Gq];unfold fz;rw[Lf (by decide),Lf (by decide),f1,f2]
      · rw[Lf c2,Lf c2];rfl
def tail3 (C:Card)(e i:Nat)(p:Pool)(l:List Word):Except Fault Bet:=must e "for" l >>= λm=>number e 1 STAKE m >>= λs=>holds (s.1.1 % p.unit==0) 4 s.1.2 >>= λ_=>sh C e i p s.1.1 s.1.2 s.2
theorem zS {u:Nat}(hu:1<=u){v:Bytes}:d9 u (tx v)↔∃n,numberOf v=some n/\1<=n/\n<=1000000/\n % u=0/\(ay (tx v)).toNat=n:=by
 unfold d9;constructor
 · rintro⟨h1,h2,h3⟩;obtain⟨n,e,a,b,c⟩:=(eY (w:=v) (lo:=1) (hi:=1000000) (by decide)).mp ⟨h1,h2⟩;refine⟨n,e,a,b,?_,by omega⟩;rw[c] at h3;have:((n % u:Nat):Int)=0:=by rw[Int.natCast_emod];exact h3
   omega
 · rintro⟨n,e,a,b,c,d⟩;obtain⟨h1,h2⟩:=(eY (w:=v) (lo:=1) (hi:=1000000) (by decide)).mpr ⟨n,e,a,b,by rw[(dW (w:=v) (m:=n) (by omega)).mpr e]⟩;refine⟨h1,h2,?_⟩;rw[(dW (w:=v) (m:=n) (by omega)).mpr e,←Int.natCast_emod,c];rfl
theorem Cd {C:Card}(o:cg C){i:Nat}{p:Pool}(hi:C.pool i=p)(hP:dU C p){e:Nat}{l:List Word}:BS e i (aB C p) l=tw (tail3 C e i p l):=by
 unfold BS tail3;cases hm:must e "for" l with
 |error t=>rfl
 |ok m =>
  show Iy e i (aB C p) m=tw (number e 1 STAKE m >>= λs=>holds (s.1.1 % p.unit==0) 4 s.1.2 >>= λ_=>sh C e i p s.1.1 s.1.2 s.2);cases m with
  |nil=>rfl
  |cons w r =>
   show (if d9 p.unit (tx w.w) then IK e i (aB C p) (ay (tx w.w)).toNat w.at_ r else .error ⟨4,w.at_⟩)=tw ((match numberOf w.w with
    |none=>.error ⟨4,w.at_⟩
    |some n=>if n < 1∨STAKE < n then .error ⟨4,w.at_⟩ else pure ((n,w.at_),r)) >>= λs=>holds (s.1.1 % p.unit==0) 4 s.1.2 >>= λ_=>sh C e i p s.1.1 s.1.2 s.2)
   have key:=zS hP.unit (v:=w.w);cases hn:numberOf w.w with
   |none =>
    rw[Lf (λz=>by obtain⟨n,e,_⟩:=key.mp z;rw[hn] at e;cases e)];rfl
   |some n =>
    show _=tw ((if n < 1∨STAKE < n then .error ⟨4,w.at_⟩ else pure ((n,w.at_),r)) >>= λs=>holds (s.1.1 % p.unit==0) 4 s.1.2 >>= λ_=>sh C e i p s.1.1 s.1.2 s.2);by_cases c:n < 1∨STAKE < n
    · rw[Lg c,Lf (λz=>by
       obtain⟨n',e,a,b,_⟩:=key.mp z;rw[hn] at e;injection e with e;unfold STAKE at c;omega)]
      rfl
    · rw[Lf c];show _=tw (holds (n % p.unit==0) 4 w.at_ >>= λ_=>sh C e i p n w.at_ r);unfold holds;by_cases d:n % p.unit=0
      · have hs:d9 p.unit (tx w.w):=key.mpr ⟨n,hn,by omega,by unfold STAKE at c;omega,d,by
         rw[(dW (w:=w.w) (m:=n) (by unfold STAKE at c;omega)).mpr hn];rfl⟩
        rw[Lg hs,Lg (by rw[d];rfl)];have en:(ay (tx w.w)).toNat=n:=by rw[(dW (w:=w.w) (m:=n) (by unfold STAKE at c;omega)).mpr hn];rfl
        rw[en];exact By o hi hP
      · rw[Lf (λz=>by
         obtain⟨n',e,_,_,h,_⟩:=key.mp z;rw[hn] at e;injection e with e;subst e;exact d h),Lf (by simpa using d)]
        rfl
theorem CH {C:Card}(o:cg C){e:Nat}{l:List Word}:BU e (C.pools.map (aB C)) l=tw (C.betIn ⟨l,e⟩):=by
 have eb:C.betIn ⟨l,e⟩=(must e "bet" l >>= λm=>next e m >>= λn=>match C.pools.findIdx? λ(p:Pool)=>p.name==n.1.w with
  |none=>.error ⟨5,n.1.at_⟩
  |some i=>tail3 C e i (C.pool i) n.2):=rfl
 rw[eb];unfold BU;cases hm:must e "bet" l with
 |error t=>rfl
 |ok m =>
  show Jk e (C.pools.map (aB C)) m=tw (next e m >>= λn=>match C.pools.findIdx? λ(p:Pool)=>p.name==n.1.w with
   |none=>.error ⟨5,n.1.at_⟩
   |some i=>tail3 C e i (C.pool i) n.2)
  cases m with
  |nil=>rfl
  |cons n r =>
   show (match dO (C.pools.map (aB C)) (tx n.w) with
    |none=>(Except.error ⟨5,n.at_⟩:Except Fault bP)
    |some i=>match (C.pools.map (aB C))[i]? with
     |none=>.error ⟨5,n.at_⟩
     |some p=>BS e i p r)=tw (match C.pools.findIdx? λ(p:Pool)=>p.name==n.w with
    |none=>.error ⟨5,n.at_⟩
    |some i=>tail3 C e i (C.pool i) r)
   rw[DX o];cases hf:C.pools.findIdx? λ(p:Pool)=>p.name==n.w with
   |none=>rfl
   |some i =>
    have hil:i < C.pools.length:=by
     rw[Nv] at hf;exact hf.1
    have hg:(C.pools.map (aB C))[i]?=some (aB C C.pools[i]):=by rw[Lj,Lo hil];rfl
    have hp:C.pool i=C.pools[i]:=by unfold Card.pool;rw[Lo hil];rfl
    show (match (C.pools.map (aB C))[i]? with
     |none=>(Except.error ⟨5,n.at_⟩:Except Fault bP)
     |some p=>BS e i p r)=tw (tail3 C e i (C.pool i) r)
    rw[hg];show BS e i (aB C C.pools[i]) r=_;rw[Cd o hp (o.pools _ (M6 hil)),hp]
def dj (ps:List aO)(b:Bytes):Except Fault bP:=match upTo b with
 |none=>.error ⟨1,b.length⟩
 |some (l,r)=>match badByte true 0 l with
  |some i=>.error ⟨2,i⟩
  |none=>match BU l.length ps (wordsFrom 0 [] l) with
   |.error t=>.error t
   |.ok x=>if r=[] then .ok x else .error ⟨8,l.length+1⟩
def Fc (ps:List aO)(l r:Bytes):Except Fault bP:=match badByte true 0 l with
  |some i=>.error ⟨2,i⟩
  |none=>match BU l.length ps (wordsFrom 0 [] l) with
   |.error t=>.error t
   |.ok x=>if r=[] then .ok x else .error ⟨8,l.length+1⟩
theorem xx {ps:List aO}{b:Bytes}(h:upTo b=none):dj ps b=.error ⟨1,b.length⟩:=by
 unfold dj;rw[h]
theorem xK {ps:List aO}{b l r:Bytes}(h:upTo b=some (l,r)):dj ps b=Fc ps l r:=by
 unfold dj;rw[h];rfl
def fJ (t b:Bytes):Except (List Int) bP:=if 65536 < t.length∨4096 < b.length then .error [-2] else match dE (tx t) with
 |none=>.error [-8]
 |some ps=>match dj ps b with
  |.error f=>.error [-6,(f.kind:Nat),(f.place:Nat)]
  |.ok y=>.ok y
theorem El {C:Card}(o:cg C)(b:Bytes):dj (C.pools.map (aB C)) b=tw (C.readBet b):=by
 unfold dj Card.readBet;cases upTo b with
 |none=>rfl
 |some x =>
  obtain⟨l,r⟩:=x;show (match badByte true 0 l with
   |some i=>(Except.error ⟨2,i⟩:Except Fault bP)
   |none=>match BU l.length (C.pools.map (aB C)) (wordsFrom 0 [] l) with
    |.error t=>.error t
    |.ok x=>if r=[] then .ok x else .error ⟨8,l.length+1⟩)=tw (match badByte true 0 l with
   |some i=>.error ⟨2,i⟩
   |none=>match C.betIn ⟨wordsFrom 0 [] l,l.length⟩ with
    |.error e=>.error e
    |.ok x=>if r.isEmpty=true then .ok x else .error ⟨8,l.length+1⟩)
  cases badByte true 0 l with
  |some i=>rfl
  |none =>
   show (match BU l.length (C.pools.map (aB C)) (wordsFrom 0 [] l) with
    |.error t=>(Except.error t:Except Fault bP)
    |.ok x=>if r=[] then .ok x else .error ⟨8,l.length+1⟩)=tw (match C.betIn ⟨wordsFrom 0 [] l,l.length⟩ with
    |.error e=>.error e
    |.ok x=>if r.isEmpty=true then .ok x else .error ⟨8,l.length+1⟩)
   rw[CH o];cases C.betIn ⟨wordsFrom 0 [] l,l.length⟩ with
   |error t=>rfl
   |ok x =>
    cases r with
    |nil=>rfl
    |cons c r=>rfl
theorem A5 (t:Bytes)(ps:List aO)(h:dE (tx t)=some ps):∀p∈ps,DV p:=by
 cases hc:readCard t with
 |error e=>rw[(mj t).2 e hc] at h;cases h
 |ok C =>
  obtain⟨o,_,h2⟩:=(mj t).1 C hc;rw[h2] at h;injection h with h;subst h;intro p hp;obtain⟨q,hq,rfl⟩:=LM.mp hp;exact KR o (o.pools q hq)
def Gx (a:Ans):List Int:=a.code::a.nums
theorem D4 (h:How):cf (qG h)=h:=by cases h <;> rfl
theorem C0 (t b:Bytes):(∃z:Int,fJ t b=.error [z]/\∀G,ToteBetCalls.ofBet t b G=says z)∨(∃k p:Int,fJ t b=.error [-6,k,p]/\∀G,ToteBetCalls.ofBet t b G=says (-6)) ∨
  ∃(C:Card) (x:Bet),cg C/\dE (tx t)=some (C.pools.map (aB C))/\fJ t b=.ok ⟨x.pool,qG x.how,x.stake,x.sets⟩/\∀G,ToteBetCalls.ofBet t b G=G C x:=by
 by_cases hb:4096 < b.length
 · left;refine⟨-2,?_,λG=>Lg (show ToteBetCalls.LOOKED < b.length from hb)⟩;unfold fJ;exact Lg (.inr hb)
 have eO:∀G,ToteBetCalls.ofBet t b G=ofCard t λC=>match C.readBet b with
  |.error _=>says (-6)
  |.ok x=>G C x:=λG=>Lf (show ¬ToteBetCalls.LOOKED < b.length from hb)
 by_cases ht:65536 < t.length
 · left;refine⟨-2,?_,λG=>(eO G).trans (Lg (show TEXT < t.length from ht))⟩;unfold fJ;exact Lg (.inl ht)
 have eL:fJ t b=match dE (tx t) with
  |none=>.error [-8]
  |some ps=>match dj ps b with
   |.error f=>.error [-6,(f.kind:Nat),(f.place:Nat)]
   |.ok y=>.ok y:=by
  unfold fJ;exact Lf (by omega)
 have eC:∀G,ToteBetCalls.ofBet t b G=match readCard t with
  |.error _=>says (-8)
  |.ok C=>match C.readBet b with
   |.error _=>says (-6)
   |.ok x=>G C x:=λG=>(eO G).trans (Lf (show ¬TEXT < t.length from ht))
 cases hc:readCard t with
 |error e =>
  left;refine⟨-8,?_,λG=>?_⟩
  · rw[eL,(mj t).2 e hc]
  · rw[eC,hc]
 |ok C =>
  right;obtain⟨o,_,h2⟩:=(mj t).1 C hc;have eR:fJ t b=match dj (C.pools.map (aB C)) b with
   |.error f=>.error [-6,(f.kind:Nat),(f.place:Nat)]
   |.ok y=>.ok y:=by rw[eL,h2]
  rw[El o] at eR;cases hr:C.readBet b with
  |error e =>
   left;rw[hr] at eR;exact⟨(e.kind:Nat),(e.place:Nat),eR,λG=>by rw[eC,hc];show (match C.readBet b with|.error _=>_|.ok x=>_)=_;rw[hr]⟩
  |ok x =>
   right;rw[hr] at eR;exact⟨C,x,o,h2,eR,λG=>by rw[eC,hc];show (match C.readBet b with|.error _=>_|.ok x=>_)=_;rw[hr]⟩
def Rs (t b:Bytes)(g:bP->aO->List Int)(zs:List Int):Prop :=
 (∃xs,fJ t b=.error xs/\zs=xs.take 1)∨∃y ps p,fJ t b=.ok y/\dE (tx t)=some ps/\ps[y.pool]?=some p/\uq p y.how y.sets/\zs=g y p
theorem AE {t b:Bytes}{g:bP->aO->List Int}{G:Card->Bet->Ans}{zs:List Int}(h:Rs t b g zs)
  (hg:∀(C:Card) (x:Bet),cg C->∀p∈C.pools,C.pool x.pool=p->uq (aB C p) (qG x.how) x.sets->g ⟨x.pool,qG x.how,x.stake,x.sets⟩ (aB C p)=Gx (G C x)):zs=Gx (ToteBetCalls.ofBet t b G):=by
 rcases C0 t b with ⟨z,h1,h2⟩|⟨k,p,h1,h2⟩|⟨C,x,o,h0,h1,h2⟩
 · rw[h2];rcases h with ⟨xs,e,rfl⟩|⟨y,ps,p,e,_⟩
   · rw[h1] at e;cases e;rfl
   · rw[h1] at e;cases e
 · rw[h2];rcases h with ⟨xs,e,rfl⟩|⟨y,ps,p,e,_⟩
   · rw[h1] at e;cases e;rfl
   · rw[h1] at e;cases e
 · rw[h2];rcases h with ⟨xs,e,rfl⟩|⟨y,ps,p,e,e1,e2,m,rfl⟩
   · rw[h1] at e;cases e
   · rw[h1] at e;cases e;rw[h0] at e1;cases e1;rw[Lj] at e2;obtain⟨q,hq,rfl⟩:=LO.mp e2;exact hg C x o q (LH hq) (by unfold Card.pool;rw[hq];rfl) m
def Bn (y:bP)(p:aO):List Int:=[0,(countM p.kind (cf y.how) p.fields.length y.sets:Nat)]
theorem EI {C:Card}{x:Bet}(o:cg C){p:Pool}(hp:p∈C.pools)(hi:C.pool x.pool=p)(m:uq (aB C p) (qG x.how) x.sets):countM (aB C p).kind (cf (qG x.how)) (aB C p).fields.length x.sets=C.manyOf x:=by
 obtain⟨e,l,r,hr⟩:=m.read;have z:=yU (stake:=x.stake) o hi (o.pools p hp) m.way hr;refine z.trans ?_;rw[D4]
theorem B0 {t b:Bytes}{zs:List Int}(h:Rs t b Bn zs):zs=Gx (ToteBetCalls.answer (.many t b)):=by
 refine AE h λC x o p hp hi m=>?_;show [0,((countM (aB C p).kind (cf (qG x.how)) (aB C p).fields.length x.sets:Nat):Int)]=_;rw[EI o hp hi m];rfl
theorem rB (x:Nat):∀(ss:N2) (b:Nat) (s:N3),bitsOf x b (ss++[s])=bitsOf x b ss++(if s.contains x=true then [b*2 ^ ss.length] else [])
 |[],b,s=>by
  show (if s.contains x=true then [b] else [])++[]=[]++(if s.contains x=true then [b*2 ^ 0] else []);simp
 |t::ss,b,s=>by
  show (if t.contains x=true then [b] else [])++bitsOf x (2*b) (ss++[s])=((if t.contains x=true then [b] else [])++bitsOf x (2*b) ss)++_;rw[rB x ss (2*b) s,MH];have e:2*b*2 ^ ss.length=b*2 ^ (t::ss).length:=by
   rw[Lp,Ni,Nw 2 b,Nat.mul_assoc,Nw 2]
  rw[e]
theorem uO (x:Nat):∀(ss:N2) (b:Nat),∀c∈bitsOf x b ss,∃p,p < ss.length/\c=b*2 ^ p
 |[],b,c,h=>by cases h
 |t::ss,b,c,h=>by
  have h:c∈(if t.contains x=true then [b] else [])++bitsOf x (2*b) ss:=h;rcases L4.mp h with h|h
  · split at h
    · rw[Ls] at h;exact⟨0,by simp,by simp[h]⟩
    · cases h
  · obtain⟨p,h1,h2⟩:=uO x ss (2*b) c h;exact⟨p+1,by simp;omega,by rw[h2,Ni,Nw 2 b,Nat.mul_assoc,Nw 2]⟩
theorem pE (x:Nat):∀(ss:N2) (b:Nat),(bitsOf x b ss).length<=ss.length
 |[],b=>Ln _
 |t::ss,b=>by
  show ((if t.contains x=true then [b] else [])++bitsOf x (2*b) ss).length<=_;rw[LA,Lp];have:=pE x ss (2*b);split
  · simp;omega
  · simp;omega
theorem Es {m p:Nat}:(m &&& 2 ^ p≠0)↔bD m (2 ^ p)=true:=by
 unfold bD;have e:(m / 2 ^ p % 2==1)=m.testBit p:=by
  rw[Nat.testBit_eq_decide_div_mod_eq,LR,L5,Lm]
 rw[e];constructor
 · intro h;cases ht:m.testBit p with
   |true=>rfl
   |false =>
    refine absurd (Nat.eq_of_testBit_eq λi=>?_) h;rw[Nat.testBit_and,Nat.testBit_two_pow,Nat.zero_testBit];by_cases c:p=i
    · subst c;rw[ht];rfl
    · rw[L3 c,Bool.and_false]
 · intro h z;have:=Ml (λn=>Nat.testBit n p) z;simp only[Nat.testBit_and,Nat.testBit_two_pow,Nat.zero_testBit,h] at this;simp at this
theorem G0 {m b:Nat}(h:bD m b=true)(hb:0 < b):b<=m:=by
 unfold bD at h;rw[L5] at h;by_cases z:b<=m
 · exact z
 · rw[Nat.div_eq_of_lt (by omega)] at h;cases h
theorem A6:∀(ss:N2) (m:Nat),1<=m->m < 2 ^ ss.length->sel m ss≠[]
 |[],m,h1,h2=>by simp at h2;omega
 |s::ss,m,h1,h2=>by
  rw[oN];by_cases h:m % 2=1
  · rw[Lg h];simp
  · rw[Lf h];have:=A6 ss (m / 2) (by omega) (by rw[Lp,Ni] at h2;omega);simpa using this
def pB (x:Nat)(z:Nat):Bool:=decide (1<=z)&&decide (z < x)
theorem C1 {x:Nat}(hx:1<=x):(λz=>pB x z||z==x)=pB (x+1):=by
 funext z;unfold pB;rw[LR];simp;omega
theorem Ik (x:Nat):pB x x=false:=by unfold pB;simp
theorem Gu:pB 1=λ_=>false:=by
 funext z;unfold pB;rw[Bool.eq_false_iff];simp;omega
theorem G3:pB 25=lA:=by
 funext z;unfold pB lA;rw[LR];simp;omega
def cz (ss:N2)(x m:Nat):Nat:=dk (sel m ss) (pB x)
theorem o6 (ss:N2)(x:Nat):cz ss x 0=1:=by
 unfold cz;rw[uV];rfl
theorem EL {ss:N2}{m:Nat}(h1:1<=m)(h2:m < 2 ^ ss.length):cz ss 1 m=0:=by
 unfold cz;rw[Gu];have:=A6 ss m h1 h2;cases hs:sel m ss with
 |nil=>exact absurd hs this
 |cons s r =>
  unfold dk;have e:s.filter (λ_=>false)=[]:=by
   rw[List.filter_eq_nil_iff];intro _ _ z;cases z
  rw[e];rfl
theorem Av {ss:N2}(nd:∀s∈ss,s.Nodup){x m:Nat}(hx:1<=x):cz ss (x+1) m=cz ss x m+(((bitsOf x 1 ss).filter (bD m)).map λb=>cz ss x (m - b)).sum:=by
 unfold cz;rw[←C1 hx];exact zH x m ss (pB x) nd (Ik x)
theorem B4 {ss:N2}:cz ss 25 (2 ^ ss.length - 1)=dk ss lA:=by
 unfold cz;rw[vm,G3]
def js (ss:N2)(x f i:Nat):N3:=(List.range (f+1)).map λm=>if f - i < m then cz ss (x+1) m else cz ss x m
def tab (ss:N2)(x f:Nat):N3:=(List.range (f+1)).map λm=>cz ss x m
theorem Ao (ss:N2)(x f:Nat):js ss x f 0=tab ss x f:=by
 unfold js tab;refine L8 λm hm=>?_;have:=M3.mp hm;rw[Lf (by omega)]
theorem BF (ss:N2)(x f:Nat):js ss x f f=tab ss (x+1) f:=by
 unfold js tab;refine L8 λm hm=>?_;by_cases h:m=0
 · subst h;rw[Lf (by omega),o6,o6]
 · rw[Lg (by omega)]
theorem uk {ss:N2}{x f i m:Nat}(h:m<=f):(js ss x f i)[m]?=some (if f - i < m then cz ss (x+1) m else cz ss x m):=by
 unfold js;rw[Lj,MY (by omega)];rfl
theorem B1 {ss:N2}{x f m:Nat}(h:m<=f):(tab ss x f)[m]?=some (cz ss x m):=by
 unfold tab;rw[Lj,MY (by omega)];rfl
theorem CM {ss:N2}{x f i:Nat}(hi:i < f):(js ss x f i).set (f - i) (cz ss (x+1) (f - i))=js ss x f (i+1):=by
 refine NC λm=>?_;rw[List.getElem?_set];have hl:(js ss x f i).length=f+1:=by unfold js;rw[Le,Ny]
 by_cases hm:m<=f
 · rw[uk (i:=i+1) hm];by_cases e:f - i=m
   · rw[Lg e,Lg (by omega),Lg (by omega),e]
   · rw[Lf e,uk hm];congr 1;by_cases h2:f - i < m
     · rw[Lg h2,Lg (by omega)]
     · rw[Lf h2,Lf (by omega)]
 · have hl2:(js ss x f (i+1)).length=f+1:=by unfold js;rw[Le,Ny]
   rw[Lf (by omega),Mh (by omega),Mh (by omega)]
theorem zU {ss:N2}:[1]++List.replicate (2 ^ ss.length - 1) 0=tab ss 1 (2 ^ ss.length - 1):=by
 have hp:0 < 2 ^ ss.length:=Nat.pow_pos (by decide);refine NC λm=>?_;by_cases hm:m<=2 ^ ss.length - 1
 · rw[B1 hm];cases m with
   |zero=>rw[o6];rfl
   |succ m =>
    rw[EL (by omega) (by omega)];show (List.replicate (2 ^ ss.length - 1) 0)[m]?=some 0;rw[List.getElem?_replicate,Lg (by omega)]
 · unfold tab;rw[Mh (by simp;omega),Mh (by simp;omega)]
def iy (g:N2)(s:N3):Bool:=(s.zip g).all λz=>z.2.contains z.1
def kJ (g:N2)(s:N3):Nat:=if iy g s=true then product ((g.drop s.length).map List.length) else 0
def gu (s t:N3):N3:=t.filter λx=>!s.contains x
def sy (g:N2)(s:N3):Nat:=if iy g s=true/\s.Nodup then dk ((g.drop s.length).map (gu s)) lA else 0
def pre (R:N2)(s:N3):Nat:=R.countP λr=>s.isPrefixOf r
theorem jZ {α:Type}{p q:Prop} [Decidable p] [Decidable q] {a b:α}(h:p↔q):(if p then a else b)=if q then a else b:=by
 by_cases z:p
 · rw[Lg z,Lg (h.mp z)]
 · rw[Lf z,Lf λy=>z (h.mpr y)]
theorem lG (R:N2):pre R []=R.length:=by
 unfold pre;rw[List.countP_eq_length];intro r _;simp
theorem B7 {x y:Nat}{s:N3}(R:N2):pre (R.map λr=>y::r) (x::s)=if (y==x)=true then pre R s else 0:=by
 unfold pre;rw[List.countP_map];by_cases e:y=x
 · rw[Lg (by simpa using e)];congr 1;funext r;simp[e]
 · rw[Lf (by simpa using e),List.countP_eq_zero];intro r _;have:¬x=y:=λz=>e z.symm;simp[this]
theorem vb {x:Nat}{s t:N3}(nd:t.Nodup)(f:Nat->N2):pre (t.flatMap λy=>(f y).map λr=>y::r) (x::s)=if t.contains x=true then pre (f x) s else 0:=by
 have e:pre (t.flatMap λy=>(f y).map λr=>y::r) (x::s)=(t.map λy=>if (y==x)=true then pre (f x) s else 0).sum:=by
  unfold pre;rw[List.countP_flatMap];refine Ml List.sum (L8 λy _=>?_);show pre ((f y).map λr=>y::r) (x::s)=_;rw[B7];by_cases z:y=x
  · subst z;rfl
  · rw[Lf (by simpa using z),Lf (by simpa using z)]
 rw[e,ng,k7 nd];split <;> simp
theorem vH:∀(g:N2) (s:N3),(∀t∈g,t.Nodup)->s.length<=g.length->kJ g s=pre (rowsOf g) s
 |g,[],_,_=>by
  rw[lG,jt];unfold kJ iy;simp
 |[],x::s,_,h=>by simp at h
 |t::g,x::s,nd,h=>by
  have ih:=vH g s (λu hu=>nd u (by simp[hu])) (by simpa using h);unfold rowsOf;rw[vb (nd t (by simp)) λ_=>rowsOf g,←ih];unfold kJ iy;simp only[List.zip_cons_cons,Nq,Lp,List.drop_succ_cons,Ll];by_cases c:t.contains x=true
  · rw[Lg c];by_cases d:((s.zip g).all λz=>z.2.contains z.1)=true
    · rw[Lg d,Lg ⟨c,d⟩]
    · rw[Lf d,Lf λz=>d z.2]
  · rw[Lf c,Lf λz=>c z.1]
theorem vz:∀(g:N2) (s had:N3),(∀t∈g,t.Nodup)->s.length<=g.length->pre (apartRows g had) s=if iy g s=true/\s.Nodup/\∀x∈s,¬x∈had then dk (g.drop s.length) (λz=>!had.contains z&&!s.contains z) else 0
 |g,[],had,_,_=>by
  rw[lG,rV,Lg ⟨by simp[iy],by simp,by simp⟩];simp
 |[],x::s,_,_,h=>by simp at h
 |t::g,x::s,had,nd,h=>by
  have ih:=vz g s (x::had) (λu hu=>nd u (by simp[hu])) (by simpa using h);unfold apartRows;rw[vb ((nd t (by simp)).filter _) λy=>apartRows g (y::had),ih];have ep:(λz=>!(x::had).contains z&&!s.contains z)=λz=>!had.contains z&&!(x::s).contains z:=by
   funext z;simp only[List.contains_cons];cases (z==x) <;> cases had.contains z <;> cases s.contains z <;> rfl
  rw[ep];have eC:(iy (t::g) (x::s)=true/\(x::s).Nodup/\∀y∈x::s,¬y∈had)↔(t.filter λy=>!had.contains y).contains x=true/\(iy g s=true/\s.Nodup/\∀y∈s,¬y∈x::had):=by
   have ei:iy (t::g) (x::s)=true↔x∈t/\iy g s=true:=by unfold iy;simp
   rw[ei,Mq,NN,Mm,Lm,Mo];simp only[Li,not_or,L6,Mm,LW];constructor
   · rintro⟨⟨a,b⟩,⟨n,c⟩,d,e⟩;exact⟨⟨a,d⟩,b,c,λy hy=>⟨λz=>n (z ▸ hy),e y hy⟩⟩
   · rintro⟨⟨a,d⟩,b,c,e⟩;exact⟨⟨a,b⟩,⟨λm=>(e x m).1 rfl,c⟩,d,λy hy=>(e y hy).2⟩
  rw[jZ eC];by_cases c:(t.filter λy=>!had.contains y).contains x=true
  · rw[Lg c];exact jZ ⟨λz=>⟨c,z⟩,λz=>z.2⟩
  · rw[Lf c,Lf λz=>c z.1]
theorem vx {s:N3}:∀(ss:N2) (p:Nat->Bool),dk (ss.map (gu s)) p=dk ss λz=>p z&&!s.contains z
 |[],_=>rfl
 |t::ss,p=>by
  rw[Lv];unfold dk gu;rw[List.filter_filter];refine Ml List.sum (L8 λy _=>?_);have:=vx (s:=s) ss λz=>p z&&z != y;unfold gu at this;rw[this];congr 1;funext z;dsimp only;cases p z <;> cases s.contains z <;> cases (z != y) <;> rfl
theorem C9 {g:N2}{s:N3}(o:CS g)(h:s.length<=g.length):sy g s=pre (apartRows g []) s:=by
 rw[vz g s [] (λt ht=>(o.good t ht).1.nodup) h];unfold sy;rw[jZ (p:=iy g s=true/\s.Nodup) (q:=iy g s=true/\s.Nodup/\∀x∈s,¬x∈[]) ⟨λ⟨a,b⟩=>⟨a,b,by simp⟩,λ⟨a,b,_⟩=>⟨a,b⟩⟩,vx];congr 1;refine gE _ λt ht y hy=>?_;have m:=MN ht;have:=(o.good t m).2 y hy;have:=o.lo t m y hy;unfold lA;simp[*]
theorem zT {gs:List (N2)}{s:N3}(o:ur .order gs)(h:∀g∈gs,s.length<=g.length):(gs.map λg=>sy g s).sum=pre (rR .order gs) s:=by
 show _=pre (gs.flatMap λg=>apartRows g []) s;unfold pre;rw[List.countP_flatMap];exact Ml List.sum (L8 λg hg=>C9 (o.ok g hg) (h g hg))
theorem AG {kd:Kind}{gs:List (N2)}{s:N3}(h1:kd≠.order)(h2:kd≠.any)(o:ur kd gs)(h:∀g∈gs,s.length<=g.length):(gs.map λg=>kJ g s).sum=pre (rR kd gs) s:=by
 have e:rR kd gs=gs.flatMap rowsOf:=by
  cases kd with
  |order=>exact absurd rfl h1
  |any=>exact absurd rfl h2
  |place=>rfl
  |legs=>rfl
 rw[e];unfold pre;rw[List.countP_flatMap];exact Ml List.sum (L8 λg hg=>vH g s (λt ht=>((o.ok g hg).good t ht).1.nodup) (h g hg))
def kO (a:Nat)(B:N3)(g:N2)(j:Nat):List (N2):=((List.range j).filter λi=>g.getD i []==B).map λi=>g.take i++[[a]]++g.drop (i+1)
theorem wA (a:Nat)(B:N3)(g:N2)(j:Nat):kO a B g (j+1)=kO a B g j++if (g.getD j []==B)=true then [g.take j++[[a]]++g.drop (j+1)] else []:=by
 unfold kO;rw[List.range_succ,M9,Lx];congr 1;by_cases h:(g.getD j []==B)=true
 · rw[Lg h,Mr,Lg h];rfl
 · rw[Lf h,Mr,Lf h];rfl
theorem rK (a:Nat)(B:N3):∀g:N2,kO a B g g.length=jo a B g
 |[]=>rfl
 |s::g=>by
  have ih:=rK a B g;unfold kO at ih ⊢;unfold jo;rw[Lp,List.range_succ_eq_map,←ih,LF];have e:((List.range g.length).map Nat.succ).filter (λi=>(s::g).getD i []==B)=((List.range g.length).filter λi=>g.getD i []==B).map Nat.succ:=by
   rw[List.filter_map];rfl
  by_cases h:(s==B)=true
  · rw[List.filter_cons_of_pos (by simpa using h),Lg h,e,Lv,LF];rfl
  · rw[List.filter_cons_of_neg (by simpa using h),Lf h,e,LF];rfl
theorem xO {B A:N3}{a:Nat}{gs:List (N2)}:bE B (A++[a]) gs=(bE B A gs).flatMap (jo a B):=by
 unfold bE;rw[List.foldl_append];rfl
theorem yd {B:N3}{k:Nat}:∀{A:N3} {gs:List (N2)},(∀g∈gs,g.length=k)->∀g∈bE B A gs,g.length=k
 |[],_,h=>h
 |a::A,gs,h=>yd (A:=A) (gs:=gs.flatMap (jo a B)) λg hg=>by
  obtain⟨g0,h0,hr⟩:=Nj.mp hg;rw[(oz hr).1,h g0 h0]
theorem zF {a:Nat}{B:N3}{g:N2}{j:Nat}:(kO a B g j).length<=j:=by
 unfold kO;rw[Le];exact L1 (NH ..) (by rw[Ny];exact Ln _)
end Bw
end
section
set_option Elab.async false
set_option linter.all false
set_option maxRecDepth 100000
namespace L2
open PySem PySem.Spec PyProof.Rows
abbrev Key:=Sum Int Str
def pb:Key->Value->Bool
 |.inl k,v=>Value.isInt k v
 |.inr x,v=>Value.isStrOf x v
def Ia (w:World):Key->Int
 |.inl k=>hashInt k
 |.inr x=>hashStr w x
theorem cb:∀{k:Key} {v:Value},pb k v=true->(∃i t,k=Sum.inl i/\v=Value.int i t)∨(∃x t,k=Sum.inr x/\v=Value.str x t)
 |.inl i,v,h=>by
  obtain⟨t,e⟩:=Value.isInt_shape (k:=i) (v:=v) h;exact .inl ⟨i,t,rfl,e⟩
 |.inr x,v,h=>by
  obtain⟨t,e⟩:=Value.isStrOf_shape (x:=x) (v:=v) h;exact .inr ⟨x,t,rfl,e⟩
theorem Ag (i:Int)(t:Tok):pb (.inl i) (.int i t)=true:=by simp[pb,Value.isInt]
theorem sk (x:Str)(t:Tok):pb (.inr x) (.str x t)=true:=by simp[pb,Value.isStrOf]
theorem Hc (a b:Int):decide ((Sum.inl a:Key)=Sum.inl b)=(a==b):=by
 by_cases e:a=b
 · subst e;simp
 · have h:¬(Sum.inl a:Key)=Sum.inl b:=λq=>e (Sum.inl.inj q);rw[L3 h];exact (LK.mpr e).symm
theorem Hf (a b:Str):decide ((Sum.inr a:Key)=Sum.inr b)=decide (a=b):=by
 by_cases e:a=b
 · subst e;simp
 · have h:¬(Sum.inr a:Key)=Sum.inr b:=λq=>e (Sum.inr.inj q);rw[L3 h,L3 e]
theorem Gw (a:Int)(b:Str):decide ((Sum.inl a:Key)=Sum.inr b)=false:=L3 (λq=>nomatch q)
theorem Gp (a:Str)(b:Int):decide ((Sum.inr a:Key)=Sum.inl b)=false:=L3 (λq=>nomatch q)
def cv (prog:Program)(w:World):PySem.KeyKind prog w Key where
 is:=pb
 hash:=Ia w
 inj:=λv a b ha hb=>by
  rcases cb ha with ⟨i,t,rfl,rfl⟩|⟨x,t,rfl,rfl⟩
  · rcases cb hb with ⟨j,u,rfl,e⟩|⟨y,u,rfl,e⟩
    · injection e with e1 _;rw[e1]
    · exact nomatch e
  · rcases cb hb with ⟨j,u,rfl,e⟩|⟨y,u,rfl,e⟩
    · exact nomatch e
    · injection e with e1 _;rw[e1]
 byValue:=λk v h=>by
  rcases cb h with ⟨i,t,rfl,rfl⟩|⟨x,t,rfl,rfl⟩ <;> rfl
 pyHash:=λhv h=>by
  rcases cb hv with ⟨i,t,rfl,rfl⟩|⟨x,t,rfl,rfl⟩
  · exact wpAny_pyHash_int h
  · exact wpAny_pyHash_str h
 eqBool:=λhu hv h=>by
  rcases cb hu with ⟨i,t,rfl,rfl⟩|⟨x,t,rfl,rfl⟩
  · rcases cb hv with ⟨j,u,rfl,rfl⟩|⟨y,u,rfl,rfl⟩
    · rw[Hc] at h;exact wpAny_eqBool_int h
    · rw[Gw] at h;exact SeqAt.EqAt.int_str i t y u _ _ _ _ h
  · rcases cb hv with ⟨j,u,rfl,rfl⟩|⟨y,u,rfl,rfl⟩
    · rw[Gp] at h;exact SeqAt.EqAt.str_int x t j u _ _ _ _ h
    · rw[Hf] at h;exact wpAny_eqBool_str h
 «strs»:=λk x t v h=>by
  rcases cb h with ⟨i,u,rfl,e⟩|⟨y,u,rfl,e⟩
  · exact nomatch e
  · injection e with e1 _;subst e1;cases v <;> rfl
theorem vF (prog:Program)(w:World)(i:Int)(t:Tok):(cv prog w).is (.inl i) (.int i t)=true:=Ag i t
theorem vn (prog:Program)(w:World)(x:Str)(t:Tok):(cv prog w).is (.inr x) (.str x t)=true:=sk x t
inductive V where
 |cj|bl (b:Bool)|int (i:Int)|str (x:Str)|vQ (b:Array UInt8)|flt (b:UInt64)|ref (a:Addr)|ty (n:String)
 deriving DecidableEq
def RelV:V->Value->Prop
 |.cj,u=>u=Value.none
 |.bl b,u=>u=Value.bool b
 |.int i,u=>∃t,u=Value.int i t
 |.str x,u=>∃t,u=Value.str x t
 |.vQ b,u=>∃t,u=Value.bytes b t
 |.flt b,u=>∃t,u=Value.float b t
 |.ref a,u=>u=Value.ref a
 |.ty n,u=>u=Value.type n
abbrev Vals:List V->N8->Prop:=Paired RelV
theorem Vals.length {xs:List V}{us:N8}(r:Vals xs us):xs.length=us.length:=Paired.length r
theorem Vals.get:∀{xs:List V} {us:N8} {i:Nat} {x:V},Vals xs us->xs[i]?=some x->∃u,us[i]?=some u/\RelV x u
 |_,_,_,_,.nil,e=>by simp at e
 |_,_,0,_,.cons r _,e=>by simp at e;subst e;exact⟨_,rfl,r⟩
 |_,_,i+1,x,.cons _ t,e=>by
  obtain⟨u,h1,h2⟩:=Vals.get (i:=i) (x:=x) t (by simpa using e);exact⟨u,by simpa using h1,h2⟩
theorem Vals.set {x:V}{u:Value}(r:RelV x u):∀{xs:List V} {us:N8} (i:Nat),Vals xs us->Vals (xs.set i x) (us.set i u)
 |_,_,_,.nil=>.nil
 |_,_,0,.cons _ t=>.cons r t
 |_,_,i+1,.cons q t=>.cons q (Vals.set r i t)
theorem Vals.append:∀{xs ys:List V} {us ws:N8},Vals xs us->Vals ys ws->Vals (xs++ys) (us++ws)
 |_,_,_,_,.nil,s=>s
 |_,_,_,_,.cons r t,s=>.cons r (Vals.append t s)
theorem Vals.take:∀{xs:List V} {us:N8} (n:Nat),Vals xs us->Vals (xs.take n) (us.take n)
 |_,_,0,_=>.nil
 |_,_,_+1,.nil=>.nil
 |_,_,n+1,.cons r t=>.cons r (Vals.take n t)
theorem Vals.drop:∀{xs:List V} {us:N8} (n:Nat),Vals xs us->Vals (xs.drop n) (us.drop n)
 |_,_,0,r=>r
 |_,_,_+1,.nil=>.nil
 |_,_,n+1,.cons _ t=>Vals.drop n t
def i7:Option V->Option Value->Prop
 |some v,some u=>RelV v u
 |none,none=>True
 |_,_=>False
def KV {κ:Type}:List (κ×V)->List (κ×Value)->Prop:=Paired λ(p:κ×V) (q:κ×Value)=>p.1=q.1/\RelV p.2 q.2
def kV:Key->V
 |.inl i=>.int i
 |.inr x=>.str x
inductive HO where
 |lst (xs:List V)
 |tup (xs:List V)
 |dK (kvs:List (Key×V))|dT (kvs:List (List Key×V))
 |set (S:Int->Bool) (n:Nat)
 |ins (C dx:Addr) (fs:List (Str×V))
 |own (x:Addr)
 |xd (fs:List (Str×V))
 |met (f x:Addr)
 |rng (lo hi:Int)
 |frz (o:Obj) (u:HO)
 |tbl (ps:Array Value)
 |ext (φ:Heap->Prop)
abbrev Hp:=Addr->Option HO
def upd (H:Hp)(a:Addr)(o:HO):Hp:=λb=>if b=a then some o else H b
theorem ae {H:Hp}{a:Addr}{o:HO}:upd H a o a=some o:=by unfold upd;rw[Lg rfl]
theorem aq {H:Hp}{a b:Addr}{o:HO}(h:b≠a):upd H a o b=H b:=by unfold upd;rw[Lf h]
theorem cI {H:Hp}{a:Addr}{o u:HO}:upd (upd H a o) a u=upd H a u:=by
 funext b;unfold upd;split <;> rfl
theorem dF {H:Hp}{a b:Addr}{o u:HO}(h:H a=some o)(h':H b=some u)(d:o≠u):a≠b:=by
 intro e;subst e;rw[h] at h';exact d (LQ h')
theorem ao {H:Hp}{a b:Addr}{o:HO}(h:H a=some o)(h':H b=none):a≠b:=by
 intro e;subst e;rw[h] at h';cases h'
section
variable (P:Program)(w:World)
def bL (H:Hp) (h:Heap) (a:Addr):HO->Prop
 |.lst xs=>xs.length<=sizeLine/\∃(its:N8) (n:Nat),Vals xs its/\h.get? a=some {cls:=.type "list",data:=.seq its.toArray n}
 |.tup xs=>xs.length<=sizeLine/\∃its:N8,Vals xs its/\IsTup h a its.toArray
 |.dK kvs=>kvs.length<=sizeLine/\(a==sysModules)=false/\∃vs,KV kvs vs/\h.DictOf (cv P w) a vs
 |.dT kvs=>kvs.length<=sizeLine/\(a==sysModules)=false/\∃xs:List (List Key×Addr×Value),
   Paired (λ(p:List Key×V) (q:List Key×Addr×Value)=>p.1=q.1/\H q.2.1=some (.tup (p.1.map kV))/\RelV p.2 q.2.2) kvs xs /\
   ∃o es ep,h.get? a=some o/\o.ExactDict/\o.data=.dict es ep/\es.toList=xs.map (entryOfKey (tupleKind (cv P w)))/\(xs.map (·.1)).Nodup
 |.set S n=>h.SetOf (intKind P w) a S n
 |.ins C dx fs=>H dx=some (.own a)/\fs.length<=1000/\dx≠a/\h.get? a=some (PySem.W.instObj C dx) /\
   ∃mA,h.Ns1 dx mA/\(∀f,i7 (fs.lookup f) (mA f))/\PySem.Within mA (fs.map (·.1))
 |.own _=>∃o,h.get? a=some o
 |.xd fs=>∃mA,h.Ns1 a mA/\∀f,i7 (fs.lookup f) (mA f)
 |.rng lo hi=>∃t u v,h.get? a=some {cls:=.type "range",data:=.fields #[.int lo t,.int hi u,.int 1 v]}
 |.frz o u=>h.get? a=some o/\bL H h a u
 |.tbl ps=>h.get? a=some {cls:=.none,data:=.fields ps}
 |.met f x=>h.get? a=some (PySem.W.methodObj (.ref f) (.ref x))
 |.ext φ=>φ h/\(∃o,h.get? a=some o)/\∀h1 h2:Heap,φ h1->(∀o,h1.get? a=some o->h2.get? a=some o)->φ h2
def iC (H:Hp)(h:Heap):Prop:=∀a o,H a=some o->bL P w H h a o
end
section
variable {P:Program}{w:World}{H H':Hp}{h h':Heap}{a:Addr}{o:HO}
theorem bL.lt (x:bL P w H h a o):a < h.objs.size:=by
 cases o with
 |lst xs=>obtain⟨_,_,_,_,e⟩:=x;exact Lq e
 |tup xs=>obtain⟨_,_,_,p⟩:=x;exact p.lt
 |dK kvs=>obtain⟨_,_,_,_,o,_,_,e,_⟩:=x;exact Lq e
 |dT kvs=>obtain⟨_,_,_,_,o,_,_,e,_⟩:=x;exact Lq e
 |set S n=>obtain⟨o,_,_,_,e,_⟩:=x;exact Lq e
 |ins C dx fs=>obtain⟨_,_,_,e,_⟩:=x;exact Lq e
 |own y=>obtain⟨_,e⟩:=x;exact Lq e
 |xd fs=>obtain⟨_,⟨_,_,_,e,_⟩,_⟩:=x;exact Lq e
 |rng lo hi=>obtain⟨_,_,_,e⟩:=x;exact Lq e
 |frz ob u=>obtain⟨e,_⟩:=x;exact Lq e
 |tbl ps=>exact Lq (show h.get? a=some _ from x)
 |met f y=>exact Lq (show h.get? a=some _ from x)
 |ext φ=>obtain⟨_,⟨_,e⟩,_⟩:=x;exact Lq e
theorem Paired.d8 {α β:Type}{F G:α->β->Prop}:∀{l₁:List α} {l₂:List β},Paired F l₁ l₂->(∀a b,F a b->G a b)->Paired G l₁ l₂
 |_,_,.nil,_=>.nil
 |_,_,.cons r t,f=>.cons (f _ _ r) (Paired.d8 t f)
theorem bL.kH (x:bL P w H h a o)(k:∀b u,(b=a∨H b=some (.own a))->h.get? b=some u->h'.get? b=some u)
  (ho:∀b,H b=some (.own a)->H' b=some (.own a))(ht:∀b xs,H b=some (.tup xs)->H' b=some (.tup xs)):bL P w H' h' a o:=by
 induction o with
 |lst xs=>obtain⟨z,its,n,r,e⟩:=x;exact⟨z,its,n,r,k _ _ (.inl rfl) e⟩
 |tup xs=>obtain⟨z,its,r,ob,e,c⟩:=x;exact⟨z,its,r,ob,k _ _ (.inl rfl) e,c⟩
 |dK kvs=>obtain⟨z,y,vs,r,ob,es,ep,e,c⟩:=x;exact⟨z,y,vs,r,ob,es,ep,k _ _ (.inl rfl) e,c⟩
 |dT kvs =>
  obtain⟨z,y,xs,r,ob,es,ep,e,c⟩:=x;exact⟨z,y,xs,Paired.d8 r λp q z=>⟨z.1,ht _ _ z.2.1,z.2.2⟩,ob,es,ep,k _ _ (.inl rfl) e,c⟩
 |set S n=>obtain⟨ob,es,ep,t,e,c⟩:=x;exact⟨ob,es,ep,t,k _ _ (.inl rfl) e,c⟩
 |ins C dx fs =>
  obtain⟨d,z,ne,e,mA,⟨od,es,ep,e2,c⟩,r⟩:=x;exact⟨ho _ d,z,ne,k _ _ (.inl rfl) e,mA,⟨od,es,ep,k _ _ (.inr d) e2,c⟩,r⟩
 |own y=>obtain⟨ob,e⟩:=x;exact⟨ob,k _ _ (.inl rfl) e⟩
 |xd fs=>obtain⟨mA,⟨od,es,ep,e,c⟩,r⟩:=x;exact⟨mA,⟨od,es,ep,k _ _ (.inl rfl) e,c⟩,r⟩
 |rng lo hi=>obtain⟨t,u,v,e⟩:=x;exact⟨t,u,v,k _ _ (.inl rfl) e⟩
 |frz ob u ih=>obtain⟨e,q⟩:=x;exact⟨k _ _ (.inl rfl) e,ih q⟩
 |tbl ps =>
  have e:h.get? a=some {cls:=.none,data:=.fields ps}:=x;show h'.get? a=some {cls:=.none,data:=.fields ps};exact k a _ (.inl rfl) e
 |met f y =>
  have e:h.get? a=some (PySem.W.methodObj (.ref f) (.ref y)):=x;show h'.get? a=some (PySem.W.methodObj (.ref f) (.ref y));exact k a _ (.inl rfl) e
 |ext φ=>obtain⟨p,⟨o,e⟩,st⟩:=x;exact⟨st _ _ p λo q=>k _ _ (.inl rfl) q,⟨o,k _ _ (.inl rfl) e⟩,st⟩
theorem iC.lt (x:iC P w H h)(e:H a=some o):a < h.objs.size:=(x a o e).lt
theorem iC.fresh (x:iC P w H h)(e:h.objs.size<=a):H a=none:=by
 cases q:H a with
 |none=>rfl
 |some u=>exact absurd (LV (x.lt q) e) (Mz _)
theorem iC.kept (x:iC P w H h)(k:∀b u,h.get? b=some u->h'.get? b=some u):iC P w H h':=λa o e =>
 (x a o e).kH (λb u _ q=>k b u q) (λ_ q=>q) λ_ _ q=>q
theorem iC.laid (x:iC P w H h)(k:∀b u,h.get? b=some u->h'.get? b=some u)(hp:h.objs.size<=a)(new:bL P w (upd H a o) h' a o):iC P w (upd H a o) h':=λb u e=>by
 have hn:=x.fresh hp;by_cases hb:b=a
 · subst hb;rw[ae] at e;cases e;exact new
 · rw[aq hb] at e;exact (x b u e).kH (λc v _ q=>k c v q) (λc q=>by rw[aq (ao q hn)];exact q) λc xs q=>by rw[aq (ao q hn)];exact q
end
def Rd (H:Hp)(a:Addr)(u:HO):Prop:=H a=some u∨∃o,H a=some (.frz o u)
theorem Rd.ok {P:Program}{w:World}{H:Hp}{h:Heap}{a:Addr}{u:HO}(r:Rd H a u)(x:iC P w H h):bL P w H h a u:=by
 rcases r with r|⟨o,r⟩
 · exact x a u r
 · obtain⟨_,q⟩:=x a _ r;exact q
def IT:Option HO->Prop
 |some (.lst _)=>True
 |some (.dK _)=>True
 |some (.dT _)=>True
 |some (.set _ _)=>True
 |some (.ins _ _ _)=>True
 |some (.ext _)=>True
 |_=>False
section
variable {P:Program}{w:World}{H:Hp}{h h':Heap}{x e:Addr}{o':HO}
theorem iC.write (ok:iC P w H h) (mu:IT (H x)) (he:e=x∨H e=some (.own x)) (k:∀b u,b≠e->h.get? b=some u->h'.get? b=some u) (heo:∃u,h'.get? e=some u)
  (new:bL P w (upd H x o') h' x o'):iC P w (upd H x o') h':=λb u q=>by
 have nown:∀c y,H c=some (.own y)->c≠x:=λc y r z=>by subst z;rw[r] at mu;exact mu
 have ntup:∀c xs,H c=some (.tup xs)->c≠x:=λc xs r z=>by subst z;rw[r] at mu;exact mu
 by_cases hb:b=x
 · subst hb;rw[ae] at q;cases q;exact new
 · rw[aq hb] at q;by_cases hbe:b=e
   · have q':H b=some (.own x):=by
      rcases he with z|z
      · exact absurd (hbe.trans z) hb
      · rw[hbe];exact z
     rw[q] at q';cases q';obtain⟨v,hv⟩:=heo;exact⟨v,by rw[hbe];exact hv⟩
   · refine (ok b u q).kH (λc v hc r=>k c v ?_ r) (λc r=>by rw[aq (nown c b r)];exact r) λc xs r=>by rw[aq (ntup c xs r)];exact r
     rcases hc with rfl|hc
     · exact hbe
     · rintro rfl;rcases he with z|z
       · exact nown c b hc z
       · rw[hc] at z;cases z;exact hb rfl
end
structure Un (fs ex:List Addr)(H H':Hp)(h h':Heap):Prop where
 keep:∀b o,h.get? b=some o->H b=none->b∉fs->b∉ex->h'.get? b=some o
 slot:∀b o,h.get? b=some o->H b=none->b∈fs->b∉ex->∃sl,h'.get? b=some {o with slots:=sl}
 free:∀b o,h.get? b=some o->H b=none->b∉ex->H' b=none
 there:∀b o,h.get? b=some o->b∉ex->∃o',h'.get? b=some o'
 nU:∀b xs,H b=some (.tup xs)->H' b=some (.tup xs)
 mI:∀b o u,H b=some (.frz o u)->H' b=some (.frz o u)
 nW:∀b ps,H b=some (.tbl ps)->∃more,H' b=some (.tbl (ps++more))
section
variable {fs fs' ex ex':List Addr}{H H1 H2:Hp}{h h1 h2 h':Heap}{a x e:Addr}{o:HO}
theorem Un.any (u:Un fs ex H H1 h h1) {b:Addr} {ob:Obj} (q:h.get? b=some ob) (n:H b=none) (hx:b∉ex):∃sl,h1.get? b=some {ob with slots:=sl}:=by
 by_cases hb:b∈fs
 · exact u.slot b ob q n hb hx
 · exact⟨ob.slots,u.keep b ob q n hb hx⟩
theorem Un.kept (k:∀b u,h.get? b=some u->h'.get? b=some u):Un fs ex H H h h' :=
 ⟨λb ob q _ _ _=>k b ob q,λb ob q _ _ _=>⟨ob.slots,k b ob q⟩,λ_ _ _ n _=>n,λb ob q _=>⟨ob,k b ob q⟩,λ_ _ q=>q,λ_ _ _ q=>q,λ_ ps q=>⟨#[],by rw[q];simp⟩⟩
theorem Un.refl:Un fs ex H H h h:=Un.kept λ_ _ q=>q
theorem Un.laid (k:∀b u,h.get? b=some u->h'.get? b=some u)(hp:h.objs.size<=a)(hn:H a=none):Un fs ex H (upd H a o) h h' where
 keep:=λb u q _ _ _=>k b u q
 slot:=λb u q _ _ _=>⟨u.slots,k b u q⟩
 free:=λb u q n _=>by rw[aq (LP (LV (Lq q) hp))];exact n
 there:=λb u q _=>⟨u,k b u q⟩
 nU:=λb xs q=>by rw[aq (ao q hn)];exact q
 mI:=λb u xs q=>by rw[aq (ao q hn)];exact q
 nW:=λb ps q=>⟨#[],by rw[aq (ao q hn),q];simp⟩
theorem Un.write (mu:IT (H x))(he:e=x∨H e=some (.own x))(k:∀b u,b≠e->h.get? b=some u->h'.get? b=some u)(heo:∃u,h'.get? e=some u):Un fs ex H (upd H x o) h h':=by
 have hx:∀b,H b=none->b≠x:=λb n z=>by subst z;rw[n] at mu;exact mu
 have hb:∀b,H b=none->b≠e:=λb n z=>by
  subst z;rcases he with r|r
  · exact hx b n r
  · rw[n] at r;cases r
 have hm:∀b u,H b=some u->¬IT (some u)->b≠x:=λb u q nm z=>by subst z;rw[q] at mu;exact nm mu
 refine⟨λb u q n _ _=>k b u (hb b n) q,λb u q n _ _=>⟨u.slots,k b u (hb b n) q⟩,λb u q n _=>by rw[aq (hx b n)];exact n,λb u q _=>?_,
  λb xs q=>by rw[aq (hm b _ q λz=>z)];exact q,λb u xs q=>by rw[aq (hm b _ q λz=>z)];exact q,λb ps q=>⟨#[],by rw[aq (hm b _ q λz=>z),q];simp⟩⟩
 by_cases hbe:b=e
 · subst hbe;exact heo
 · exact⟨u,k b u hbe q⟩
end
def JI (h:Heap)(H:Hp):List Addr:=(List.range h.objs.size).filter λa=>(H a).isSome
def sQ (h:Heap)(H:Hp):Heap:=PySem.W.hideAll h (JI h H)
theorem ze (h:Heap)(H:Hp):(sQ h H).objs.size=h.objs.size:=PySem.W.hideAll_size _ _
theorem BG {h:Heap}{H:Hp}{b:Addr}{o:Obj}(e:h.get? b=some o)(n:H b=none):(sQ h H).get? b=some o :=
 PySem.W.hideAll_get _ e λhm=>by
  have q:(H b).isSome=true:=(Mo.mp hm).2;rw[n] at q;simp at q
theorem DS {h:Heap}{H:Hp}{b:Addr}{o:Obj}(e:(sQ h H).get? b=some o):h.get? b=some o/\H b=none:=by
 have e':h.get? b=some o:=PySem.W.of_hideAll (JI h H) e;refine⟨e',?_⟩;cases q:H b with
 |none=>rfl
 |some x =>
  have hm:b∈JI h H:=Mo.mpr ⟨M3.mpr (Lq e'),by simp[q]⟩;have z:(sQ h H).get? b=none:=PySem.W.hideAll_none (JI h H) hm;rw[z] at e;cases e
structure Mod (K:N4)(mg:N6)(base:Heap):Prop where
 Fq:K.In base
 glob:base.Ns mainGlobals mg
 blt:∃mb,base.Ns builtinsNs mb/\∀x:Str,x≠"__name__"->mb x=bootBuiltins x
 nolimit:base.NoLimit
structure Cx where
 prog:Program
 w:World
 K:N4
 mg:Str->Option Value
 base:Heap
 A:Around
 N:List Str
 ku:Shared
 HM:Hp
 env:Env
 outer:List Env
 stack:List Env
 ex:List Addr
 fn:Str->Bool
 calm:Bool
 pn:N7
 xe:Value->Shared->Prop
def vO (l:List Env):List Addr:=l.filterMap (·.frame)
abbrev Cx.fs (X:Cx):List Addr:=vO X.outer
def HU (sc:Scope)(x:Str):Prop:=sc.names.lookup x=some .local∨sc.names.lookup x=some .cell∨sc.names.lookup x=some .free
def Loc (sc:Scope)(x:Str):Prop:=sc.names.lookup x=some .local∨sc.names.lookup x=some .cell
def Look (env:Env)(h:Heap)(m:N6)(x:Str)(u:Value):Prop :=
 (env.kindOf x=some .local/\m x=some u)∨((env.kindOf x=some .cell∨env.kindOf x=some .free)/\∃c,env.cells.lookup x=some c/\h.IsCell c (some u))
structure Cx.Ok (X:Cx):Prop where
 mod:Mod X.K X.mg X.base
 kind:X.env.scope.kind=.function
 glob:X.env.globals=mainGlobals
 blt:X.env.builtins=builtinsNs
 above:X.ku.heap.objs.size<=X.env.locals
 inj:∀x y c,X.env.cells.lookup x=some c->X.env.cells.lookup y=some c->x=y
 has:∀x,(X.env.kindOf x=some .cell∨X.env.kindOf x=some .free)->∃c,X.env.cells.lookup x=some c
 HN:∀x c,X.fn x=true->X.env.cells.lookup x=some c->X.ku.heap.objs.size<=c
 hd:X.calm=true->X.A.handled=none
 frames:X.A.frames=some X.stack
 Fp:X.stack=X.outer∨(X.stack=X.env::X.outer/\X.env.frame=some X.env.locals)
 II:∀b∈X.ex,b≠X.env.locals/\∀x c,X.env.cells.lookup x=some c->c≠b
 bs:∀b o,X.base.get? b=some o->X.ku.heap.get? b=some o/\X.HM b=none
 CO:X.base.objs.size<=X.ku.heap.objs.size
 zA:∀b o,X.base.get? b=some o->b∉X.ex
 zY:∀b∈X.ex,b∉X.fs
 my:X.ku.heap.FunFrames X.base X.outer
 Fj:∀b∈X.fs,X.HM b=none
structure Inv (X:Cx)(pins:N7)(σ:List (Option V))(H:Hp)(s:Shared):Prop where
 ok:X.Ok
 os:s.os=X.ku.os
 bare:AllBare s.gens
 base:Un X.fs X.ex X.HM H X.ku.heap s.heap
 loc:∃m,s.heap.Ns X.env.locals m/\∀(i:Nat) (x:Str) (v:V),X.N[i]?=some x->σ[i]?=some (some v)->HU X.env.scope x->∃u,RelV v u/\Look X.env s.heap m x u
 cell:∀x c,X.env.cells.lookup x=some c->∃v,s.heap.IsCell c v
 free:H X.env.locals=none
 gq:∀x c,X.env.cells.lookup x=some c->H c=none
 pin:∀p∈X.pn++pins,s.heap.get? p.1=some p.2/\H p.1=none/\p.1≠X.env.locals/\p.1∉X.fs/\∀v,p.2.data≠.cell v
 bw:iC X.prog X.w H s.heap
 len:σ.length=X.N.length
section
variable {X:Cx}{pins:N7}{σ:List (Option V)}{H H':Hp}{s:Shared}{h':Heap}
theorem Cx.Ok.Kj (ok:X.Ok) {b:Addr} {o:Obj} (e:X.base.get? b=some o):b∉X.fs:=λhb=>by
 have:=(ok.my.mem hb).1;rw[e] at this;cases this
theorem Inv.bs (I:Inv X pins σ H s):∀b o,X.base.get? b=some o->s.heap.get? b=some o/\H b=none:=λb o e =>
 ⟨I.base.keep b o (I.ok.bs b o e).1 (I.ok.bs b o e).2 (I.ok.Kj e) (I.ok.zA b o e),I.base.free b o (I.ok.bs b o e).1 (I.ok.bs b o e).2 (I.ok.zA b o e)⟩
theorem Inv.bk (I:Inv X pins σ H s):∀b o,X.base.get? b=some o->s.heap.get? b=some o:=λb o e=>(I.bs b o e).1
theorem Inv.mod (I:Inv X pins σ H s):Mod X.K X.mg X.base:=I.ok.mod
theorem Inv.mP (I:Inv X pins σ H s):X.K.In s.heap:=I.ok.mod.Fq.keeps I.bk
theorem Inv.lt (I:Inv X pins σ H s):X.env.locals < s.heap.objs.size:=let ⟨_,hn,_⟩:=I.loc;hn.lt
theorem Inv.sz (I:Inv X pins σ H s):X.ku.heap.objs.size<=s.heap.objs.size:=L1 I.ok.above (Nat.le_of_lt I.lt)
theorem Inv.Kx (I:Inv X pins σ H s){a:Addr}(h:s.heap.objs.size<=a):a∉X.fs:=λhb=>by
 obtain⟨_,o,ho,_⟩:=I.ok.my.mem hb;exact absurd (LV (Lq ho) (L1 I.sz h)) (Mz _)
theorem Inv.E_ (I:Inv X pins σ H s):∀x c,X.env.cells.lookup x=some c->c≠X.env.locals:=λx c e z=>by
 obtain⟨v,o,ho,hd⟩:=I.cell x c e;obtain⟨m,⟨o',es,ep,ho',hd',_⟩,_⟩:=I.loc;rw[z,ho'] at ho;cases ho;rw[hd'] at hd;cases hd
theorem Inv.my (I:Inv X pins σ H s):s.heap.FunFrames X.base X.outer:=by
 have all:∀(l:List Env),(∀b∈vO l,b∈X.fs)->X.ku.heap.FunFrames X.base l->s.heap.FunFrames X.base l:=by
  intro l
  induction l with
  |nil=>intro _ _;trivial
  |cons env r ih =>
   intro hs hl;obtain⟨hk,⟨L,o,hf,hn,ho,hd⟩,hr⟩:=hl;have hL:L∈X.fs:=hs L (by unfold vO;rw[NR,hf];exact L0);obtain⟨sl,e⟩:=I.base.slot L o ho (I.ok.Fj L hL) hL λz=>I.ok.zY L z hL;exact⟨hk,⟨L,_,hf,hn,e,hd⟩,ih (λb hb=>hs b (by unfold vO;rw[NR,hf];exact Lw _ hb)) hr⟩
 exact all X.outer (λ_ hb=>hb) I.ok.my
theorem Inv.stack (I:Inv X pins σ H s):s.heap.FunFrames X.base X.stack:=by
 rcases I.ok.Fp with e|⟨e,hf⟩
 · rw[e];exact I.my
 · rw[e];obtain⟨m,hn,_⟩:=I.loc;refine .cons (by rw[I.ok.kind];decide) hf hn ?_ I.my;exact Heap.get?_none_of_le (L1 I.ok.CO I.ok.above)
theorem Inv.wQ (I:Inv X pins σ H s):∀b∈vO X.stack,b∈X.env.locals::X.fs:=λb hb=>by
 rcases I.ok.Fp with e|⟨e,hf⟩
 · rw[e] at hb;exact Lw _ hb
 · rw[e] at hb;unfold vO at hb;rw[NR,hf] at hb;exact hb
theorem Inv.s_ (I:Inv X pins σ H s):∀b∈vO X.stack,H b=none:=λb hb=>by
 rcases Li.mp (I.wQ b hb) with e|hb
 · rw[e];exact I.free
 · obtain⟨_,o,ho,_⟩:=I.ok.my.mem hb;exact I.base.free b o ho (I.ok.Fj b hb) λz=>I.ok.zY b z hb
theorem wc {h:Heap}{b:Addr}(z:h.objs.size<=b):h.get? b=none:=by
 cases e:h.get? b with
 |none=>rfl
 |some o=>exact absurd (LV (Lq e) z) (Mz _)
theorem Inv.Fh {g':Array GenState}{t':Nat}{d':Drawn}{ch:List Addr}(I:Inv X pins σ H s)
  (hch:∀b∈ch,(b∈X.ex∨X.ku.heap.get? b=none)/\b≠X.env.locals/\(∀x c,X.env.cells.lookup x=some c->c≠b)/\∀p∈X.pn++pins,p.1≠b)
  (keep:∀b o,b≠X.env.locals->b∉X.fs->b∉ch->s.heap.get? b=some o->H b=none->h'.get? b=some o)
  (slot:∀b o,b≠X.env.locals->b∈X.fs->b∉ch->s.heap.get? b=some o->H b=none->∃sl,h'.get? b=some {o with slots:=sl})(free:∀b o,b∉ch->s.heap.get? b=some o->H b=none->H' b=none)
  (there:∀b o,b∉ch->s.heap.get? b=some o->∃o',h'.get? b=some o')
  (nU:∀b xs,H b=some (.tup xs)->H' b=some (.tup xs))(mI:∀b o u,H b=some (.frz o u)->H' b=some (.frz o u))(nW:∀b ps,H b=some (.tbl ps)->∃more,H' b=some (.tbl (ps++more)))
  (ns:∀m,s.heap.Ns X.env.locals m->h'.Ns X.env.locals m)(bw:iC X.prog X.w H' h')(hg:AllBare g') :
  Inv X pins σ H' {s with heap:=h',gens:=g',drawn:=d',toks:=t'}:=by
 have neL:∀b o,X.ku.heap.get? b=some o->b≠X.env.locals:=λb o e=>LP (LV (Lq e) I.ok.above);have neC:∀b o,X.ku.heap.get? b=some o->b∉X.ex->b∉ch:=λb o e hx hb=>by
  rcases (hch b hb).1 with z|z
  · exact hx z
  · rw[z] at e;cases e
 have cellK:∀x c,X.env.cells.lookup x=some c->∀v,s.heap.IsCell c v->h'.IsCell c v:=λx c e v ⟨o,ho,hd⟩=>by
  have nch:c∉ch:=λz=>(hch c z).2.2.1 x c e rfl;by_cases hc:c∈X.fs
  · obtain⟨sl,q⟩:=slot c o (I.E_ x c e) hc nch ho (I.gq x c e);exact⟨_,q,hd⟩
  · exact⟨o,keep c o (I.E_ x c e) hc nch ho (I.gq x c e),hd⟩
 refine⟨I.ok,I.os,hg,⟨λb o e n hb hx=>?_,λb o e n hb hx=>?_,λb o e n hx=>?_,λb o e hx=>?_,λb xs e=>nU b xs (I.base.nU b xs e),λb o xs e=>mI b o xs (I.base.mI b o xs e),λb ps e=>?_⟩,?_,λx c e=>?_,?_,λx c e=>?_,λp hp=>?_,bw,I.len⟩
 · exact keep b o (neL b o e) hb (neC b o e hx) (I.base.keep b o e n hb hx) (I.base.free b o e n hx)
 · obtain⟨sl,e1⟩:=I.base.slot b o e n hb hx;obtain⟨sl',e2⟩:=slot b _ (neL b o e) hb (neC b o e hx) e1 (I.base.free b o e n hx);exact⟨sl',e2⟩
 · obtain⟨o',e1⟩:=I.base.there b o e hx;exact free b o' (neC b o e hx) e1 (I.base.free b o e n hx)
 · obtain⟨o',e1⟩:=I.base.there b o e hx;exact there b o' (neC b o e hx) e1
 · obtain⟨m1,e1⟩:=I.base.nW b ps e;obtain⟨m2,e2⟩:=nW b _ e1;exact⟨m1++m2,by rw[e2,Array.append_assoc]⟩
 · obtain⟨m,hn,hl⟩:=I.loc;refine⟨m,ns m hn,λi x v e1 e2 e3=>?_⟩;obtain⟨u,r,l⟩:=hl i x v e1 e2 e3;refine⟨u,r,?_⟩;rcases l with l|⟨k,c,e,z⟩
   · exact .inl l
   · exact .inr ⟨k,c,e,cellK x c e _ z⟩
 · obtain⟨v,z⟩:=I.cell x c e;exact⟨v,cellK x c e v z⟩
 · obtain⟨m,⟨o,_,_,ho,_⟩,_⟩:=I.loc;exact free _ o (λz=>(hch _ z).2.1 rfl) ho I.free
 · obtain⟨v,o,ho,hd⟩:=I.cell x c e;exact free c o (λz=>(hch c z).2.2.1 x c e rfl) ho (I.gq x c e)
 · obtain⟨e,n,ne,nf,d⟩:=I.pin p hp;have nch:p.1∉ch:=λz=>(hch p.1 z).2.2.2 p hp rfl;exact⟨keep p.1 p.2 ne nf nch e n,free p.1 p.2 nch e n,ne,nf,d⟩
theorem Inv.step {g':Array GenState}{t':Nat}{d':Drawn}{ch:List Addr}(I:Inv X pins σ H s)
  (hch:∀b∈ch,(b∈X.ex∨X.ku.heap.objs.size<=b)/\b≠X.env.locals/\(∀x c,X.env.cells.lookup x=some c->c≠b)/\∀p∈X.pn++pins,p.1≠b)
  (keep:∀b o,b≠X.env.locals->b∉X.fs->b∉ch->s.heap.get? b=some o->H b=none->h'.get? b=some o)
  (slot:∀b o,b≠X.env.locals->b∈X.fs->b∉ch->s.heap.get? b=some o->H b=none->∃sl,h'.get? b=some {o with slots:=sl})(free:∀b o,b∉ch->s.heap.get? b=some o->H b=none->H' b=none)
  (there:∀b o,b∉ch->s.heap.get? b=some o->∃o',h'.get? b=some o')
  (nU:∀b xs,H b=some (.tup xs)->H' b=some (.tup xs))(mI:∀b o u,H b=some (.frz o u)->H' b=some (.frz o u))(nW:∀b ps,H b=some (.tbl ps)->∃more,H' b=some (.tbl (ps++more)))
  (ns:∀m,s.heap.Ns X.env.locals m->h'.Ns X.env.locals m)(bw:iC X.prog X.w H' h')(hg:AllBare g') :
  Inv X pins σ H' {s with heap:=h',gens:=g',drawn:=d',toks:=t'}:=I.Fh (λb hb=>⟨(hch b hb).1.imp id λz=>wc z,(hch b hb).2⟩) keep slot free there nU mI nW ns bw hg
theorem Inv.un {t':Nat}(I:Inv X pins σ H s)(u:Un X.fs [] H H' s.heap h')(bw:iC X.prog X.w H' h'):Inv X pins σ H' {s with heap:=h',toks:=t'}:=by
 obtain⟨m,⟨o,es,ep,ho,r⟩,_⟩:=id I.loc;obtain⟨sl,hL⟩:=u.any ho I.free (by simp);exact I.step (g':=s.gens) (d':=s.drawn) (ch:=[]) (λ_ z=>nomatch z) (λb o _ hb _ e n=>u.keep b o e n hb (by simp)) (λb o _ hb _ e n=>u.slot b o e n hb (by simp)) (λb o _ e n=>u.free b o e n (by simp)) (λb o _ e=>u.there b o e (by simp)) u.nU u.mI u.nW (λm' hm=>by
  obtain⟨o',es',ep',ho',r'⟩:=hm;rw[ho] at ho';cases ho';exact⟨_,es',ep',hL,r'⟩) bw I.bare
theorem Inv.E5 {g':Array GenState}{t':Nat}{d':Drawn}{ch:List Addr}(I:Inv X pins σ H s)(u:Un (vO X.stack) ch H H' s.heap h')(bw:iC X.prog X.w H' h')(hg:AllBare g')
  (hch:∀b∈ch,(b∈X.ex∨X.ku.heap.get? b=none)/\b≠X.env.locals/\(∀x c,X.env.cells.lookup x=some c->c≠b)/\∀p∈X.pn++pins,p.1≠b) :
  Inv X pins σ H' {s with heap:=h',gens:=g',drawn:=d',toks:=t'}:=by
 obtain⟨m,⟨o,es,ep,ho,r⟩,_⟩:=id I.loc;obtain⟨sl,hL⟩:=u.any ho I.free λz=>(hch _ z).2.1 rfl;exact I.Fh (ch:=ch) hch (λb o hL hb hc e n=>u.keep b o e n (λz=>(Li.mp (I.wQ b z)).elim hL hb) hc) (λb o _ _ hc e n=>u.any e n hc) (λb o hc e n=>u.free b o e n hc) (λb o hc e=>u.there b o e hc) u.nU u.mI u.nW (λm' hm=>by
  obtain⟨o',es',ep',ho',r'⟩:=hm;rw[ho] at ho';cases ho';exact⟨_,es',ep',hL,r'⟩) bw hg
theorem Inv.call {g':Array GenState}{t':Nat}{d':Drawn}{ch:List Addr}(I:Inv X pins σ H s)(u:Un (vO X.stack) ch H H' s.heap h')(bw:iC X.prog X.w H' h')(hg:AllBare g')
  (hch:∀b∈ch,(b∈X.ex∨X.ku.heap.objs.size<=b)/\b≠X.env.locals/\(∀x c,X.env.cells.lookup x=some c->c≠b)/\∀p∈X.pn++pins,p.1≠b) :
  Inv X pins σ H' {s with heap:=h',gens:=g',drawn:=d',toks:=t'}:=I.E5 u bw hg (λb hb=>⟨(hch b hb).1.imp id λz=>wc z,(hch b hb).2⟩)
theorem Inv.turned {t':Nat}{it:Addr}(I:Inv X pins σ H s)(k:∀b o,b≠it->s.heap.get? b=some o->h'.get? b=some o)(hn:H it=none)(hL:it≠X.env.locals)
  (h1:it∈X.ex∨X.ku.heap.objs.size<=it)(h2:∀x c,X.env.cells.lookup x=some c->c≠it)(h3:∀p∈X.pn++pins,p.1≠it):Inv X pins σ H {s with heap:=h',toks:=t'}:=by
 have nit:∀b u,H b=some u->b≠it:=λb u e z=>by rw[z,hn] at e;cases e
 refine I.step (g':=s.gens) (d':=s.drawn) (ch:=[it]) (λb hb=>?_) (λb o _ _ hc e _=>k b o (λz=>hc (by simp[z])) e) (λb o _ _ hc e _=>⟨o.slots,k b o (λz=>hc (by simp[z])) e⟩) (λ_ _ _ _ n=>n)
  (λb o hc e=>⟨o,k b o (λz=>hc (by simp[z])) e⟩) (λ_ _ e=>e) (λ_ _ _ e=>e) (λb ps e=>⟨#[],by rw[e];simp⟩) (λm hm=>?_) (λb u e=>?_) I.bare
 · have e:b=it:=by simpa using hb
   subst e;exact⟨h1,hL,h2,h3⟩
 · obtain⟨o,es,ep,ho,r⟩:=hm;exact⟨o,es,ep,k _ o (NU hL) ho,r⟩
 · refine (I.bw b u e).kH (λc v hc q=>k c v ?_ q) (λ_ q=>q) λ_ _ q=>q;rcases hc with z|z
   · rw[z];exact nit b u e
   · exact nit c _ z
theorem Inv.tok (I:Inv X pins σ H s)(t:Nat):Inv X pins σ H {s with toks:=t}:=I.un (h':=s.heap) (t':=t) Un.refl I.bw
theorem Inv.kept {t':Nat}(I:Inv X pins σ H s)(k:∀b u,s.heap.get? b=some u->h'.get? b=some u):Inv X pins σ H {s with heap:=h',toks:=t'}:=I.un (Un.kept k) (I.bw.kept k)
theorem Inv.laid {a:Addr}{o:HO}{t':Nat}(I:Inv X pins σ H s)(k:∀b u,s.heap.get? b=some u->h'.get? b=some u)(hp:s.heap.objs.size<=a)(new:bL X.prog X.w (upd H a o) h' a o) :
  Inv X pins σ (upd H a o) {s with heap:=h',toks:=t'}:=I.un (Un.laid k hp (I.bw.fresh hp)) (I.bw.laid k hp new)
theorem Inv.write {x e:Addr}{o:HO}{t':Nat}(I:Inv X pins σ H s)(mu:IT (H x))(he:e=x∨H e=some (.own x))(k:∀b u,b≠e->s.heap.get? b=some u->h'.get? b=some u)(heo:∃u,h'.get? e=some u)
  (new:bL X.prog X.w (upd H x o) h' x o):Inv X pins σ (upd H x o) {s with heap:=h',toks:=t'}:=I.un (Un.write mu he k heo) (I.bw.write mu he k heo new)
theorem Inv.weak {σ':List (Option V)}(I:Inv X pins σ H s)(hl:σ'.length=σ.length)(w:∀(i:Nat) v,σ'[i]?=some (some v)->σ[i]?=some (some v)):Inv X pins σ' H s :=
 ⟨I.ok,I.os,I.bare,I.base,let ⟨m,hn,hl'⟩:=I.loc;⟨m,hn,λi x v e1 e2 e3=>hl' i x v e1 (w i v e2) e3⟩,I.cell,I.free,I.gq,I.pin,I.bw,hl.trans I.len⟩
theorem Inv.md {pins':N7}(I:Inv X pins σ H s)(h:∀p∈pins',s.heap.get? p.1=some p.2/\H p.1=none/\p.1≠X.env.locals/\p.1∉X.fs/\∀v,p.2.data≠.cell v):Inv X pins' σ H s :=
 ⟨I.ok,I.os,I.bare,I.base,I.loc,I.cell,I.free,I.gq,λp hp=>(L4.mp hp).elim (λz=>I.pin p (List.mem_append_left _ z)) (h p),I.bw,I.len⟩
theorem qu {N:List Str}(hN:N.Nodup){i j:Nat}{x:Str}(a:N[i]?=some x)(b:N[j]?=some x):i=j:=by
 obtain⟨h1,e1⟩:=Lr.mp a;obtain⟨h2,e2⟩:=Lr.mp b;exact (List.getElem_inj hN).mp (e1.trans e2.symm)
theorem rJ {M:Model}{A:Around}{E:N5}{i:Nat}{x:Str}{v:V}{u:Value}{Q:Unit->Shared->Prop}(I:Inv X pins σ H s)(hN:X.N.Nodup)(hi:X.N[i]?=some x)(hx:Loc X.env.scope x)(r:RelV v u)
  (h:∀s',Inv X pins (σ.set i (some v)) H s'->(∃a,Heap.SameBut a s.heap s'.heap/\(a=X.env.locals∨X.env.cells.lookup x=some a))->Q () s')(hf:X.fn x=true∨X.env.scope.names.lookup x=some .local:=by first|exact .inl rfl|exact .inr rfl|assumption):wpAny M A (storeName X.env x u) Q E s:=by
 obtain⟨m,hn,hl⟩:=id I.loc;have hcls:(X.env.scope.kind==.class||(X.env.scope.kind==.module&&X.env.locals != X.env.globals))=false:=by rw[I.ok.kind];rfl
 have hiσ:i < σ.length:=by rw[I.len];exact (Lr.mp hi).1
 have E_:=I.E_;have tracked:∀{a:Addr} {h':Heap},(∃o,s.heap.get? a=some o/\H a=none)->Heap.SameBut a s.heap h'->iC X.prog X.w H h':=λ{a h'} ha hs b ob e=>by
  obtain⟨_,_,hfree⟩:=ha;refine (I.bw b ob e).kH (λc w' hc q=>(hs.2 c ?_).trans q) (λ_ q=>q) λ_ _ q=>q;rintro rfl;rcases hc with rfl|hc
  · rw[hfree] at e;cases e
  · rw[hfree] at hc;cases hc
 rcases hx with hk|hk
 · refine wpAny_storeName_local hk hn (λh' hn' hs=>?_) hcls;obtain⟨oL,_,_,hoL,_⟩:=id hn;refine h _ ⟨I.ok,I.os,I.bare,⟨λb o e n hb hx=>?_,λb o e n hb hx=>?_,I.base.free,λb o e hx=>?_,I.base.nU,I.base.mI,I.base.nW⟩,⟨_,hn',λj y v' e1 e2 e3=>?_⟩,λy c e=>?_,I.free,I.gq,λp hp=>?_,tracked ⟨oL,hoL,I.free⟩ hs,by simpa using I.len⟩ ⟨_,hs,.inl rfl⟩
   · exact (hs.2 b (LP (LV (Lq e) I.ok.above))).trans (I.base.keep b o e n hb hx)
   · obtain⟨sl,e1⟩:=I.base.slot b o e n hb hx;exact⟨sl,(hs.2 b (LP (LV (Lq e) I.ok.above))).trans e1⟩
   · obtain⟨o',e1⟩:=I.base.there b o e hx;exact⟨o',(hs.2 b (LP (LV (Lq e) I.ok.above))).trans e1⟩
   · by_cases hj:j=i
     · subst hj;rw[hi] at e1;cases e1;rw[NA hiσ] at e2;cases e2;exact⟨u,r,.inl ⟨hk,by simp⟩⟩
     · rw[List.getElem?_set_ne (NU hj)] at e2;obtain⟨u',r',q⟩:=hl j y v' e1 e2 e3;refine⟨u',r',?_⟩;rcases q with ⟨k,e⟩|⟨k,c,e,z⟩
       · refine .inl ⟨k,?_⟩;have:y≠x:=λe=>hj (qu hN e1 (e ▸ hi));simp[this,e]
       · exact .inr ⟨k,c,e,z.sameBut hs (E_ y c e)⟩
   · obtain⟨w',z⟩:=I.cell y c e;exact⟨w',z.sameBut hs (E_ y c e)⟩
   · obtain⟨e,n,ne,nf,d⟩:=I.pin p hp;exact⟨(hs.2 p.1 ne).trans e,n,ne,nf,d⟩
 · have hfn:X.fn x=true:=by
    rcases hf with z|z
    · exact z
    · rw[z] at hk;cases hk
   obtain⟨c,hc⟩:=I.ok.has x (.inl hk);obtain⟨w',z⟩:=I.cell x c hc;refine wpAny_storeName_cell I.ok.kind hk hc z (λh' hc' hs=>?_);obtain⟨oc,hoc,hocd⟩:=id z;refine h {s with heap:=h'} ⟨I.ok,I.os,I.bare,⟨λb o e n hb hx=>?_,λb o e n hb hx=>?_,I.base.free,λb o e hx=>?_,I.base.nU,I.base.mI,I.base.nW⟩,⟨m,hn.sameBut hs (NU (E_ x c hc)),λj y v' e1 e2 e3=>?_⟩,λy c' e=>?_,I.free,I.gq,λp hp=>?_,tracked ⟨oc,hoc,I.gq x c hc⟩ hs,by simpa using I.len⟩ ⟨c,hs,.inr hc⟩
   · exact (hs.2 b (LP (LV (Lq e) (I.ok.HN x c hfn hc)))).trans (I.base.keep b o e n hb hx)
   · obtain⟨sl,e1⟩:=I.base.slot b o e n hb hx;exact⟨sl,(hs.2 b (LP (LV (Lq e) (I.ok.HN x c hfn hc)))).trans e1⟩
   · obtain⟨o',e1⟩:=I.base.there b o e hx;exact⟨o',(hs.2 b (LP (LV (Lq e) (I.ok.HN x c hfn hc)))).trans e1⟩
   · by_cases hj:j=i
     · subst hj;rw[hi] at e1;cases e1;rw[NA hiσ] at e2;cases e2;exact⟨u,r,.inr ⟨.inl hk,c,hc,hc'⟩⟩
     · rw[List.getElem?_set_ne (NU hj)] at e2;obtain⟨u',r',q⟩:=hl j y v' e1 e2 e3;refine⟨u',r',?_⟩;rcases q with q|⟨k,c',e,z'⟩
       · exact .inl q
       · refine .inr ⟨k,c',e,z'.sameBut hs ?_⟩;rintro rfl;exact hj (qu hN e1 (I.ok.inj _ _ _ e hc ▸ hi))
   · by_cases hcc:c'=c
     · subst hcc;exact⟨_,hc'⟩
     · obtain⟨w2,z2⟩:=I.cell y c' e;exact⟨w2,z2.sameBut hs hcc⟩
   · obtain⟨e,n,ne,nf,d⟩:=I.pin p hp;refine⟨(hs.2 p.1 ?_).trans e,n,ne,nf,d⟩;intro q;rw[q,hoc] at e;have q':oc=p.2:=LQ e;exact d w' (by rw[←q'];exact hocd)
theorem lW {M:Model}{A:Around}{E:N5}{i:Nat}{x:Str}{v:V}{u:Value}{Q:Unit->Shared->Prop}(I:Inv X pins σ H s)(hN:X.N.Nodup)(hi:X.N[i]?=some x)(hx:Loc X.env.scope x)(r:RelV v u)
  (h:∀s',Inv X pins (σ.set i (some v)) H s'->Q () s')(hf:X.fn x=true∨X.env.scope.names.lookup x=some .local:=by first|exact .inl rfl|exact .inr rfl|assumption):wpAny M A (storeName X.env x u) Q E s :=
 rJ I hN hi hx r (λs' I' _=>h s' I') hf
theorem Inv.Fb {s':Shared}{ch:List Addr}(I:Inv X pins σ H s)(ho:s'.os=s.os)(u:Un (vO X.stack) ch H H' s.heap s'.heap)(bw:iC X.prog X.w H' s'.heap)(hg:AllBare s'.gens)
  (hch:∀b∈ch,(b∈X.ex∨X.ku.heap.get? b=none)/\b≠X.env.locals/\(∀x c,X.env.cells.lookup x=some c->c≠b)/\∀p∈X.pn++pins,p.1≠b):Inv X pins σ H' s':=by
 obtain⟨h',g',d',t',o'⟩:=s';have e:o'=s.os:=ho;subst e;exact I.E5 (g':=g') (t':=t') (d':=d') u bw hg hch
theorem Inv.Ft {s':Shared}{ch:List Addr}(I:Inv X pins σ H s)(ho:s'.os=s.os)(u:Un (vO X.stack) ch H H' s.heap s'.heap)(bw:iC X.prog X.w H' s'.heap)(hg:AllBare s'.gens)
  (hch:∀b∈ch,(b∈X.ex∨X.ku.heap.objs.size<=b)/\b≠X.env.locals/\(∀x c,X.env.cells.lookup x=some c->c≠b)/\∀p∈X.pn++pins,p.1≠b):Inv X pins σ H' s':=I.Fb ho u bw hg (λb hb=>⟨(hch b hb).1.imp id λz=>wc z,(hch b hb).2⟩)
end
abbrev XK:=Value->Option Addr->Hp->Prop
abbrev St:=List (Option V)
abbrev VK:=V->Hp->Prop
abbrev TE:=St->Hp->VK->Prop
abbrev TT:=St->Hp->(Bool->Hp->Prop)->Prop
abbrev TA:=St->Hp->(List V->Hp->Prop)->Prop
structure Ends where
 nx:St->Hp->Prop
 rt:VK
 bk:St->Hp->Prop:=λ_ _=>False
 ct:St->Hp->Prop:=λ_ _=>False
abbrev TS:=Ends->St->Hp->Prop
def EP (X:Cx)(pins:N7)(σ:St)(Q:VK)(u:Value)(s':Shared):Prop:=∃v H',Inv X pins σ H' s'/\RelV v u/\Q v H'
def TP (X:Cx)(pins:N7)(σ:St)(Q:Bool->Hp->Prop)(b:Bool)(s':Shared):Prop:=∃H',Inv X pins σ H' s'/\Q b H'
def AP (X:Cx)(pins:N7)(σ:St)(Q:List V->Hp->Prop)(us:N8)(s':Shared):Prop:=∃vs H',Inv X pins σ H' s'/\Vals vs us/\Q vs H'
def SP (X:Cx)(pins:N7)(D:Ends)(f:Flow)(s':Shared):Prop :=
 match f with
 |.next=>∃σ' H',Inv X pins σ' H' s'/\D.nx σ' H'
 |.brk=>∃σ' H',Inv X pins σ' H' s'/\D.bk σ' H'
 |.cont=>∃σ' H',Inv X pins σ' H' s'/\D.ct σ' H'
 |.ret u=>∃v σ' H',Inv X pins σ' H' s'/\RelV v u/\D.rt v H'
def PE (X:Cx)(e:Expr)(t:TE):Prop :=
 ∀(pins:N7) (s:Shared) (σ:St) (H:Hp) (Q:VK),Inv X pins σ H s->t σ H Q->wpAny (model X.prog X.w) X.A (eval e X.env) (EP X pins σ Q) X.xe s
def PT (X:Cx)(e:Expr)(t:TT):Prop :=
 ∀(pins:N7) (s:Shared) (σ:St) (H:Hp) (Q:Bool->Hp->Prop),Inv X pins σ H s->t σ H Q->wpAny (model X.prog X.w) X.A (isTrue e X.env (eval e X.env)) (TP X pins σ Q) X.xe s
def PW (X:Cx)(e:Expr)(t:TT):Prop :=
 ∀(whole:Sem Value) (pins:N7) (s:Shared) (σ:St) (H:Hp) (Q:Bool->Hp->Prop),Inv X pins σ H s->t σ H Q->wpAny (model X.prog X.w) X.A (isTrue e X.env whole) (TP X pins σ Q) X.xe s
theorem PW.pt {X:Cx}{e:Expr}{t:TT}(h:PW X e t):PT X e t:=h _
def PA (X:Cx)(es:List Expr)(t:TA):Prop :=
 ∀(pos:Pos) (pins:N7) (s:Shared) (σ:St) (H:Hp) (Q:List V->Hp->Prop),Inv X pins σ H s->t σ H Q->wpAny (model X.prog X.w) X.A (spliced (backTo pos (starEach es X.env))) (AP X pins σ Q) X.xe s
def PS (X:Cx)(st:Stmt)(t:TS):Prop :=
 ∀(pins:N7) (s:Shared) (σ:St) (H:Hp) (D:Ends),Inv X pins σ H s->t D σ H->wpAny (model X.prog X.w) X.A (exec st X.env) (SP X pins D) X.xe s
def uh (X:Cx)(st:List Stmt)(t:TS):Prop :=
 ∀(pins:N7) (s:Shared) (σ:St) (H:Hp) (D:Ends),Inv X pins σ H s->t D σ H->wpAny (model X.prog X.w) X.A (execs st X.env) (SP X pins D) X.xe s
def Ks (X:Cx)(st:Stmt)(t:TS):Prop :=
 ∀(s:Shared) (σ:St) (H:Hp) (D:Ends),Inv X [] σ H s->t D σ H->wpAny (model X.prog X.w) X.A (exec st X.env) (SP X [] D) X.xe s
def A3 (X:Cx)(st:List Stmt)(t:TS):Prop :=
 ∀(s:Shared) (σ:St) (H:Hp) (D:Ends),Inv X [] σ H s->t D σ H->wpAny (model X.prog X.w) X.A (execs st X.env) (SP X [] D) X.xe s
theorem bB {α:Type}{t:Sem α}{Q Q':α->Shared->Prop}{M:Model}{A:Around}{E:N5}{s:Shared}(h:wpAny M A t Q E s)(hQ:∀a s,Q a s->Q' a s):wpAny M A t Q' E s:=Mw h hQ λ_ _ x=>x
section
variable {X:Cx}
def cH (i:Nat):TE:=λσ H Q=>∃v,σ[i]?=some (some v)/\Q v H
def tC (v:V):TE:=λ_ H Q=>Q v H
theorem Ha {i:Nat}{x:Str}{pos:Pos}(hN:X.N[i]?=some x)(hv:HU X.env.scope x)(hd:(x==("__debug__":Str))=false:=by decide)(hcd:(x==("__classdict__":Str))=false:=by decide):PE X (.Name x pos) (cH i):=by
 intro pins s σ H Q I h;obtain⟨v,e,h⟩:=h;obtain⟨m,hn,hl⟩:=I.loc;obtain⟨u,r,l⟩:=hl i x v hN e hv;have fin:EP X pins σ Q u s:=⟨v,H,I,r,h⟩;rcases l with ⟨hk,hm⟩|⟨hk,c,hc,hcell⟩
 · exact wpAny_Name (wpAny_loadName_local I.ok.kind hk hn hm fin) hd
 · rcases hk with hk|hk
   · exact wpAny_Name (wpAny_loadName_cell I.ok.kind hk hc hcell fin) hd
   · exact wpAny_Name (wpAny_loadName_free I.ok.kind hk hc hcell fin hcd) hd
theorem aw {i j pos}:PE X (.Constant (.int i) j pos) (tC (.int i)):=λ_ _ _ H _ I h=>wpAny_Constant_int ⟨.int i,H,I.tok _,⟨_,rfl⟩,h⟩
theorem lJ {b j pos}:PE X (.Constant (.bool b) j pos) (tC (.bl b)):=λ_ _ _ H _ I h=>Constant_bool ⟨.bl b,H,I,rfl,h⟩
theorem cA {j pos}:PE X (.Constant .none j pos) (tC .cj):=λ_ _ _ H _ I h=>Constant_none ⟨.cj,H,I,rfl,h⟩
theorem bt {x j pos}:PE X (.Constant (.str x) j pos) (tC (.str x)):=λ_ _ _ H _ I h=>Calls.Constant_str ⟨.str x,H,I.tok _,⟨_,rfl⟩,h⟩
def Gl (X:Cx)(x:Str):Prop:=X.env.kindOf x=some .globalImplicit
theorem lL {E:N5}{pins:N7}{s:Shared}{σ:St}{H:Hp}{x:Str}{u:Value}{pos:Pos}{Q:N5}(I:Inv X pins σ H s)(hg:Gl X x)(hm:X.mg x=some u)(h:Q u s)
  (hd:(x==("__debug__":Str))=false:=by decide):wpAny (model X.prog X.w) X.A (eval (.Name x pos) X.env) Q E s :=
 Calls.Name_function_global I.ok.kind hg (Calls.loadGlobal_global (by rw[I.ok.glob];exact I.mod.glob.keeps I.bk) hm h) hd
theorem kR {E:N5}{pins:N7}{s:Shared}{σ:St}{H:Hp}{x:Str}{u:Value}{pos:Pos}{Q:N5}(I:Inv X pins σ H s)(hg:Gl X x)(hm:X.mg x=none)(hv:bootBuiltins x=some u)(h:Q u s)
  (hn:x≠"__name__":=by decide)(hd:(x==("__debug__":Str))=false:=by decide):wpAny (model X.prog X.w) X.A (eval (.Name x pos) X.env) Q E s:=by
 obtain⟨mb,h1,h2⟩:=I.mod.blt;exact Calls.Name_function_global I.ok.kind hg (Calls.loadGlobal_builtin (by rw[I.ok.glob];exact I.mod.glob.keeps I.bk) hm (by rw[I.ok.blt];exact h1.keeps I.bk) ((h2 x hn).trans hv) h) hd
theorem C4 {x:Str}{v:V}{u:Value}{pos:Pos}(hg:Gl X x)(hm:X.mg x=some u)(r:RelV v u)(hd:(x==("__debug__":Str))=false:=by decide):PE X (.Name x pos) (tC v) :=
 λ_ _ _ H _ I h=>lL I hg hm ⟨v,H,I,r,h⟩ hd
variable {a b:Expr}{ta tb:TE}{pos:Pos}
def PC (X:Cx) (op:CmpOp) (a b:Expr) (t:TE):Prop :=
 ∀(pins:N7) (s:Shared) (σ:St) (H:Hp) (Q:VK),Inv X pins σ H s->t σ H Q ->
  wpAny (model X.prog X.w) X.A (eval a X.env) (λv s₁=>wpAny (model X.prog X.w) X.A (eval b X.env) (λu s₂=>wpAny (model X.prog X.w) X.A (compareOp op v u) (EP X pins σ Q) X.xe s₂) X.xe s₁) X.xe s
def tB (t:TE):TT:=λσ H Q=>t σ H λx H1=>∃c,x=.bl c/\Q c H1
theorem GS {op:CmpOp}{t:TE}(h:PC X op a b t)(h1:behindInMarks op b=false:=by first|exact nobehind _ (by decide) (by decide)|rfl):PE X (.Compare a [op] [b] pos) t:=λpins s σ H Q I hw=>wpAny_Compare1 (h pins s σ H Q I hw) h1
theorem oQ {op:CmpOp}{t:TE}(h:PC X op a b t)(h1:behindInMarks op b=false:=by first|exact nobehind _ (by decide) (by decide)|rfl):PT X (.Compare a [op] [b] pos) (tB t):=by
 intro pins s σ H Q I hw;refine wpAny_isTrue_Compare1 (bB (h pins s σ H _ I hw) λv s1 h1=>bB h1 λu s2 h2=>bB h2 λc s3 ⟨x,H1,I1,r1,q1⟩=>?_) h1;obtain⟨d,rfl,q⟩:=q1;cases r1;exact Mt ⟨H1,I1,q⟩
theorem hZ {e:Expr}{t:TE}(h:PE X e t)(he:∀whole,isTrue e X.env whole=(do let v ←whole;standAt e.pos;holding [v] (truthy v)):=by intro _;rfl):PT X e (tB t):=by
 intro pins s σ H Q I hw;refine isTrue_plain (bB (h pins s σ H _ I hw) λv s1 ⟨x,H1,I1,r1,q1⟩=>?_) (he _);obtain⟨d,rfl,q⟩:=q1;cases r1;exact Mt ⟨H1,I1,q⟩
variable {tA tB':TT}{rest:List Expr}
def Iw (t u:TT):TT:=λσ H Q=>t σ H λc H1=>if c=true then u σ H1 Q else Q false H1
def KC (t u:TT):TT:=λσ H Q=>t σ H λc H1=>if c=true then Q true H1 else u σ H1 Q
def IV (t:TT):TT:=λσ H Q=>t σ H λc H1=>Q (!c) H1
theorem oE (ha:PT X a tA):PW X (.BoolOp .And [a] pos) tA:=by
 intro wh pins s σ H Q I h;refine isTrue_and (bB (ha pins s σ H Q I h) λc s1 e=>?_);cases c with
 |true=>exact isTrue_and_nil e
 |false=>exact e
theorem cO (ha:PT X a tA):PW X (.BoolOp .Or [a] pos) tA:=by
 intro wh pins s σ H Q I h;refine isTrue_or (bB (ha pins s σ H Q I h) λc s1 e=>?_);cases c with
 |false=>exact isTrue_or_nil e
 |true=>exact e
theorem sH (ha:PT X a tA)(hb:PW X (.BoolOp .And (b::rest) pos) tB'):PW X (.BoolOp .And (a::b::rest) pos) (Iw tA tB'):=by
 intro wh pins s σ H Q I h;refine isTrue_and (bB (ha pins s σ H _ I h) λc s1 ⟨H1,I1,q1⟩=>?_);cases c with
 |true=>exact hb wh pins s1 σ H1 Q I1 q1
 |false=>exact⟨H1,I1,q1⟩
theorem eh (ha:PT X a tA)(hb:PW X (.BoolOp .Or (b::rest) pos) tB'):PW X (.BoolOp .Or (a::b::rest) pos) (KC tA tB'):=by
 intro wh pins s σ H Q I h;refine isTrue_or (bB (ha pins s σ H _ I h) λc s1 ⟨H1,I1,q1⟩=>?_);cases c with
 |true=>exact⟨H1,I1,q1⟩
 |false=>exact hb wh pins s1 σ H1 Q I1 q1
theorem cF (ha:PT X a tA):PT X (.UnaryOp .Not a pos) (IV tA):=by
 intro pins s σ H Q I h;exact isTrue_not (ha pins s σ H (λc H1=>Q (!c) H1) I h)
def Fm (ta tb:TE):TE:=λσ H Q=>ta σ H λx H1=>∃c,x=.bl c/\if c=true then tb σ H1 Q else Q (.bl false) H1
def Jo (ta tb:TE):TE:=λσ H Q=>ta σ H λx H1=>∃c,x=.bl c/\if c=true then Q (.bl true) H1 else tb σ H1 Q
theorem xc {op}{t:TE}(h:PE X a t):PE X (.BoolOp op [a] pos) t:=λpins s σ H Q I hw=>BoolOp_one (h pins s σ H Q I hw)
theorem wX (ha:PE X a ta)(hb:PE X (.BoolOp .And (b::rest) pos) tb):PE X (.BoolOp .And (a::b::rest) pos) (Fm ta tb):=by
 intro pins s σ H Q I h;refine BoolOp_and (bB (ha pins s σ H _ I h) λv s1 ⟨x,H1,I1,r1,q1⟩=>?_);obtain⟨c,rfl,q1⟩:=q1;cases r1;refine Mt ?_;cases c with
 |true=>exact hb pins s1 σ H1 Q I1 q1
 |false=>exact⟨.bl false,H1,I1,rfl,q1⟩
theorem Iq (ha:PE X a ta)(hb:PE X (.BoolOp .Or (b::rest) pos) tb):PE X (.BoolOp .Or (a::b::rest) pos) (Jo ta tb):=by
 intro pins s σ H Q I h;refine BoolOp_or (bB (ha pins s σ H _ I h) λv s1 ⟨x,H1,I1,r1,q1⟩=>?_);obtain⟨c,rfl,q1⟩:=q1;cases r1;refine Mt ?_;cases c with
 |false=>exact hb pins s1 σ H1 Q I1 q1
 |true=>exact⟨.bl true,H1,I1,rfl,q1⟩
def KS (t:TT)(ta tb:TE):TE:=λσ H Q=>t σ H λc H1=>if c=true then ta σ H1 Q else tb σ H1 Q
theorem A7 {c:Expr}(hc:PT X c tA)(ha:PE X a ta)(hb:PE X b tb):PE X (.IfExp c a b pos) (KS tA ta tb):=by
 intro pins s σ H Q I h;refine wpAny_IfExp (bB (hc pins s σ H _ I h) λd s1 ⟨H1,I1,q1⟩=>?_);cases d with
 |true=>exact ha pins s1 σ H1 Q I1 q1
 |false=>exact hb pins s1 σ H1 Q I1 q1
end
def aU (K:N4)(H:Hp)(a:Addr)(xs:List V):Prop :=
 Rd H a (.lst xs) ∨
  ∃(o:Obj) (its:Array Value) (n:Nat),K.lookup a=some o/\o.cls=.type "list"/\o.dict=none/\o.data=.seq its n/\its.size<=sizeLine/\Vals xs its.toList
def bZ (K:N4)(H:Hp)(a:Addr)(xs:List V):Prop :=
 Rd H a (.tup xs) ∨
  ∃(o:Obj) (its:Array Value) (n:Nat),K.lookup a=some o/\o.cls=.type "tuple"/\o.data=.seq its n/\its.size<=sizeLine/\Vals xs its.toList
def Cu:Value->Option V
 |.none=>some .cj
 |.bool b=>some (.bl b)
 |.int i _=>some (.int i)
 |.str x _=>some (.str x)
 |.bytes b _=>some (.vQ b)
 |.float b _=>some (.flt b)
 |.ref a=>some (.ref a)
 |.type n=>some (.ty n)
 |_=>none
theorem RelV.abs {x:V}{u:Value}(r:RelV x u):Cu u=some x:=by
 cases x with
 |cj=>cases r;rfl
 |bl _=>cases r;rfl
 |int _=>obtain⟨t,rfl⟩:=r;rfl
 |str _=>obtain⟨t,rfl⟩:=r;rfl
 |vQ _=>obtain⟨t,rfl⟩:=r;rfl
 |flt _=>obtain⟨t,rfl⟩:=r;rfl
 |ref _=>cases r;rfl
 |ty _=>cases r;rfl
theorem RelV.inj {x y:V}{u:Value}(r:RelV x u)(q:RelV y u):x=y:=LQ (r.abs.symm.trans q.abs)
theorem Vals.inj:∀{xs ys:List V} {us:N8},Vals xs us->Vals ys us->xs=ys
 |_,_,_,.nil,.nil=>rfl
 |_,_,_,.cons r t,.cons r' t'=>by rw[r.inj r',Vals.inj t t']
section
variable {X:Cx}{pins:N7}{σ:St}{H:Hp}{s:Shared}{a:Addr}{xs ys:List V}
theorem aU.of {K:N4} (h:H a=some (.lst xs)):aU K H a xs:=.inl (.inl h)
theorem bZ.of {K:N4}(h:H a=some (.tup xs)):bZ K H a xs:=.inl (.inl h)
theorem Inv.list (I:Inv X pins σ H s)(h:aU X.K H a xs):∃its:N8,Vals xs its/\PlainL s.heap a its.toArray/\xs.length<=sizeLine:=by
 rcases h with h|⟨o,its,n,hk,hc,hd,hs,hz,r⟩
 · obtain⟨z,its,n,r,e⟩:=h.ok I.bw;exact⟨its,r,⟨_,n,e,rfl,rfl,rfl⟩,z⟩
 · refine⟨its.toList,r,⟨o,n,I.mP a o hk,hc,hd,by simpa using hs⟩,?_⟩;have e:=r.length;simp only[MZ] at e;omega
theorem Inv.tuple (I:Inv X pins σ H s)(h:bZ X.K H a xs):∃its:N8,Vals xs its/\IsTup s.heap a its.toArray/\xs.length<=sizeLine:=by
 rcases h with h|⟨o,its,n,hk,hc,hs,hz,r⟩
 · obtain⟨z,its,r,p⟩:=h.ok I.bw;exact⟨its,r,p,z⟩
 · refine⟨its.toList,r,⟨o,I.mP a o hk,hc,n,by simpa using hs⟩,?_⟩;have e:=r.length;simp only[MZ] at e;omega
theorem Inv.p8 (I:Inv X pins σ H s)(h:aU X.K H a xs)(h':aU X.K H a ys):xs=ys:=by
 obtain⟨its,r,⟨o,n,e,_,_,d⟩,_⟩:=I.list h;obtain⟨its',r',⟨o',n',e',_,_,d'⟩,_⟩:=I.list h';rw[e] at e';cases e';rw[d] at d';injection d' with d1 _;have:its=its':=by simpa using Ml Array.toList d1
 subst this;exact r.inj r'
theorem Inv.rQ (I:Inv X pins σ H s)(h:bZ X.K H a xs)(h':bZ X.K H a ys):xs=ys:=by
 obtain⟨its,r,⟨o,e,_,n,d⟩,_⟩:=I.tuple h;obtain⟨its',r',⟨o',e',_,n',d'⟩,_⟩:=I.tuple h';rw[e] at e';cases e';rw[d] at d';injection d' with d1 _;have:its=its':=by simpa using Ml Array.toList d1
 subst this;exact r.inj r'
end
abbrev Cx.iw (X:Cx)(E:N5):Cx:={X with xe:=E}
abbrev Cx.HQ (X:Cx):Cx:=X.iw λ_ _=>False
theorem Cx.Ok.iw {X:Cx}(ok:X.Ok)(E:N5):(X.iw E).Ok :=
 ⟨ok.mod,ok.kind,ok.glob,ok.blt,ok.above,ok.inj,ok.has,ok.HN,ok.hd,ok.frames,ok.Fp,ok.II,ok.bs,ok.CO,ok.zA,ok.zY,ok.my,ok.Fj⟩
theorem Cx.Ok.dq {X:Cx}{E:N5}(ok:(X.iw E).Ok):X.Ok :=
 ⟨ok.mod,ok.kind,ok.glob,ok.blt,ok.above,ok.inj,ok.has,ok.HN,ok.hd,ok.frames,ok.Fp,ok.II,ok.bs,ok.CO,ok.zA,ok.zY,ok.my,ok.Fj⟩
section
variable {X:Cx}{pins:N7}{σ:St}{H:Hp}{s:Shared}{E:N5}
theorem Inv.iw (I:Inv X pins σ H s) (E:N5):Inv (X.iw E) pins σ H s:=⟨I.ok.iw E,I.os,I.bare,I.base,I.loc,I.cell,I.free,I.gq,I.pin,I.bw,I.len⟩
theorem Inv.dq (I:Inv (X.iw E) pins σ H s):Inv X pins σ H s:=⟨I.ok.dq,I.os,I.bare,I.base,I.loc,I.cell,I.free,I.gq,I.pin,I.bw,I.len⟩
theorem SP.dq {D:Ends}{f:Flow}{s':Shared}(h:SP (X.iw E) pins D f s'):SP X pins D f s':=by
 cases f with
 |next=>obtain⟨σ',H',I,q⟩:=h;exact⟨σ',H',I.dq,q⟩
 |brk=>obtain⟨σ',H',I,q⟩:=h;exact⟨σ',H',I.dq,q⟩
 |cont=>obtain⟨σ',H',I,q⟩:=h;exact⟨σ',H',I.dq,q⟩
 |ret u=>obtain⟨v,σ',H',I,r,q⟩:=h;exact⟨v,σ',H',I.dq,r,q⟩
theorem uh.HQ {st:List Stmt}{t:TS}(h:uh X.HQ st t):uh X st t:=λpins s σ H D I hw =>
 Mw (h pins s σ H D (I.iw _) hw) (λ_ _ q=>q.dq) λ_ _ z=>False.elim z
end
section
variable {X:Cx}{st:Stmt}{rest:List Stmt}{t u:TS}{e:Expr}{te:TE}{pos:Pos}
def Jr:TS:=λD σ H=>D.nx σ H
def HG (t u:TS):TS:=λD σ H=>t {D with nx:=u D} σ H
theorem aD:uh X [] Jr:=λ_ _ σ H _ I h=>Nb ⟨σ,H,I,h⟩
theorem af (h1:PS X st t)(h2:uh X rest u):uh X (st::rest) (HG t u):=by
 intro pins s σ H D I h;refine wpAny_execs_cons (bB (h1 pins s σ H {D with nx:=u D} I h) λf s1 q=>?_);cases f with
 |next =>
  obtain⟨σ',H',I',q⟩:=q;exact h2 pins s1 σ' H' D I' q
 |ret v=>exact q
 |brk=>exact q
 |cont=>exact q
theorem ak (h1:PS X st t):uh X [st] t:=by
 intro pins s σ H D I h;refine wpAny_execs_cons (bB (h1 pins s σ H D I h) λf s1 q=>?_);cases f with
 |next=>exact Nb q
 |ret v=>exact q
 |brk=>exact q
 |cont=>exact q
theorem Inv.quiet {pins:N7}{σ:St}{H:Hp}{s:Shared}(I:Inv X pins σ H s):interactive X.env=false:=by simp[interactive,I.ok.kind]
def Iv (te:TE):TS:=λD σ H=>te σ H λ_ H1=>D.nx σ H1
theorem dP (he:PE X e te)(hs:swapsWith e none pos.line X.env=pure false:=by rfl):PS X (.Expr e pos) (Iv te):=by
 intro pins s σ H D I h;exact wpAny_Expr_any (bB (he pins s σ H _ I h) λv s1 ⟨x,H1,I1,r1,q1⟩=>⟨σ,H1,I1,q1⟩) I.quiet hs
def Dz (te:TE):TS:=λD σ H=>te σ H D.rt
theorem az (he:PE X e te):PS X (.Return (some e) pos) (Dz te):=by
 intro pins s σ H D I h;exact wpAny_Return_some (bB (he pins s σ H _ I h) λv s1 ⟨x,H1,I1,r1,q1⟩=>⟨x,σ,H1,I1,r1,q1⟩)
def JB (c:TT)(t u:TS):TS:=λD σ H=>c σ H λb H1=>if b=true then t D σ H1 else u D σ H1
theorem aS {c:Expr}{a b:List Stmt}{tc:TT}(hc:PT X c tc)(ha:uh X a t)(hb:uh X b u):PS X (.If c a b pos) (JB tc t u):=by
 intro pins s σ H D I h;refine wpAny_If (bB (hc pins s σ H _ I h) λd s1 ⟨H1,I1,q1⟩=>?_);cases d with
 |true=>exact ha pins s1 σ H1 D I1 q1
 |false=>exact hb pins s1 σ H1 D I1 q1
end
abbrev TG:=V->St->Hp->(St->Hp->Prop)->Prop
abbrev Gi:=List V->St->Hp->(St->Hp->Prop)->Prop
def PG (X:Cx)(target:Expr)(t:TG):Prop :=
 ∀(pins:N7) (s:Shared) (σ:St) (H:Hp) (v:V) (u:Value) (Q:St->Hp->Prop),Inv X pins σ H s->RelV v u->t v σ H Q ->
  wpAny (model X.prog X.w) X.A (assign target X.env u) (λ_ s'=>∃σ' H',Inv X pins σ' H' s'/\Q σ' H') X.xe s
def JH (X:Cx)(ts:List Expr)(t:Gi):Prop :=
 ∀(pins:N7) (s:Shared) (σ:St) (H:Hp) (vs:List V) (us:N8) (Q:St->Hp->Prop),Inv X pins σ H s->Vals vs us->t vs σ H Q ->
  wpAny (model X.prog X.w) X.A (assignInOrder ((assignEach ts X.env).map (·.2)) us) (λ_ s'=>∃σ' H',Inv X pins σ' H' s'/\Q σ' H') X.xe s
abbrev G_:=V->V->V->Hp->(Hp->Prop)->Prop
def JD (X:Cx)(t:G_):Prop :=
 ∀(pins:N7) (s:Shared) (σ:St) (H:Hp) (o i v:V) (ov iv u:Value) (Q:Hp->Prop),Inv X pins σ H s->RelV o ov->RelV i iv->RelV v u->t o i v H Q ->
  wpAny (model X.prog X.w) X.A (setItem ov iv u) (λ_ s'=>∃H',Inv X pins σ H' s'/\Q H') X.xe s
abbrev HP:=V->V->Hp->VK->Prop
def JT (X:Cx)(op:Operator)(t:HP):Prop :=
 ∀(pins:N7) (s:Shared) (σ:St) (H:Hp) (x y:V) (v u:Value) (Q:VK),Inv X pins σ H s->RelV x v->RelV y u->t x y H Q ->
  wpAny (model X.prog X.w) X.A (inplaceOp op v u) (EP X pins σ Q) X.xe s
section
variable {X:Cx}{pos:Pos}
def gG (i:Nat):TG:=λv σ H Q=>Q (σ.set i (some v)) H
theorem aK {i:Nat}{x:Str}(hN:X.N.Nodup)(hi:X.N[i]?=some x)(hx:Loc X.env.scope x)(hf:X.fn x=true∨X.env.scope.names.lookup x=some .local:=by first|exact .inl rfl|exact .inr rfl|assumption):PG X (.Name x pos) (gG i):=by
 intro pins s σ H v u Q I r h;exact wpAny_assign_Name (lW I hN hi hx r (λs' I'=>⟨_,H,I',h⟩) hf)
def Ea:Gi:=λvs σ H Q=>vs=[]/\Q σ H
def pR (t:TG)(u:Gi):Gi:=λvs σ H Q=>∃v r,vs=v::r/\t v σ H λσ' H'=>u r σ' H' Q
theorem iW:JH X [] Ea:=by
 intro pins s σ H vs us Q I r h;obtain⟨e,h⟩:=h;subst e;cases r;exact assignInOrder_nil ⟨σ,H,I,h⟩
theorem b_ {e:Expr}{es:List Expr}{t:TG}{u:Gi}(h1:PG X e t)(h2:JH X es u)
  (hs:(assignEach (e::es) X.env).map (·.2)=assign e X.env::(assignEach es X.env).map (·.2):=by rfl):JH X (e::es) (pR t u):=by
 intro pins s σ H vs us Q I r h;obtain⟨v,vr,e1,h⟩:=h;subst e1;cases r with
 |cons r rr =>
  rw[hs];refine assignInOrder_cons (bB (h1 pins s σ H _ _ _ I r h) λ_ s1 ⟨σ1,H1,I1,q1⟩=>?_);exact h2 pins s1 σ1 H1 _ _ Q I1 rr q1
def ER (K:N4)(n:Nat)(t:Gi):TG:=λv σ H Q=>∃a xs,v=.ref a/\bZ K H a xs/\xs.length=n/\t xs σ H Q
theorem lD {es:List Expr}{k:Nat}{t:Gi}{n:Nat}(hc:X.calm=true)(h:JH X es t)
  (hn:(assignEach es X.env).length=n:=by rfl)(hst:(assignEach es X.env).findIdx? (·.1)=none:=by rfl):PG X (.Tuple es k pos) (ER X.K n t):=by
 intro pins s σ H v u Q I r hw;obtain⟨a,xs,e1,hq,hl,hw⟩:=hw;subst e1;cases r;obtain⟨its,rv,ht,hz⟩:=I.tuple hq;refine assign_Tuple_tuple (I.ok.hd hc) ht (by simp[hn,←hl,rv.length]) hst λh' hx=>?_;have I1:Inv X pins σ H {s with heap:=h'}:=I.kept (t':=s.toks) λb o e=>hx b o (LP (Lq e)) e;exact h pins _ σ H xs _ Q I1 (by simpa using rv) hw
def Bt (te:TE)(g:TG):TS:=λD σ H=>te σ H λx H1=>g x σ H1 D.nx
theorem Bs {tg e:Expr}{te:TE}{g:TG}(he:PE X e te)(hg:PG X tg g)(hs:swapsWithSole [tg] e pos.line X.env=pure false:=by rfl)(hw:swappedStores [tg] e X.env=pure none:=by rfl)
  (h1:(assignEach [tg] X.env).map (·.2)=[assign tg X.env]:=by rfl):PS X (.Assign [tg] e pos) (Bt te g):=by
 intro pins s σ H D I h;refine wpAny_Assign_stores (bB (he pins s σ H _ I h) λv s1 ⟨x,H1,I1,r1,q1⟩=>?_) hs hw;rw[h1];exact bB (hg pins s1 σ H1 x v _ I1 r1 q1) λ_ s2 q=>q
theorem aN {i:Nat}{x:Str}{e:Expr}{te:TE}{pos':Pos}(hN:X.N.Nodup)(hi:X.N[i]?=some x)(hx:Loc X.env.scope x)(he:PE X e te)(hs:swapsWith e (some (.Name x pos')) pos.line X.env=pure false:=by rfl)(hf:X.fn x=true∨X.env.scope.names.lookup x=some .local:=by first|exact .inl rfl|exact .inr rfl|assumption) :
  PS X (.Assign [.Name x pos'] e pos) (Bt te (gG i)):=by
 intro pins s σ H D I h;refine wpAny_Assign_Name (bB (he pins s σ H _ I h) λv s1 ⟨y,H1,I1,r1,q1⟩=>?_) hs;exact lW I1 hN hi hx r1 (λs2 I2=>⟨_,H1,I2,q1⟩) hf
def JL (i:Nat)(te:TE)(ti:HP):TS:=λD σ H=>∃x,σ[i]?=some (some x)/\te σ H λy H1=>ti x y H1 λz H2=>D.nx (σ.set i (some z)) H2
theorem A9 {i:Nat}{x:Str}{e:Expr}{te:TE}{op:Operator}{ti:HP}{pos':Pos}(hN:X.N.Nodup)(hi:X.N[i]?=some x)(hx:Loc X.env.scope x)(he:PE X e te)(ho:JT X op ti)(hf:X.fn x=true∨X.env.scope.names.lookup x=some .local:=by first|exact .inl rfl|exact .inr rfl|assumption) :
  PS X (.AugAssign (.Name x pos') op e pos) (JL i te ti):=by
 intro pins s σ H D I h;obtain⟨v,e1,h⟩:=h;obtain⟨m,hn,hl⟩:=I.loc;have vis:HU X.env.scope x:=by rcases hx with k|k;exact .inl k;exact .inr (.inl k)
 obtain⟨u,r,l⟩:=hl i x v hi e1 vis;refine wpAny_AugAssign_Name ?_;have go:wpAny (model X.prog X.w) X.A (eval e X.env) (λw s₂=>wpAny (model X.prog X.w) X.A (inplaceOp op u w) (λr s₃=>wpAny (model X.prog X.w) X.A (storeName X.env x r) (λ_=>SP X pins D .next) X.xe s₃) X.xe s₂) X.xe s:=by
  refine bB (he pins s σ H _ I h) λw s1 ⟨y,H1,I1,r1,q1⟩=>?_;refine bB (ho pins s1 σ H1 v y u w _ I1 r r1 q1) λz s2 ⟨zv,H2,I2,r2,q2⟩=>?_;exact lW I2 hN hi hx r2 (λs3 I3=>⟨_,H2,I3,q2⟩) hf
 rcases l with ⟨hk,hm⟩|⟨hk,c,hc,hcell⟩
 · exact wpAny_loadName_local I.ok.kind hk hn hm go
 · rcases hk with hk|hk
   · exact wpAny_loadName_cell I.ok.kind hk hc hcell go
   · rcases hx with k|k
     · have:X.env.scope.names.lookup x=some .free:=hk;rw[k] at this;cases this
     · have:X.env.scope.names.lookup x=some .free:=hk;rw[k] at this;cases this
def Jx (to ti te:TE)(tget:V->V->Hp->VK->Prop)(tip:HP)(tset:G_):TS:=λD σ H=>to σ H λo H1=>ti σ H1 λi H2=>tget o i H2 λx H3=>te σ H3 λy H4=>tip x y H4 λz H5=>tset o i z H5 λH6=>D.nx σ H6
def Jm (X:Cx)(t:V->V->Hp->VK->Prop):Prop :=
 ∀(pins:N7) (s:Shared) (σ:St) (H:Hp) (o i:V) (ov iv:Value) (Q:VK),Inv X pins σ H s->RelV o ov->RelV i iv->t o i H Q ->
  wpAny (model X.prog X.w) X.A (getItem ov iv) (EP X pins σ Q) X.xe s
theorem EF {o i e:Expr}{to ti te:TE}{tget:V->V->Hp->VK->Prop}{tip:HP}{tset:G_}{op:Operator}{tpos:Pos}(ho:PE X o to)(hi:PE X i ti)(hg:Jm X tget)(he:PE X e te)(hp:JT X op tip)(hs:JD X tset)
  (ha:∀ov iv new,augStore i ov iv new=(do holding [new,ov,iv] (setItem ov iv new);release [new,ov,iv] [];pure .next):=by intros;rfl):PS X (.AugAssign (.Subscript o i tpos) op e pos) (Jx to ti te tget tip tset):=by
 intro pins s σ H D I h;refine wpAny_AugAssign_SubscriptAny (bB (ho pins s σ H _ I h) λov s1 ⟨x1,H1,I1,r1,q1⟩=>?_) ha;refine bB (hi pins s1 σ H1 _ I1 q1) λiv s2 ⟨x2,H2,I2,r2,q2⟩=>?_;refine bB (hg pins s2 σ H2 x1 x2 ov iv _ I2 r1 r2 q2) λold s3 ⟨x3,H3,I3,r3,q3⟩=>?_;refine bB (he pins s3 σ H3 _ I3 q3) λv s4 ⟨x4,H4,I4,r4,q4⟩=>?_;refine bB (hp pins s4 σ H4 x3 x4 old v _ I4 r3 r4 q4) λnew s5 ⟨x5,H5,I5,r5,q5⟩=>?_;exact bB (hs pins s5 σ H5 x1 x2 x5 ov iv new _ I5 r1 r2 r5 q5) λ_ s6 ⟨H6,I6,q6⟩=>⟨σ,H6,I6,q6⟩
def KP (f:Int->Int->Int):HP:=λx y H Q=>∃i j,x=.int i/\y=.int j/\Q (.int (f i j)) H
theorem AA:JT X .Add (KP λi j=>i+j):=by
 intro pins s σ H x y v u Q I r1 r2 h;obtain⟨i,j,e1,e2,q⟩:=h;subst e1;subst e2;obtain⟨t,rfl⟩:=r1;obtain⟨t',rfl⟩:=r2;exact iadd_int ⟨.int _,H,I.tok _,⟨_,rfl⟩,q⟩
end
section
variable {X:Cx}{pos:Pos}
def wL (c:TT) (tb:TS):TS:=λD σ H=>∃W:Nat->St->Hp->Prop,(∃m,W m σ H)/\∀m σ H,W m σ H ->
 c σ H λb H1=>if b=true then ∃N:St->Hp->Prop,(∀σ' H',N σ' H'->∃m',m' < m/\W m' σ' H')/\tb {D with nx:=N,ct:=N,bk:=D.nx} σ H1 else D.nx σ H1
theorem Cj {c:Expr}{body:List Stmt}{tc:TT}{tb:TS}(hp:PassesOwn (model X.prog X.w) X.A X.env X.xe)(hc:PT X c tc)(hb:uh X body tb):PS X (.While c body [] pos) (wL tc tb):=by
 intro pins s σ H D I h;obtain⟨W,⟨m0,w0⟩,turn⟩:=h;refine wpAny_While (codeAny_whileLoop (λn s'=>∃σ' H',Inv X pins σ' H' s'/\W n σ' H') ?_ m0 ⟨σ,H,I,w0⟩);rintro n s1 ⟨σ1,H1,I1,w1⟩;refine My hp (bB (hc pins s1 σ1 H1 _ I1 (turn n σ1 H1 w1)) λb s2 ⟨H2,I2,q2⟩=>?_);cases b with
 |true =>
  obtain⟨N,hN,q2⟩:=q2;rw[Lg rfl];refine My hp (bB (hb pins s2 σ1 H2 _ I2 q2) λf s3 q3=>?_);cases f with
  |next =>
   obtain⟨σ3,H3,I3,n3⟩:=q3;obtain⟨m',hm,w3⟩:=hN σ3 H3 n3;exact⟨m',hm,σ3,H3,I3,w3⟩
  |cont =>
   obtain⟨σ3,H3,I3,n3⟩:=q3;obtain⟨m',hm,w3⟩:=hN σ3 H3 n3;exact⟨m',hm,σ3,H3,I3,w3⟩
  |brk=>exact q3
  |ret v=>exact q3
 |false =>
  rw[Lf LC];exact Nb ⟨σ1,H2,I2,q2⟩
end
structure It where
 go:Nat->Hp->Prop
 vS:Nat->Hp->V->Hp->Prop
 stop:Nat->Hp->Prop
def mS (X:Cx)(pins:N7)(H:Hp)(b:Addr):Prop :=
 H b=none/\b≠X.env.locals/\b∉X.fs/\(b∈X.ex∨X.ku.heap.objs.size<=b)/\(∀x c,X.env.cells.lookup x=some c->c≠b)/\∀p∈X.pn++pins,p.1≠b
theorem Inv.wj {X:Cx}{pins:N7}{σ:St}{H H':Hp}{s:Shared}{b:Addr}(I:Inv X pins σ H s)(hb:s.heap.objs.size<=b)(hn:H' b=none):mS X pins H' b:=by
 refine⟨hn,Nat.ne_of_gt (LV I.lt hb),I.Kx hb,.inr (L1 I.sz hb),λx c e z=>?_,λp hp z=>?_⟩
 · obtain⟨v,q⟩:=I.cell x c e;exact absurd (LV q.lt (by rw[z];exact hb)) (Mz _)
 · exact absurd (LV (Lq (I.pin p hp).1) (by rw[z];exact hb)) (Mz _)
structure Turn (P:Program)(w:World)(K:N4)(tg:Expr)(J:It)(fp:List Addr)(it:Addr)(tn:Nat->Heap->Prop):Prop where
 mem:it∈fp
 obj:∀i h,tn i h->∀b∈fp,∃o,h.get? b=some o/\∀v,o.data≠.cell v
 keep:∀i h h',tn i h->(∀b∈fp,∀o,h.get? b=some o->h'.get? b=some o)->tn i h'
 item:∀(X:Cx),X.prog=P->X.w=w->X.K=K->X.calm=true->∀(i:Nat) (pins:N7) (s:Shared) (σ:St) (H:Hp) (E:N5),Inv X pins σ H s->(∀b∈fp,mS X pins H b)->tn i s.heap->J.go i H ->
  wpAny (model P w) X.A (pyNext (.ref it)) (λr s1=>∃u,r=some u /\
   wpAny (model P w) X.A (letOwnedTupleGo tg (.ref it) u) (λ_ s2=>∃x H',Inv X pins σ H' s2/\RelV x u/\J.vS i H x H'/\tn (i+1) s2.heap/\∀b∈fp,H' b=none) E s1) E s
 done:∀(X:Cx),X.prog=P->X.w=w->X.K=K->X.calm=true->∀(i:Nat) (pins:N7) (s:Shared) (σ:St) (H:Hp) (E:N5),Inv X pins σ H s->(∀b∈fp,mS X pins H b)->tn i s.heap->J.stop i H ->
  wpAny (model P w) X.A (pyNext (.ref it)) (λr s1=>r=none/\Inv X pins σ H s1) E s
 self:∀(A:Around) (i:Nat) (s:Shared) (Q:N5) (E:N5),tn i s.heap->Q (.ref it) s->wpAny (model P w) A (pyIter (.ref it)) Q E s
abbrev TI:=St->Hp->(It->Hp->Prop)->Prop
def Kp (X:Cx)(pins:N7)(σ:St)(tg:Expr)(R:It->Hp->Prop)(itv:Value)(s2:Shared):Prop :=
 ∃(it:Addr) (fp:List Addr) (tn:Nat->Heap->Prop) (J:It) (H':Hp),itv=.ref it/\Inv X pins σ H' s2/\Turn X.prog X.w X.K tg J fp it tn/\tn 0 s2.heap/\(∀b∈fp,mS X pins H' b)/\R J H'
def PI (X:Cx)(tg iter:Expr)(wi:TI):Prop :=
 ∀(pins:N7) (s:Shared) (σ:St) (H:Hp) (R:It->Hp->Prop),Inv X pins σ H s->wi σ H R ->
  wpAny (model X.prog X.w) X.A (eval iter X.env) (λv s1=>wpAny (model X.prog X.w) X.A (pyIter v) (Kp X pins σ tg R) X.xe s1) X.xe s
theorem uZ {M:Model}{A:Around}{E:N5}{s:Shared}{tg:Expr}{it:Addr}{u:Value}{o:Obj}{n:String}{vs:Array Value}{Q:Unit->Shared->Prop}(ho:s.heap.get? it=some o)(hc:o.cls=.type n)(hd:o.data=.fields vs)
  (hn:["enumerate","zip","dict_itemiterator","dict_reverseitemiterator","odict_iterator","itertools.zip_longest","itertools.pairwise"].contains n=false)(hQ:Q () s):wpAny M A (letOwnedTupleGo tg (.ref it) u) Q E s:=by
 unfold letOwnedTupleGo;cases tg <;> first
  |exact Lk hQ
  |(cases u <;> first
    |exact Lk hQ
    |(refine Ld (wpAny_load ho ?_)
      rw[hc,hd];show wpAny M A (if (["enumerate","zip","dict_itemiterator","dict_reverseitemiterator","odict_iterator","itertools.zip_longest","itertools.pairwise"].contains n&&vs[0]?==some (rawInt _))=true then _ else _) Q E s;rw[Lf (by intro h;rw[hn,Bool.false_and] at h;cases h)];exact Lk hQ))
def Cp (K:N4)(a:Addr):It :=
 ⟨λi H=>∃xs x,aU K H a xs/\xs[i]?=some x,λi H x H'=>H'=H/\∀xs,aU K H a xs->xs[i]?=some x,λi H=>∃xs,aU K H a xs/\xs.length<=i⟩
def IY (K:N4)(a:Addr):It :=
 ⟨λi H=>∃xs x,bZ K H a xs/\xs[i]?=some x,λi H x H'=>H'=H/\∀xs,bZ K H a xs->xs[i]?=some x,λi H=>∃xs,bZ K H a xs/\xs.length<=i⟩
def An (lo:Int)(n:Nat):It:=⟨λi _=>i < n,λi H x H'=>H'=H/\x=.int (lo+i),λi _=>n<=i⟩
theorem zm {P:Program}{w:World}{K:N4}{tg:Expr}(a it:Addr):Turn P w K tg (Cp K a) [it] it (λi h=>h.IsListIter it a i) where
 mem:=by simp
 obj:=λi h st b hb=>by
  have e:b=it:=by simpa using hb
  subst e;obtain⟨o,e,c,d⟩:=st;exact⟨o,e,λv z=>by rw[d] at z;cases z⟩
 keep:=λi h h' st k=>st.at λo e=>k it (by simp) o e
 item:=by
  intro X hP hw hK hc i pins s σ H E I hf st hg;subst hP hw hK;obtain⟨xs,x,hq,hx⟩:=hg;obtain⟨its,rv,p,hz⟩:=I.list hq;obtain⟨u,hu,ru⟩:=rv.get hx;obtain⟨f0,f1,f2,f3,f4,f5⟩:=hf it (by simp);refine wpAny_pyNext_list_item st p.isList (x:=u) (by simpa using hu) λh' st' sb=>?_;have I1:Inv X pins σ H {s with heap:=h'}:=I.turned (t':=s.toks) (λb o hb e=>(sb.2 b hb).trans e) f0 f1 f3 f4 f5;obtain⟨o,e,c,d⟩:=id st';exact⟨u,rfl,uZ (s:={s with heap:=h'}) e c d (by decide) ⟨x,H,I1,ru,⟨rfl,λys hy=>by rw[I.p8 hy hq];exact hx⟩,st',λb hb=>(hf b hb).1⟩⟩
 done:=by
  intro X hP hw hK hc i pins s σ H E I hf st hg;subst hP hw hK;obtain⟨xs,hq,hx⟩:=hg;obtain⟨its,rv,p,hz⟩:=I.list hq;obtain⟨f0,f1,f2,f3,f4,f5⟩:=hf it (by simp);have hl:=rv.length;exact wpAny_pyNext_list_end (I.ok.hd hc) st p.isList (by simp;omega) λh' eb=>⟨rfl,I.turned (t':=s.toks) (λb o hb e=>eb b o hb e) f0 f1 f3 f4 f5⟩
 self:=λ_ _ _ _ _ st h=>wpAny_pyIter_listiter st h
theorem xg {P:Program}{w:World}{K:N4}{tg:Expr}(a it:Addr):Turn P w K tg (IY K a) [it] it (λi h=>h.IsTupleIter it a i) where
 mem:=by simp
 obj:=λi h st b hb=>by
  have e:b=it:=by simpa using hb
  subst e;obtain⟨o,e,c,d⟩:=st;exact⟨o,e,λv z=>by rw[d] at z;cases z⟩
 keep:=λi h h' st k=>st.at λo e=>k it (by simp) o e
 item:=by
  intro X hP hw hK hc i pins s σ H E I hf st hg;subst hP hw hK;obtain⟨xs,x,hq,hx⟩:=hg;obtain⟨its,rv,p,hz⟩:=I.tuple hq;obtain⟨u,hu,ru⟩:=rv.get hx;obtain⟨f0,f1,f2,f3,f4,f5⟩:=hf it (by simp);refine wpAny_pyNext_tuple_item st (show s.heap.IsTuple a its.toArray from p) (x:=u) (by simpa using hu) λh' st' sb=>?_;have I1:Inv X pins σ H {s with heap:=h'}:=I.turned (t':=s.toks) (λb o hb e=>(sb.2 b hb).trans e) f0 f1 f3 f4 f5;obtain⟨o,e,c,d⟩:=id st';exact⟨u,rfl,uZ (s:={s with heap:=h'}) e c d (by decide) ⟨x,H,I1,ru,⟨rfl,λys hy=>by rw[I.rQ hy hq];exact hx⟩,st',λb hb=>(hf b hb).1⟩⟩
 done:=by
  intro X hP hw hK hc i pins s σ H E I hf st hg;subst hP hw hK;obtain⟨xs,hq,hx⟩:=hg;obtain⟨its,rv,p,hz⟩:=I.tuple hq;obtain⟨f0,f1,f2,f3,f4,f5⟩:=hf it (by simp);have hl:=rv.length;exact wpAny_pyNext_tuple_end (I.ok.hd hc) st (show s.heap.IsTuple a its.toArray from p) (by simp;omega) λh' eb=>⟨rfl,I.turned (t':=s.toks) (λb o hb e=>eb b o hb e) f0 f1 f3 f4 f5⟩
 self:=λ_ _ _ _ _ st h=>wpAny_pyIter_tupleiter st h
theorem v_ {P:Program}{w:World}{K:N4}{tg:Expr}(it:Addr)(lo:Int)(n:Nat):Turn P w K tg (An lo n) [it] it (λi h=>IsRangeIter h it (lo+(i:Nat)*1) ((n:Int) - (i:Nat)) 1) where
 mem:=by simp
 obj:=λi h st b hb=>by
  have e:b=it:=by simpa using hb
  subst e;exact⟨_,st,λv z=>by
   have z':Data.fields _=Data.cell v:=z;cases z'⟩
 keep:=λi h h' st k=>k it (by simp) _ st
 item:=by
  intro X hP hw hK hc i pins s σ H E I hf st hg;subst hP hw hK;obtain⟨f0,f1,f2,f3,f4,f5⟩:=hf it (by simp);have W:=Walks.range (prog:=X.prog) (w:=X.w) (I.ok.hd hc) it lo 1 n;refine W.item i s _ _ hg st λv h' tk hv st' kk=>?_;obtain⟨t,rfl⟩:=hv;have I1:Inv X pins σ H {s with heap:=h',toks:=tk}:=I.turned (λb o hb e=>kk b o (by simpa using hb) e) f0 f1 f3 f4 f5;refine⟨_,rfl,uZ (s:={s with heap:=h',toks:=tk}) (n:="range_iterator") st' rfl rfl (by decide) ⟨.int (lo+i),H,I1,⟨t,?_⟩,⟨rfl,rfl⟩,st',λb hb=>(hf b hb).1⟩⟩;rw[Int.mul_one]
 done:=by
  intro X hP hw hK hc i pins s σ H E I hf st hg;subst hP hw hK;obtain⟨f0,f1,f2,f3,f4,f5⟩:=hf it (by simp);exact wpAny_pyNext_range_end (I.ok.hd hc) st (by have:n<=i:=hg;omega) λh' eb=>⟨rfl,I.turned (t':=s.toks) (λb o hb e=>eb b o hb e) f0 f1 f3 f4 f5⟩
 self:=λ_ _ _ _ _ st h=>wpAny_pyIter_rangeiter st h
section
variable {X:Cx}{tg:Expr}
def E6 (K:N4) (tl:TE):TI:=λσ H R=>tl σ H λx H1=>∃a,x=.ref a/\(∃xs,aU K H1 a xs)/\R (Cp K a) H1
def JX (K:N4)(tl:TE):TI:=λσ H R=>tl σ H λx H1=>∃a,x=.ref a/\(∃xs,bZ K H1 a xs)/\R (IY K a) H1
theorem bK {l:Expr}{tl:TE}(hl:PE X l tl):PI X tg l (E6 X.K tl):=by
 intro pins s σ H R I h;refine bB (hl pins s σ H _ I h) λv s1 ⟨x,H1,I1,r1,q1⟩=>?_;obtain⟨a,e,⟨xs,hq⟩,q⟩:=q1;subst e;cases r1;obtain⟨its,rv,p,hz⟩:=I1.list hq;refine wpAny_pyIter_list p.isList ?_;refine⟨s1.heap.objs.size,[s1.heap.objs.size],_,_,H1,rfl,I1.kept (t':=s1.toks) λb o e=>Lh _ e,zm a _,⟨_,Lu _ rfl,rfl,rfl⟩,λb hb=>?_,q⟩;have e:b=s1.heap.objs.size:=by simpa using hb
 subst e;exact I1.wj (Ln _) (I1.bw.fresh (Ln _))
theorem Gn {l:Expr}{tl:TE}(hl:PE X l tl):PI X tg l (JX X.K tl):=by
 intro pins s σ H R I h;refine bB (hl pins s σ H _ I h) λv s1 ⟨x,H1,I1,r1,q1⟩=>?_;obtain⟨a,e,⟨xs,hq⟩,q⟩:=q1;subst e;cases r1;obtain⟨its,rv,p,hz⟩:=I1.tuple hq;refine wpAny_pyIter_tuple (show s1.heap.IsTuple a its.toArray from p) ?_;refine⟨s1.heap.objs.size,[s1.heap.objs.size],_,_,H1,rfl,I1.kept (t':=s1.toks) λb o e=>Lh _ e,xg a _,⟨_,Lu _ rfl,rfl,rfl⟩,λb hb=>?_,q⟩;have e:b=s1.heap.objs.size:=by simpa using hb
 subst e;exact I1.wj (Ln _) (I1.bw.fresh (Ln _))
theorem uu {pins:N7}{σ:St}{H:Hp}{s:Shared}{R:It->Hp->Prop}{E:N5}{lo hi:Int}{t u v:Tok}{tk:Nat}(I:Inv X pins σ H s)(h1:-(2 ^ 62)<=lo)(h2:lo < 2 ^ 62)(h3:-(2 ^ 62)<=hi)(h4:hi < 2 ^ 62)
  (q:R (An lo (hi - lo).toNat) H):wpAny (model X.prog X.w) X.A (pyIter (.ref s.heap.objs.size)) (Kp X pins σ tg R) E {s with heap:=s.heap.push {cls:=.type "range",data:=.fields #[.int lo t,.int hi u,.int 1 v]},toks:=tk}:=by
 refine wpAny_pyIter_range (IsRange.new ..) (small_one h1 h2 h3 h4) ?_;have I1:Inv X pins σ H {s with heap:=s.heap.push {cls:=.type "range",data:=.fields #[.int lo t,.int hi u,.int 1 v]},toks:=tk}:=I.kept λb o e=>Lh _ e;refine⟨(s.heap.push {cls:=.type "range",data:=.fields #[.int lo t,.int hi u,.int 1 v]}).objs.size,[(s.heap.push {cls:=.type "range",data:=.fields #[.int lo t,.int hi u,.int 1 v]}).objs.size],_,_,H,rfl,
  I1.kept (t':=tk) λb o e=>Lh _ e,v_ _ lo (hi - lo).toNat,?_,λb hb=>?_,q⟩
 · have e1:lo+((0:Nat):Int)*1=lo:=by simp
   have e2:(((hi - lo).toNat:Nat):Int) - ((0:Nat):Int)=Builtin.Range.rangeSize lo hi 1:=by rw[rangeSize_one];split <;> omega
   show IsRangeIter _ _ (lo+((0:Nat):Int)*1) ((((hi - lo).toNat:Nat):Int) - ((0:Nat):Int)) 1;rw[e1,e2];exact Lu _ rfl
 · have e:b=(s.heap.push {cls:=.type "range",data:=.fields #[.int lo t,.int hi u,.int 1 v]}).objs.size:=by simpa using hb
   subst e;exact I1.wj (Ln _) (I1.bw.fresh (Ln _))
def CJ (ta:TA):TI:=λσ H R=>ta σ H λvs H1=>∃j:Int,vs=[.int j]/\-(2 ^ 62)<=j/\j < 2 ^ 62/\R (An 0 j.toNat) H1
def Ff (ta:TA):TI:=λσ H R=>ta σ H λvs H1=>∃i j:Int,vs=[.int i,.int j]/\(-(2 ^ 62)<=i/\i < 2 ^ 62/\-(2 ^ 62)<=j/\j < 2 ^ 62)/\R (An i (j - i).toNat) H1
theorem gd {a:Expr}{ta:TA}{p pos:Pos}(hg:Gl X "range")(hm:X.mg "range"=none)(ha:PA X [a] ta)(hs:starEach [a] X.env=[(false,eval a X.env)]:=by rfl):PI X tg (.Call (.Name "range" p) [a] [] pos) (CJ ta):=by
 intro pins s σ H R I h;refine Call_ (kR I hg hm boot_range (MF (bB (ha pos pins s σ H _ I h) λus s1 ⟨vs,H1,I1,r1,q1⟩=>?_) hs rfl));obtain⟨j,e,q1,q2,q⟩:=q1;subst e;cases r1 with
 |cons r rr =>
  cases rr;obtain⟨t,rfl⟩:=r;exact call_range_1 (uu I1 (by omega) (by omega) q1 q2 (by simpa using q))
theorem rW {a b:Expr}{ta:TA}{p pos:Pos}(hg:Gl X "range")(hm:X.mg "range"=none)(ha:PA X [a,b] ta)(hs:starEach [a,b] X.env=[(false,eval a X.env),(false,eval b X.env)]:=by rfl)(hs2:starEach [b] X.env=[(false,eval b X.env)]:=by rfl) :
  PI X tg (.Call (.Name "range" p) [a,b] [] pos) (Ff ta):=by
 intro pins s σ H R I h;refine Call_ (kR I hg hm boot_range (MF (bB (ha pos pins s σ H _ I h) λus s1 ⟨vs,H1,I1,r1,q1⟩=>?_) (by rw[hs,hs2]) (by rw[hs2];rfl)));obtain⟨i,j,e,⟨q1,q2,q3,q4⟩,q⟩:=q1;subst e;cases r1 with
 |cons r rr =>
  cases rr with
  |cons r' rr =>
   cases rr;obtain⟨t,rfl⟩:=r;obtain⟨t',rfl⟩:=r';exact call_range_2 (uu I1 q1 q2 q3 q4 q)
def GG (wi:TI)(g:TG)(tb:TS):TS:=λD σ H=>wi σ H λJ H1=>∃W:Nat->Nat->St->Hp->Prop,(∃m,W 0 m σ H1)/\∀i m σ H,W i m σ H ->
 (J.stop i H/\D.nx σ H)∨(J.go i H/\∃N:St->Hp->Prop,(∀σ' H',N σ' H'->∃m',m' < m/\W (i+1) m' σ' H')/\∀x H',J.vS i H x H'->g x σ H' λσ2 H2=>tb {D with nx:=N,ct:=N,bk:=D.nx} σ2 H2)
def m7 (fp:List Addr)(h:Heap):N7:=fp.filterMap λb=>(h.get? b).map λo=>(b,o)
theorem gC {fp:List Addr}{h:Heap}{b:Addr}{o:Obj}(hb:b∈fp)(e:h.get? b=some o):(b,o)∈m7 fp h:=List.mem_filterMap.mpr ⟨b,hb,by rw[e];rfl⟩
theorem zc {fp:List Addr}{h:Heap}{p:Addr×Obj}(hp:p∈m7 fp h):p.1∈fp/\h.get? p.1=some p.2:=by
 obtain⟨b,hb,e⟩:=List.mem_filterMap.mp hp;cases q:h.get? b with
 |none=>rw[q] at e;cases e
 |some o =>
  rw[q] at e;have e':(b,o)=p:=LQ e;subst e';exact⟨hb,q⟩
theorem Inv.pinned {pins:N7}{σ:St}{H:Hp}{s:Shared}{fp:List Addr}(I:Inv X pins σ H s)(hf:∀b∈fp,mS X pins H b)(ho:∀b∈fp,∃o,s.heap.get? b=some o/\∀v,o.data≠.cell v):Inv X (pins++m7 fp s.heap) σ H s :=
 I.md λp hp=>(L4.mp hp).elim (λz=>I.pin p (Mc _ z)) λz=>by
  obtain⟨hb,e⟩:=zc z;obtain⟨f0,f1,f2,_⟩:=hf p.1 hb;obtain⟨o,e',d⟩:=ho p.1 hb;rw[e] at e';cases e';exact⟨e,f0,f1,f2,d⟩
theorem Inv.ic {pins pl:N7}{σ:St}{H:Hp}{s:Shared}(I:Inv X (pins++pl) σ H s):Inv X pins σ H s:=I.md λp hp=>I.pin p (Mc _ (List.mem_append_left _ hp))
theorem dg {iter:Expr}{body:List Stmt}{wi:TI}{g:TG}{tb:TS}{pos:Pos}(hp:PassesOwn (model X.prog X.w) X.A X.env X.xe)(hc:X.calm=true)(hi:PI X tg iter wi)(hg:PG X tg g)(hb:uh X body tb)
  (hs:∀x,foldedSetIterable iter X.env x=pure x:=by intro _;rfl):PS X (.For tg iter body [] pos) (GG wi g tb):=by
 intro pins s σ H D I h;refine wpAny_For (bB (hi pins s σ H _ I h) λv s1 h1=>bB h1 λitv s2 h2=>?_) hs;obtain⟨it,fp,tn,J,H2,e,I2,T,st2,f2,W,⟨m0,w0⟩,turn⟩:=h2;subst e;have stat:∀{H':Hp},(∀b∈fp,H' b=none)->∀b∈fp,mS X pins H' b:=λhn b hb=>⟨hn b hb,(f2 b hb).2⟩;refine codeAny_forLoop_any (λn s'=>∃i σ' H',Inv X pins σ' H' s'/\tn i s'.heap/\(∀b∈fp,H' b=none)/\W i n σ' H') ?_ m0 ⟨0,σ,H2,I2,st2,λb hb=>(f2 b hb).1,w0⟩;rintro n s3 ⟨i,σ3,H3,I3,st3,fr3,w3⟩;rcases turn i n σ3 H3 w3 with ⟨stop,qn⟩|⟨go,N,hN,step⟩
 · refine My hp (bB (T.done X rfl rfl rfl hc i pins s3 σ3 H3 X.xe I3 (stat fr3) st3 stop) λr s4 ⟨hr,I4⟩=>?_);subst hr;exact Nb ⟨σ3,H3,I4,qn⟩
 · refine My hp (bB (T.item X rfl rfl rfl hc i pins s3 σ3 H3 X.xe I3 (stat fr3) st3 go) λr s4 ⟨u,hr,h4⟩=>?_);subst hr;refine My hp (bB h4 λ_ s5 ⟨x,H5,I5,r5,y5,st5,fr5⟩=>?_);have I5':=I5.pinned (stat fr5) (T.obj _ _ st5);refine My hp (bB (hg _ s5 σ3 H5 x u _ I5' r5 (step x H5 y5)) λ_ s6 ⟨σ6,H6,I6,q6⟩=>?_);refine My hp (bB (hb _ s6 σ6 H6 _ I6 q6) λf s7 q7=>?_);have again:∀{σ7:St} {H7:Hp},Inv X (pins++m7 fp s5.heap) σ7 H7 s7->N σ7 H7->∃m,m < n/\∃i σ' H',Inv X pins σ' H' s7/\tn i s7.heap/\(∀b∈fp,H' b=none)/\W i m σ' H':=λ{σ7 H7} I7 n7=>by
    obtain⟨m',hm,w7⟩:=hN σ7 H7 n7;refine⟨m',hm,i+1,σ7,H7,I7.ic,T.keep _ _ _ st5 λb hb o e=>(I7.pin (b,o) (Mc _ (Mc _ (gC hb e)))).1,λb hb=>?_,w7⟩;obtain⟨o,e,d⟩:=T.obj _ _ st5 b hb;exact (I7.pin (b,o) (Mc _ (Mc _ (gC hb e)))).2.1
   cases f with
   |next=>obtain⟨σ7,H7,I7,n7⟩:=q7;exact again I7 n7
   |cont=>obtain⟨σ7,H7,I7,n7⟩:=q7;exact again I7 n7
   |brk=>obtain⟨σ7,H7,I7,q7⟩:=q7;exact⟨σ7,H7,I7.ic,q7⟩
   |ret v=>obtain⟨x7,σ7,H7,I7,r7,q7⟩:=q7;exact⟨x7,σ7,H7,I7.ic,r7,q7⟩
end
theorem cZ {K:N4}{a:Addr}{xs:List V}{g:TG}{tb:TS}{D:Ends}{σ:St}{H:Hp}(Pv:Nat->St->Hp->Prop)(h0:Pv 0 σ H)(hl:∀i σ H,i<=xs.length->Pv i σ H->aU K H a xs)
  (hs:∀i x σ H,xs[i]?=some x->Pv i σ H->g x σ H λσ2 H2=>tb {D with nx:=Pv (i+1),ct:=Pv (i+1),bk:=D.nx} σ2 H2)(hd:∀σ H,Pv xs.length σ H->D.nx σ H) :
  ∃W:Nat->Nat->St->Hp->Prop,(∃m,W 0 m σ H)/\∀i m σ H,W i m σ H ->
   ((Cp K a).stop i H/\D.nx σ H)∨((Cp K a).go i H/\∃N:St->Hp->Prop,(∀σ' H',N σ' H'->∃m',m' < m/\W (i+1) m' σ' H')/\∀x H',(Cp K a).vS i H x H'->g x σ H' λσ2 H2=>tb {D with nx:=N,ct:=N,bk:=D.nx} σ2 H2):=by
 refine⟨λi m σ H=>m=xs.length - i/\i<=xs.length/\Pv i σ H,⟨xs.length,by simp,LJ _,h0⟩,?_⟩;rintro i m σ H ⟨rfl,hi,p⟩;have q:=hl i σ H hi p;by_cases hlt:i < xs.length
 · refine .inr ⟨⟨xs,xs[i],q,by simp[hlt]⟩,Pv (i+1),λσ' H' p'=>⟨xs.length - (i+1),by omega,rfl,hlt,p'⟩,λx H' y=>?_⟩;obtain⟨e,y⟩:=y;subst e;exact hs i x σ _ (y xs q) p
 · have e:i=xs.length:=by omega
   subst e;exact .inl ⟨⟨xs,q,Ln _⟩,hd σ H p⟩
theorem mT {lo:Int}{n:Nat}{g:TG}{tb:TS}{D:Ends}{σ:St}{H:Hp}(Pv:Nat->St->Hp->Prop)(h0:Pv 0 σ H)
  (hs:∀i σ H,i < n->Pv i σ H->g (.int (lo+i)) σ H λσ2 H2=>tb {D with nx:=Pv (i+1),ct:=Pv (i+1),bk:=D.nx} σ2 H2)(hd:∀σ H,Pv n σ H->D.nx σ H) :
  ∃W:Nat->Nat->St->Hp->Prop,(∃m,W 0 m σ H)/\∀i m σ H,W i m σ H ->
   ((An lo n).stop i H/\D.nx σ H)∨((An lo n).go i H/\∃N:St->Hp->Prop,(∀σ' H',N σ' H'->∃m',m' < m/\W (i+1) m' σ' H')/\∀x H',(An lo n).vS i H x H'->g x σ H' λσ2 H2=>tb {D with nx:=N,ct:=N,bk:=D.nx} σ2 H2):=by
 refine⟨λi m σ H=>m=n - i/\i<=n/\Pv i σ H,⟨n,by simp,LJ _,h0⟩,?_⟩;rintro i m σ H ⟨rfl,hi,p⟩;by_cases hlt:i < n
 · refine .inr ⟨hlt,Pv (i+1),λσ' H' p'=>⟨n - (i+1),by omega,rfl,hlt,p'⟩,λx H' y=>?_⟩;obtain⟨e,y⟩:=y;subst e y;exact hs i σ _ hlt p
 · have e:i=n:=by omega
   subst e;exact .inl ⟨Ln _,hd σ H p⟩
theorem Cr {c:TT}{tb:TS}{D:Ends}{σ:St}{H:Hp}(Pv:St->Hp->Prop)(μ:St->Hp->Nat)(h0:Pv σ H)
  (hs:∀σ H,Pv σ H->c σ H λb H1=>if b=true then tb {D with nx:=λσ' H'=>Pv σ' H'/\μ σ' H' < μ σ H,ct:=λσ' H'=>Pv σ' H'/\μ σ' H' < μ σ H,bk:=D.nx} σ H1 else D.nx σ H1)
  (mono:∀σ H Q Q',(∀b H1,Q b H1->Q' b H1)->c σ H Q->c σ H Q'):wL c tb D σ H:=by
 refine⟨λm σ H=>m=μ σ H/\Pv σ H,⟨_,rfl,h0⟩,?_⟩;rintro m σ H ⟨rfl,p⟩;refine mono σ H _ _ (λb H1 q=>?_) (hs σ H p);cases b with
 |true=>exact⟨_,λσ' H' ⟨p',l⟩=>⟨_,l,rfl,p'⟩,q⟩
 |false=>exact q
abbrev R2:=V->V->Hp->VK->Prop
def jv (X:Cx)(f:Value->Value->Sem Value)(r:R2):Prop :=
 ∀(pins:N7) (s:Shared) (σ:St) (H:Hp) (x y:V) (v u:Value) (Q:VK),Inv X pins σ H s->RelV x v->RelV y u->r x y H Q ->
  wpAny (model X.prog X.w) X.A (f v u) (EP X pins σ Q) X.xe s
def JU (X:Cx)(f:Value->Sem Value)(r:V->Hp->VK->Prop):Prop :=
 ∀(pins:N7) (s:Shared) (σ:St) (H:Hp) (x:V) (v:Value) (Q:VK),Inv X pins σ H s->RelV x v->r x H Q ->
  wpAny (model X.prog X.w) X.A (f v) (EP X pins σ Q) X.xe s
def iu (X:Cx)(f:Value)(r:List V->Hp->VK->Prop):Prop :=
 ∀(pins:N7) (s:Shared) (σ:St) (H:Hp) (xs:List V) (us:N8) (Q:VK),Inv X pins σ H s->Vals xs us->r xs H Q ->
  wpAny (model X.prog X.w) X.A (call f us) (EP X pins σ Q) X.xe s
def kG (r:R2)(ta tb:TE):TE:=λσ H Q=>ta σ H λx H1=>tb σ H1 λy H2=>r x y H2 Q
def KI (r:V->Hp->VK->Prop)(ta:TE):TE:=λσ H Q=>ta σ H λx H1=>r x H1 Q
def rI (C:Int->Int->Prop)(g:Int->Int->V):R2:=λx y H Q=>∃i j,x=.int i/\y=.int j/\C i j/\Q (g i j) H
def qB (g:Int->Int->V):R2:=λx y H Q=>∃i j,x=.int i/\y=.int j/\Q (g i j) H
def rU (g:Int->V):V->Hp->VK->Prop:=λx H Q=>∃i,x=.int i/\Q (g i) H
section
variable {X:Cx}{a b c:Expr}{ta tb tc:TE}{pos:Pos}
theorem F8 (ha:PE X a ta) (hb:PE X b tb) {pins:N7} {s:Shared} {σ:St} {H:Hp} {R:V->V->Hp->Prop} (I:Inv X pins σ H s)
  (h:ta σ H λx H1=>tb σ H1 λy H2=>R x y H2) {Q:N5} {f:Value->Value->Sem Value}
  (hf:∀v u s2 x y H2,Inv X pins σ H2 s2->RelV x v->RelV y u->R x y H2->wpAny (model X.prog X.w) X.A (f v u) Q X.xe s2) :
  wpAny (model X.prog X.w) X.A (eval a X.env) (λv s₁=>wpAny (model X.prog X.w) X.A (eval b X.env) (λu s₂=>wpAny (model X.prog X.w) X.A (f v u) Q X.xe s₂) X.xe s₁) X.xe s:=by
 refine bB (ha pins s σ H _ I h) λv s1 ⟨x,H1,I1,r1,q1⟩=>?_;refine bB (hb pins s1 σ H1 _ I1 q1) λu s2 ⟨y,H2,I2,r2,q2⟩=>?_;exact hf v u s2 x y H2 I2 r1 r2 q2
theorem bH {op:Operator}{r:R2}(ho:jv X (binaryOp op) r)(ha:PE X a ta)(hb:PE X b tb):PE X (.BinOp a op b pos) (kG r ta tb):=by
 intro pins s σ H Q I h;exact wpAny_BinOp (F8 ha hb I h λv u s2 x y H2 I2 rx ry q=>ho pins s2 σ H2 x y v u Q I2 rx ry q)
theorem vq {op:UnaryOp}{r:V->Hp->VK->Prop}(ho:JU X (unaryOp op) r)(ha:PE X a ta):PE X (.UnaryOp op a pos) (KI r ta):=by
 intro pins s σ H Q I h;exact UnaryOp_ (bB (ha pins s σ H _ I h) λv s1 ⟨x,H1,I1,r1,q1⟩=>ho pins s1 σ H1 x v Q I1 r1 q1)
theorem Jn {f:Value->Value->Sem Value}{C:Int->Int->Prop}{g:Int->Int->Int}
  (rule:∀(i j:Int) (t u:Tok) (s:Shared) (Q:N5) (E:N5),C i j->Q (.int (g i j) s.toks) {s with toks:=s.toks+1}->wpAny (model X.prog X.w) X.A (f (.int i t) (.int j u)) Q E s) :
  jv X f (rI C λi j=>.int (g i j)):=by
 intro pins s σ H x y v u Q I rx ry h;obtain⟨i,j,rfl,rfl,hc,q⟩:=h;obtain⟨t,rfl⟩:=rx;obtain⟨t',rfl⟩:=ry;exact rule i j t t' s _ _ hc ⟨.int (g i j),H,I.tok _,⟨_,rfl⟩,q⟩
theorem FZ {f:Value->Value->Sem Value}{g:Int->Int->Int}
  (rule:∀(i j:Int) (t u:Tok) (s:Shared) (Q:N5) (E:N5),Q (.int (g i j) s.toks) {s with toks:=s.toks+1}->wpAny (model X.prog X.w) X.A (f (.int i t) (.int j u)) Q E s) :
  jv X f (qB λi j=>.int (g i j)):=by
 intro pins s σ H x y v u Q I rx ry h;obtain⟨i,j,rfl,rfl,q⟩:=h;obtain⟨t,rfl⟩:=rx;obtain⟨t',rfl⟩:=ry;exact rule i j t t' s _ _ ⟨.int (g i j),H,I.tok _,⟨_,rfl⟩,q⟩
theorem GO {f:Value->Value->Sem Value}{g:Int->Int->Bool}
  (rule:∀(i j:Int) (t u:Tok) (s:Shared) (Q:N5) (E:N5),Q (.bool (g i j)) s->wpAny (model X.prog X.w) X.A (f (.int i t) (.int j u)) Q E s) :
  jv X f (qB λi j=>.bl (g i j)):=by
 intro pins s σ H x y v u Q I rx ry h;obtain⟨i,j,rfl,rfl,q⟩:=h;obtain⟨t,rfl⟩:=rx;obtain⟨t',rfl⟩:=ry;exact rule i j t t' s _ _ ⟨.bl (g i j),H,I,rfl,q⟩
def J0 (i j:Int):Prop:=0 < j/\j < 1073741824
def EJ (i j:Int):Prop:=0<=j/\j<=1000000/\i.natAbs < 2 ^ 64
def zo (i j:Int):Prop:=(-(2 ^ 64) < i/\i < 2 ^ 64)∨(-(2 ^ 64) < j/\j < 2 ^ 64)
theorem zo.ok {i j:Int}(h:zo i j):IntMulOk i j:=by
 rcases h with ⟨h1,h2⟩|⟨h1,h2⟩
 · exact .of_left (intBits_le_64 h1 h2)
 · exact .of_right (intBits_le_64 h1 h2)
theorem eG:jv X (binaryOp .Add) (qB λi j=>.int (i+j)):=FZ λ_ _ _ _ _ _ _ q=>add_int q
theorem fH:jv X (binaryOp .Sub) (qB λi j=>.int (i - j)):=FZ λ_ _ _ _ _ _ _ q=>sub_int q
theorem vV:jv X (binaryOp .Mult) (rI zo λi j=>.int (i*j)):=Jn λ_ _ _ _ _ _ _ hc q=>mul_int q hc.ok
theorem E3:jv X (binaryOp .FloorDiv) (rI J0 λi j=>.int (i / j)):=Jn λi j _ _ _ _ _ hc q=>by
 have h1:(0:Int) < j:=hc.1;have h2:j < 1073741824:=hc.2;exact floordiv_int (by omega) (by rw[Int.fdiv_eq_ediv_of_nonneg i (by omega)];exact q) (.inl (PyProof.noPylong_small (by omega)))
theorem G6:jv X (binaryOp .Mod) (rI (λ_ j=>0 < j) λi j=>.int (i % j)):=Jn λi j _ _ _ _ _ hc q=>by
 have h1:(0:Int) < j:=hc;exact mod_int' (by omega) (by rw[Int.fmod_eq_emod_of_nonneg i (by omega)];exact q)
theorem Cw:jv X (binaryOp .LShift) (rI EJ λi j=>.int (i*2 ^ j.toNat)):=Jn λ_ _ _ _ _ _ _ hc q=>lshift_int_small hc.1 hc.2.1 hc.2.2 q
theorem Gy:jv X (binaryOp .BitAnd) (qB λi j=>.int (Builtin.bitAnd i j)):=FZ λ_ _ _ _ _ _ _ q=>and_int q
theorem DB:jv X (inplaceOp .Mult) (rI zo λi j=>.int (i*j)):=Jn λ_ _ _ _ _ _ _ hc q=>imul_int q hc.ok
theorem K0 {f:Value->Sem Value}{g:Int->Int}
  (rule:∀(i:Int) (t:Tok) (s:Shared) (Q:N5) (E:N5),Q (.int (g i) s.toks) {s with toks:=s.toks+1}->wpAny (model X.prog X.w) X.A (f (.int i t)) Q E s) :
  JU X f (rU λi=>.int (g i)):=by
 intro pins s σ H x v Q I rx h;obtain⟨i,rfl,q⟩:=h;obtain⟨t,rfl⟩:=rx;exact rule i t s _ _ ⟨.int (g i),H,I.tok _,⟨_,rfl⟩,q⟩
theorem pL:JU X (unaryOp .USub) (rU λi=>.int (-i)):=K0 λ_ _ _ _ _ q=>neg_int q
end
def C3:V->V->Bool
 |.cj,.cj=>true|.cj,.int _=>true|.int _,.cj=>true|.cj,.bl _=>true|.bl _,.cj=>true|.cj,.str _=>true|.str _,.cj=>true
 |.int _,.int _=>true|.bl _,.bl _=>true|.str _,.str _=>true|.vQ _,.vQ _=>true
 |.int _,.str _=>true|.str _,.int _=>true|.bl _,.str _=>true|.str _,.bl _=>true
 |_,_=>false
def JK:R2:=λx y H Q=>C3 x y=true/\Q (.bl (decide (x=y))) H
def KD:R2:=λx y H Q=>C3 x y=true/\Q (.bl (!decide (x=y))) H
theorem a9 {i j:Int}:decide (V.int i=V.int j)=(i==j):=by
 rw[LR];simp
theorem Cz {i j:Bool}:decide (V.bl i=V.bl j)=(i==j):=by
 rw[LR];simp
theorem yD {i j:Str}:decide (V.str i=V.str j)=(i==j):=by
 rw[LR];simp
theorem xW {i j:Array UInt8}:decide (V.vQ i=V.vQ j)=(i.toList==j.toList):=by
 rw[LR];cases i;cases j;simp
section
variable {X:Cx}{a b c:Expr}{ta tb tc:TE}{pos:Pos}
theorem bu {pins:N7} {σ:St} {H:Hp} {s:Shared} {Q:VK} {k k':Bool} (I:Inv X pins σ H s) (q:Q (.bl k) H) (e:k=k'):EP X pins σ Q (.bool k') s:=by
 subst e;exact⟨.bl k,H,I,rfl,q⟩
theorem ck:jv X (compareOp .Eq) JK:=by
 intro pins s σ H x y v u Q I rx ry h;obtain⟨hs,q⟩:=h;cases x with
 |cj =>
  cases rx;cases y with
  |cj=>cases ry;exact PySem.EqNone.eq_none_none (bu I q (by simp))
  |bl j=>cases ry;exact PySem.EqNone.eq_none_bool (bu I q (by simp))
  |int j=>obtain⟨t',rfl⟩:=ry;exact PySem.EqNone.eq_none_int (bu I q (by simp))
  |str j=>obtain⟨t',rfl⟩:=ry;exact PySem.EqNone.eq_none_str (bu I q (by simp))
  |_=>exact absurd (show false=true from hs) LC
 |bl i =>
  cases rx;cases y with
  |cj=>cases ry;exact PySem.EqNone.eq_bool_none (bu I q (by simp))
  |bl j=>cases ry;exact eq_bool (bu I q Cz)
  |str j=>obtain⟨t',rfl⟩:=ry;exact PySem.EqMixed.eq_bool_str (bu I q (by simp))
  |_=>exact absurd (show false=true from hs) LC
 |int i =>
  obtain⟨t,rfl⟩:=rx;cases y with
  |cj=>cases ry;exact PySem.EqNone.eq_int_none (bu I q (by simp))
  |int j=>obtain⟨t',rfl⟩:=ry;exact eq_int (bu I q a9)
  |str j=>obtain⟨t',rfl⟩:=ry;exact PySem.EqMixed.eq_int_str (bu I q (by simp))
  |_=>exact absurd (show false=true from hs) LC
 |str i =>
  obtain⟨t,rfl⟩:=rx;cases y with
  |cj=>cases ry;exact PySem.EqNone.eq_str_none (bu I q (by simp))
  |bl j=>cases ry;exact PySem.EqMixed.eq_str_bool (bu I q (by simp))
  |int j=>obtain⟨t',rfl⟩:=ry;exact PySem.EqMixed.eq_str_int (bu I q (by simp))
  |str j=>obtain⟨t',rfl⟩:=ry;exact eq_str (bu I q yD)
  |_=>exact absurd (show false=true from hs) LC
 |vQ i =>
  obtain⟨t,rfl⟩:=rx;cases y with
  |vQ j=>obtain⟨t',rfl⟩:=ry;exact PySem.W.eq_bytes (bu I q xW)
  |_=>exact absurd (show false=true from hs) LC
 |_=>cases y <;> exact absurd (show false=true from hs) LC
theorem o8:jv X (compareOp .NotEq) KD:=by
 intro pins s σ H x y v u Q I rx ry h;obtain⟨hs,q⟩:=h;cases x with
 |cj =>
  cases rx;cases y with
  |cj=>cases ry;exact PySem.EqNone.ne_none_none (bu I q (by simp))
  |bl j=>cases ry;exact PySem.EqNone.ne_none_bool (bu I q (by simp))
  |int j=>obtain⟨t',rfl⟩:=ry;exact PySem.EqNone.ne_none_int (bu I q (by simp))
  |str j=>obtain⟨t',rfl⟩:=ry;exact PySem.EqNone.ne_none_str (bu I q (by simp))
  |_=>exact absurd (show false=true from hs) LC
 |bl i =>
  cases rx;cases y with
  |cj=>cases ry;exact PySem.EqNone.ne_bool_none (bu I q (by simp))
  |bl j=>cases ry;exact ne_bool (bu I q (Ml not Cz))
  |str j=>obtain⟨t',rfl⟩:=ry;exact PySem.EqMixed.ne_bool_str (bu I q (by simp))
  |_=>exact absurd (show false=true from hs) LC
 |int i =>
  obtain⟨t,rfl⟩:=rx;cases y with
  |cj=>cases ry;exact PySem.EqNone.ne_int_none (bu I q (by simp))
  |int j=>obtain⟨t',rfl⟩:=ry;exact ne_int (bu I q (Ml not a9))
  |str j=>obtain⟨t',rfl⟩:=ry;exact PySem.EqMixed.ne_int_str (bu I q (by simp))
  |_=>exact absurd (show false=true from hs) LC
 |str i =>
  obtain⟨t,rfl⟩:=rx;cases y with
  |cj=>cases ry;exact PySem.EqNone.ne_str_none (bu I q (by simp))
  |bl j=>cases ry;exact PySem.EqMixed.ne_str_bool (bu I q (by simp))
  |int j=>obtain⟨t',rfl⟩:=ry;exact PySem.EqMixed.ne_str_int (bu I q (by simp))
  |str j=>obtain⟨t',rfl⟩:=ry;exact ne_str (bu I q (Ml not yD))
  |_=>exact absurd (show false=true from hs) LC
 |vQ i =>
  obtain⟨t,rfl⟩:=rx;cases y with
  |vQ j=>obtain⟨t',rfl⟩:=ry;exact PySem.W.ne_bytes (bu I q (Ml not xW))
  |_=>exact absurd (show false=true from hs) LC
 |_=>cases y <;> exact absurd (show false=true from hs) LC
theorem nP:jv X (compareOp .Lt) (qB λi j=>.bl (decide (i < j))):=GO λ_ _ _ _ _ _ _ q=>lt_int q
theorem b7:jv X (compareOp .LtE) (qB λi j=>.bl (decide (i<=j))):=GO λ_ _ _ _ _ _ _ q=>le_int q
theorem kQ:jv X (compareOp .Gt) (qB λi j=>.bl (decide (j < i))):=GO λ_ _ _ _ _ _ _ q=>gt_int q
theorem uc:jv X (compareOp .Is) (λx y H Q=>y=.cj/\Q (.bl (decide (x=.cj))) H):=by
 intro pins s σ H x y v u Q I rx ry h;obtain⟨rfl,q⟩:=h;cases ry;refine is_none_gen (bu I q ?_);cases x <;> first
  |(cases rx;rfl)
  |(obtain⟨t,rfl⟩:=rx;rfl)
theorem aM (b:Expr){op:CmpOp}(h:op≠.In:=by decide)(h2:op≠.NotIn:=by decide):behindInMarks op b=false:=by
 have e1:(op==CmpOp.In)=false:=by cases op <;> first|rfl|exact absurd rfl h
 have e2:(op==CmpOp.NotIn)=false:=by cases op <;> first|rfl|exact absurd rfl h2
 cases b <;> simp[behindInMarks,e1,e2]
theorem fm {op:CmpOp}{r:R2}(ho:jv X (compareOp op) r)(ha:PE X a ta)(hb:PE X b tb)(hm:behindInMarks op b=false):PE X (.Compare a [op] [b] pos) (kG r ta tb):=by
 intro pins s σ H Q I h;exact wpAny_Compare1 (F8 ha hb I h λv u s2 x y H2 I2 rx ry q=>ho pins s2 σ H2 x y v u Q I2 rx ry q) hm
def pH (t:TE):TT:=λσ H Q=>t σ H λx H'=>∃k,x=.bl k/\Q k H'
theorem aC {op:CmpOp}{r:R2}(ho:jv X (compareOp op) r)(ha:PE X a ta)(hb:PE X b tb)(hm:behindInMarks op b=false):PT X (.Compare a [op] [b] pos) (pH (kG r ta tb)):=by
 intro pins s σ H Q I h;refine wpAny_isTrue_Compare1 (bB (ha pins s σ H _ I h) λv s1 ⟨x,H1,I1,r1,q1⟩=>bB (hb pins s1 σ H1 _ I1 q1) λu s2 ⟨y,H2,I2,r2,q2⟩ =>
  bB (ho pins s2 σ H2 x y v u _ I2 r1 r2 q2) λc s3 ⟨z,H3,I3,r3,k,e,q3⟩=>?_) hm
 subst e;cases r3;exact Mt ⟨H3,I3,q3⟩
def wC (r r':R2)(ta tb tc:TE):TE:=λσ H Q=>ta σ H λx H1=>tb σ H1 λy H2=>r x y H2 λz H3=>∃k,z=.bl k /\
 (if k=true then tc σ H3 λw' H4=>r' y w' H4 Q else Q (.bl false) H3)
theorem cD {op op':CmpOp}{r r':R2}(ho:jv X (compareOp op) r)(ho':jv X (compareOp op') r')(ha:PE X a ta)(hb:PE X b tb)(hc:PE X c tc)
  (hm:lastMarks [op,op'] [b,c]=false:=by with_unfolding_all rfl):PT X (.Compare a [op,op'] [b,c] pos) (pH (wC r r' ta tb tc)):=by
 intro pins s σ H Q I h;refine isTrue_chain (bB (ha pins s σ H _ I h) λv s1 ⟨x,H1,I1,r1,q1⟩=>test_link (bB (hb pins s1 σ H1 _ I1 q1) λu s2 ⟨y,H2,I2,r2,q2⟩ =>
  bB (ho pins s2 σ H2 x y v u _ I2 r1 r2 q2) λd s3 ⟨z,H3,I3,r3,k,e,q3⟩=>?_)) hm
 subst e;cases r3;refine Mt ?_;cases k with
 |false =>
  obtain⟨k',e',q'⟩:=q3;cases e';exact ite_ff ⟨H3,I3,q'⟩
 |true =>
  refine ite_tt (test_last (bB (hc pins s3 σ H3 _ I3 q3) λw' s4 ⟨z',H4,I4,r4,q4⟩=>bB (ho' pins s4 σ H4 y z' u w' _ I4 r2 r4 q4) λd' s5 ⟨z2,H5,I5,r5,k2,e2,q5⟩=>?_));subst e2;cases r5;exact Mt ⟨H5,I5,q5⟩
theorem lh:(sizeLine:Nat) < 2 ^ 63:=by rw[LG];decide
theorem vals1 {x:V}{us:N8}(r:Vals [x] us):∃u,us=[u]/\RelV x u:=by
 cases r with
 |cons r1 r2=>cases r2;exact⟨_,rfl,r1⟩
theorem vals2 {x y:V}{us:N8}(r:Vals [x,y] us):∃u w',us=[u,w']/\RelV x u/\RelV y w':=by
 cases r with
 |cons r1 r2 =>
  cases r2 with
  |cons r3 r4=>cases r4;exact⟨_,_,rfl,r1,r3⟩
end
structure wO (h:Heap)(x dx C:Addr)(mA:N6):Prop where
 obj:h.get? x=some (PySem.W.instObj C dx)
 ns:h.Ns1 dx mA
 ne:dx≠x
theorem zg {h:Heap}{dx:Addr}{mA:N6}(n:h.Ns1 dx mA):∃od,h.get? dx=some od/\∀name,PySem.W.lookIn name od=some (mA name):=by
 obtain⟨o,es,ep,ho,hd,hk,_,hm⟩:=n;refine⟨o,ho,λname=>?_⟩;have e:=hm name;unfold nsFind findBy at e;rw[←Array.find?_toList] at e;unfold PySem.W.lookIn;rw[hd];dsimp only;split
 · rename_i y q;rw[q] at e;exact Ml some e
 · rename_i q;rw[q] at e;have a:es.toList.any (·.refKey)=false:=by
    rw[List.any_eq_false];intro y hy;obtain⟨z,t,hkey⟩:=hk y (Array.mem_toList_iff.mp hy);simp[DictEntry.refKey,hkey]
   have a':¬es.toList.any (·.refKey)=true:=by rw[a];exact LC
   rw[Lf a'];exact Ml some e
theorem wO.look {h:Heap}{x dx C:Addr}{mA:N6}(I:wO h x dx C mA):∃od,PySem.W.InstAt h x (PySem.W.instObj C dx) C (some od)/\∀name,PySem.W.lookIn name od=some (mA name) :=
 let ⟨od,ho,hl⟩:=zg I.ns
 ⟨od,⟨I.obj,rfl,rfl,ho⟩,hl⟩
section
variable {prog:Program}{w:World}{A:Around}{E:N5}{s:Shared}{K:N4}{x dx C f:Addr}{mA:N6}{name:Str}{v:Value}
theorem get_map {expr:Bool} {Q:N5} (X:K.In s.heap) (I:wO s.heap x dx C mA) (hg:PySem.W.plainGet K C name=true) (hh:PySem.W.hasDictIn K C=true)
  (ha:PySem.W.findIn K (.ref C) name=some none) (hv:mA name=some v) (hv':PySem.W.handedIn v=true) (h:Q v {s with toks:=s.toks+1}) :
  wpAny (model prog w) A (getAttr (.ref x) name expr) Q E s:=by
 obtain⟨od,J,hl⟩:=I.look;exact PySem.W.get_value X J (PySem.W.plainGet_of hg).1 (PySem.W.findObj_own hh ha rfl (by rw[hl,hv])) hv' h
theorem B5 {pl:Sem Bool}{Q:Value×N8->Shared->Prop}(X:K.In s.heap)(I:wO s.heap x dx C mA)(hg:PySem.W.plainGet K C name=true)
  (hf:PySem.W.findIn K (.ref C) name=some (some (.ref f)))(ht:PySem.W.isFn K (.ref f)=true)(hv:mA name=none)(h:Q (.ref f,[.ref x]) s) :
  wpAny (model prog w) A (getMethod (.ref x) name pl) Q E s:=by
 obtain⟨od,J,hl⟩:=I.look;exact PySem.W.method_fn X J (PySem.W.plainGet_of hg).1 (PySem.W.plainGet_of hg).2 hf (L5.mp ht) (by show (PySem.W.lookIn name od).map (·.isSome)=some false;rw[hl,hv];rfl) h
theorem EX {ns:List Str}{Q:Unit->Shared->Prop}(X:K.In s.heap)(I:wO s.heap x dx C mA)
  (hs:PySem.W.findIn K (.ref C) "__setattr__"=some (some (.builtin "object.__setattr__")))(hp:PySem.W.plainOver K C=true)(ht:PySem.W.takerIn K C name=some none)(hh:PySem.W.hasDictIn K C=true)
  (hw:PySem.Within mA ns)(hsz:ns.length<=sizeLine)
  (h:∀h',wO h' x dx C (λy=>if y=name then some v else mA y)->Heap.SameBut dx s.heap h'->Q () {s with heap:=h',toks:=s.toks+2}) :
  wpAny (model prog w) A (setAttr (.ref x) name v) Q E s:=by
 obtain⟨od,J,hl⟩:=I.look;refine PySem.W.set_plain X J hs (PySem.W.osa_open (s:={s with toks:=s.toks+1}) (r:=none) X J hp ht λb=>?_);obtain⟨cd,hc,hd'⟩:=PySem.W.any_some hh;have hx:s.heap.get? x=some ⟨.ref C,some dx,.plain,#[]⟩:=I.obj;refine Ld (Lk (Ld (Ld (wpAny_loadPart hx (Ld (PySem.W.Looks.here (s:={s with toks:=s.toks+1}) (PySem.W.looks_clsIn X hc) ?_))))));rw[hd'];refine Lk (a:=some dx) (Ld (Lk (Ld ?_)));refine wpAny_nsSet1 (s:={s with toks:=s.toks+1}) I.ns λh' hn2 hs2=>?_;obtain⟨oD,esD,epD,hoD,hdD,hcD⟩:=hn2.count (PySem.Within.cons name v hw);refine Ld (wpAny_lookBehind hoD (by rw[hdD];exact pastItsLine_dict (L1 hcD (by rw[Lp];omega))) ?_);exact Lk (h _ ⟨(hs2.2 _ (NU I.ne)).trans I.obj,hn2,I.ne⟩ hs2)
theorem BD {R:Result->Shared->Prop}{vs:N8}{kw:List (Str×Value)}(X:K.In s.heap)(hm:PySem.W.makesIn K C=true)
  (hi:PySem.W.findIn K (.ref C) "__init__"=some (some (.ref f)))(hf:PySem.W.typeIn K (.ref f)=some (.type "function"))
  (h:codeAny (model prog w) (A.under (.builtin "type.__call__" ⟨.ref C::vs,kw⟩)) (.call (.ref f) ⟨.ref (s.heap.objs.size+1)::vs,kw⟩) (PySem.W.InitBack (s.heap.objs.size+1) R)
   {s with heap:=(s.heap.push PySem.W.emptyDict).push (PySem.W.instObj C s.heap.objs.size)}) :
  codeAny (model prog w) A (.call (.ref C) ⟨vs,kw⟩) R s:=by
 obtain⟨hh,g,d,t,os⟩:=s;exact PySem.W.make_core (PySem.W.makes_of X hm) (PySem.W.looks_findIn X hi) (λself=>PySem.W.bind_fn X self hf) (.inl rfl) h
end
def d_ (f:Str)(v:V):List (Str×V)->List (Str×V)
 |[]=>[(f,v)]
 |(g,x)::r=>if g=f then (g,v)::r else (g,x)::d_ f v r
theorem jq (f g:Str)(v:V):∀fs:List (Str×V),(d_ f v fs).lookup g=if g=f then some v else fs.lookup g
 |[]=>by
  show List.lookup g [(f,v)]=_;by_cases h:g=f
  · have hb:(g==f)=true:=L5.mpr h;simp only[List.lookup,hb,Lg h]
  · have hb:(g==f)=false:=LK.mpr h;simp only[List.lookup,hb,Lf h]
 |(k,x)::r=>by
  have ih:=jq f g v r;rw[show d_ f v ((k,x)::r)=(if k=f then (k,v)::r else (k,x)::d_ f v r) from rfl];by_cases hk:k=f
  · rw[Lg hk];by_cases h:g=k
    · have hb:(g==k)=true:=L5.mpr h;simp only[List.lookup,hb,Lg (h.trans hk)]
    · have hb:(g==k)=false:=LK.mpr h;simp only[List.lookup,hb,Lf (λe:g=f=>h (e.trans hk.symm))]
  · rw[Lf hk];by_cases h:g=k
    · have hb:(g==k)=true:=L5.mpr h;simp only[List.lookup,hb,Lf (λe:g=f=>hk (h.symm.trans e))]
    · have hb:(g==k)=false:=LK.mpr h;simp only[List.lookup,hb];exact ih
theorem mO (f:Str)(v:V):∀fs:List (Str×V),f∈(d_ f v fs).map (·.1)/\∀g,g∈fs.map (·.1)->g∈(d_ f v fs).map (·.1)
 |[]=>⟨by simp[d_],λg h=>by simp at h⟩
 |(k,x)::r=>by
  obtain⟨i1,i2⟩:=mO f v r;rw[show d_ f v ((k,x)::r)=(if k=f then (k,v)::r else (k,x)::d_ f v r) from rfl];by_cases hk:k=f
  · rw[Lg hk];subst hk;exact⟨by simp,λg h=>by simpa using h⟩
  · rw[Lf hk];refine⟨?_,λg h=>?_⟩
    · rw[Lv];exact Lw _ i1
    · rw[Lv] at h ⊢;rcases Li.mp h with e|e
      · exact Li.mpr (.inl e)
      · exact Lw _ (i2 g e)
theorem nO (f:Str)(v:V):∀fs:List (Str×V),(d_ f v fs).length<=fs.length+1
 |[]=>by simp[d_]
 |(k,x)::r=>by
  have ih:=nO f v r;rw[show d_ f v ((k,x)::r)=(if k=f then (k,v)::r else (k,x)::d_ f v r) from rfl];by_cases hk:k=f
  · rw[Lg hk,Lp,Lp];omega
  · rw[Lf hk,Lp,Lp];omega
theorem i7.some_of {v:V}{o:Option Value}(r:i7 (some v) o):∃u,o=some u/\RelV v u:=by
 cases o with
 |none=>exact (show False from r).elim
 |some u=>exact⟨u,rfl,r⟩
theorem i7.none_of {o:Option Value}(r:i7 none o):o=none:=by
 cases o with
 |none=>rfl
 |some u=>exact (show False from r).elim
theorem qY {v:V}{u:Value}(r:RelV v u):PySem.W.handedIn u=true:=by
 cases v with
 |cj=>cases (show u=Value.none from r);rfl
 |bl b=>cases (show u=Value.bool b from r);rfl
 |int i=>obtain⟨t,e⟩:=(show ∃t,u=Value.int i t from r);cases e;rfl
 |str x=>obtain⟨t,e⟩:=(show ∃t,u=Value.str x t from r);cases e;rfl
 |vQ b=>obtain⟨t,e⟩:=(show ∃t,u=Value.bytes b t from r);cases e;rfl
 |flt b=>obtain⟨t,e⟩:=(show ∃t,u=Value.float b t from r);cases e;rfl
 |ref a=>cases (show u=Value.ref a from r);rfl
 |ty n=>cases (show u=Value.type n from r);rfl
section
variable {P:Program}{w:World}{H H':Hp}{h h':Heap}{a C dx:Addr}{fs fs':List (Str×V)}
theorem sF (bw:iC P w H h) (e:H a=some (.ins C dx fs)):∃mA,wO h a dx C mA/\(∀f,i7 (fs.lookup f) (mA f))/\PySem.Within mA (fs.map (·.1))/\fs.length<=1000/\H dx=some (.own a):=by
 obtain⟨d,z,ne,ob,mA,n,r,q⟩:=(show bL P w H h a (.ins C dx fs) from bw a _ e);exact⟨mA,⟨ob,n,ne⟩,r,q,z,d⟩
end
structure yy (K:N4)(C:Addr):Prop where
 pg:PySem.W.plainGet K C Str.empty=true
 hd:PySem.W.hasDictIn K C=true
 po:PySem.W.plainOver K C=true
 sa:PySem.W.findIn K (.ref C) "__setattr__"=some (some (.builtin "object.__setattr__"))
theorem yy.get {K:N4}{C:Addr}(c:yy K C)(f:Str):PySem.W.plainGet K C f=true:=c.pg
def gY (K:N4)(C:Addr)(f:Str):Prop:=PySem.W.findIn K (.ref C) f=some none
theorem gY.HX {K:N4}{C:Addr}{f:Str}(n:gY K C f):PySem.W.takerIn K C f=some none:=by
 unfold PySem.W.takerIn;rw[show PySem.W.findIn K (.ref C) f=some none from n];rfl
structure Meth (K:N4)(C:Addr)(m:Str)(f:Addr):Prop where
 at_:PySem.W.findIn K (.ref C) m=some (some (.ref f))
 fn:PySem.W.isFn K (.ref f)=true
 kp:PySem.W.keepIn K (.ref f)=true
section
variable {X:Cx}{pins:N7}{σ:St}{H:Hp}{s:Shared}{a C dx:Addr}{fs:List (Str×V)}{f:Str}{v:V}{A:Around}{E:N5}
theorem qf {b:Bool} {Q:N5} (I:Inv X pins σ H s) (e:H a=some (.ins C dx fs)) (c:yy X.K C) (n:gY X.K C f) (l:fs.lookup f=some v)
  (h:∀u s',Inv X pins σ H s'->RelV v u->Q u s'):wpAny (model X.prog X.w) A (getAttr (.ref a) f b) Q E s:=by
 obtain⟨mA,O,r,_,_,_⟩:=sF I.bw e;obtain⟨u,hu,ru⟩:=i7.some_of (v:=v) (o:=mA f) (by rw[←l];exact r f);exact get_map I.mP O (c.get f) c.hd n hu (qY ru) (h u _ (I.tok _) ru)
theorem qb {m:Str}{g:Addr}{pl:Sem Bool}{Q:Value×N8->Shared->Prop}(I:Inv X pins σ H s)(e:H a=some (.ins C dx fs))(c:yy X.K C)(k:Meth X.K C m g)(l:fs.lookup m=none)
  (h:Q (.ref g,[.ref a]) s):wpAny (model X.prog X.w) A (getMethod (.ref a) m pl) Q E s:=by
 obtain⟨mA,O,r,_,_,_⟩:=sF I.bw e;have hn:mA m=none:=i7.none_of (by rw[←l];exact r m);exact B5 I.mP O (c.get m) k.at_ k.fn hn h
theorem pZ {y:V}{u:Value}{Q:Unit->Shared->Prop}(I:Inv X pins σ H s)(e:H a=some (.ins C dx fs))(c:yy X.K C)(n:gY X.K C f)(hl:fs.length < 1000)(ry:RelV y u)
  (h:∀s',Inv X pins σ (upd H a (.ins C dx (d_ f y fs))) s'->Q () s'):wpAny (model X.prog X.w) A (setAttr (.ref a) f u) Q E s:=by
 obtain⟨mA,O,r,wi,_,ho⟩:=sF I.bw e;have hz:(fs.map (·.1)).length<=sizeLine:=by rw[Le,LG];omega
 refine EX I.mP O c.sa c.po n.HX c.hd wi hz λh' O' sb=>h _ ?_;have hd:∃o,h'.get? dx=some o:=let ⟨o,_,_,e',_⟩:=O'.ns;⟨o,e'⟩;refine I.write (x:=a) (e:=dx) (by rw[e];exact True.intro) (.inr ho) (λb q hb z=>(sb.2 b hb).trans z) hd ?_;refine⟨by rw[aq O.ne];exact ho,?_,O.ne,O'.obj,_,O'.ns,λg=>?_,λg hg=>?_⟩
 · have:=nO f y fs;omega
 · show i7 ((d_ f y fs).lookup g) (if g=f then some u else mA g);rw[jq];by_cases q:g=f
   · rw[Lg q,Lg q];exact ry
   · rw[Lf q,Lf q];exact r g
 · by_cases q:g=f
   · rw[q];exact (mO f y fs).1
   · refine (mO f y fs).2 g (wi g λz=>hg ?_);show (if g=f then some u else mA g)=none;rw[Lf q];exact z
theorem Inv.made (I:Inv X pins σ H s):Inv X pins σ (upd (upd H s.heap.objs.size (.own (s.heap.objs.size+1))) (s.heap.objs.size+1) (.ins C s.heap.objs.size []))
  {s with heap:=(s.heap.push PySem.W.emptyDict).push (PySem.W.instObj C s.heap.objs.size)}:=by
 have e1:(s.heap.push PySem.W.emptyDict).get? s.heap.objs.size=some PySem.W.emptyDict:=Lu s.heap rfl;have e2:((s.heap.push PySem.W.emptyDict).push (PySem.W.instObj C s.heap.objs.size)).get? (s.heap.objs.size+1)=some (PySem.W.instObj C s.heap.objs.size):=by
  have:=Lu (s.heap.push PySem.W.emptyDict) (o:=PySem.W.instObj C s.heap.objs.size) rfl
  rwa [Mn] at this
 have e3:(s.heap.push PySem.W.emptyDict).Ns s.heap.objs.size (λ_=>none):=⟨PySem.W.emptyDict,#[],_,e1,rfl,(λe he=>absurd he (by simp)),λ_=>rfl⟩;have I1:=I.laid (a:=s.heap.objs.size) (o:=.own (s.heap.objs.size+1)) (h':=s.heap.push PySem.W.emptyDict) (t':=s.toks) (λb u q=>Lh _ q) (Ln _) ⟨_,e1⟩;refine I1.laid (a:=s.heap.objs.size+1) (o:=.ins C s.heap.objs.size []) (t':=s.toks) (λb u q=>Lh _ q) (NV (Mn _ _)) ?_;have ne:s.heap.objs.size≠s.heap.objs.size+1:=LP (NJ _);refine⟨by rw[aq ne,ae],LJ _,ne,e2,λ_=>none,(Heap.Ns1.of_empty e3).at λo q=>Lh _ q,λ_=>True.intro,λy hy=>absurd rfl hy⟩
theorem yt {prog:Program}{w:World}{env:Env}{e:Expr}{f:Str}{pos:Pos}{s:Shared}{Q:N5}(hb:attributeBase e f env (eval e env)=eval e env)
  (h:wpAny (model prog w) A (eval e env) (λo s₁=>wpAny (model prog w) A (getAttr o f true) Q E s₁) E s):wpAny (model prog w) A (eval (.Attribute e f pos) env) Q E s :=
 Attribute_any_ h (by rw[arm_eval_Attribute,hb])
end
def ux (K:N4)(ta:TE)(f:Str):TE:=λσ H Q=>ta σ H λx H1=>∃a C dx fs v,x=.ref a/\H1 a=some (.ins C dx fs)/\yy K C/\gY K C f/\fs.lookup f=some v/\Q v H1
def Ku (K:N4)(ta tv:TE)(f:Str):TS:=λD σ H=>tv σ H λy H1=>ta σ H1 λx H2=>∃a C dx fs,x=.ref a/\H2 a=some (.ins C dx fs)/\yy K C/\gY K C f/\fs.length < 1000 /\
 D.nx σ (upd H2 a (.ins C dx (d_ f y fs)))
def IX (X:Cx)(op:Operator)(rd:V->V->Hp->VK->Prop):Prop :=
 ∀(pins:N7) (s:Shared) (σ:St) (H:Hp) (x y:V) (u v:Value) (Q:VK),Inv X pins σ H s->RelV x u->RelV y v->rd x y H Q->wpAny (model X.prog X.w) X.A (inplaceOp op u v) (EP X pins σ Q) X.xe s
def DJ (K:N4)(ta tv:TE)(rd:V->V->Hp->VK->Prop)(f:Str):TS:=λD σ H=>ta σ H λx H1=>∃a C dx fs v,x=.ref a/\H1 a=some (.ins C dx fs)/\yy K C/\gY K C f/\fs.lookup f=some v /\
 tv σ H1 λy H2=>rd v y H2 λz H3=>∃dx' fs',H3 a=some (.ins C dx' fs')/\fs'.length < 1000/\D.nx σ (upd H3 a (.ins C dx' (d_ f z fs')))
section
variable {X:Cx}{o e value:Expr}{f:Str}{pos pos' tpos:Pos}{ta tv:TE}
theorem a7 (he:PE X e ta) (hb:attributeBase e f X.env (eval e X.env)=eval e X.env):PE X (.Attribute e f pos) (ux X.K ta f):=by
 intro pins s σ H Q I h;refine yt hb (bB (he pins s σ H _ I h) λu s1 ⟨x,H1,I1,rx,a,C,dx,fs,v,ex,ea,c,n,l,q⟩=>?_);subst ex;obtain rfl:u=Value.ref a:=rx;exact qf I1 ea c n l λu' s2 I2 ru=>⟨v,H1,I2,ru,q⟩
theorem cB (ha:PE X o ta)(hv:PE X value tv)(hs:swapsWith value (some (.Attribute o f pos')) pos.line X.env=pure false):PS X (.Assign [.Attribute o f pos'] value pos) (Ku X.K ta tv f):=by
 intro pins s σ H D I h;refine plainObj_wpAny_Assign_Attribute (bB (hv pins s σ H _ I h) λu s1 ⟨y,H1,I1,ry,q⟩=>bB (ha pins s1 σ H1 _ I1 q) λov s2 ⟨x,H2,I2,rx,a,C,dx,fs,ex,ea,c,n,l,q2⟩=>?_) hs;subst ex;obtain rfl:ov=Value.ref a:=rx;exact pZ I2 ea c n l ry λs3 I3=>⟨σ,_,I3,q2⟩
theorem rb {op:Operator}{rd:V->V->Hp->VK->Prop}(ha:PE X o ta)(hv:PE X value tv)(hop:IX X op rd):PS X (.AugAssign (.Attribute o f tpos) op value pos) (DJ X.K ta tv rd f):=by
 intro pins s σ H D I h;refine wpAny_AugAssign_AttributeAny (bB (ha pins s σ H _ I h) λov s1 ⟨x,H1,I1,rx,a,C,dx,fs,v,ex,ea,c,n,l,q⟩=>?_);subst ex;obtain rfl:ov=Value.ref a:=rx;refine qf I1 ea c n l λu s2 I2 ru=>bB (hv pins s2 σ H1 _ I2 q) λw3 s3 ⟨y,H2,I3,ry,q3⟩=>bB (hop pins s3 σ H2 v y u w3 _ I3 ru ry q3) λw4 s4 ⟨z,H3,I4,rz,dx',fs',ea',l',q4⟩=>?_;exact pZ I4 ea' c n l' rz λs5 I5=>⟨σ,_,I5,q4⟩
def Kh:V->V->Hp->VK->Prop:=λx y H Q=>∃i j,x=.int i/\y=.int j/\Q (.int (i+j)) H
theorem Bz:IX X .Add Kh:=by
 rintro pins s σ H x y u v Q I rx ry ⟨i,j,rfl,rfl,q⟩;obtain⟨t,rfl⟩:=(show ∃t,u=Value.int i t from rx);obtain⟨t',rfl⟩:=(show ∃t',v=Value.int j t' from ry);exact PyProof.Rows.iadd_int ⟨.int (i+j),H,I.tok _,⟨_,rfl⟩,q⟩
end
section
variable {X:Cx}{pins:N7}{σ:St}{H:Hp}{s:Shared}{A:Around}{E:N5}{Q:N5}{c:Value}{b:Bool}
end
structure cX (k:Nat)(A:Around):Prop where
 hd:A.handled=none
 dp:A.depth+3*k+5 < recursionLimit
 un:A.units+16*k+200 < cLine
theorem cX.mono {j k:Nat}{A:Around}(r:cX k A)(h:j<=k):cX j A:=⟨r.hd,by have:=r.dp;omega,by have:=r.un;omega⟩
theorem cX.deeper {k:Nat}{A:Around}(r:cX (k+1) A)(env:Env):cX k (A.deeper env) :=
 ⟨r.hd,by have:=r.dp;show A.depth+1+3*k+5 < _;omega,by have:=r.un;show A.units+3+16*k+200 < _;omega⟩
theorem v8 {A:Around}{C:Addr}{us:N8}{kw:List (Str×Value)}:(A.under (.builtin "type.__call__" ⟨.ref C::us,kw⟩)).depth=A.depth+1:=by
 first|rfl|simp[Around.under,Code.weight,Code.isCreation,Code.isGuard,Code.isCaller,Code.frames,Code.isFrame,guardIds]
theorem wF {A:Around}{C:Addr}{us:N8}{kw:List (Str×Value)}:(A.under (.builtin "type.__call__" ⟨.ref C::us,kw⟩)).units=A.units+1:=by
 first|rfl|simp[Around.under,Code.cUnits,Code.frames,Code.isFrame]
theorem cX.make {k:Nat}{A:Around}(r:cX (k+1) A)(C:Addr)(us:N8)(kw:List (Str×Value)):cX k (A.under (.builtin "type.__call__" ⟨.ref C::us,kw⟩)) :=
 ⟨r.hd,by have:=r.dp;rw[v8];omega,by have:=r.un;rw[wF];omega⟩
theorem cX.depth {k:Nat}{A:Around}(r:cX k A):A.depth < recursionLimit:=by have:=r.dp;omega
theorem cX.units {k:Nat}{A:Around}(r:cX k A):A.units+64 < cLine:=by have:=r.un;omega
def eZ:TA:=λ_ H Q=>Q [] H
def cU (ta:TE)(tr:TA):TA:=λσ H Q=>ta σ H λx H1=>tr σ H1 λxs H2=>Q (x::xs) H2
section
variable {X:Cx}{e:Expr}{es:List Expr}{te:TE}{t:TA}{pos:Pos}
theorem ah:PA X [] eZ:=λ_ _ _ _ H Q I h=>Calls.spliced_nil ⟨[],H,I,.nil,h⟩
theorem aa (ha:PE X e te)(hr:PA X es t)(hs:starEach (e::es) X.env=(false,eval e X.env)::starEach es X.env:=by rfl):PA X (e::es) (cU te t):=by
 intro pos pins s σ H Q I h;rw[hs];show wpAny _ _ (spliced ((false,eval e X.env)::backTo pos (starEach es X.env))) _ _ s;refine N0 (bB (ha pins s σ H _ I h) λu s1 ⟨x,H1,I1,r1,q1⟩=>?_);exact bB (hr pos pins s1 σ H1 _ I1 q1) λus s2 ⟨xs,H2,I2,r2,q2⟩=>⟨x::xs,H2,I2,.cons r1 r2,q2⟩
def Ke (t:TA):TE:=λσ H Q=>t σ H λxs H1=>xs.length<=sizeLine/\∀p,H1 p=none->Q (.ref p) (upd H1 p (.tup xs))
def IJ (t:TA):TE:=λσ H Q=>t σ H λxs H1=>xs.length<=sizeLine/\∀p,H1 p=none->Q (.ref p) (upd H1 p (.lst xs))
theorem dm {x1}(h:PA X es t):PE X (.Tuple es x1 pos) (Ke t):=by
 intro pins s σ H Q I hq;refine wpAny_Tuple_spliced (bB (h pos pins s σ H _ I hq) λus s1 ⟨xs,H1,I1,r,z,q⟩=>⟨by rw[←r.length];exact z,?_⟩);have hf:H1 s1.heap.objs.size=none:=I1.bw.fresh (Ln _);refine⟨.ref s1.heap.objs.size,upd H1 s1.heap.objs.size (.tup xs),I1.laid (t':=s1.toks) (λb u e=>Lh _ e) (Ln _) ?_,rfl,q _ hf⟩;exact⟨z,us,r,⟨_,Lu _ rfl,rfl,_,rfl⟩⟩
theorem bW (h:PA X es t):PE X (.List es pos) (IJ t):=by
 intro pins s σ H Q I hq;refine wpAny_List_spliced (bB (h pos pins s σ H _ I hq) λus s1 ⟨xs,H1,I1,r,z,q⟩=>⟨by rw[←r.length];exact z,?_⟩);have hf:H1 s1.heap.objs.size=none:=I1.bw.fresh (Ln _);refine⟨.ref s1.heap.objs.size,upd H1 s1.heap.objs.size (.lst xs),I1.laid (t':=s1.toks) (λb u e=>Lh _ e) (Ln _) ?_,rfl,q _ hf⟩;exact⟨z,us,0,r,Lu _ rfl⟩
end
abbrev Sp:=List V->Hp->VK->XK->Prop
abbrev lR:=List Env->Hp->Shared->XK->Value->Shared->Prop
structure wD (P:Program)(w:World)(K:N4)(mg:N6)(base:Heap)(A:Around)(outer:List Env)(s:Shared)(H:Hp):Prop where
 frames:A.frames=some outer
 mod:Mod K mg base
 bs:∀b o,base.get? b=some o->s.heap.get? b=some o/\H b=none
 CO:base.objs.size<=s.heap.objs.size
 my:s.heap.FunFrames base outer
 Fj:∀b∈vO outer,H b=none
 bw:iC P w H s.heap
 bare:AllBare s.gens
def CE (outer:List Env)(P:Program)(w:World)(H:Hp)(s:Shared)(Q:VK)(u:Value)(s':Shared):Prop :=
 ∃v H',s'.os=s.os/\AllBare s'.gens/\Un (vO outer) [] H H' s.heap s'.heap/\iC P w H' s'.heap/\RelV v u/\Q v H'
def CR (CX:lR)(outer:List Env)(P:Program)(w:World)(H:Hp)(s:Shared)(Q:VK)(E:XK)(r:Result)(s':Shared):Prop :=
 match r with
 |.ok (.ret u)=>CE outer P w H s Q u s'
 |.ok _=>False
 |.error e=>CX outer H s E e s'
structure bc (P:Program)(w:World)(K:N4)(mg:N6)(base:Heap)(CX:lR)(k:Nat)(f:Addr)(fd:FuncData)(ps:List Str)(sp:Sp):Prop where
 len:∀vs H Q E,sp vs H Q E->vs.length=ps.length
 run:∀(A:Around) (outer:List Env) (s:Shared) (H:Hp) (args:Args) (us:N8) (vs:List V) (Q:VK) (E:XK),cX k A->wD P w K mg base A outer s H->BindsTo s fd args (ps.zip us)->Vals vs us->sp vs H Q E ->
  codeAny (model P w) A (.call (.ref f) args) (CR CX outer P w H s Q E) s
theorem bc.mono {P:Program}{w:World}{K:N4}{mg:N6}{base:Heap}{CX:lR}{j k:Nat}{f:Addr}{fd:FuncData}{ps:List Str}{sp:Sp}(F:bc P w K mg base CX j f fd ps sp)(h:j<=k) :
  bc P w K mg base CX k f fd ps sp:=⟨F.len,λA outer s H args us vs Q E hr=>F.run A outer s H args us vs Q E (hr.mono h)⟩
theorem wD.make {P:Program}{w:World}{K:N4}{mg:N6}{base:Heap}{A:Around}{outer:List Env}{s:Shared}{H:Hp}(e:wD P w K mg base A outer s H)(C:Addr)(us:N8)(kw:List (Str×Value)) :
  wD P w K mg base (A.under (.builtin "type.__call__" ⟨.ref C::us,kw⟩)) outer s H:=⟨by first|exact e.frames|(simpa [Around.under,Code.envs,Code.isFrame,pushEnvs] using e.frames),e.mod,e.bs,e.CO,e.my,e.Fj,e.bw,e.bare⟩
section
variable {X:Cx}{pins:N7}{σ:St}{H:Hp}{s s':Shared}
theorem Inv.Gz (I:Inv X pins σ H s):wD X.prog X.w X.K X.mg X.base X.A X.stack s H :=
 ⟨I.ok.frames,I.ok.mod,I.bs,L1 I.ok.CO I.sz,I.stack,I.s_,I.bw,I.bare⟩
theorem Inv.after {Q:VK}{u:Value}(I:Inv X pins σ H s)(h:CE X.stack X.prog X.w H s Q u s'):EP X pins σ Q u s':=by
 obtain⟨v,H',os,bare,un,bw,r,q⟩:=h;obtain⟨hh,g,d,t,os'⟩:=s';obtain rfl:os'=s.os:=os;exact⟨v,H',I.call (h':=hh) (g':=g) (d':=d) (t':=t) (ch:=[]) un bw bare (λb z=>absurd z (by simp)),r,q⟩
end
def nE (sp:Sp)(dvs:List V)(E:XK)(t:TA):TE:=λσ H Q=>t σ H λvs H1=>sp (vs++dvs) H1 Q E
def uB (C:Addr)(m:Str)(sp:Sp)(dvs:List V)(E:XK)(ta:TE)(t:TA):TE:=λσ H Q=>ta σ H λx H1=>∃a dx fs,x=.ref a/\H1 a=some (.ins C dx fs)/\fs.lookup m=none /\
 t σ H1 λvs H2=>sp (x::(vs++dvs)) H2 Q E
def Fd (C:Addr)(sp:Sp)(dvs:List V)(E:XK)(t:TA):TE:=λσ H Q=>t σ H λvs H1=>∀x dx,H1 x=none->H1 dx=none->dx≠x ->
 sp (.ref x::(vs++dvs)) (upd (upd H1 dx (.own x)) x (.ins C dx [])) (λv H2=>v=.cj/\Q (.ref x) H2) E
def Binds (K:N4)(fd:FuncData)(ps:List Str)(ds:N8):Prop :=
 ∀(s:Shared) (us:N8),K.In s.heap->(us++ds).length=ps.length->BindsTo s fd ⟨us,[]⟩ (ps.zip (us++ds))
theorem Binds.all {K:N4}{fd:FuncData}{ps:List Str}(h:∀us:N8,us.length=ps.length->bindArgs fd ⟨us,[]⟩=pure (ps.zip us)):Binds K fd ps []:=λs us _ hl=>by
 rw[Mg] at hl ⊢;exact .of_eq (h us hl)
def Passes (CX:lR)(X:Cx)(E:XK):Prop:=∀(pins:N7) (σ:St) (H:Hp) (s:Shared) (e:Value) (s':Shared),Inv X pins σ H s->CX X.stack H s E e s'->X.xe e s'
section
variable {X:Cx}{CX:lR}{k:Nat}{f C:Addr}{fd:FuncData}{ps:List Str}{sp:Sp}{dvs:List V}{ds:N8}{E:XK}{x m:Str}{p pos apos:Pos}{e o:Expr}{es:List Expr}{ta:TE}{t:TA}
theorem wG {pins:N7} {σ:St} {H:Hp} {s:Shared} {Q:VK} {us:N8} {vs:List V} (F:bc X.prog X.w X.K X.mg X.base CX k f fd ps sp) (hr:cX k X.A) (hb:Binds X.K fd ps ds) (hd:Vals dvs ds) (hx:Passes CX X E)
  (I:Inv X pins σ H s) (r:Vals vs us) (h:sp (vs++dvs) H Q E):wpAny (model X.prog X.w) X.A (call (.ref f) us) (EP X pins σ Q) X.xe s:=by
 have r2:Vals (vs++dvs) (us++ds):=r.append hd;have hl:(us++ds).length=ps.length:=by rw[←r2.length];exact F.len _ _ _ _ h
 refine wpAny_call (NT (F.run X.A X.stack s H ⟨us,[]⟩ (us++ds) (vs++dvs) Q E hr I.Gz (hb s us I.mP hl) r2 h) λr s' hq=>?_);cases r with
 |error e=>exact hx pins σ H s e s' I hq
 |ok fl =>
  cases fl with
  |ret u=>exact I.after hq
  |next=>exact False.elim hq
  |brk=>exact False.elim hq
  |cont=>exact False.elim hq
theorem EO (F:bc X.prog X.w X.K X.mg X.base CX k f fd ps sp)(hr:cX k X.A)(hg:Gl X x)(hm:X.mg x=some (.ref f))(hk:PySem.W.keepIn X.K (.ref f)=true)(hb:Binds X.K fd ps ds)(hd:Vals dvs ds)(hx:Passes CX X E)
  (ha:PA X (e::es) t)(hdb:(x==("__debug__":Str))=false:=by decide)(he:starEach (e::es) X.env=(false,eval e X.env)::starEach es X.env:=by rfl)(hpl:(backTo pos (starEach es X.env)).any (·.1)=false:=by rfl) :
  PE X (.Call (.Name x p) (e::es) [] pos) (nE sp dvs E t):=by
 intro pins s σ H Q I h;refine Nu (lL I hg hm ?_ hdb);refine PySem.W.callWith_K (h₀:=X.base) I.ok.mod.Fq hk (bB (ha pos pins s σ H _ I h) λus s1 ⟨vs,H1,I1,r,q⟩=>⟨I1.mP,?_⟩) he hpl;exact wG F hr hb hd hx I1 r q
theorem Eu {pl:Sem Bool}(he:PE X o ta)(c:yy X.K C)(hm:Meth X.K C m f)(F:bc X.prog X.w X.K X.mg X.base CX k f fd ps sp)(hr:cX k X.A)(hb:Binds X.K fd ps ds)(hd:Vals dvs ds)(hx:Passes CX X E)(ha:PA X (e::es) t)
  (hst:starEach (e::es) X.env=(false,eval e X.env)::starEach es X.env:=by rfl)(hpl:(backTo pos (starEach es X.env)).any (·.1)=false:=by rfl)
  (ht:eval (.Call (.Attribute o m apos) (e::es) [] pos) X.env=(do
   let ov ←eval o X.env
   standAt apos.atName
   let (f,first) ←holding [ov] (getMethod ov m pl)
   callWith pos f first (backTo pos (starEach (e::es) X.env)) (backToKw pos (keywordEach [] X.env))):=by rfl) :
  PE X (.Call (.Attribute o m apos) (e::es) [] pos) (uB C m sp dvs E ta t):=by
 intro pins s σ H Q I h;refine PySem.W.methodCall_KW (pl:=pl) (bB (he pins s σ H _ I h) λu s1 ⟨x,H1,I1,rx,a,dx,fs,ex,ea,l,q⟩=>?_) ht;subst ex;obtain rfl:u=Value.ref a:=rx;refine qb I1 ea c hm l ?_;refine PySem.W.callWith_K (first:=[.ref a]) (h₀:=X.base) I.ok.mod.Fq hm.kp (bB (ha pos pins s1 σ H1 _ I1 q) λus s2 ⟨vs,H2,I2,r,q2⟩=>⟨I2.mP,?_⟩) hst hpl;exact wG (us:=.ref a::us) (vs:=.ref a::vs) F hr hb hd hx I2 (.cons rfl r) q2
theorem Cq {pl:Sem Bool}(he:PE X o ta)(c:yy X.K C)(hm:Meth X.K C m f)(F:bc X.prog X.w X.K X.mg X.base CX k f fd ps sp)(hr:cX k X.A)(hb:Binds X.K fd ps ds)(hd:Vals dvs ds)(hx:Passes CX X E)
  (ht:eval (.Call (.Attribute o m apos) [] [] pos) X.env=(do
   let ov ←eval o X.env
   standAt apos.atName
   let (f,first) ←holding [ov] (getMethod ov m pl)
   callWith pos f first (backTo pos (starEach [] X.env)) (backToKw pos (keywordEach [] X.env))):=by rfl) :
  PE X (.Call (.Attribute o m apos) [] [] pos) (uB C m sp dvs E ta eZ):=by
 intro pins s σ H Q I h;refine PySem.W.methodCall_KW (pl:=pl) (bB (he pins s σ H _ I h) λu s1 ⟨x,H1,I1,rx,a,dx,fs,ex,ea,l,q⟩=>?_) ht;subst ex;obtain rfl:u=Value.ref a:=rx;refine qb I1 ea c hm l ?_;exact PySem.W.callWith_K0 (first:=[.ref a]) I1.mP hm.kp (wG (us:=[.ref a]) (vs:=[.ref a]) F hr hb hd hx I1 (.cons rfl .nil) q)
structure Mk (K:N4)(C f:Addr):Prop where
 makes:PySem.W.makesIn K C=true
 init:PySem.W.findIn K (.ref C) "__init__"=some (some (.ref f))
 fn:PySem.W.isFn K (.ref f)=true
 kp:PySem.W.keepIn K (.ref C)=true
theorem Aq {pins:N7}{σ:St}{H:Hp}{s:Shared}{Q:VK}{us:N8}{vs:List V}(M:Mk X.K C f)(F:bc X.prog X.w X.K X.mg X.base CX k f fd ps sp)(hr:cX (k+1) X.A)(hb:Binds X.K fd ps ds)(hd:Vals dvs ds)
  (hx:Passes CX X E)(I:Inv X pins σ H s)(r:Vals vs us)
  (h:∀x dx,H x=none->H dx=none->dx≠x->sp (.ref x::(vs++dvs)) (upd (upd H dx (.own x)) x (.ins C dx [])) (λv H2=>v=.cj/\Q (.ref x) H2) E) :
  wpAny (model X.prog X.w) X.A (call (.ref C) us) (EP X pins σ Q) X.xe s:=by
 have hq:=h (s.heap.objs.size+1) s.heap.objs.size (I.bw.fresh (Nat.le_succ _)) (I.bw.fresh (Ln _)) (LP (NJ _));have I2:=Inv.made (C:=C) I;have r2:Vals (V.ref (s.heap.objs.size+1)::(vs++dvs)) (Value.ref (s.heap.objs.size+1)::(us++ds)):=.cons rfl (r.append hd);have hl:(Value.ref (s.heap.objs.size+1)::us++ds).length=ps.length:=by
  have e:=r2.length;rw[F.len _ _ _ _ hq] at e;exact e.symm
 refine wpAny_call (BD (f:=f) I.mP M.makes M.init (L5.mp M.fn) (NT (F.run _ X.stack _ _ ⟨Value.ref (s.heap.objs.size+1)::us,[]⟩ (Value.ref (s.heap.objs.size+1)::(us++ds)) _ _ E (hr.make C us [])
  (I2.Gz.make C us []) (hb _ (Value.ref (s.heap.objs.size+1)::us) I2.mP hl) r2 hq) λr s' hq'=>?_))
 cases r with
 |error e=>exact hx pins σ _ _ e s' I2 hq'
 |ok fl =>
  cases fl with
  |ret u =>
   obtain⟨v,H',I3,rv,ev,q3⟩:=I2.after hq';subst ev;exact⟨rv,⟨V.ref (s.heap.objs.size+1),H',I3,rfl,q3⟩⟩
  |next=>exact False.elim hq'
  |brk=>exact False.elim hq'
  |cont=>exact False.elim hq'
theorem D9 (M:Mk X.K C f)(F:bc X.prog X.w X.K X.mg X.base CX k f fd ps sp)(hr:cX (k+1) X.A)(hg:Gl X x)(hm:X.mg x=some (.ref C))(hb:Binds X.K fd ps ds)(hd:Vals dvs ds)(hx:Passes CX X E)
  (ha:PA X (e::es) t)(hdb:(x==("__debug__":Str))=false:=by decide)(he:starEach (e::es) X.env=(false,eval e X.env)::starEach es X.env:=by rfl)(hpl:(backTo pos (starEach es X.env)).any (·.1)=false:=by rfl) :
  PE X (.Call (.Name x p) (e::es) [] pos) (Fd C sp dvs E t):=by
 intro pins s σ H Q I h;refine Nu (lL I hg hm ?_ hdb);refine PySem.W.callWith_K (h₀:=X.base) I.ok.mod.Fq M.kp (bB (ha pos pins s σ H _ I h) λus s1 ⟨vs,H1,I1,r,q⟩=>⟨I1.mP,?_⟩) he hpl;exact Aq M F hr hb hd hx I1 r q
end
section
variable {X:Cx}{CX:lR}{k:Nat}{f C:Addr}{fd:FuncData}{ps ks:List Str}{sp:Sp}{E:XK}{x m:Str}{p pos apos kpos:Pos}{e o:Expr}{es:List Expr}{kws:List Keyword}{te ta:TE}{t tk:TA}{nm:Option Str}
variable {g:N8->N8->N8} {gV:List V->List V->List V}
end
structure aI (N P:List Str)(sc:Scope):Prop where
 kind:sc.kind=.function
 co:sc.isCoroutine=false
 gen:sc.isGenerator=false
 nd:N.Nodup
 pre:N.take P.length=P
 par:∀x∈P,sc.names.lookup x=some .local∨sc.names.lookup x=some .cell
 HI:∀y∈sc.names,y.2≠.free
theorem rH {kindOf:Str->Option NameKind}{x:Str}:∀{binds:List (Str×Value)} {m:N6},(∀v,(x,v)∉binds)->bindL kindOf binds m x=m x
 |[],_,_=>rfl
 |(n,v)::r,m,h=>by
  unfold bindL;rw[rH λw hw=>h w (Lw _ hw)];split
  · have:x≠n:=by rintro rfl;exact h v L0
    simp[this]
  · rfl
theorem qN {kindOf:Str->Option NameKind}{x:Str}:∀{binds:List (Str×Value)} {m:N6},(∀v,(x,v)∉binds)->bindC kindOf binds m x=m x
 |[],_,_=>rfl
 |(n,v)::r,m,h=>by
  unfold bindC;rw[qN λw hw=>h w (Lw _ hw)];split
  · rfl
  · have:x≠n:=by rintro rfl;exact h v L0
    simp[this]
theorem su {kindOf:Str->Option NameKind}{x:Str}{v:Value}:∀{P:List Str} {vs:N8} {i:Nat} {m:N6},P.Nodup->P[i]?=some x->vs[i]?=some v->kindOf x=some .local ->
  bindL kindOf (P.zip vs) m x=some v
 |[],_,_,_,_,h,_,_=>by simp at h
 |_::_,[],_,_,_,_,h,_=>by simp at h
 |p::P,w::vs,0,m,nd,h1,h2,hk=>by
  simp at h1 h2;subst h1;subst h2;show bindL kindOf ((p,w)::P.zip vs) m p=_;unfold bindL;rw[rH λv hv=>(Mq.mp nd).1 (List.of_mem_zip hv).1,Lg hk];simp
 |p::P,w::vs,i+1,m,nd,h1,h2,hk=>by
  show bindL kindOf ((p,w)::P.zip vs) m x=_;unfold bindL;exact su (i:=i) (Mq.mp nd).2 (by simpa using h1) (by simpa using h2) hk
theorem rS {kindOf:Str->Option NameKind}{x:Str}{v:Value}:∀{P:List Str} {vs:N8} {i:Nat} {m:N6},P.Nodup->P[i]?=some x->vs[i]?=some v->kindOf x≠some .local ->
  bindC kindOf (P.zip vs) m x=some v
 |[],_,_,_,_,h,_,_=>by simp at h
 |_::_,[],_,_,_,_,h,_=>by simp at h
 |p::P,w::vs,0,m,nd,h1,h2,hk=>by
  simp at h1 h2;subst h1;subst h2;show bindC kindOf ((p,w)::P.zip vs) m p=_;unfold bindC;rw[qN λv hv=>(Mq.mp nd).1 (List.of_mem_zip hv).1,Lf hk];simp
 |p::P,w::vs,i+1,m,nd,h1,h2,hk=>by
  show bindC kindOf ((p,w)::P.zip vs) m x=_;unfold bindC;exact rS (i:=i) (Mq.mp nd).2 (by simpa using h1) (by simpa using h2) hk
def start (N:List Str)(vs:List V):St:=vs.map some++List.replicate (N.length - vs.length) none
def n8 (CX:lR)(P:Program)(w:World)(K:N4)(mg:N6)(base:Heap)(N:List Str)(qual:Str)(scope:Scope)(f:Addr)(cd:Value)(A:Around)(outer:List Env)(s:Shared)(H:Hp)(E:XK):Cx where
 prog:=P
 w:=w
 K:=K
 mg:=mg
 base:=base
 A:=A.deeper (envOfC qual scope s.heap.objs.size f cd)
 N:=N
 ku:=s
 HM:=H
 env:=envOfC qual scope s.heap.objs.size f cd
 outer:=outer
 stack:=envOfC qual scope s.heap.objs.size f cd::outer
 ex:=[]
 calm:=true
 fn:=λ_=>true
 pn:=[]
 xe:=λe s'=>wpAny (model P w) (A.deeper (envOfC qual scope s.heap.objs.size f cd)) (leaving (envOfC qual scope s.heap.objs.size f cd) e) (λ_ s''=>CX outer H s E e s'') (λe' s''=>CX outer H s E e' s'') s'
theorem vd {sc:Scope}{n:Nat}{x:Str}(h:sc.names.lookup x=some .cell):∃c,(cellsFrom n sc.names []).lookup x=some c:=by
 have q:=PySem.W.cellsFrom_some sc.names n [] (.inl h);exact Np.mp q
theorem Ad {CX:lR}{P:Program}{w:World}{K:N4}{mg:N6}{base:Heap}{N ps:List Str}{qual:Str}{scope:Scope}{f:Addr}{cd:Value}{A:Around}{outer:List Env}{s s1:Shared}{H:Hp}{E:XK}{us:N8}{vs:List V}
  (S:aI N ps scope)(hd:A.handled=none)(e0:wD P w K mg base A outer s H)(hl:vs.length=ps.length)(r:Vals vs us)
  (x:InCallC s s.heap.objs.size (bindL (envOfC qual scope s.heap.objs.size f cd).kindOf (ps.zip us) λ_=>none) (cellsFrom (s.heap.objs.size+1) scope.names []) (bindC (envOfC qual scope s.heap.objs.size f cd).kindOf (ps.zip us) λ_=>none) s1) :
  Inv (n8 CX P w K mg base N qual scope f cd A outer s H E) [] (start N vs) H s1:=by
 have hpl:ps.length<=N.length:=by have:=Ml List.length S.pre;rw[LB] at this;omega
 obtain⟨h1,tk,rfl,hk⟩:=x.done;have noA:∀b:Addr,b∉(n8 CX P w K mg base N qual scope f cd A outer s H E).ex:=λb z=>absurd (show b∈([]:List Addr) from z) (by simp);refine⟨⟨e0.mod,S.kind,rfl,rfl,Ln _,λy z c h1 h2=>?_,λy hy=>?_,λy c _ h=>?_,λ_=>hd,Around.frames_deeper e0.frames,.inr ⟨rfl,rfl⟩,λb z=>absurd z (noA b),e0.bs,e0.CO,λb _ _=>noA b,λb z=>absurd z (noA b),e0.my,e0.Fj⟩,
  rfl,e0.bare,Un.kept hk,⟨_,x.toInCall.ns,λi y v h1 h2 h3=>?_⟩,λy c h=>⟨_,x.cell y c h⟩,e0.bw.fresh (Ln _),λy c h=>?_,λp hp=>absurd (show p∈([]:N7) from hp) (by simp),e0.bw.kept hk,?_⟩
 · exact name_of_addr x.apart (PySem.mem_of_lookup h1) (PySem.mem_of_lookup h2)
 · have hy:scope.names.lookup y=some .cell∨scope.names.lookup y=some .free:=hy;rcases hy with hy|hy
   · exact vd hy
   · exact absurd rfl (S.HI _ (PySem.mem_of_lookup hy))
 · exact Nat.le_of_lt (x.above y c (PySem.mem_of_lookup h))
 · have hi:i < vs.length:=by
    unfold start at h2;by_cases hi:i < vs.length
    · exact hi
    · rw[NZ (by simpa using hi)] at h2;rw[List.getElem?_replicate] at h2;split at h2 <;> cases h2
   have ha:vs[i]?=some v:=by
    unfold start at h2;rw[List.getElem?_append_left (by simpa using hi),Lj] at h2;cases e:vs[i]? with
    |none=>rw[e] at h2;cases h2
    |some a=>rw[e] at h2;cases h2;rfl
   obtain⟨u,hu,rv⟩:=r.get ha;have hp:ps[i]?=some y:=by
    rw[←S.pre,List.getElem?_take_of_lt (by omega)];exact h1
   have ndP:ps.Nodup:=by rw[←S.pre];exact S.nd.sublist (List.take_sublist _ _)
   refine⟨u,rv,?_⟩;rcases S.par y (LH hp) with k|k
   · exact .inl ⟨k,su ndP hp hu k⟩
   · obtain⟨c,e⟩:=vd (n:=s.heap.objs.size+1) k;refine .inr ⟨.inl k,c,e,?_⟩;have q:=x.cell y c e;rw[rS ndP hp hu (by show scope.names.lookup y≠_;rw[k];decide)] at q;exact q
 · exact e0.bw.fresh (Nat.le_of_lt (x.above y c (PySem.mem_of_lookup h)))
 · unfold start;show _=N.length;rw[LA,Le,LN];omega
theorem AH {CX:lR}{P:Program}{w:World}{K:N4}{mg:N6}{base:Heap}{k:Nat}{f:Addr}{name qual:Str}{params:Arguments}{body:List Stmt}{scope:Scope}{dV kV doc pm cdv ct oc:Value}{an od:Option Addr}
  {osl:Array (Option Value)}{N ps:List Str}{sp:Sp}(lk:K.lookup f=some ⟨oc,od,.func (PySem.W.fnOf name qual params body scope dV kV doc pm an cdv ct),osl⟩)(hcd:PySem.W.codeIn K cdv qual=true)(S:aI N ps scope)
  (len:∀vs H Q E,sp vs H Q E->vs.length=ps.length)
  (hbody:∀(A:Around) (outer:List Env) (s:Shared) (H:Hp) (vs:List V) (Q:VK) (E:XK),cX k (A.deeper (envOfC qual scope s.heap.objs.size f cdv))->sp vs H Q E ->
   ∃t,A3 (n8 CX P w K mg base N qual scope f cdv A outer s H E) body t/\t {nx:=λ_ H'=>Q .cj H',rt:=Q} (start N vs) H) :
  bc P w K mg base CX (k+1) f (PySem.W.fnOf name qual params body scope dV kV doc pm an cdv ct) ps sp:=by
 refine⟨len,λA outer s H args us vs Q E hr e0 hb r hsp=>?_⟩;have hl:=len _ _ _ _ hsp;have KX:K.In s.heap:=e0.mod.Fq.keeps λb o e=>(e0.bs b o e).1;have lim:s.heap.NoLimit:=e0.mod.nolimit.keeps λb o e=>(e0.bs b o e).1;have hkind:∀y∈ps.zip us,scope.names.lookup y.1=some .local∨(scope.names.lookup y.1=some .cell/\((cellsFrom (s.heap.objs.size+1) scope.names []).lookup y.1).isSome=true):=λ⟨n,v⟩ hy=>by
  rcases S.par n (List.of_mem_zip hy).1 with q|q
  · exact .inl q
  · exact .inr ⟨q,PySem.W.cellsFrom_some _ _ _ (.inl q)⟩
 refine codeAny_call_function hr.depth (KX _ _ lk) rfl S.co S.gen rfl (PySem.W.codeRec_of KX hcd) (hb _ _ _ _ ?_);refine wpAny_newFunctionEnv_cells S.kind hkind λenv he s1 x=>?_;subst he;refine⟨lim.keeps x.toInCall.keep,codeAny_func ?_⟩;obtain⟨t,ht,hq⟩:=hbody A outer s H vs Q E (hr.deeper _) hsp;have I:Inv (n8 CX P w K mg base N qual scope f cdv A outer s H E) [] (start N vs) H s1:=Ad S hr.hd e0 hl r x;refine Mw (ht s1 (start N vs) H _ I hq) (λfl s' hs=>?_) λe s' hs=>hs;have fin:∀{σ':St} {H':Hp} {v:V} {u:Value},Inv (n8 CX P w K mg base N qual scope f cdv A outer s H E) [] σ' H' s'->RelV v u->Q v H'->CE outer P w H s Q u s' :=
  λ{σ' H' v u} J rv q=>⟨v,H',J.os,J.bare,J.base,J.bw,rv,q⟩
 cases fl with
 |ret u =>
  obtain⟨v,σ',H',J,rv,q⟩:=hs;exact fin J rv q
 |next =>
  obtain⟨σ',H',J,q⟩:=hs;exact fin (v:=V.cj) (u:=Value.none) J rfl q
 |brk =>
  obtain⟨_,_,_,q⟩:=hs;exact False.elim q
 |cont =>
  obtain⟨_,_,_,q⟩:=hs;exact False.elim q
theorem Fs {CX:lR}{P:Program}{w:World}{K:N4}{mg:N6}{base:Heap}{k:Nat}{f:Addr}{name qual:Str}{params:Arguments}{body:List Stmt}{scope:Scope}{dV kV doc pm cdv ct oc:Value}{an od:Option Addr}
  {osl:Array (Option Value)}{N ps:List Str}{sp:Sp}(lk:K.lookup f=some ⟨oc,od,.func (PySem.W.fnOf name qual params body scope dV kV doc pm an cdv ct),osl⟩)(hcd:PySem.W.codeIn K cdv qual=true)(S:aI N ps scope)
  (len:∀vs H Q E,sp vs H Q E->vs.length=ps.length)
  (hbody:∀(A:Around) (outer:List Env) (s:Shared) (H:Hp) (vs:List V) (Q:VK) (E:XK),cX k (A.deeper (envOfC qual scope s.heap.objs.size f cdv))->sp vs H Q E ->
   ∃t,uh (n8 CX P w K mg base N qual scope f cdv A outer s H E) body t/\t {nx:=λ_ H'=>Q .cj H',rt:=Q} (start N vs) H) :
  bc P w K mg base CX (k+1) f (PySem.W.fnOf name qual params body scope dV kV doc pm an cdv ct) ps sp:=AH lk hcd S len λA outer s H vs Q E hr hs=>let ⟨t,ht,hq⟩:=hbody A outer s H vs Q E hr hs;⟨t,λs σ H D=>ht [] s σ H D,hq⟩
section
variable {X:Cx}{x:Str}{p pos:Pos}{e:Expr}{es:List Expr}{t:TA}{id T:String}{r:List V->Hp->VK->Prop}
def HR (r:List V->Hp->VK->Prop) (t:TA):TE:=λσ H Q=>t σ H λvs H1=>r vs H1 Q
theorem aH (hc:iu X (.builtin id) r)(hg:Gl X x)(hm:X.mg x=none)(hv:bootBuiltins x=some (.builtin id))(ha:PA X (e::es) t)(hn:x≠"__name__":=by decide)(hdb:(x==("__debug__":Str))=false:=by decide)
  (he:starEach (e::es) X.env=(false,eval e X.env)::starEach es X.env:=by rfl)(hpl:(backTo pos (starEach es X.env)).any (·.1)=false:=by rfl):PE X (.Call (.Name x p) (e::es) [] pos) (HR r t):=by
 intro pins s σ H Q I h;refine Nu (kR I hg hm hv ?_ hn hdb);exact PyProof.Rows.callWith_builtin1 (bB (ha pos pins s σ H _ I h) λus s1 ⟨vs,H1,I1,r1,q1⟩=>hc pins s1 σ H1 vs us Q I1 r1 q1) he hpl
theorem kh (hc:iu X (.type T) r)(hg:Gl X x)(hm:X.mg x=none)(hv:bootBuiltins x=some (.type T))(ha:PA X (e::es) t)(hn:x≠"__name__":=by decide)(hdb:(x==("__debug__":Str))=false:=by decide)
  (he:starEach (e::es) X.env=(false,eval e X.env)::starEach es X.env:=by rfl)(hpl:(backTo pos (starEach es X.env)).any (·.1)=false:=by rfl):PE X (.Call (.Name x p) (e::es) [] pos) (HR r t):=by
 intro pins s σ H Q I h;refine Nu (kR I hg hm hv ?_ hn hdb);exact MF (bB (ha pos pins s σ H _ I h) λus s1 ⟨vs,H1,I1,r1,q1⟩=>hc pins s1 σ H1 vs us Q I1 r1 q1) he hpl
end
end L2
namespace HT
open PySem PyProof.Rows
section
open PySem.SeqAt
open PySem.AutoSeq1 (wpAny_loadPart')
open PySem.MeetsSeq PySem.MeetsSeq2 PySem.MeetsSeq3
end
section
variable {prog:Program}{w:World}{A:Around}{E:N5}{s:Shared}
theorem CY {t b:Addr} {vs ws:N8} {Q:N5} (ht:IsTup s.heap t vs.toArray) (hb:IsTup s.heap b ws.toArray) (hv:vs≠[])
  (h1:ws=[]->Q (.ref t) s) (h2:ws≠[]->Q (.ref s.heap.objs.size) {s with heap:=s.heap.push {cls:=.type "tuple",data:=.seq (vs++ws).toArray}})
  (hsz:vs.length+ws.length<=sizeLine):wpAny (model prog w) A (binaryOp .Add (.ref t) (.ref b)) Q E s:=by
 obtain⟨⟨cls,dd,data,sl⟩,ho,hc,n,hd⟩:=id ht;obtain⟨⟨cls2,dd2,data2,sl2⟩,ho2,hc2,n2,hd2⟩:=id hb;simp only at hc hd hc2 hd2;subst hc hd hc2 hd2;have e:vs.toArray++ws.toArray=(vs++ws).toArray:=by simp
 by_cases hw:ws=[]
 · exact concat_meets ⟨_,ho,rfl⟩ ⟨_,ho2,rfl⟩ noFill_tuple_add seq_tuple_add PySem.F.slot_tuple_add PySem.F.entry_tuple_add (PySem.F.args_tuple_add_2 _ _)
    (tuple_addW1 t b vs.toArray ws.toArray n n2 dd dd2 sl sl2 (by simpa using hv) (by simp[hw])) ⟨ho,ho2,h1 hw⟩
 · refine concat_meets ⟨_,ho,rfl⟩ ⟨_,ho2,rfl⟩ noFill_tuple_add seq_tuple_add PySem.F.slot_tuple_add PySem.F.entry_tuple_add (PySem.F.args_tuple_add_2 _ _)
    (tuple_addW2 t b vs.toArray ws.toArray n n2 dd dd2 sl sl2 (by simpa using hv) (by simpa using hw) (by rw[Lz,Lz];exact hsz)) ⟨ho,ho2,?_⟩
   rw[e];exact h2 hw
def b8 (n d:Nat):Option Int->Nat
 |none=>d
 |some v=>if v < 0 then (v+(n:Int)).toNat else min v.toNat n
theorem ir (n d:Nat):b8 n d none=d:=rfl
theorem je (n d k:Nat):b8 n d (some (k:Int))=min k n:=by
 show (if (k:Int) < 0 then ((k:Int)+(n:Int)).toNat else min (k:Int).toNat n)=min k n;rw[Lf (by omega),LZ]
theorem wK (n d:Nat)(hd:d<=n)(o:Option Int):b8 n d o<=n:=by
 cases o with
 |none=>exact hd
 |some v =>
  show (if v < 0 then (v+(n:Int)).toNat else min v.toNat n)<=n;by_cases hv:v < 0
  · rw[Lg hv];omega
  · rw[Lf hv];exact Nat.min_le_right _ _
theorem yo (v:Int)(n d:Nat):(if v < 0 then max (v+(n:Int)) 0 else min v (n:Int))=((b8 n d (some v):Nat):Int):=by
 show (if v < 0 then max (v+(n:Int)) 0 else min v (n:Int))=(((if v < 0 then (v+(n:Int)).toNat else min v.toNat n):Nat):Int);by_cases hv:v < 0
 · simp only[Lg hv];omega
 · simp only[Lf hv];omega
theorem xa (lo hi:Option Int)(n:Nat):Builtin.Slice.sliceAdjust lo hi 1 (n:Int)=(((b8 n 0 lo:Nat):Int),((b8 n n hi:Nat):Int)):=by
 have h1:¬((1:Int) < 0):=by omega
 unfold Builtin.Slice.sliceAdjust;simp only[h1,Nc];refine Prod.ext ?_ ?_
 · cases lo with
   |none=>rfl
   |some v=>exact yo v n 0
 · cases hi with
   |none=>rfl
   |some v=>exact yo v n n
theorem xq (i j:Nat):Builtin.Slice.slicePlaces (i:Int) (j:Int) 1=j - i:=by
 unfold Builtin.Slice.slicePlaces;have h1:(1:Int) > 0:=by omega
 simp only[h1,MX,Int.ediv_one];split <;> omega
theorem pT {v:Value}{o:Option Int}{Q:Option Int->Shared->Prop}(p:IsPart v o)(h:Q o s):wpAny (model prog w) A (Builtin.Slice.slicePartIndex v) Q E s:=by
 cases p with
 |none=>exact slicePart_none h
 |int i t=>exact slicePart_int h
theorem ia {sl:Addr}{vl vu:Value}{lo hi:Option Int}{n:Nat}{Q:Int×Int×Nat->Shared->Prop}(hs:s.heap.IsSliceOf sl vl vu .none)(pl:IsPart vl lo)(pu:IsPart vu hi)
  (h:Q (((b8 n 0 lo:Nat):Int),1,b8 n n hi - b8 n 0 lo) s):wpAny (model prog w) A (Builtin.Slice.sliceApplied (.ref sl) (pure (n:Int))) Q E s:=by
 obtain⟨os,hos,hcs,hds⟩:=id hs;unfold Builtin.Slice.sliceApplied Builtin.Slice.sliceFields;refine Ld (Ld (wpAny_field hos hds (x:=vl) rfl (Ld (wpAny_field hos hds (x:=vu) rfl (Ld (wpAny_field hos hds (x:=.none) rfl (Lk ?_)))))));refine Ld (slicePart_none ?_);show wpAny _ _ (if ((1:Int)==0)=true then _ else _) _ _ s;rw[Lf (by decide)];refine Ld (pT pl (Ld (pT pu (Ld (Lk ?_)))));show wpAny _ _ (match Builtin.Slice.sliceAdjust lo hi 1 (n:Int) with|(lo,hi)=>pure (lo,(1:Int),Builtin.Slice.slicePlaces lo hi 1)) _ _ s;rw[xa lo hi n];show wpAny _ _ (pure (((b8 n 0 lo:Nat):Int),(1:Int),Builtin.Slice.slicePlaces ((b8 n 0 lo:Nat):Int) ((b8 n n hi:Nat):Int) 1)) _ _ s;rw[xq];exact Lk h
theorem B2 (xs:Array Value)(i k:Nat):((List.range k).filterMap λ(m:Nat)=>xs[((i:Int)+(m:Int)*1).toNat]?).toArray=((xs.toList.drop i).take k).toArray:=by
 have e:(λ(m:Nat)=>xs[((i:Int)+(m:Int)*1).toNat]?)=λm=>xs[i+m]?:=by
  funext m;have:((i:Int)+(m:Int)*1).toNat=i+m:=by omega
  rw[this]
 rw[e];have:=pick_run xs i k;rw[List.filterMap_map] at this;have e2:((λx=>xs[x]?) ∘ λx=>i+x)=λm=>xs[i+m]?:=rfl;rw[e2] at this;rw[this]
theorem mH {t sl:Addr}{items:Array Value}{vl vu:Value}{lo hi:Option Int}{Q:N5}(ht:IsTup s.heap t items)(hs:s.heap.IsSliceOf sl vl vu .none)(pl:IsPart vl lo)(pu:IsPart vu hi)
  (hw:¬(b8 items.size 0 lo=0/\b8 items.size items.size hi=items.size))
  (h:Q (.ref s.heap.objs.size) {s with heap:=s.heap.push {cls:=.type "tuple",data:=.seq ((items.toList.drop (b8 items.size 0 lo)).take (b8 items.size items.size hi - b8 items.size 0 lo)).toArray}})
  (hsz:items.size<=sizeLine):wpAny (model prog w) A (getItem (.ref t) (.ref sl)) Q E s:=by
 have htake:sizeOk (.seq ((items.toList.drop (b8 items.size 0 lo)).take (b8 items.size items.size hi - b8 items.size 0 lo)).toArray):=by
  show ((items.toList.drop (b8 items.size 0 lo)).take (b8 items.size items.size hi - b8 items.size 0 lo)).toArray.size<=sizeLine;rw[Lz,LB,L7,MZ];omega
 have hj:b8 items.size items.size hi<=items.size:=wK _ _ (Ln _) hi;obtain⟨os,hos,hcs,hds⟩:=id hs;have hTs:s.TypeIs (.ref sl) "slice":=⟨os,hos,hcs⟩;unfold getItem
 try with_reducible refine Nf ?_
 first|refine Ld (Lk ?_)|skip
 refine Ld (wpAny_sequenceKey ht.typeIs (by decide) ?_);refine Ld (Mu (name:=Str.ofString "__getitem__") ht.typeIs Mv
  (MA Mv ht.typeIs entry_tuple_getitem ?_ (args_tuple_getitem _ _)))
 show wpAny _ _ (Builtin.Tuple.tupleItemsOf (.ref t) >>= _) _ _ s;refine Ld (tupleItemsOf_ ht ?_);refine Ld (wpAny_typeOf hTs ?_);rw[Lg (by decide)];refine Ld (ia hs pl pu ?_);have hno:¬((((b8 items.size 0 lo:Nat):Int)==0&&(1:Int)==1&&(b8 items.size items.size hi - b8 items.size 0 lo)==items.size)=true):=by
  intro q;rw[Ll,Ll] at q;have q1:((b8 items.size 0 lo:Nat):Int)=0:=MI q.1.1;have q2:b8 items.size items.size hi - b8 items.size 0 lo=items.size:=MI q.2;exact hw ⟨by omega,by omega⟩
 show wpAny _ _ (if (((b8 items.size 0 lo:Nat):Int)==0&&(1:Int)==1&&(b8 items.size items.size hi - b8 items.size 0 lo)==items.size)=true then _ else _) _ _ s;rw[Lf hno,B2]
 first
  |exact Ld (m:=Builtin.Tuple.tupleExact _) (MG (Lk ⟨_,rfl,Lk h⟩) htake)
  |exact Ld (m:=Builtin.Tuple.tupleExact _) (MG (Ld (Lk (Lk ⟨_,rfl,Lk h⟩))) htake)
  |exact Ld (Ld (m:=Builtin.Tuple.tupleExact _) (MG (Lk (Lk ⟨_,rfl,Lk h⟩)) htake))
  |exact Ld (Ld (m:=Builtin.Tuple.tupleExact _) (MG (Lk ⟨_,rfl,Lk h⟩) htake))
end
end HT
namespace L2
open PySem PySem.Spec PyProof.Rows
abbrev TO:=St->Hp->(Option Int->Hp->Prop)->Prop
def PO (X:Cx)(e:Option Expr)(t:TO):Prop :=
 ∀(pins:N7) (s:Shared) (σ:St) (H:Hp) (Q:Option Int->Hp->Prop),Inv X pins σ H s->t σ H Q ->
  wpAny (model X.prog X.w) X.A (evalPart e X.env) (λu s'=>∃o H',Inv X pins σ H' s'/\IsPart u o/\Q o H') X.xe s
def EK:TO:=λ_ H Q=>Q none H
def Je (t:TE):TO:=λσ H Q=>t σ H λx H1=>∃i,x=.int i/\Q (some i) H1
theorem intsAre_of {ns:List Int}:∀{us:N8},Vals (ns.map V.int) us->IntsAre us ns:=by
 induction ns with
 |nil=>intro us r;rw[MD] at r;cases r;exact .nil
 |cons n ns ih =>
  intro us r;rw[Lv] at r;cases r with
  |cons r1 r2 =>
   obtain⟨t,e⟩:=r1;subst e;exact .cons n t (ih r2)
section
variable {X:Cx}{e:Expr}{te:TE}{lo hi:Option Expr}{tl th:TO}{pos p2:Pos}
theorem ft:PO X none EK:=by
 intro pins s σ H Q I h;rw[evalPart_none];exact Lk ⟨none,H,I,.none,h⟩
theorem cT (h:PE X e te):PO X (some e) (Je te):=by
 intro pins s σ H Q I hw;rw[evalPart_some];refine bB (h pins s σ H _ I hw) λu s1 ⟨x,H1,I1,r1,q1⟩=>?_;obtain⟨i,rfl,q⟩:=q1;obtain⟨t,rfl⟩:=r1;exact⟨some i,H1,I1,.int i t,q⟩
def HZ (X:Cx)(r:V->Option Int->Option Int->Hp->VK->Prop):Prop :=
 ∀(pins:N7) (s:Shared) (σ:St) (H:Hp) (x:V) (v vl vu:Value) (lo hi:Option Int) (sl:Addr) (Q:VK),Inv X pins σ H s->RelV x v->s.heap.IsSliceOf sl vl vu .none->IsPart vl lo->IsPart vu hi->r x lo hi H Q ->
  ∃T id,typeLookup (.type T) "__getitem__"=pure (some (.builtin id))/\s.TypeIs v T/\wpAny (model X.prog X.w) X.A (getItem v (.ref sl)) (EP X pins σ Q) X.xe s
def KU (r:V->Option Int->Option Int->Hp->VK->Prop)(te:TE)(tl th:TO):TE:=λσ H Q=>te σ H λx H1=>tl σ H1 λl H2=>th σ H2 λu H3=>r x l u H3 Q
theorem cJ {r:V->Option Int->Option Int->Hp->VK->Prop}(hr:HZ X r)(he:PE X e te)(hl:PO X lo tl)(hu:PO X hi th):PE X (.Subscript e (.Slice lo hi none p2) pos) (KU r te tl th):=by
 intro pins s σ H Q I h;refine Subscript_ (bB (he pins s σ H _ I h) λv s1 ⟨x,H1,I1,r1,q1⟩=>?_);refine wpAny_Slice (bB (hl pins s1 σ H1 _ I1 q1) λvl s2 ⟨l,H2,I2,pl,q2⟩=>bB (hu pins s2 σ H2 _ I2 q2) λvu s3 ⟨u,H3,I3,pu,q3⟩=>?_);rw[evalPart_none];refine Lk ?_;have I4:Inv X pins σ H3 {s3 with heap:=s3.heap.push {cls:=.type "slice",data:=.fields #[vl,vu,.none]}}:=I3.kept (t':=s3.toks) λb ob q=>Lh _ q;obtain⟨T,id,hT,ht,hg⟩:=hr pins {s3 with heap:=s3.heap.push {cls:=.type "slice",data:=.fields #[vl,vu,.none]}} σ H3 x v vl vu l u s3.heap.objs.size Q I4 r1 (Heap.IsSliceOf.new ..) pl pu q3;show wpAny (model X.prog X.w) X.A (subscriptTail e (.Slice lo hi none p2) v (.ref s3.heap.objs.size)) (EP X pins σ Q) X.xe {s3 with heap:=s3.heap.push {cls:=.type "slice",data:=.fields #[vl,vu,.none]}};exact tail_any (ops:=[.ref s3.heap.objs.size,v]) ht hT hg (by with_unfolding_all rfl)
def fA (xs:List V)(lo hi:Option Int):List V:=(xs.drop (HT.b8 xs.length 0 lo)).take (HT.b8 xs.length xs.length hi - HT.b8 xs.length 0 lo)
theorem nM (xs:List V)(lo hi:Option Int):(fA xs lo hi).length<=xs.length:=by
 unfold fA;rw[LB,L7];omega
def Kw (K:N4):V->Option Int->Option Int->Hp->VK->Prop:=λx lo hi H Q=>∃a xs,x=.ref a/\bZ K H a xs /\
 ¬(HT.b8 xs.length 0 lo=0/\HT.b8 xs.length xs.length hi=xs.length)/\∀p,H p=none->Q (.ref p) (upd H p (.tup (fA xs lo hi)))
theorem G1:HZ X (Kw X.K):=by
 intro pins s σ H x v vl vu lo hi sl Q I rx hs pl pu h;obtain⟨a,xs,rfl,hx,hw,q⟩:=h;cases rx;obtain⟨its,r,ht,hz⟩:=I.tuple hx;have hlen:its.toArray.size=xs.length:=by rw[Lz];exact r.length.symm
 refine⟨"tuple",_,Mv.lookup,ht.typeIs,?_⟩;refine HT.mH ht hs pl pu (by rw[hlen];exact hw) ?_ (by rw[hlen];exact hz);rw[hlen];refine⟨.ref s.heap.objs.size,_,I.laid (t':=s.toks) (o:=.tup (fA xs lo hi)) (λb ob q=>Lh _ q) (Ln _) ?_,rfl,q _ (I.bw.fresh (Ln _))⟩;exact⟨L1 (nM xs lo hi) hz,_,(r.drop (HT.b8 xs.length 0 lo)).take (HT.b8 xs.length xs.length hi - HT.b8 xs.length 0 lo),IsTup.new _ _⟩
def H_ (K:N4):R2:=λx y H Q=>∃a b xs ys,x=.ref a/\y=.ref b/\bZ K H a xs/\bZ K H b ys/\xs≠[]/\xs.length+ys.length<=sizeLine /\
 (ys=[]->Q (.ref a) H)/\(ys≠[]->∀p,H p=none->Q (.ref p) (upd H p (.tup (xs++ys))))
theorem Vals.ou {xs:List V}{us:N8}(r:Vals xs us):us=[]↔xs=[]:=by
 cases r with
 |nil=>simp
 |cons _ _=>simp
theorem D7:jv X (binaryOp .Add) (H_ X.K):=by
 intro pins s σ H x y v u Q I rx ry h;obtain⟨a,b,xs,ys,rfl,rfl,ha,hb,hx,hz,q1,q2⟩:=h;cases rx;cases ry;obtain⟨its,r1,p1,_⟩:=I.tuple ha;obtain⟨its2,r2,p2,_⟩:=I.tuple hb;refine HT.CY p1 p2 (λz=>hx (r1.ou.mp z)) (λz=>⟨.ref a,H,I,rfl,q1 (r2.ou.mp z)⟩) (λz=>?_) (by rw[←r1.length,←r2.length];exact hz);refine⟨.ref s.heap.objs.size,_,I.laid (t':=s.toks) (o:=.tup (xs++ys)) (λb ob q=>Lh _ q) (Ln _) ?_,rfl,q2 (λw=>z (r2.ou.mpr w)) _ (I.bw.fresh (Ln _))⟩;exact⟨by rw[LA];exact hz,_,r1.append r2,IsTup.new _ _⟩
end
def Ep (n:Nat)(i:Int):Option Nat:=if 0<=i then (if i < n then some i.toNat else none) else if -(n:Int)<=i then some (i+n).toNat else none
def nJ {α:Type}(xs:List α)(i:Int):Option α:=(Ep xs.length i).bind λj=>xs[j]?
theorem yi {n:Nat}{i:Int}{j:Nat}(h:Ep n i=some j):seqIndex? i n=some j/\j < n/\-(n:Int)<=i/\i < n:=by
 unfold Ep at h;by_cases h0:0<=i
 · rw[Lg h0] at h;by_cases h1:i < n
   · rw[Lg h1] at h;have e:i.toNat=j:=LQ h;exact⟨by rw[seqIndex_of h0 h1,e],by omega,by omega,h1⟩
   · rw[Lf h1] at h;cases h
 · rw[Lf h0] at h;by_cases h1:-(n:Int)<=i
   · rw[Lg h1] at h;have e:(i+n).toNat=j:=LQ h;exact⟨by rw[seqIndex_neg (by omega) h1,e],by omega,h1,by omega⟩
   · rw[Lf h1] at h;cases h
theorem ud {α:Type}{xs:List α}{i:Int}{v:α}(h:nJ xs i=some v):∃j,seqIndex? i xs.length=some j/\xs[j]?=some v/\j < xs.length/\-(xs.length:Int)<=i/\i < xs.length:=by
 unfold nJ at h;cases e:Ep xs.length i with
 |none=>rw[e] at h;cases h
 |some j =>
  rw[e] at h;obtain⟨h1,h2,h3,h4⟩:=yi e;exact⟨j,h1,h,h2,h3,h4⟩
theorem cw {α:Type}{xs:List α}{j:Nat}{v:α}(h:xs[j]?=some v):nJ xs (j:Int)=some v:=by
 have hj:j < xs.length:=(Lr.mp h).1;have e:Ep xs.length (j:Int)=some j:=by
  unfold Ep;rw[Lg (by omega),Lg (by omega)];simp
 unfold nJ;rw[e];exact h
def D1 (b:Expr):Prop:=∀o i,subscripted b false o i=operate [o,i] (getItem o i)
def JJ (X:Cx)(r:R2):Prop :=
 ∀(value slice:Expr) (pins:N7) (s:Shared) (σ:St) (H:Hp) (x y:V) (v u:Value) (Q:VK),Inv X pins σ H s->RelV x v->RelV y u->r x y H Q ->
  subscripted slice false v u=operate [v,u] (getItem v u)->wpAny (model X.prog X.w) X.A (subscriptTail value slice v u) (EP X pins σ Q) X.xe s
def Bu (X:Cx)(id:String)(r:V->List V->Hp->VK->Prop):Prop :=
 ∀(pins:N7) (s:Shared) (σ:St) (H:Hp) (x:V) (xs:List V) (v:Value) (us:N8) (Q:VK),Inv X pins σ H s->RelV x v->Vals xs us->r x xs H Q ->
  wpAny (model X.prog X.w) X.A (call (.builtin id) (v::us)) (EP X pins σ Q) X.xe s
section
variable {X:Cx}{a b:Expr}{ta tb:TE}{pos:Pos}
theorem bq {r:R2} (hr:JJ X r) (ha:PE X a ta) (hb:PE X b tb) (hs:D1 b):PE X (.Subscript a b pos) (kG r ta tb):=by
 intro pins s σ H Q I h;exact Subscript_ (F8 ha hb I h λv u s2 x y H2 I2 rx ry q=>hr a b pins s2 σ H2 x y v u Q I2 rx ry q (hs _ _))
def zQ (K:N4):R2:=λx y H Q=>∃p xs i v,x=.ref p/\y=.int i/\aU K H p xs/\nJ xs i=some v/\Q v H
def JE (K:N4):R2:=λx y H Q=>∃p xs i v,x=.ref p/\y=.int i/\bZ K H p xs/\nJ xs i=some v/\Q v H
def JC:R2:=λx y H Q=>∃z i c,x=.str z/\y=.int i/\z.length<=sizeLine/\nJ z.cps.toList i=some c/\Q (.str ⟨#[c]⟩) H
theorem aQ:JJ X (zQ X.K):=by
 intro value slice pins s σ H x y v u Q I rx ry h hs;obtain⟨p,xs,i,z,rfl,rfl,hq,he,q⟩:=h;cases rx;obtain⟨t,rfl⟩:=ry;obtain⟨its,r,pl,hz⟩:=I.list hq;obtain⟨j,h1,h2,h3,h4,h5⟩:=ud he;obtain⟨w,ew,rw'⟩:=r.get h2;have hl:=r.length;have hn:=lh;have fin:EP X pins σ Q w s:=⟨z,H,I,rw',q⟩;by_cases h0:0<=i
 · have hj:i.toNat=j:=by
    rw[seqIndex_of h0 h5] at h1;exact LQ h1
   exact item_listR pl.isList h0 (by omega) (by rw[hj];simpa using ew) fin hs
 · have hj:(i+(its.toArray.size:Int)).toNat=j:=by
    rw[seqIndex_neg (by omega) h4] at h1;rw[Lz,←hl];exact LQ h1
   exact subscriptTail_builtinR (x:=w) pl.isList.typeIs slot_list_getitem.lookup
    (wpAny_getItem_list_neg (Q:=λr s'=>r=w/\EP X pins σ Q r s') pl.isList (by omega) (by rw[Lz] <;> omega) (by omega) (by rw[hj];simpa using ew) ⟨rfl,fin⟩) hs
theorem Ba:JJ X (JE X.K):=by
 intro value slice pins s σ H x y v u Q I rx ry h hs;obtain⟨p,xs,i,z,rfl,rfl,hq,he,q⟩:=h;cases rx;obtain⟨t,rfl⟩:=ry;obtain⟨its,r,pl,hz⟩:=I.tuple hq;obtain⟨j,h1,h2,h3,h4,h5⟩:=ud he;obtain⟨w,ew,rw'⟩:=r.get h2;have hl:=r.length;have hn:=lh;have fin:EP X pins σ Q w s:=⟨z,H,I,rw',q⟩;exact subscriptTail_builtinR (x:=w) pl.typeIs slot_tuple_getitem.lookup
  (getItem_tuple (j:=j) (Q:=λr s'=>r=w/\EP X pins σ Q r s') pl (by omega) (by omega) (by rw[Lz,←hl];exact h1) (by simpa using ew) ⟨rfl,fin⟩) hs
theorem ui:JJ X JC:=by
 intro value slice pins s σ H x y v u Q I rx ry h hs;obtain⟨z,i,c,rfl,rfl,hz,he,q⟩:=h;obtain⟨t,rfl⟩:=rx;obtain⟨t',rfl⟩:=ry;obtain⟨j,h1,h2,h3,h4,h5⟩:=ud he;have hl:z.cps.toList.length=z.length:=by simp[Str.length]
 rw[hl] at h1 h4 h5;have hn:=lh;exact tail_any (NI s z t) slot_str_getitem.lookup (getItem_str (c:=c) (by
  have e1:decide (i < -(2 ^ 63:Int))=false:=L3 (by omega);have e2:decide (i ≥ 2 ^ 63)=false:=L3 (by omega);rw[e1,e2,Nr]) (by rw[h1];simpa using h2) ⟨.str ⟨#[c]⟩,H,I.tok _,⟨_,rfl⟩,q⟩) hs
theorem vT (its:N8)(n j:Nat)(u:Value):Obj.mapSeq (·.setIfInBounds j u) {cls:=.type "list",data:=.seq its.toArray n}={cls:=.type "list",data:=.seq (its.set j u).toArray n}:=by
 simp[Obj.mapSeq]
theorem Inv.lst {pins:N7}{σ:St}{H:Hp}{s:Shared}{p:Addr}{xs:List V}(I:Inv X pins σ H s)(h:H p=some (.lst xs)) :
  ∃(its:N8) (n:Nat),Vals xs its/\s.heap.get? p=some {cls:=.type "list",data:=.seq its.toArray n}/\xs.length<=sizeLine:=by
 obtain⟨z,its,n,r,e⟩:=I.bw p _ h;exact⟨its,n,r,e,z⟩
theorem Inv.GY {pins:N7}{σ:St}{H:Hp}{s:Shared}{p:Addr}{xs ys:List V}{its its':N8}{n n':Nat}{f:Obj->Obj}(I:Inv X pins σ H s)(h:H p=some (.lst xs))
  (ho:s.heap.get? p=some {cls:=.type "list",data:=.seq its.toArray n})(hf:f {cls:=.type "list",data:=.seq its.toArray n}={cls:=.type "list",data:=.seq its'.toArray n'})(r:Vals ys its')(hz:ys.length<=sizeLine)(t:Nat) :
  Inv X pins σ (upd H p (.lst ys)) {s with heap:=s.heap.update p f,toks:=t}:=by
 have e:(s.heap.update p f).get? p=some {cls:=.type "list",data:=.seq its'.toArray n'}:=by
  rw[Md f ho (by rw[hf] <;> rfl),hf]
 refine I.write (x:=p) (e:=p) (by rw[h];trivial) (.inl rfl) (λb u hb q=>(Na _ _ (NU hb)).trans q) ⟨_,e⟩ ?_;exact⟨hz,its',n',r,e⟩
def Ib:V->V->V->Hp->(Hp->Prop)->Prop:=λo i v H Q=>∃p xs k j,o=.ref p/\i=.int k/\H p=some (.lst xs)/\Ep xs.length k=some j/\Q (upd H p (.lst (xs.set j v)))
theorem set_list:JD X Ib:=by
 intro pins s σ H o i v ov iv u Q I ro ri rv h;obtain⟨p,xs,k,j,rfl,rfl,hp,hj,q⟩:=h;cases ro;obtain⟨t,rfl⟩:=ri;obtain⟨its,n,r,ho,hz⟩:=I.lst hp;obtain⟨h1,h2,h3,h4⟩:=yi hj;have hl:=r.length;have hn:=lh;have I':Inv X pins σ (upd H p (.lst (xs.set j v))) {s with heap:=s.heap.update p (Obj.mapSeq (·.setIfInBounds j u))} :=
  I.GY hp ho (vT its n j u) (r.set rv j) (by rw[List.length_set];exact hz) s.toks
 by_cases h0:0<=k
 · have hk:k.toNat=j:=by
    rw[seqIndex_of h0 h4] at h1;exact LQ h1
   exact PySem.W.ki_setAt ho h0 (by omega) (by rw[Lz,←hl];exact h4) (by rw[hk];exact⟨_,I',q⟩)
 · have hk:(k+(its.toArray.size:Int)).toNat=j:=by
    rw[seqIndex_neg (by omega) h3] at h1;rw[Lz,←hl];exact LQ h1
   exact PySem.W.ki_setBack ho (by omega) (by rw[Lz,←hl];exact h3) (by omega) (by rw[hk];exact⟨_,I',q⟩)
theorem sN (lo hi:Option Int)(n:Nat):(sliceBounds lo hi none n).1=((HT.b8 n 0 lo:Nat):Int)/\(sliceBounds lo hi none n).2.1=((HT.b8 n n hi:Nat):Int)/\(sliceBounds lo hi none n).2.2=1:=by
 refine⟨?_,?_,rfl⟩
 · cases lo with
   |none=>simp[sliceBounds,HT.b8]
   |some i =>
    simp only[sliceBounds,HT.b8,Option.getD_none,show (1:Int) > 0 by decide,MX];by_cases h:i < 0
    · simp only[h,MX] <;> omega
    · simp only[h,Nc] <;> omega
 · cases hi with
   |none=>simp[sliceBounds,HT.b8]
   |some i =>
    simp only[sliceBounds,HT.b8,Option.getD_none,show (1:Int) > 0 by decide,MX];by_cases h:i < 0
    · simp only[h,MX] <;> omega
    · simp only[h,Nc] <;> omega
theorem qJ (its:N8)(lo hi:Option Int):slicePick its.toArray lo hi none=((its.drop (HT.b8 its.length 0 lo)).take (HT.b8 its.length its.length hi - HT.b8 its.length 0 lo)).toArray:=by
 obtain⟨h1,h2,h3⟩:=sN lo hi its.toArray.size;unfold slicePick;rw[h1,h2,h3];simp only[sliceRange_one,pick_run,Lz] <;> rfl
def J6 (K:N4):V->Option Int->Option Int->Hp->VK->Prop:=λx lo hi H Q=>∃a xs,x=.ref a/\aU K H a xs/\∀p,H p=none->Q (.ref p) (upd H p (.lst (fA xs lo hi)))
theorem fk:HZ X (J6 X.K):=by
 intro pins s σ H x v vl vu lo hi sl Q I rx hs pl pu h;obtain⟨a,xs,rfl,hx,q⟩:=h;cases rx;obtain⟨its,r,ht,hz⟩:=I.list hx;have hlen:=r.length;refine⟨"list",_,slot_list_getitem.lookup,ht.isList.typeIs,?_⟩;refine wpAny_getItem_list_slice ht.isList hs pl pu .none (by simp) ?_ (by rw[Lz] <;> omega);rw[qJ,←hlen];refine⟨.ref s.heap.objs.size,_,I.laid (t':=s.toks) (o:=.lst (fA xs lo hi)) (λb ob q=>Lh _ q) (Ln _) ?_,rfl,q _ (I.bw.fresh (Ln _))⟩;exact⟨L1 (nM xs lo hi) hz,_,0,(r.drop (HT.b8 xs.length 0 lo)).take (HT.b8 xs.length xs.length hi - HT.b8 xs.length 0 lo),Lu _ rfl⟩
def dJ:V->Bool
 |.cj=>true
 |.bl _=>true
 |.int _=>true
 |.str _=>true
 |_=>false
def rO:V->V->Bool
 |.cj,.cj=>true
 |.bl a,.bl b=>a==b
 |.bl a,.int b=>(if a then 1 else 0)==b
 |.int a,.bl b=>a==(if b then 1 else 0)
 |.int a,.int b=>a==b
 |.str a,.str b=>a==b
 |_,_=>false
theorem GV {A:Around}{s:Shared}{y x:V}{u v:Value}(ry:RelV y u)(rx:RelV x v)(fy:dJ y=true)(fx:dJ x=true):SeqAt.EqAt A s u v (rO y x):=by
 cases y with
 |cj =>
  cases ry;cases x with
  |cj=>cases rx;exact SeqAt.EqAt.same _
  |bl b=>cases rx;exact SeqAt.EqAt.none_bool b
  |int b=>obtain⟨t,rfl⟩:=rx;exact SeqAt.EqAt.none_int b t
  |str b=>obtain⟨t,rfl⟩:=rx;exact SeqAt.EqAt.none_str b t
  |_=>exact absurd (show false=true from fx) LC
 |bl a =>
  cases ry;cases x with
  |cj=>cases rx;exact SeqAt.EqAt.bool_none a
  |bl b=>cases rx;exact SeqAt.EqAt.bool_bool a b
  |int b=>obtain⟨t,rfl⟩:=rx;exact SeqAt.EqAt.bool_int a b t
  |str b=>obtain⟨t,rfl⟩:=rx;exact SeqAt.EqAt.bool_str a b t
  |_=>exact absurd (show false=true from fx) LC
 |int a =>
  obtain⟨t',rfl⟩:=ry;cases x with
  |cj=>cases rx;exact SeqAt.EqAt.int_none a t'
  |bl b=>cases rx;exact SeqAt.EqAt.int_bool a t' b
  |int b=>obtain⟨t,rfl⟩:=rx;exact SeqAt.EqAt.int_int a t' b t
  |str b=>obtain⟨t,rfl⟩:=rx;exact SeqAt.EqAt.int_str a t' b t
  |_=>exact absurd (show false=true from fx) LC
 |str a =>
  obtain⟨t',rfl⟩:=ry;cases x with
  |cj=>cases rx;exact SeqAt.EqAt.str_none a t'
  |bl b=>cases rx;exact SeqAt.EqAt.str_bool a t' b
  |int b=>obtain⟨t,rfl⟩:=rx;exact SeqAt.EqAt.str_int a t' b t
  |str b=>obtain⟨t,rfl⟩:=rx;exact SeqAt.EqAt.str_str a t' b t
  |_=>exact absurd (show false=true from fx) LC
 |_=>exact absurd (show false=true from fy) LC
def vP (x:V)(u:Value):Bool:=match u with
 |.none=>rO .cj x
 |.bool b=>rO (.bl b) x
 |.int i _=>rO (.int i) x
 |.str z _=>rO (.str z) x
 |_=>false
theorem lr {x y:V}{u:Value}(r:RelV y u)(f:dJ y=true):vP x u=rO y x:=by
 cases y with
 |cj=>cases r;rfl
 |bl b=>cases r;rfl
 |int i=>obtain⟨t,rfl⟩:=r;rfl
 |str z=>obtain⟨t,rfl⟩:=r;rfl
 |_=>exact absurd (show false=true from f) LC
theorem lQ {x:V}:∀{xs:List V} {us:N8},Vals xs us->xs.all dJ=true->us.any (vP x)=xs.any λy=>rO y x
 |_,_,.nil,_=>rfl
 |y::xs,u::us,.cons r t,f=>by
  rw[Nq,Ll] at f;rw[MM,MM,lr r f.1,lQ t f.2]
theorem gj {A:Around}{s:Shared}{x:V}{v:Value}(rx:RelV x v)(fx:dJ x=true):∀{xs:List V} {us:N8},Vals xs us->xs.all dJ=true->∀u∈us,SeqAt.EqAt A s u v (vP x u)
 |_,_,.nil,_=>λu hu=>by cases hu
 |y::xs,u::us,.cons r t,f=>λu' hu=>by
  rw[Nq,Ll] at f;rcases Li.mp hu with rfl|hu
  · rw[lr r f.1];exact GV r rx f.1 fx
  · exact gj rx fx t f.2 u' hu
def n9 (x:V)(xs:List V):Bool:=xs.any λy=>rO y x
def FU (K:N4)(neg:Bool):R2:=λx y H Q=>∃p xs,y=.ref p/\(aU K H p xs∨bZ K H p xs)/\dJ x=true/\xs.all dJ=true/\Q (.bl (if neg then !n9 x xs else n9 x xs)) H
theorem gc:jv X (compareOp .In) (FU X.K false):=by
 intro pins s σ H x y v u Q I rx ry h;obtain⟨p,xs,rfl,hq,fx,fs,q⟩:=h;cases ry;rcases hq with hq|hq
 · obtain⟨its,r,pl,hz⟩:=I.list hq;refine SeqAt.in_listAt (vP x) pl.isList (λw hw=>gj rx fx r fs w (by simpa using hw)) ⟨.bl _,H,I,rfl,?_⟩;rw[show its.toArray.any (vP x)=its.any (vP x) by simp,lQ r fs];exact q
 · obtain⟨its,r,pl,hz⟩:=I.tuple hq;refine SeqAt.in_tupleAt (vP x) pl (λw hw=>gj rx fx r fs w (by simpa using hw)) ⟨.bl _,H,I,rfl,?_⟩;rw[show its.toArray.any (vP x)=its.any (vP x) by simp,lQ r fs];exact q
theorem eK:jv X (compareOp .NotIn) (FU X.K true):=by
 intro pins s σ H x y v u Q I rx ry h;obtain⟨p,xs,rfl,hq,fx,fs,q⟩:=h;cases ry;rcases hq with hq|hq
 · obtain⟨its,r,pl,hz⟩:=I.list hq;refine SeqAt.notIn_listAt (vP x) pl.isList (λw hw=>gj rx fx r fs w (by simpa using hw)) ⟨.bl _,H,I,rfl,?_⟩;rw[show its.toArray.any (vP x)=its.any (vP x) by simp,lQ r fs];exact q
 · obtain⟨its,r,pl,hz⟩:=I.tuple hq;refine SeqAt.notIn_tupleAt (vP x) pl (λw hw=>gj rx fx r fs w (by simpa using hw)) ⟨.bl _,H,I,rfl,?_⟩;rw[show its.toArray.any (vP x)=its.any (vP x) by simp,lQ r fs];exact q
theorem aA:iu X (.builtin "len") (λxs H Q=>∃p ys,xs=[.ref p]/\(aU X.K H p ys∨bZ X.K H p ys)/\Q (.int ys.length) H):=by
 intro pins s σ H xs us Q I r h;obtain⟨p,ys,rfl,hq,q⟩:=h;obtain⟨u,rfl,rx⟩:=vals1 r;cases rx;have hn:=lh;rcases hq with hq|hq
 · obtain⟨its,r',pl,hz⟩:=I.list hq;have hlen:=r'.length;exact Calls.call_len_list pl.isList (by simp only[Lz] <;> omega) ⟨.int ys.length,H,I.tok _,⟨s.toks+1,by rw[Lz,hlen]⟩,q⟩
 · obtain⟨its,r',pl,hz⟩:=I.tuple hq;have hlen:=r'.length;exact len_tuple pl (by simp only[Lz] <;> omega) ⟨.int ys.length,H,I.tok _,⟨s.toks+1,by rw[Lz,hlen]⟩,q⟩
theorem fM:iu X (.builtin "len") (λxs H Q=>∃z,xs=[.str z]/\z.length<=sizeLine/\Q (.int z.length) H):=by
 intro pins s σ H xs us Q I r h;obtain⟨z,rfl,hz,q⟩:=h;obtain⟨u,rfl,t,rfl⟩:=vals1 r;have hn:=lh;exact len_str (by omega) ⟨.int z.length,H,I.tok _,⟨_,rfl⟩,q⟩
theorem qE:iu X (.type "tuple") (λxs H Q=>∃p ys,xs=[.ref p]/\((aU X.K H p ys/\∀l,H l=none->Q (.ref l) (upd H l (.tup ys)))∨(bZ X.K H p ys/\Q (.ref p) H))):=by
 intro pins s σ H xs us Q I r h;obtain⟨p,ys,rfl,h⟩:=h;obtain⟨u,rfl,rx⟩:=vals1 r;cases rx;rcases h with ⟨hq,q⟩|⟨hq,q⟩
 · obtain⟨its,r',pl,hz⟩:=I.list hq;have hlen:=r'.length;refine call_tuple_list pl.isList (λh' kp=>?_) (by simp only[Lz] <;> omega);have I1:Inv X pins σ H {s with heap:=h'}:=I.kept (t':=s.toks) kp;have I2:Inv X pins σ (upd H h'.objs.size (.tup ys)) {s with heap:=h'.push {cls:=.type "tuple",data:=.seq its.toArray}} :=
    I1.laid (t':=s.toks) (λb o e=>Lh _ e) (Ln _) (show bL X.prog X.w _ _ _ (.tup ys) from ⟨hz,its,r',IsTup.new _ _⟩)
   exact⟨.ref h'.objs.size,_,I2,rfl,q _ (I1.bw.fresh (Ln _))⟩
 · obtain⟨its,r',pl,hz⟩:=I.tuple hq;exact call_tuple_same pl ⟨.ref p,H,I,rfl,q⟩
def KG (K:N4)(T:String)(x:V)(H:Hp):Prop:=match x with
 |.str _=>T="str"
 |.int _=>T="int"
 |.ref p=>(T="list"/\∃xs,aU K H p xs)∨(T="tuple"/\∃o,K.lookup p=some o/\o.cls=.type "tuple"/\o.dict=none) ∨
   (T="dict"/\((∃kvs,H p=some (.dK kvs))∨∃kvs,H p=some (.dT kvs)))∨(T="set"/\∃S n,H p=some (.set S n))
 |_=>False
theorem Hv {pins:N7}{σ:St}{H:Hp}{s:Shared}{T:String}{x:V}{v:Value}(I:Inv X pins σ H s)(r:RelV x v)(ty:KG X.K T x H) :
  s.TypeIs v T/\∀a,v=.ref a->∃ob,s.heap.get? a=some ob/\ob.dict=none:=by
 cases x with
 |str z =>
  obtain⟨t,rfl⟩:=r;cases (show T="str" from ty);exact⟨NI s z t,λ_ e=>nomatch e⟩
 |int i =>
  obtain⟨t,rfl⟩:=r;cases (show T="int" from ty);exact⟨typeIs_int s i t,λ_ e=>nomatch e⟩
 |ref p =>
  cases r;rcases ty with ⟨rfl,xs,hq⟩|⟨rfl,o,hk,hc,hd⟩|⟨rfl,hk⟩|⟨rfl,S,n,hk⟩
  · obtain⟨its,_,pl,_⟩:=I.list hq;refine⟨pl.isList.typeIs,λa e=>?_⟩;cases e;obtain⟨o,n,e,c,hd,_⟩:=pl;exact⟨o,e,hd⟩
  · refine⟨⟨o,I.mP p o hk,hc⟩,λa e=>?_⟩;cases e;exact⟨o,I.mP _ o hk,hd⟩
  · have z:∃o,s.heap.get? p=some o/\o.ExactDict:=by
     rcases hk with ⟨kvs,hk⟩|⟨kvs,hk⟩
     · obtain⟨_,_,_,_,o,_,_,e,ex,_⟩:=I.bw p _ hk;exact⟨o,e,ex⟩
     · obtain⟨_,_,_,_,o,_,_,e,ex,_⟩:=I.bw p _ hk;exact⟨o,e,ex⟩
    obtain⟨o,e,ex⟩:=z;refine⟨⟨o,e,ex.1⟩,λa e2=>?_⟩;cases e2;exact⟨o,e,ex.2.1⟩
  · obtain⟨o,_,_,_,e,ex,_⟩:=I.bw p _ hk;refine⟨⟨o,e,ex.1⟩,λa e2=>?_⟩;cases e2;exact⟨o,e,ex.2.1⟩
 |_=>exact False.elim ty
def Lb (K:N4)(T:String)(r:V->List V->Hp->VK->Prop)(to:TE)(t:TA):TE:=λσ H Q=>to σ H λx H1=>KG K T x H1/\t σ H1 λxs H2=>r x xs H2 Q
variable {o e:Expr}{es:List Expr}{to:TE}{t:TA}{name:Str}{apos cpos:Pos}{T id:String}{r:V->List V->Hp->VK->Prop}
theorem p_ (pa:PlainAttrs T) (slot:Slot T name id) (hty:typeOf (.builtin id)=pure (.type "method_descriptor")) (hm:Bu X id r) (ho:PE X o to) (ha:PA X (e::es) t)
  (hbase:attributeBase o name X.env (eval o X.env)=eval o X.env:=by rfl)
  (hfew:((backTo cpos (starEach (e::es) X.env)).all (λx=>!x.1)&&(backToKw cpos (keywordEach [] X.env)).all (λx=>x.1.isSome)
   && decide ((e::es).length+([]:List Keyword).length+(if ([]:List Keyword).isEmpty then 0 else 1) < 30))=true:=by rfl)
  (hline:(apos.endLine==cpos.line)=true:=by rfl) (hs:starEach (e::es) X.env=(false,eval e X.env)::starEach es X.env:=by rfl) (hplain:(backTo cpos (starEach es X.env)).any (·.1)=false:=by rfl) :
  PE X (.Call (.Attribute o name apos) (e::es) [] cpos) (Lb X.K T r to t):=by
 intro pins s σ H Q I h;refine wpAny_Call_method_late hbase hfew hline rfl (bB (ho pins s σ H _ I h) λv s1 ⟨x,H1,I1,r1,ty,q1⟩=>?_);obtain⟨h1,h2⟩:=Hv I1 r1 ty;refine⟨T,id,pa,slot,hty,h1,h2,?_⟩;have hA:=ha cpos pins s1 σ H1 _ I1 q1;rw[hs] at hA ⊢;refine NG (by show (false||(backTo cpos (starEach es X.env)).any (·.1))=false;rw[hplain] <;> rfl) (Calls.evalArgs_plain ?_);exact bB hA λus s2 ⟨vs,H2,I2,r2,q2⟩=>hm pins s2 σ H2 x vs v us Q I2 r1 r2 q2
end
def KO (X:Cx)(id:String)(r:V->List V->Hp->VK->Prop):Prop :=
 ∀(pins:N7) (s:Shared) (σ:St) (H:Hp) (x:V) (xs:List V) (v:Value) (us:N8) (Q:VK),Inv X pins σ H s->RelV x v->Vals xs us->r x xs H Q ->
  wpAny (model X.prog X.w) X.A (call (.builtin id) (v::us)) (EP X pins σ Q) X.xe s
theorem Vals.one:∀{x:V} {us:N8},Vals [x] us->∃u,us=[u]/\RelV x u
 |_,_,.cons r .nil=>⟨_,rfl,r⟩
section
variable {X:Cx}{pins:N7}{σ:St}{H:Hp}{s:Shared}{l b:Addr}{xs ys zs:List V}
theorem Inv.JO {its its':N8} {n:Nat} {f:Array Value->Array Value} {t':Nat} (I:Inv X pins σ H s) (hH:H l=some (.lst xs))
  (e:s.heap.get? l=some {cls:=.type "list",data:=.seq its.toArray n}) (hf:f its.toArray=its'.toArray) (hv:Vals ys its') (hz:ys.length<=sizeLine) :
  Inv X pins σ (upd H l (.lst ys)) {s with heap:=s.heap.update l (Obj.mapSeq f),toks:=t'}:=by
 have q:=PySem.IsL.update e f;rw[hf] at q;refine I.write (x:=l) (e:=l) (by rw[hH];exact trivial) (.inl rfl) (λb' u hb hu=>(Na s.heap (Obj.mapSeq f) (NU hb)).trans hu) ⟨_,q⟩ ?_;exact⟨hz,its',_,hv,q⟩
theorem Inv.JN {its:N8}{t':Nat}(I:Inv X pins σ H s)(hv:Vals ys its)(hz:ys.length<=sizeLine) :
  Inv X pins σ (upd H s.heap.objs.size (.lst ys)) {s with heap:=s.heap.push {cls:=.type "list",data:=.seq its.toArray},toks:=t'} :=
 I.laid (λ_ _ q=>Lh _ q) (Ln _) ⟨hz,its,0,hv,Lu _ rfl⟩
theorem Inv.fresh (I:Inv X pins σ H s):H s.heap.objs.size=none:=I.bw.fresh (Ln _)
theorem Inv.Gk (I:Inv X pins σ H s)(hH:H l=some (.lst xs)):xs.length<=sizeLine/\∃(its:N8) (n:Nat),Vals xs its/\xs.length=its.length/\s.heap.get? l=some {cls:=.type "list",data:=.seq its.toArray n}:=by
 obtain⟨z,its,n,r,e⟩:=I.bw l _ hH;exact⟨z,its,n,r,r.length,e⟩
end
section
variable {X:Cx}
def DR:V->List V->Hp->VK->Prop:=λx vs H Q=>∃l xs y,x=.ref l/\vs=[y]/\H l=some (.lst xs)/\xs.length < sizeLine/\Q .cj (upd H l (.lst (xs++[y])))
theorem ij:KO X "list.append" DR:=by
 intro pins s σ H x vs v us Q I rx rv h;obtain⟨l,xs,y,rfl,rfl,hH,hz,q⟩:=h;cases rx;obtain⟨u,rfl,ru⟩:=rv.one;obtain⟨z,its,n,r,hl,e⟩:=I.Gk hH;refine call_meets F.slot_list_append ⟨_,e,rfl⟩ F.entry_list_append (F.args_list_append_2 _ _) (PySem.list_append l its.toArray n u (by rw[Lz];omega)) ⟨e,?_⟩;refine⟨.cj,_,I.JO (its':=its++[u]) hH e (by simp) (r.append (.cons ru .nil)) ?_,rfl,q⟩;rw[LA,Ms];omega
def Km:R2:=λx y H Q=>∃l b xs zs,x=.ref l/\y=.ref b/\H l=some (.lst xs)/\H b=some (.lst zs)/\xs.length+zs.length<=sizeLine/\∀p,H p=none->Q (.ref p) (upd H p (.lst (xs++zs)))
theorem xu:jv X (binaryOp .Add) Km:=by
 intro pins s σ H x y v u Q I rx ry h;obtain⟨l,b,xs,zs,rfl,rfl,hH,hB,hz,q⟩:=h;cases rx;cases ry;obtain⟨z,its,n,r,hl,e⟩:=I.Gk hH;obtain⟨z2,its2,n2,r2,hl2,e2⟩:=I.Gk hB;refine PySem.P.add_list e e2 ?_ (by rw[Lz,Lz];omega);have ea:its.toArray++its2.toArray=(its++its2).toArray:=by simp
 rw[ea];exact⟨.ref _,_,I.JN (t':=s.toks) (r.append r2) (by rw[LA];omega),rfl,q _ I.fresh⟩
end
section
variable {prog:Program}{w:World}{A:Around}{E:N5}{s:Shared}
end
section
variable {X:Cx}
end
theorem Vals.ints:∀{ns:List Int} {us:N8},Vals (ns.map V.int) us->IntsAre us ns
 |[],us,h=>by
  rw[MD] at h;cases h;exact IntsAre.nil
 |n::ns,us,h=>by
  rw[Lv] at h;cases h with
  |cons r t =>
   obtain⟨k,rfl⟩:=r;exact IntsAre.cons n k (Vals.ints t)
theorem ml:∀{us:N8} {ns:List Int},IntsAre us ns->Vals (ns.map V.int) us
 |_,_,.nil=>by rw[MD];exact Paired.nil
 |_,_,.cons n t h=>by rw[Lv];exact Paired.cons (show RelV (V.int n) (Value.int n t) from ⟨t,rfl⟩) (ml h)
theorem Vals.JS:∀{bs:List Bool} {us:N8},Vals (bs.map V.bl) us->us=bs.map Value.bool
 |[],us,h=>by
  rw[MD] at h;cases h;rfl
 |b::bs,us,h=>by
  rw[Lv] at h;cases h with
  |cons r t =>
   cases r;rw[Vals.JS t,Lv]
theorem Vals.wo {a:Addr}{us:N8}(r:Vals [V.ref a] us):us=[Value.ref a]:=by
 cases r with
 |cons r t =>
  cases t;cases r;rfl
section
variable {prog:Program}{w:World}{A:Around}{E:N5}{s:Shared}{l:Addr}{its:N8}{ns:List Int}{Q:N5}
theorem Ez (hh:A.handled=none) (hl:s.heap.IsList l its.toArray) (hi:IntsAre its ns)
  (h:∀h' tk t',(∀b o,s.heap.get? b=some o->h'.get? b=some o)->Q (.int ns.sum t') {s with heap:=h',toks:=tk}):wpAny (model prog w) A (call (.builtin "sum") [.ref l]) Q E s:=by
 obtain⟨xs,e⟩:=hi.allInts.items;have hn:numsOf (intItems xs).toList=ns:=by rw[←e];exact hi.numsOf
 rw[nums_intItems] at hn;rw[e] at hl;refine PySem.sum_intListG hh hl λh' tk t' hk=>?_;have:=h h' tk t' hk;rw[preSum_eq,Ma (by simp),hn];exact this
end
section
variable {X:Cx}
def Io (K:N4):List V->Hp->VK->Prop:=λvs H Q=>∃(a:Addr) (ns:List Int),vs=[V.ref a]/\aU K H a (ns.map V.int)/\Q (.int ns.sum) H
theorem xw (hc:X.calm=true):iu X (.builtin "sum") (Io X.K):=by
 intro pins s σ H vs us Q I r h;obtain⟨a,ns,rfl,hs,q⟩:=h;obtain⟨its,rv,hl,_⟩:=I.list hs;rw[Vals.wo r];exact Ez (I.ok.hd hc) hl.isList rv.ints λh' tk t' hk=>⟨.int _,H,I.kept hk,⟨_,rfl⟩,q⟩
theorem yx {n:Nat}(h:n < 64):n<=sizeLine:=by rw[LG];omega
end
section
variable {X:Cx}
def Ge (K:N4):V->List V->Hp->VK->Prop:=λx xs H Q=>∃(a:Addr) (ys:List V) (y:V) (j:Nat) (z:V),x=V.ref a/\xs=[y]/\aU K H a ys/\dJ y=true/\ys.all dJ=true/\ys[j]?=some z/\rO z y=true /\
 (∀(m:Nat) (z':V),m < j->ys[m]?=some z'->rO z' y=false)/\Q (.int (j:Nat)) H
theorem y9 {ys:List V}(f:ys.all dJ=true){j:Nat}{z:V}(h:ys[j]?=some z):dJ z=true:=LI.mp f z (LH h)
theorem BI:Bu X "list.index" (Ge X.K):=by
 intro pins s σ H x xs v us Q I rx rxs h;obtain⟨a,ys,y,j,z,rfl,rfl,hs,fy,fys,hz,hzj,hno,q⟩:=h;cases rx;cases rxs with
 |cons ry rt =>
  rename_i uy ut;cases rt;obtain⟨its,rv,⟨⟨cls,dd,data,sl⟩,n,ho,hc,hdn,hd⟩,hlen⟩:=I.list hs;simp only at hc hd;subst hc hd;obtain⟨u,hu,ru⟩:=rv.get hz;obtain⟨hjl,hje⟩:=Lr.mp hu;have hvl:=rv.length;have hj:j < its.toArray.size:=by simpa using hjl
  have hsl:=LG;refine call_meets PySem.F.slot_list_index ⟨_,ho,rfl⟩ PySem.F.entry_list_index (PySem.F.args_list_index_2 _ _)
   (SeqAt.list_indexAt a its.toArray n dd sl uy (vP y) j hj (by omega) ?_ ?_) ⟨ho,λu' hu'=>gj ry fy rv fys u' (by simpa using hu'),?_⟩
  · have e1:its.toArray[j]=u:=by simpa using hje
    rw[e1,lr ru (y9 fys hz)];exact hzj
  · intro m hm hmj;have hml:m < its.length:=by simpa using hm
    have hmy:m < ys.length:=by omega
    have hy':ys[m]?=some ys[m]:=Lo hmy;obtain⟨u2,hu2,ru2⟩:=rv.get hy';obtain⟨_,hme⟩:=Lr.mp hu2;have e1:its.toArray[m]=u2:=by simpa using hme
    rw[e1,lr ru2 (y9 fys hy')];exact hno m _ hmj hy'
  · exact⟨.int (j:Nat),H,I.tok _,⟨_,rfl⟩,q⟩
end
section
variable {X:Cx}
end
theorem va {prog:Program}{w:World}{A:Around}{E:N5}{s:Shared}{l:Addr}{items:Array Value}{Q:N5}(hl:s.heap.IsList l items)
  (h:∀s₂:Shared,s₂={s with heap:=s.heap.push {cls:=.type "list_iterator",data:=.fields #[.ref l,.int 0 0]}} ->
   (s₂.heap.IsListIter s.heap.objs.size l 0/\s₂.heap.IsList l items)->l≠s.heap.objs.size->Q (.ref s.heap.objs.size) s₂):wpAny (model prog w) A (pyIter (.ref l)) Q E s:=by
 have hlt:l < s.heap.objs.size:=by obtain⟨_,e,_⟩:=hl;exact Lq e
 exact wpAny_pyIter_list hl (h _ rfl ⟨⟨_,Lu _ rfl,rfl,rfl⟩,hl.push _⟩ (LP hlt))
theorem nq {prog:Program}{w:World}{A:Around}{bs:List Bool}{its:N8}(e:its=bs.map Value.bool) :
  TruthOf prog w A (λi v=>its.toArray[i]?=some v) (λi=>bs.getD i false):=λi v s Q E hv hq=>by
 have hv':its[i]?=some v:=by simpa using hv
 rw[e,Lj] at hv';obtain⟨b,hb,rfl⟩:=LO.mp hv';have hg:bs.getD i false=b:=by rw[LX,hb] <;> rfl
 have hq':Q (bs.getD i false) s:=hq;rw[hg] at hq';exact Mt hq'
theorem any_range:∀bs:List Bool,(List.range bs.length).any (λi=>bs.getD i false)=bs.any id
 |[]=>rfl
 |b::bs=>by
  rw[Lp,List.range_succ_eq_map,MM,ND,MM,←any_range bs]
  all_goals rfl
theorem all_range:∀bs:List Bool,(List.range bs.length).all (λi=>bs.getD i false)=bs.all id
 |[]=>rfl
 |b::bs=>by
  rw[Lp,List.range_succ_eq_map,Nq,Nl,Nq,←all_range bs]
  all_goals rfl
section
variable {X:Cx}
def Ka (K:N4):List V->Hp->VK->Prop:=λvs H Q=>∃(a:Addr) (bs:List Bool),vs=[V.ref a]/\aU K H a (bs.map V.bl)/\Q (.bl (bs.any id)) H
def Kn (K:N4):List V->Hp->VK->Prop:=λvs H Q=>∃(a:Addr) (bs:List Bool),vs=[V.ref a]/\aU K H a (bs.map V.bl)/\Q (.bl (bs.all id)) H
theorem Ax (hc:X.calm=true):iu X (.builtin "any") (Ka X.K):=by
 intro pins s σ H vs us Q I r h;obtain⟨a,bs,rfl,hs,q⟩:=h;obtain⟨its,rv,hl,_⟩:=I.list hs;rw[Vals.wo r];have hb:=rv.JS;refine call_any_walk (va hl.isList λs₂ e2 st hne=>?_);subst e2;refine⟨_,_,_,_,_,_,_,rfl,Walks.list (A:=X.A.in1) (I.ok.hd hc) _ a hne its.toArray,st,nq hb,λh' tk hk=>?_⟩;refine⟨.bl _,H,I.kept λb o eo=>hk b o (λhmem=>?_) (Lh _ eo),?_,q⟩
 · rcases Li.mp hmem with e1|hmem
   · exact absurd (e1 ▸ Lq eo) (Mz _)
   · cases hmem
 · show Value.bool _=Value.bool _;rw[←any_range,hb,Lz,Le]
theorem xm (hc:X.calm=true):iu X (.builtin "all") (Kn X.K):=by
 intro pins s σ H vs us Q I r h;obtain⟨a,bs,rfl,hs,q⟩:=h;obtain⟨its,rv,hl,_⟩:=I.list hs;rw[Vals.wo r];have hb:=rv.JS;refine call_all_walk (va hl.isList λs₂ e2 st hne=>?_);subst e2;refine⟨_,_,_,_,_,_,_,rfl,Walks.list (A:=X.A.in1) (I.ok.hd hc) _ a hne its.toArray,st,nq hb,λh' tk hk=>?_⟩;refine⟨.bl _,H,I.kept λb o eo=>hk b o (λhmem=>?_) (Lh _ eo),?_,q⟩
 · rcases Li.mp hmem with e1|hmem
   · exact absurd (e1 ▸ Lq eo) (Mz _)
   · cases hmem
 · show Value.bool _=Value.bool _;rw[←all_range,hb,Lz,Le]
end
mutual
inductive Dp (K:N4)(H:Hp):V->PyData->Prop
 |cj:Dp K H .cj .none
 |bl (b:Bool):Dp K H (.bl b) (.bool b)
 |int (i:Int):Dp K H (.int i) (.int i)
 |str (x:Str):Dp K H (.str x) (.str x)
 |lst {a:Addr} {xs:List V} {ds:List PyData}:aU K H a xs->rZ K H xs ds->Dp K H (.ref a) (.list ds)
 |tup {a:Addr} {xs:List V} {ds:List PyData}:bZ K H a xs->rZ K H xs ds->Dp K H (.ref a) (.tuple ds)
inductive rZ (K:N4)(H:Hp):List V->List PyData->Prop
 |nil:rZ K H [] []
 |cons {v:V} {vs:List V} {d:PyData} {ds:List PyData}:Dp K H v d->rZ K H vs ds->rZ K H (v::vs) (d::ds)
end
section
variable {X:Cx}{pins:N7}{σ:St}{H:Hp}{s:Shared}
mutual
theorem Dp.reads (I:Inv X pins σ H s):∀(d:PyData) (v:V) (u:Value),Dp X.K H v d->RelV v u->∃as,Reads s.heap u d as
 |.none,_,_,h,r=>by
  cases h;cases r;exact⟨_,Reads.none⟩
 |.bool b,_,_,h,r=>by
  cases h;cases r;exact⟨_,Reads.bool b⟩
 |.int i,_,_,h,r=>by
  cases h;obtain⟨t,rfl⟩:=r;exact⟨_,Reads.int i t⟩
 |.str x,_,_,h,r=>by
  cases h;obtain⟨t,rfl⟩:=r;exact⟨_,Reads.str x t⟩
 |.list ds,_,_,h,r=>by
  cases h with
  |lst hs ha =>
   cases r;obtain⟨its,rv,⟨o,n,ho,hc,_,hd⟩,_⟩:=I.list hs;obtain⟨as,hr⟩:=Dp.readsAll I ds _ its ha rv;exact⟨_,Reads.list ho hc hd hr⟩
 |.tuple ds,_,_,h,r=>by
  cases h with
  |tup hs ha =>
   cases r;obtain⟨its,rv,⟨o,ho,hc,n,hd⟩,_⟩:=I.tuple hs;obtain⟨as,hr⟩:=Dp.readsAll I ds _ its ha rv;exact⟨_,Reads.tuple ho hc hd hr⟩
 |.dict _,_,_,h,_=>by cases h
theorem Dp.readsAll (I:Inv X pins σ H s):∀(ds:List PyData) (vs:List V) (us:N8),rZ X.K H vs ds->Vals vs us->∃as,ReadsAll s.heap us ds as
 |[],_,_,h,r=>by
  cases h;cases r;exact⟨_,ReadsAll.nil⟩
 |d::ds,_,_,h,r=>by
  cases h with
  |cons h1 h2 =>
   cases r with
   |cons r1 r2 =>
    obtain⟨as,q1⟩:=Dp.reads I d _ _ h1 r1;obtain⟨bs,q2⟩:=Dp.readsAll I ds _ _ h2 r2;exact⟨_,ReadsAll.cons q1 q2⟩
end
end
section
variable {X:Cx}
def JQ (K:N4):R2:=λx y H Q=>∃d e,Dp K H x d/\Dp K H y e/\SeqAt.shaped d=true/\SeqAt.shaped e=true/\Q (.bl (PyData.eqv d e)) H
theorem Gr (hu:X.A.units+64 < cLine):jv X (compareOp .Eq) (JQ X.K):=by
 intro pins s σ H x y v u Q I rx ry h;obtain⟨d,e,hd,he,sd,se,q⟩:=h;obtain⟨as,r1⟩:=Dp.reads I d x v hd rx;obtain⟨bs,r2⟩:=Dp.reads I e y u he ry;exact SeqAt.compareEq_shaped r1 r2 sd se hu ⟨.bl _,H,I,rfl,q⟩
end
end L2
namespace L2
open PySem PySem.Spec PyProof.Rows
abbrev Ce (h:Heap)(c:Addr)(v:Option Value):Prop:=h.IsCell c v
def Kr (scope sc:Scope):Scope :=
 {scope with names:=scope.names.map λ(n,k)=>if (k==.free&&sc.kind==.function&&sc.names.lookup n==some .cell) then (n,.cell) else (n,k)}
def bM (cells:List (Str×Addr)):List (Str×NameKind)->List (Str×Addr)->List (Str×Addr)
 |[],acc=>acc
 |(n,k)::r,acc=>if k==.free then bM cells r ((n,(cells.lookup n).getD 0)::acc) else bM cells r acc
theorem mf (env:Env)(f:Str×NameKind->List (Str×Addr)->Sem (ForInStep (List (Str×Addr))))
  (hf:∀n k c,f (n,k) c=if k==.free then (do let a ←cellOf env n;pure (.yield ((n,a)::c))) else pure (.yield c)) :
  ∀(names:List (Str×NameKind)) (acc:List (Str×Addr)),(∀y∈names,y.2=.free->∃c,env.cells.lookup y.1=some c)->forIn names acc f=pure (bM env.cells names acc)
 |[],acc,_=>by rw[List.forIn_nil];rfl
 |(n,k)::r,acc,h=>by
  rw[List.forIn_cons,hf];have ih:=λacc=>mf env f hf r acc λy hy=>h y (Lw _ hy);unfold bM;by_cases hk:(k==NameKind.free)=true
  · rw[Lg hk,Lg hk];obtain⟨c,hc⟩:=h (n,k) L0 (by simpa using hk);have e:cellOf env n=pure c:=by unfold cellOf;rw[hc]
    rw[e];have e2:(env.cells.lookup n).getD 0=c:=by rw[hc];rfl
    rw[e2];exact ih _
  · rw[Lf hk,Lf hk];exact ih _
theorem xH {scope:Scope}{env:Env}(h:∀y∈scope.names,y.2=.free->∃c,env.cells.lookup y.1=some c):closureFor scope env=pure (bM env.cells scope.names []):=by
 simp only[closureFor];rw[mf env _ (λn k c=>rfl) scope.names [] h];rfl
theorem mem_lookup {α:Type}:∀{l:List (Str×α)} {n:Str} {c:α},(n,c)∈l->∃c',l.lookup n=some c'
 |(k,v)::r,n,c,h=>by
  rw[M4];cases hb:n==k with
  |true=>exact⟨_,rfl⟩
  |false =>
   rcases Li.mp h with e|h
   · cases e;simp at hb
   · exact mem_lookup h
theorem gK {cells:List (Str×Addr)}:∀{names:List (Str×NameKind)} {acc:List (Str×Addr)} {n:Str} {c:Addr},(n,c)∈bM cells names acc->(n,c)∈acc∨((n,.free)∈names/\c=(cells.lookup n).getD 0)
 |[],_,_,_,h=>.inl h
 |(m,k)::r,acc,n,c,h=>by
  unfold bM at h;split at h
  · rename_i hk;have hk:k=.free:=by simpa using hk
    rcases gK h with h|⟨h1,h2⟩
    · rcases Li.mp h with e|h
      · cases e;exact .inr ⟨hk ▸ L0,rfl⟩
      · exact .inl h
    · exact .inr ⟨Lw _ h1,h2⟩
  · rcases gK h with h|⟨h1,h2⟩
    · exact .inl h
    · exact .inr ⟨Lw _ h1,h2⟩
theorem jz {cells:List (Str×Addr)}:∀{names:List (Str×NameKind)} {acc:List (Str×Addr)} {p:Str×Addr},p∈acc->p∈bM cells names acc
 |[],_,_,h=>h
 |(m,k)::r,acc,p,h=>by
  unfold bM;split
  · exact jz (Lw _ h)
  · exact jz h
theorem jA {cells:List (Str×Addr)}:∀{names:List (Str×NameKind)} {acc:List (Str×Addr)} {n:Str},(n,.free)∈names->(n,(cells.lookup n).getD 0)∈bM cells names acc
 |(m,k)::r,acc,n,h=>by
  unfold bM;rcases Li.mp h with e|h
  · cases e;exact jz L0
  · split
    · exact jA h
    · exact jA h
theorem ie:∀{names:List (Str×NameKind)} {h:Heap} {acc:List (Str×Addr)} {x:Str} {c:Addr},(x,c)∈cellsFrom h.objs.size names acc ->
  (x,c)∈acc∨((x,.cell)∈names/\h.objs.size<=c/\Ce (pushCells h names) c none)
 |[],_,_,_,_,h=>.inl h
 |(n,k)::r,h,acc,x,c,hm=>by
  unfold cellsFrom at hm;unfold pushCells;split at hm
  · rename_i hk;rw[Lg hk];have hk:k=.cell:=by simpa using hk
    rw[←Mn h {cls:=.type "cell",data:=.cell none}] at hm;rcases ie hm with hm|⟨h1,h2,h3⟩
    · rcases Li.mp hm with e|hm
      · cases e;exact .inr ⟨hk ▸ L0,Ln _,_,pushCells_keeps r _ _ _ (Lu _ rfl),rfl⟩
      · exact .inl hm
    · rw[Mn] at h2;exact .inr ⟨Lw _ h1,Nat.le_of_succ_le h2,h3⟩
  · rename_i hk;rw[Lf hk];rcases ie hm with hm|⟨h1,h2,h3⟩
    · exact .inl hm
    · exact .inr ⟨Lw _ h1,h2,h3⟩
theorem ko:∀{names:List (Str×NameKind)} {n:Nat} {acc:List (Str×Addr)} {p:Str×Addr},p∈acc->p∈cellsFrom n names acc
 |[],_,_,_,h=>h
 |(m,k)::r,n,acc,p,h=>by
  unfold cellsFrom;split
  · exact ko (Lw _ h)
  · exact ko h
theorem mX:∀{names:List (Str×NameKind)} {n:Nat} {acc:List (Str×Addr)} {x:Str},(x,.cell)∈names->∃c,(x,c)∈cellsFrom n names acc
 |(m,k)::r,n,acc,x,h=>by
  unfold cellsFrom;rcases Li.mp h with e|h
  · cases e;exact⟨n,ko L0⟩
  · split
    · exact mX h
    · exact mX h
theorem m8:∀{names:List (Str×NameKind)} {h:Heap} {acc:List (Str×Addr)} {x y:Str} {c:Addr},(∀p∈acc,p.2 < h.objs.size)->(∀x y c,(x,c)∈acc->(y,c)∈acc->x=y) ->
  (x,c)∈cellsFrom h.objs.size names acc->(y,c)∈cellsFrom h.objs.size names acc->x=y
 |[],_,_,_,_,_,_,hi,h1,h2=>hi _ _ _ h1 h2
 |(n,k)::r,h,acc,x,y,c,hl,hi,h1,h2=>by
  unfold cellsFrom at h1 h2;split at h1
  · rename_i hk;rw[Lg hk] at h2;rw[←Mn h {cls:=.type "cell",data:=.cell none}] at h1 h2;refine m8 (h:=h.push _) (λp hp=>?_) (λx y c a b=>?_) h1 h2
    · rw[Mn];rcases Li.mp hp with rfl|hp
      · exact NJ _
      · exact Nat.lt_succ_of_lt (hl p hp)
    · rcases Li.mp a with e|a <;> rcases Li.mp b with e'|b
      · cases e;cases e';rfl
      · cases e;exact absurd (hl _ b) (Mz _)
      · cases e';exact absurd (hl _ a) (Mz _)
      · exact hi _ _ _ a b
  · rename_i hk;rw[Lf hk] at h2;exact m8 hl hi h1 h2
theorem vE {M:Model}{A:Around}{E:N5}{s:Shared}{scope:Scope}{globals:Addr}{closure:List (Str×Addr)}{qual:Str}{func:Option Addr}{code:Value}{around:Env}{builtins:Addr}{Q:Env->Shared->Prop}
  (h:Q (newEnv scope s.heap.objs.size globals (cellsFrom (s.heap.objs.size+1) scope.names closure) qual func code (some around) builtins)
   {s with heap:=pushCells (s.heap.push {cls:=.type "dict",data:=.dict #[]}) scope.names}) :
  wpAny M A (newFunctionEnv scope globals closure [] qual func code (some around) builtins) Q E s:=by
 simp only[newFunctionEnv,Option.isSome_some,MX];refine Ld (wpAny_alloc ?_);refine Ld (wpAny_layCells _ (λn k c=>rfl) scope.names closure _ _ ?_);rw[show ({s with heap:=s.heap.push {cls:=.type "dict",data:=.dict #[]}}:Shared).heap.objs.size=s.heap.objs.size+1 from Mn ..];rw[List.forIn_nil];exact Ld (Lk (Lk h))
theorem jI {sc:Scope}:∀{names:List (Str×NameKind)} {x:Str} {k:NameKind},
  (names.map λ(n,k)=>if (k==NameKind.free&&sc.kind==.function&&sc.names.lookup n==some .cell) then (n,NameKind.cell) else (n,k)).lookup x=some k ->
  ∃k',names.lookup x=some k'/\(k=k'∨(k'=.free/\k=.cell))
 |[],_,_,h=>by simp at h
 |(n,k₀)::r,x,k,h=>by
  have ih:=@jI sc r x k;have h':List.lookup x ((if (k₀==NameKind.free&&sc.kind==.function&&sc.names.lookup n==some .cell)=true then (n,NameKind.cell) else (n,k₀))::(r.map _))=some k:=h;cases hx:x==n with
  |true =>
   simp only[M4,hx];by_cases hc:(k₀==NameKind.free&&sc.kind==.function&&sc.names.lookup n==some .cell)=true
   · rw[Lg hc] at h';simp only[M4,hx] at h';cases h';simp only[Ll,L5] at hc;exact⟨k₀,rfl,.inr ⟨hc.1.1,rfl⟩⟩
   · rw[Lf hc] at h';simp only[M4,hx] at h';cases h';exact⟨_,rfl,.inl rfl⟩
  |false =>
   simp only[M4,hx];by_cases hc:(k₀==NameKind.free&&sc.kind==.function&&sc.names.lookup n==some .cell)=true
   · rw[Lg hc] at h';simp only[M4,hx] at h';exact ih h'
   · rw[Lf hc] at h';simp only[M4,hx] at h';exact ih h'
structure uU (N:List Str)(sc scope:Scope)(own:List (Str×Nat)):Prop where
 kind:scope.kind=.function
 uniq:∀y∈scope.names,scope.names.lookup y.1=some y.2
 ix:∀p∈own,N[p.2]?=some p.1
 free:∀y∈scope.names,y.2=.free->sc.names.lookup y.1=some .cell∨sc.names.lookup y.1=some .free
 own:∀y∈scope.names,y.2=.local∨y.2=.cell->y.1∈own.map (·.1)∨y.1∉N
def wipe (σ:St):N3->St
 |[]=>σ
 |v::vs=>(wipe σ vs).set v none
theorem jw (σ:St):∀vs:N3,(wipe σ vs).length=σ.length
 |[]=>rfl
 |v::vs=>by unfold wipe;rw[List.length_set,jw σ vs]
theorem mW {σ:St}{i:Nat}{x:V}:∀{vs:N3},(wipe σ vs)[i]?=some (some x)->σ[i]?=some (some x)/\i∉vs
 |[],h=>⟨h,by simp⟩
 |v::vs,h=>by
  unfold wipe at h;by_cases hi:v=i
  · subst hi;by_cases hv:v < (wipe σ vs).length
    · rw[NA hv] at h;cases h
    · rw[Mh (by simpa using hv)] at h;cases h
  · rw[List.getElem?_set_ne hi] at h;obtain⟨h1,h2⟩:=mW h;exact⟨h1,by simp only[Li,not_or];exact⟨λe=>hi e.symm,h2⟩⟩
abbrev Cx.qC (X:Cx)(s:Shared)(H:Hp)(scope:Scope)(cenv:Env)(fp:List Addr):Cx:={X with ku:=s,HM:=H,env:=cenv,outer:=X.stack,ex:=fp,fn:=λx=>scope.names.lookup x==some .cell,pn:=[],xe:=λ_ _=>False}
section
variable {X:Cx}{pins:N7}{σ:St}{H:Hp}{s:Shared}
theorem vJ {scope:Scope} {own:List (Str×Nat)} {fp:List Addr} (I:Inv X pins σ H s) (ok:uU X.N X.env.scope scope own) (hN:X.N.Nodup) (hfp:∀b∈fp,mS X pins H b/\b < s.heap.objs.size) :
  Inv (X.qC s H scope (compEnvC scope (cellsFrom (s.heap.objs.size+1) scope.names (bM X.env.cells scope.names [])) s.heap.objs.size X.env) fp) [] (wipe σ (own.map (·.2))) H {s with heap:=pushCells (s.heap.push {cls:=.type "dict",data:=.dict #[]}) scope.names}:=by
 have hfree:∀y∈scope.names,y.2=.free->∃c,X.env.cells.lookup y.1=some c:=λy hy e=>by
  rcases ok.free y hy e with k|k
  · exact I.ok.has _ (.inl k)
  · exact I.ok.has _ (.inr k)
 generalize hcenv:compEnvC scope (cellsFrom (s.heap.objs.size+1) scope.names (bM X.env.cells scope.names [])) s.heap.objs.size X.env=cenv;have kp:∀b o,s.heap.get? b=some o->(pushCells (s.heap.push {cls:=.type "dict",data:=.dict #[]}) scope.names).get? b=some o:=λb o e=>pushCells_keeps _ _ _ _ (Lh _ e);have hL:cenv.locals=s.heap.objs.size:=by rw[←hcenv];rfl
 have hcl:cenv.cells=cellsFrom (s.heap.objs.size+1) scope.names (bM X.env.cells scope.names []):=by rw[←hcenv];rfl
 have hsc:cenv.scope=Kr scope X.env.scope:=by rw[←hcenv];rfl
 rw[←Mn s.heap {cls:=.type "dict",data:=.dict #[]}] at hcl;have cm:∀{y c},(y,c)∈bM X.env.cells scope.names []->X.env.cells.lookup y=some c/\c < s.heap.objs.size:=λ{y c} hm=>by
  rcases gK hm with hm|⟨h1,rfl⟩
  · cases hm
  · obtain⟨c,hc⟩:=hfree _ h1 rfl;rw[hc];obtain⟨w,z⟩:=I.cell _ _ hc;exact⟨rfl,z.lt⟩
 have mem:∀{y c},cenv.cells.lookup y=some c->(X.env.cells.lookup y=some c/\c < s.heap.objs.size)∨(s.heap.objs.size+1<=c/\Ce (pushCells (s.heap.push {cls:=.type "dict",data:=.dict #[]}) scope.names) c none):=λ{y c} e=>by
  rw[hcl] at e;rcases ie (PySem.mem_of_lookup e) with hm|⟨_,h2,h3⟩
  · exact .inl (cm hm)
  · rw[Mn] at h2;exact .inr ⟨h2,h3⟩
 have look:∀{y},scope.names.lookup y=some .free->∃c,cenv.cells.lookup y=some c/\X.env.cells.lookup y=some c:=λ{y} hl=>by
  have hy:(y,NameKind.free)∈scope.names:=PySem.mem_of_lookup hl;obtain⟨c',e'⟩:=mem_lookup (ko (names:=scope.names) (n:=(s.heap.push {cls:=.type "dict",data:=.dict #[]}).objs.size) (jA (cells:=X.env.cells) (acc:=[]) hy));rw[←hcl] at e';refine⟨c',e',?_⟩;rw[hcl] at e';rcases ie (PySem.mem_of_lookup e') with hm|⟨h1,_,_⟩
  · exact (cm hm).1
  · have:=ok.uniq _ h1;rw[hl] at this;cases this
 have okB:(X.qC s H scope cenv fp).Ok:=by
  refine⟨I.ok.mod,by show cenv.scope.kind=_;rw[hsc];exact ok.kind,by show cenv.globals=_;rw[←hcenv];exact I.ok.glob,by show cenv.builtins=_;rw[←hcenv];exact I.ok.blt,by show s.heap.objs.size<=cenv.locals;rw[hL];exact Ln _,
   λy z c e1 e2=>?_,λy hy=>?_,λy c z e=>?_,I.ok.hd,I.ok.frames,.inl rfl,λb hb=>⟨?_,λy c e z=>?_⟩,I.bs,L1 I.ok.CO I.sz,λb o e hb=>?_,λb hb z=>?_,I.stack,I.s_⟩
  · have e1:cenv.cells.lookup y=some c:=e1;have e2:cenv.cells.lookup z=some c:=e2;rw[hcl] at e1 e2;refine m8 (λp hp=>?_) (λy z c a b=>I.ok.inj y z c (cm a).1 (cm b).1) (PySem.mem_of_lookup e1) (PySem.mem_of_lookup e2);rw[Mn];exact Nat.lt_succ_of_lt (cm (y:=p.1) (c:=p.2) hp).2
  · show ∃c,cenv.cells.lookup y=some c;have key:∀k,cenv.kindOf y=some k->(k=.cell∨k=.free)->∃c,cenv.cells.lookup y=some c:=λk hk hk'=>by
     unfold Env.kindOf at hk;rw[hsc] at hk;obtain⟨k',e,r⟩:=jI hk;have:k'=.cell∨k'=.free:=by
      rcases r with rfl|⟨rfl,_⟩
      · exact hk'
      · exact .inr rfl
     rcases this with rfl|rfl
     · obtain⟨c,hm⟩:=mX (n:=(s.heap.push {cls:=.type "dict",data:=.dict #[]}).objs.size) (acc:=bM X.env.cells scope.names []) (PySem.mem_of_lookup e);obtain⟨c',e'⟩:=mem_lookup hm;exact⟨c',by rw[hcl];exact e'⟩
     · obtain⟨c,h1,_⟩:=look e;exact⟨c,h1⟩
    rcases hy with hy|hy
    · exact key _ hy (.inl rfl)
    · exact key _ hy (.inr rfl)
  · have z:(scope.names.lookup y==some NameKind.cell)=true:=z;have z:scope.names.lookup y=some .cell:=by simpa using z
    have e:cenv.cells.lookup y=some c:=e;rw[hcl] at e;rcases ie (PySem.mem_of_lookup e) with hm|⟨_,h2,_⟩
    · rcases gK hm with hm|⟨h1,_⟩
      · cases hm
      · have q:=ok.uniq _ h1;rw[z] at q;cases q
    · rw[Mn] at h2;exact Nat.le_of_succ_le h2
  · show b≠cenv.locals;rw[hL];exact LP (hfp b hb).2
  · have e:cenv.cells.lookup y=some c:=e;rcases mem e with ⟨h1,_⟩|⟨h1,_⟩
    · exact (hfp b hb).1.2.2.2.2.1 y c h1 z
    · have h2:s.heap.objs.size+1<=b:=by rw[←z];exact h1
      exact absurd (LV (hfp b hb).2 (Nat.le_of_succ_le h2)) (Mz _)
  · rcases (hfp b hb).1.2.2.2.1 with z|z
    · exact I.ok.zA b o e z
    · exact absurd (LV (Lq e) (L1 I.ok.CO z)) (Mz _)
  · rcases Li.mp (I.wQ b z) with z|z
    · exact (hfp b hb).1.2.1 z
    · exact (hfp b hb).1.2.2.1 z
 refine⟨okB,rfl,I.bare,Un.kept kp,⟨λ_=>none,?_,λi y av e1 e2 e3=>?_⟩,λy c e=>?_,?_,λy c e=>?_,λp hp=>?_,I.bw.kept kp,by rw[jw];exact I.len⟩
 · show Heap.Ns _ cenv.locals _;rw[hL];exact Heap.Ns.keeps (Heap.Ns.new ..) λb o e=>pushCells_keeps _ _ _ _ e
 · obtain⟨e2,hne⟩:=mW e2;have hfr:scope.names.lookup y=some .free/\(cenv.kindOf y=some .cell∨cenv.kindOf y=some .free):=by
    have key:∀k,cenv.scope.names.lookup y=some k->k=.local∨k=.cell∨k=.free->scope.names.lookup y=some .free/\(cenv.kindOf y=some .cell∨cenv.kindOf y=some .free):=λk hk hk'=>by
     have hk0:=hk;rw[hsc] at hk;obtain⟨k',e,r⟩:=jI hk;have no:¬(k'=.local∨k'=.cell):=λhh=>by
      rcases ok.own _ (PySem.mem_of_lookup e) hh with e'|e'
      · obtain⟨p,hp,hpy⟩:=LM.mp e';have e3:=ok.ix p hp;have:p.1=y:=hpy;rw[this] at e3;exact hne (LM.mpr ⟨p,hp,qu hN e3 e1⟩)
      · exact e' (LH e1)
     rcases r with rfl|⟨rfl,rfl⟩
     · rcases hk' with rfl|rfl|rfl
       · exact absurd (.inl rfl) no
       · exact absurd (.inr rfl) no
       · exact⟨e,.inr hk0⟩
     · exact⟨e,.inl hk0⟩
    have e3:HU cenv.scope y:=e3;rcases e3 with e3|e3|e3
    · exact key _ e3 (.inl rfl)
    · exact key _ e3 (.inr (.inl rfl))
    · exact key _ e3 (.inr (.inr rfl))
   obtain⟨m,hn,hl⟩:=I.loc;have hvis:HU X.env.scope y:=(ok.free _ (PySem.mem_of_lookup hfr.1) rfl).elim (λk=>.inr (.inl k)) (λk=>.inr (.inr k));obtain⟨w,r,q⟩:=hl i y av e1 e2 hvis;refine⟨w,r,.inr ⟨hfr.2,?_⟩⟩;obtain⟨c,h1,h2⟩:=look hfr.1;rcases q with ⟨k,_⟩|⟨_,c',e',z⟩
   · have k:X.env.scope.names.lookup y=some .local:=k;rcases ok.free _ (PySem.mem_of_lookup hfr.1) rfl with k'|k' <;> rw[show X.env.scope.names.lookup y=_ from k'] at k <;> cases k
   · rw[h2] at e';cases e';exact⟨c,h1,z.keeps kp⟩
 · have e:cenv.cells.lookup y=some c:=e;rcases mem e with ⟨h1,_⟩|⟨_,z⟩
   · obtain⟨w,z⟩:=I.cell y c h1;exact⟨w,z.keeps kp⟩
   · exact⟨_,z⟩
 · show H cenv.locals=none;rw[hL];exact I.bw.fresh (Ln _)
 · have e:cenv.cells.lookup y=some c:=e;rcases mem e with ⟨h1,_⟩|⟨h1,_⟩
   · exact I.gq y c h1
   · exact I.bw.fresh (Nat.le_of_succ_le h1)
 · exact absurd (show p∈([]:N7)++[] from hp) (by simp)
theorem Hd {E:N5}{D:Addr}{xs:List V}{y:V}{v:Value}{Q:N5}(I:Inv X pins σ H s)(hD:H D=some (.lst xs))(hz:xs.length < sizeLine)(r:RelV y v)
  (h:∀s',Inv X pins σ (upd H D (.lst (xs++[y]))) s'->Q .none s'):wpAny (model X.prog X.w) X.A (call (.builtin "list.append") [.ref D,v]) Q E s:=by
 obtain⟨hz',its,n,ri,e⟩:=I.bw D _ hD;have hl:=ri.length;refine append_at (hsz:=by rw[Lz];omega) e λh' sb ho'=>?_;refine h {s with heap:=h'} (I.write (t':=s.toks) (by rw[hD];trivial) (.inl rfl) (λb u hb q=>(sb.2 b hb).trans q) ⟨_,ho'⟩ ⟨by rw[LA];exact hz,its++[v],n+1,ri.append (.cons r .nil),?_⟩);rw[ho'];simp
def Jp (X:Cx)(ifs:List Expr)(t:TT):Prop :=
 ∀(pins:N7) (s:Shared) (σ:St) (H:Hp) (Q:Bool->Hp->Prop),Inv X pins σ H s->t σ H Q ->
  wpAny (model X.prog X.w) X.A (forIn ifs true λc r=>if r=true then do let ok ←isTrue c X.env (eval c X.env);pure (ForInStep.yield ok) else pure (ForInStep.yield r)) (TP X pins σ Q) X.xe s
def Bh:TT:=λ_ H Q=>Q true H
theorem cn:Jp X [] Bh:=λ_ _ _ H _ I h=>wpAny_tests_nil ⟨H,I,h⟩
theorem ox {c:Expr}{t:TT}(h:PT X c t):Jp X [c] t:=λpins s σ H Q I hw=>wpAny_tests_one (h pins s σ H Q I hw)
end
theorem zB {α:Type}{t:Sem α}{Q Q':α->Shared->Prop}{M:Model}{A:Around}{E:N5}{s:Shared}(h:wpAny M A t Q (λ_ _=>False) s)(hQ:∀a s,Q a s->Q' a s):wpAny M A t Q' E s:=Mw h hQ λ_ _ z=>False.elim z
theorem t_ {prog:Program}{w:World}{A:Around}{R:Result->Shared->Prop}{s:Shared}{elt target iter:Expr}{ifs:List Expr}{scope:Scope}{pos:Pos}{it acc:Value}{env:Env}(I:Nat->Shared->Prop)
  (turn:∀n s,I n s->wpAny (model prog w) A (pyNext it) (λr s₁=>match r with
   |none=>R (.ok .next) s₁
   |some v=>wpAny (model prog w) A (letOwnedTupleGo target it v) (λ_ s₁'=>wpAny (model prog w) A (assign target env v) (λ_ s₂ =>
     wpAny (model prog w) A (forIn ifs true λc r=>if r=true then do let ok ←isTrue c env (eval c env);pure (ForInStep.yield ok) else pure (ForInStep.yield r)) (λok s₃ =>
      if ok=true then wpAny (model prog w) A (eval elt env) (λx s₄ =>
       wpAny (model prog w) A (call (.builtin "list.append") [acc,x]) (λ_ s₅=>∃m,m < n/\I m s₅) (notedBy (model prog w) A env λe s'=>R (.error e) s') s₄) (notedBy (model prog w) A env λe s'=>R (.error e) s') s₃
      else ∃m,m < n/\I m s₃) (notedBy (model prog w) A env λe s'=>R (.error e) s') s₂) (notedBy (model prog w) A env λe s'=>R (.error e) s') s₁') (notedBy (model prog w) A env λe s'=>R (.error e) s') s₁) (notedBy (model prog w) A env λe s'=>R (.error e) s') s)
  (n:Nat) (h:I n s) :
  codeAny (model prog w) A (.compLoop (.ListComp elt [⟨target,iter,ifs,0⟩] scope pos) 0 it acc env) R s:=by
 refine codeAny_loop rfl I (λn s hI=>?_) n h;show wpAny _ A ((compTurn (.ListComp elt [⟨target,iter,ifs,0⟩] scope pos) 0 it acc env).onRaise (λx=>do noteFrame x env;theTreesLotGoes x)) _ _ s;refine wpAny_noted ?_;rw[compTurn_list];refine Ld (wpAny_standAt (Ld (Mw (turn n s hI) (λr s₁ h₁=>?_) λ_ _ h'=>h')));cases r with
 |none=>exact Lk h₁
 |some v =>
  refine Ld (Mw h₁ (λ_ s₁' h₁'=>?_) λ_ _ h'=>h');refine Ld (Mw h₁' (λ_ s₂ h₂=>Ld (Mw h₂ (λok s₃ h₃=>?_) λ_ _ h'=>h')) λ_ _ h'=>h');cases ok with
  |false=>exact Lk ⟨rfl,h₃⟩
  |true =>
   exact Ld (Ld (Mw h₃ (λx s₄ h₄=>Ld (Mw h₄ (λ_ s₅ h₅=>Lk (Lk ⟨rfl,h₅⟩)) λ_ _ h'=>h')) λ_ _ h'=>h'))
section
variable {X:Cx}
def F6 (wi:TI) (g:TG) (tt:TT) (te:TE) (vs:N3):TE:=λσ H Q=>wi σ H λJ H1=>∀D,H1 D=none->∃W:Nat->Nat->Hp->Prop,(∃m,W 0 m (upd H1 D (.lst [])))/\∀i m H,W i m H ->
 (J.stop i H/\Q (.ref D) H)∨(J.go i H/\∃Nx:Hp->Prop,(∀H',Nx H'->∃m',m' < m/\W (i+1) m' H')/\∀x H',J.vS i H x H'->g x (wipe σ vs) H' λσ2 H2=>wipe σ2 vs=wipe σ vs/\tt σ2 H2 λb H3 =>
  if b=true then te σ2 H3 λy H4=>∃acc,H4 D=some (.lst acc)/\acc.length < sizeLine/\Nx (upd H4 D (.lst (acc++[y]))) else Nx H3)
theorem yO {pins:N7}{s:Shared}{σ:St}{H:Hp}{Q:VK}{elt tg iter:Expr}{ifs:List Expr}{scope:Scope}{own:List (Str×Nat)}{pos pos':Pos}{wi:TI}{g:TG}{tt:TT}{te:TE}{use:Option (Value->Sem Unit)}{Qf:N5}
  (hc:X.calm=true)(hN:X.N.Nodup)(I:Inv X pins σ H s)(hi:PI X tg iter wi)(ok:uU X.N X.env.scope scope own)
  (hg:∀(s:Shared) (H:Hp) (C:Addr) (cl:List (Str×Addr)) (fp:List Addr),PG (X.qC s H scope (compEnvC scope cl C X.env) fp) tg g)(ht:∀(s:Shared) (H:Hp) (C:Addr) (cl:List (Str×Addr)) (fp:List Addr),Jp (X.qC s H scope (compEnvC scope cl C X.env) fp) ifs tt)
  (he:∀(s:Shared) (H:Hp) (C:Addr) (cl:List (Str×Addr)) (fp:List Addr),PE (X.qC s H scope (compEnvC scope cl C X.env) fp) elt te)(hs:∀x,foldedSetIterable iter X.env x=pure x)
  (h:F6 wi g tt te (own.map (·.2)) σ H Q)
  (hRR:∀D C s' m H',Inv X pins σ H' s'->Q (.ref D) H'->s'.heap.Ns C m->mS X pins H' C->compPost (model X.prog X.w) X.A X.xe use Qf (.ref D) C (.ok .next) s') :
  wpAny (model X.prog X.w) X.A (comprehension (.ListComp elt [⟨tg,iter,ifs,0⟩] scope pos) scope X.env pos' (newList []) false (eval iter X.env) use) Qf X.xe s:=by
 have hfree:∀y∈scope.names,y.2=.free->∃c,X.env.cells.lookup y.1=some c:=λy hy e=>by
  rcases ok.free y hy e with k|k
  · exact I.ok.has _ (.inl k)
  · exact I.ok.has _ (.inr k)
 refine wpAny_comprehension_free (use:=use) rfl hs (xH hfree) ok.kind (λy hy e=>by rw[ok.uniq y hy,e])
  (bB (hi pins s σ H _ I h) λxv s1 hx=>bB hx λitv s2 h2=>?_)
 obtain⟨it,fp,tn,J,H2,e,I2,T,st2,f2,q⟩:=h2;subst e;refine MG (vE ?_) (by show 0<=sizeLine;decide);generalize hD:s2.heap.objs.size=D;have hDn:H2 D=none:=I2.bw.fresh (NV hD);obtain⟨W,⟨m0,w0⟩,turn⟩:=q D hDn;generalize hs3:({s2 with heap:=s2.heap.push {cls:=.type "list",data:=.seq ([]:N8).toArray}}:Shared)=s3;have I3:Inv X pins σ (upd H2 D (.lst [])) s3:=by
  rw[←hs3];refine I2.laid (t':=s2.toks) (λb o e=>Lh _ e) (NV hD) ⟨LJ _,[],0,.nil,?_⟩;rw[←hD];exact Lu _ rfl
 have h3:s3.heap=s2.heap.push {cls:=.type "list",data:=.seq ([]:N8).toArray}:=by rw[←hs3]
 have sz:∀b∈fp,b < s2.heap.objs.size:=λb hb=>by
  obtain⟨o,e,_⟩:=T.obj _ _ st2 b hb;exact Lq e
 have f3:∀b∈fp,mS X pins (upd H2 D (.lst [])) b/\b < s3.heap.objs.size:=λb hb=>by
  have hlt:=sz b hb;refine⟨⟨?_,(f2 b hb).2⟩,by rw[h3,Mn];exact Nat.lt_succ_of_lt hlt⟩;rw[aq (by rw[←hD];exact LP hlt)];exact (f2 b hb).1
 have st3:tn 0 s3.heap:=T.keep _ _ _ st2 λb _ o e=>by rw[h3];exact Lh _ e
 have I4:=vJ I3 ok hN f3;have pg:=hg s3 (upd H2 D (.lst [])) s3.heap.objs.size (cellsFrom (s3.heap.objs.size+1) scope.names (bM X.env.cells scope.names [])) fp;have pt:=ht s3 (upd H2 D (.lst [])) s3.heap.objs.size (cellsFrom (s3.heap.objs.size+1) scope.names (bM X.env.cells scope.names [])) fp;have pe:=he s3 (upd H2 D (.lst [])) s3.heap.objs.size (cellsFrom (s3.heap.objs.size+1) scope.names (bM X.env.cells scope.names [])) fp;show codeAny _ _ (.compStart (.ListComp elt [⟨tg,iter,ifs,0⟩] scope pos) 0 (.ref it) (.ref D) (compEnvC scope (cellsFrom (s3.heap.objs.size+1) scope.names (bM X.env.cells scope.names [])) s3.heap.objs.size X.env)) (compPost (model X.prog X.w) X.A X.xe use Qf (.ref D) s3.heap.objs.size) {s3 with heap:=pushCells (s3.heap.push {cls:=.type "dict",data:=.dict #[]}) scope.names};have nfp:∀b∈fp,(upd H2 D (.lst [])) b=none:=λb hb=>(f3 b hb).1.1;generalize hce:compEnvC scope (cellsFrom (s3.heap.objs.size+1) scope.names (bM X.env.cells scope.names [])) s3.heap.objs.size X.env=ce at I4 pg pt pe ⊢;have cL:ce.locals=s3.heap.objs.size:=by subst hce;rfl
 generalize hH3:upd H2 D (.lst [])=H3 at I3 I4 pg pt pe w0 nfp f3;generalize hs4:({s3 with heap:=pushCells (s3.heap.push {cls:=.type "dict",data:=.dict #[]}) scope.names}:Shared)=s4 at I4 ⊢;have st4:tn 0 s4.heap:=T.keep _ _ _ st3 λb _ o e=>by rw[←hs4];exact pushCells_keeps _ _ _ _ (Lh _ e)
 have stat:∀{σ':St} {H':Hp} {s':Shared},Inv (X.qC s3 H3 scope ce fp) [] σ' H' s'->(∀b∈fp,H' b=none)->∀b∈fp,mS (X.qC s3 H3 scope ce fp) [] H' b:=λ{σ' H' s'} I' hn b hb =>
  ⟨hn b hb,(I'.ok.II b hb).1,I'.ok.zY b hb,.inl hb,λx c e=>(I'.ok.II b hb).2 x c e,λp hp=>absurd (show p∈([]:N7)++[] from hp) (by simp)⟩
 have loop:codeAny (model X.prog X.w) X.A (.compLoop (.ListComp elt [⟨tg,iter,ifs,0⟩] scope pos) 0 (.ref it) (.ref D) ce) (compPost (model X.prog X.w) X.A X.xe use Qf (.ref D) s3.heap.objs.size) s4:=by
  refine t_ (λn s'=>∃i H',Inv (X.qC s3 H3 scope ce fp) [] (wipe σ (own.map (·.2))) H' s'/\tn i s'.heap/\(∀b∈fp,H' b=none)/\W i n H') ?_ m0 ⟨0,H3,I4,st4,nfp,w0⟩;rintro n s5 ⟨i,H5,I5,st5,n5,w5⟩;rcases turn i n H5 w5 with ⟨stop,qq⟩|⟨go,Nx,hNx,step⟩
  · have td:=T.done (X.qC s3 H3 scope ce fp) rfl rfl rfl hc i [] s5 _ H5 (λ_ _=>False) I5 (stat I5 n5) st5 stop;refine zB td λr s6 ⟨hr,I6⟩=>?_;subst hr;have I7:Inv X pins σ H5 s6:=I3.Ft (ch:=fp) I6.os I6.base I6.bw I6.bare λb hb=>⟨(f3 b hb).1.2.2.2.1,(f3 b hb).1.2.1,(f3 b hb).1.2.2.2.2.1,(f3 b hb).1.2.2.2.2.2⟩;have nC:H5 s3.heap.objs.size=none:=by
     have z:H5 ce.locals=none:=I6.free;rw[cL] at z;exact z
    obtain⟨m,hn,_⟩:=I6.loc;have hn:s6.heap.Ns ce.locals m:=hn;rw[cL] at hn;exact hRR D s3.heap.objs.size s6 m H5 I7 qq hn (I3.wj (Ln _) nC)
  · have ti:=T.item (X.qC s3 H3 scope ce fp) rfl rfl rfl hc i [] s5 _ H5 (λ_ _=>False) I5 (stat I5 n5) st5 go;refine zB ti λr s6 ⟨u,hr,h6⟩=>?_;subst hr;refine zB h6 λ_ s7 ⟨x,H7,I7,r7,y7,st7,n7⟩=>?_;have I7':=I7.pinned (stat I7 n7) (T.obj _ _ st7);refine zB (pg _ s7 _ H7 x u _ I7' r7 (step x H7 y7)) λ_ s8 ⟨σ8,H8,I8,hw8,q8⟩=>?_;refine zB (pt _ s8 σ8 H8 _ I8 q8) λb s9 ⟨H9,I9,q9⟩=>?_;have fin:∀{s':Shared} {H':Hp},Inv (X.qC s3 H3 scope ce fp) ([]++m7 fp s7.heap) σ8 H' s'->Nx H'->∃m,m < n/\∃i H',Inv (X.qC s3 H3 scope ce fp) [] (wipe σ (own.map (·.2))) H' s'/\tn i s'.heap/\(∀b∈fp,H' b=none)/\W i m H':=λ{s' H'} I' nx=>by
     obtain⟨m',hm,w'⟩:=hNx H' nx;have pin':∀b∈fp,∀o,s7.heap.get? b=some o->s'.heap.get? b=some o/\H' b=none:=λb hb o e =>
      let z:=I'.pin (b,o) (Mc _ (Mc _ (gC hb e)))
      ⟨z.1,z.2.1⟩
     have hl:(wipe σ (own.map (·.2))).length=σ8.length:=by rw[←hw8,jw]
     refine⟨m',hm,i+1,H',(I'.ic (pins:=[])).weak hl (λj v e=>?_),T.keep _ _ _ st7 λb hb o e=>(pin' b hb o e).1,λb hb=>?_,w'⟩
     · rw[←hw8] at e;exact (mW e).1
     · obtain⟨o,e,_⟩:=T.obj _ _ st7 b hb;exact (pin' b hb o e).2
    cases b with
    |false =>
     simp only[ME,Nc] at q9 ⊢;exact fin I9 q9
    |true =>
     simp only[MX] at q9 ⊢;refine zB (pe _ s9 σ8 H9 _ I9 q9) λz s10 ⟨yv,H10,I10,r10,acc,hD10,hz10,nx⟩=>?_;exact Hd (X:=X.qC s3 H3 scope ce fp) I10 hD10 hz10 r10 λs11 I11=>fin I11 nx
 exact codeAny_compStart_list loop (T.self X.A 0 _ _ _ st4 loop)
theorem fw {elt tg iter:Expr}{ifs:List Expr}{scope:Scope}{own:List (Str×Nat)}{pos:Pos}{wi:TI}{g:TG}{tt:TT}{te:TE}(hc:X.calm=true)(hN:X.N.Nodup)(hi:PI X tg iter wi)(ok:uU X.N X.env.scope scope own)
  (hg:∀(s:Shared) (H:Hp) (C:Addr) (cl:List (Str×Addr)) (fp:List Addr),PG (X.qC s H scope (compEnvC scope cl C X.env) fp) tg g)(ht:∀(s:Shared) (H:Hp) (C:Addr) (cl:List (Str×Addr)) (fp:List Addr),Jp (X.qC s H scope (compEnvC scope cl C X.env) fp) ifs tt)
  (he:∀(s:Shared) (H:Hp) (C:Addr) (cl:List (Str×Addr)) (fp:List Addr),PE (X.qC s H scope (compEnvC scope cl C X.env) fp) elt te)(hs:∀x,foldedSetIterable iter X.env x=pure x:=by intro _;rfl) :
  PE X (.ListComp elt [⟨tg,iter,ifs,0⟩] scope pos) (F6 wi g tt te (own.map (·.2))):=by
 intro pins s σ H Q I h;rw[eval_ListComp];refine yO hc hN I hi ok hg ht he hs h λD C s' m H' I' q hn f=>⟨m,hn,λh'' sb=>?_⟩;obtain⟨f0,f1,f2,f3,f4,f5⟩:=f;exact⟨.ref D,H',I'.turned (t':=s'.toks) (λb o hb e=>(sb.2 b hb).trans e) f0 f1 f3 f4 f5,rfl,q⟩
theorem oS {i:Nat}{y:Str}{py:Pos}{elt tg iter:Expr}{ifs:List Expr}{scope:Scope}{own:List (Str×Nat)}{pos spos:Pos}{wi:TI}{g:TG}{tt:TT}{te:TE}(hc:X.calm=true)(hN:X.N.Nodup)(hy:X.N[i]?=some y)(hyl:X.env.scope.names.lookup y=some .local)
  (hsw:swapsWith (.ListComp elt [⟨tg,iter,ifs,0⟩] scope pos) (some (.Name y py)) spos.line X.env=pure true)(hi:PI X tg iter wi)(ok:uU X.N X.env.scope scope own)
  (hg:∀(s:Shared) (H:Hp) (C:Addr) (cl:List (Str×Addr)) (fp:List Addr),PG (X.qC s H scope (compEnvC scope cl C X.env) fp) tg g)(ht:∀(s:Shared) (H:Hp) (C:Addr) (cl:List (Str×Addr)) (fp:List Addr),Jp (X.qC s H scope (compEnvC scope cl C X.env) fp) ifs tt)
  (he:∀(s:Shared) (H:Hp) (C:Addr) (cl:List (Str×Addr)) (fp:List Addr),PE (X.qC s H scope (compEnvC scope cl C X.env) fp) elt te)(hs:∀x,foldedSetIterable iter X.env x=pure x:=by intro _;rfl) :
  PS X (.Assign [.Name y py] (.ListComp elt [⟨tg,iter,ifs,0⟩] scope pos) spos) (Bt (F6 wi g tt te (own.map (·.2))) (gG i)):=by
 intro pins s σ H D I h;rw[exec_Assign_Name_used _ _ _ _ hsw];refine Ld (wpAny_standAt (Ld ?_));show wpAny _ X.A (do let _ ←comprehension (.ListComp elt [⟨tg,iter,ifs,0⟩] scope pos) scope X.env (firstIterPos [⟨tg,iter,ifs,0⟩] pos) (newList []) false (eval iter X.env) (some (assign (.Name y py) X.env))) _ _ s;have h:F6 wi g tt te (own.map (·.2)) σ H (λx H1=>gG i x σ H1 D.nx):=h;refine Ld (bB (yO (Qf:=λ_ s'=>SP X pins D .next s') hc hN I hi ok hg ht he hs h λL C s' m H' I' q hn f=>?_) λ_ s' hq=>Lk (Lk hq));show wpAny _ _ (assign (.Name y py) X.env (.ref L)) _ _ _;refine wpAny_assign_Name (rJ (v:=V.ref L) I' hN hy (.inl hyl) rfl (λs2 I2 ⟨a,sb,ha⟩=>?_) (.inr hyl));obtain⟨f0,f1,f2,f3,f4,f5⟩:=f;have haC:C≠a:=by
  rcases ha with z|z
  · rw[z];exact f1
  · exact λe=>f4 y a z e.symm
 refine⟨m,hn.sameBut sb haC,λh3 sb3=>?_⟩;exact⟨_,H',I2.turned (t':=s2.toks) (λb o hb e=>(sb3.2 b hb).trans e) f0 f1 f3 f4 f5,q⟩
theorem tF {elt:Expr}{gs:List Comprehension}{scope:Scope}{pos py:Pos}{y:Str}{l:Nat}{env:Env}(hk:env.scope.kind=.function)(hy:env.scope.names.lookup y=some .local)(hl:(py.line==pos.line)=true)
  (ha:(scope.names.any λ(n,k)=>n==y&&(k==.local||k==.cell))=false):swapsWith (.ListComp elt gs scope pos) (some (.Name y py)) l env=pure true:=by
 have ky:env.kindOf y=some .local:=hy;have hb:env.blockKind=.function:=by unfold Env.blockKind;rw[hk];rfl
 unfold swapsWith;simp only[hb,ky,ha,Expr.pos,hl];rfl
end
theorem mD {lo:Int}{n:Nat}{g:TG}{tt:TT}{te:TE}{vs:N3}{σ:St}{H1:Hp}{D:Addr}{Qd:Hp->Prop}(Pv:Nat->Hp->Prop)(h0:Pv 0 (upd H1 D (.lst [])))
  (hs:∀i H,i < n->Pv i H->g (.int (lo+i)) (wipe σ vs) H λσ2 H2=>wipe σ2 vs=wipe σ vs/\tt σ2 H2 λb H3 =>
   if b=true then te σ2 H3 λy H4=>∃acc,H4 D=some (.lst acc)/\acc.length < sizeLine/\Pv (i+1) (upd H4 D (.lst (acc++[y]))) else Pv (i+1) H3) (hd:∀H,Pv n H->Qd H) :
  ∃W:Nat->Nat->Hp->Prop,(∃m,W 0 m (upd H1 D (.lst [])))/\∀i m H,W i m H ->
   ((An lo n).stop i H/\Qd H)∨((An lo n).go i H/\∃Nx:Hp->Prop,(∀H',Nx H'->∃m',m' < m/\W (i+1) m' H')/\∀x H',(An lo n).vS i H x H'->g x (wipe σ vs) H' λσ2 H2=>wipe σ2 vs=wipe σ vs/\tt σ2 H2 λb H3 =>
    if b=true then te σ2 H3 λy H4=>∃acc,H4 D=some (.lst acc)/\acc.length < sizeLine/\Nx (upd H4 D (.lst (acc++[y]))) else Nx H3):=by
 refine⟨λi m H=>m=n - i/\i<=n/\Pv i H,⟨n,by simp,LJ _,h0⟩,?_⟩;rintro i m H ⟨rfl,hi,p⟩;by_cases hlt:i < n
 · refine .inr ⟨hlt,Pv (i+1),λH' p'=>⟨n - (i+1),by omega,rfl,hlt,p'⟩,λx H' y=>?_⟩;obtain⟨e,y⟩:=y;subst e y;exact hs i _ hlt p
 · have e:i=n:=by omega
   subst e;exact .inl ⟨Ln _,hd H p⟩
theorem jf {K:N4}{a:Addr}{xs:List V}{g:TG}{tt:TT}{te:TE}{vs:N3}{σ:St}{H1:Hp}{D:Addr}{Qd:Hp->Prop}(Pv:Nat->Hp->Prop)(h0:Pv 0 (upd H1 D (.lst [])))(hl:∀i H,i<=xs.length->Pv i H->aU K H a xs)
  (hs:∀i x H,xs[i]?=some x->Pv i H->g x (wipe σ vs) H λσ2 H2=>wipe σ2 vs=wipe σ vs/\tt σ2 H2 λb H3 =>
   if b=true then te σ2 H3 λy H4=>∃acc,H4 D=some (.lst acc)/\acc.length < sizeLine/\Pv (i+1) (upd H4 D (.lst (acc++[y]))) else Pv (i+1) H3) (hd:∀H,Pv xs.length H->Qd H) :
  ∃W:Nat->Nat->Hp->Prop,(∃m,W 0 m (upd H1 D (.lst [])))/\∀i m H,W i m H ->
   ((Cp K a).stop i H/\Qd H)∨((Cp K a).go i H/\∃Nx:Hp->Prop,(∀H',Nx H'->∃m',m' < m/\W (i+1) m' H')/\∀x H',(Cp K a).vS i H x H'->g x (wipe σ vs) H' λσ2 H2=>wipe σ2 vs=wipe σ vs/\tt σ2 H2 λb H3 =>
    if b=true then te σ2 H3 λy H4=>∃acc,H4 D=some (.lst acc)/\acc.length < sizeLine/\Nx (upd H4 D (.lst (acc++[y]))) else Nx H3):=by
 refine⟨λi m H=>m=xs.length - i/\i<=xs.length/\Pv i H,⟨xs.length,by simp,LJ _,h0⟩,?_⟩;rintro i m H ⟨rfl,hi,p⟩;have q:=hl i H hi p;by_cases hlt:i < xs.length
 · refine .inr ⟨⟨xs,xs[i],q,by simp[hlt]⟩,Pv (i+1),λH' p'=>⟨xs.length - (i+1),by omega,rfl,hlt,p'⟩,λx H' y=>?_⟩;obtain⟨e,y⟩:=y;subst e;exact hs i x _ (y xs q) p
 · have e:i=xs.length:=by omega
   subst e;exact .inl ⟨⟨xs,q,Ln _⟩,hd H p⟩
theorem G2 {K:N4}{a:Addr}{xs:List V}{g:TG}{tt:TT}{te:TE}{vs:N3}{σ:St}{H1:Hp}{D:Addr}{Qd:Hp->Prop}(Pv:Nat->Hp->Prop)(h0:Pv 0 (upd H1 D (.lst [])))(hl:∀i H,i<=xs.length->Pv i H->bZ K H a xs)
  (hs:∀i x H,xs[i]?=some x->Pv i H->g x (wipe σ vs) H λσ2 H2=>wipe σ2 vs=wipe σ vs/\tt σ2 H2 λb H3 =>
   if b=true then te σ2 H3 λy H4=>∃acc,H4 D=some (.lst acc)/\acc.length < sizeLine/\Pv (i+1) (upd H4 D (.lst (acc++[y]))) else Pv (i+1) H3) (hd:∀H,Pv xs.length H->Qd H) :
  ∃W:Nat->Nat->Hp->Prop,(∃m,W 0 m (upd H1 D (.lst [])))/\∀i m H,W i m H ->
   ((IY K a).stop i H/\Qd H)∨((IY K a).go i H/\∃Nx:Hp->Prop,(∀H',Nx H'->∃m',m' < m/\W (i+1) m' H')/\∀x H',(IY K a).vS i H x H'->g x (wipe σ vs) H' λσ2 H2=>wipe σ2 vs=wipe σ vs/\tt σ2 H2 λb H3 =>
    if b=true then te σ2 H3 λy H4=>∃acc,H4 D=some (.lst acc)/\acc.length < sizeLine/\Nx (upd H4 D (.lst (acc++[y]))) else Nx H3):=by
 refine⟨λi m H=>m=xs.length - i/\i<=xs.length/\Pv i H,⟨xs.length,by simp,LJ _,h0⟩,?_⟩;rintro i m H ⟨rfl,hi,p⟩;have q:=hl i H hi p;by_cases hlt:i < xs.length
 · refine .inr ⟨⟨xs,xs[i],q,by simp[hlt]⟩,Pv (i+1),λH' p'=>⟨xs.length - (i+1),by omega,rfl,hlt,p'⟩,λx H' y=>?_⟩;obtain⟨e,y⟩:=y;subst e;exact hs i x _ (y xs q) p
 · have e:i=xs.length:=by omega
   subst e;exact .inl ⟨⟨xs,q,Ln _⟩,hd H p⟩
def IH (N:List Str)(sc scope:Scope)(own:List (Str×Nat)):Bool :=
 (match scope.kind with|.function=>true|_=>false)&&(scope.names.all λy=>decide (scope.names.lookup y.1=some y.2))&&(own.all λp=>decide (N[p.2]?=some p.1)) &&
  (scope.names.all λy=>match y.2 with
   |.free=>(match sc.names.lookup y.1 with|some .cell=>true|some .free=>true|_=>false)
   |.local=>decide (y.1∈own.map (·.1))||decide (y.1∉N)
   |.cell=>decide (y.1∈own.map (·.1))||decide (y.1∉N)
   |_=>true)
theorem bA {N:List Str}{sc scope:Scope}{own:List (Str×Nat)}(h:IH N sc scope own=true):uU N sc scope own:=by
 unfold IH at h;simp only[Ll,LI,Lm] at h;obtain⟨⟨⟨h1,h2⟩,h3⟩,h4⟩:=h;refine⟨?_,h2,h3,λy hy e=>?_,λy hy e=>?_⟩
 · split at h1
   · assumption
   · cases h1
 · have q:=h4 y hy;simp only[e] at q;split at q <;> first|exact .inl (by assumption)|exact .inr (by assumption)|cases q
 · have q:=h4 y hy;rcases e with e|e <;> (simp only[e,Me,Lm] at q;exact q)
section
variable {prog:Program}{w:World}{A:Around}{R:Result->Shared->Prop}{s:Shared}{elt t0 i0 t1 i1:Expr}{ifs0 ifs1:List Expr}{scope:Scope}{pos:Pos}{it acc:Value}{env:Env}
end
section
variable {X:Cx}
end
section
variable {κ:Type} [DecidableEq κ]
def cQ (kvs:List (κ×V)) (k:κ):Option V:=(kvs.find? λkv=>decide (kv.1=k)).map (·.2)
def putK (kvs:List (κ×V))(k:κ)(v:V):List (κ×V) :=
 if (kvs.any λkv=>decide (kv.1=k))=true then kvs.map (λkv=>if kv.1=k then (kv.1,v) else kv) else kvs++[(k,v)]
theorem da {p:κ×V}{r:List (κ×V)}{k:κ}(e:p.1=k):cQ (p::r) k=some p.2:=by simp[cQ,MS,e]
theorem cY {p:κ×V}{r:List (κ×V)}{k:κ}(e:¬p.1=k):cQ (p::r) k=cQ r k:=by simp[cQ,MS,e]
theorem mx (k:κ):∀kvs:List (κ×V),(kvs.any λkv=>decide (kv.1=k))=(cQ kvs k).isSome
 |[]=>rfl
 |p::r=>by
  rw[MM];by_cases e:p.1=k
  · simp only[da e,LU e,Bool.true_or,Option.isSome_some]
  · rw[cY e,L3 e,Bool.false_or];exact mx k r
theorem vo (k j:κ)(y:V):∀kvs:List (κ×V),cQ (kvs.map λkv=>if kv.1=k then (kv.1,y) else kv) j=(cQ kvs j).map λx=>if j=k then y else x
 |[]=>rfl
 |p::r=>by
  have ih:=vo k j y r;rw[Lv];by_cases h:p.1=k
  · rw[Lg h];by_cases e:p.1=j
    · rw[da (p:=(p.1,y)) e,da e,Option.map_some,Lg (e.symm.trans h)]
    · rw[cY (p:=(p.1,y)) e,cY e,ih]
  · rw[Lf h];by_cases e:p.1=j
    · rw[da (p:=p) e,da e,Option.map_some,Lf (λz=>h (e.trans z))]
    · rw[cY (p:=p) e,cY e,ih]
theorem qQ (k j:κ)(y:V):∀kvs:List (κ×V),cQ kvs k=none->cQ (kvs++[(k,y)]) j=if j=k then some y else cQ kvs j
 |[],_=>by
  by_cases e:k=j
  · rw[Lg e.symm];exact da (p:=(k,y)) e
  · rw[Lf (λz=>e z.symm)];exact cY (p:=(k,y)) e
 |p::r,hn=>by
  rw[Nk];have hk:¬p.1=k:=λz=>by rw[da z] at hn;cases hn
  rw[cY hk] at hn;have ih:=qQ k j y r hn;by_cases e:p.1=j
  · rw[da e,da e,Lf (λz=>hk (e.trans z))]
  · rw[cY e,cY e,ih]
theorem o5 (kvs:List (κ×V))(k j:κ)(y:V):cQ (putK kvs k y) j=if j=k then some y else cQ kvs j:=by
 unfold putK;by_cases a:(kvs.any λkv=>decide (kv.1=k))=true
 · rw[Lg a,vo];rw[mx] at a;by_cases e:j=k
   · obtain⟨x,hx⟩:=Np.mp a;rw[Lg e,e,hx,Option.map_some,Lg rfl]
   · rw[Lf e];cases cQ kvs j with
     |none=>rfl
     |some x=>rw[Option.map_some,Lf e]
 · rw[Lf a];refine qQ k j y kvs ?_;rw[mx] at a;cases q:cQ kvs k with
   |none=>rfl
   |some x=>rw[q] at a;exact (a rfl).elim
theorem gN (kvs:List (κ×V))(k:κ)(v:V):(putK kvs k v).length<=kvs.length+1:=by
 unfold putK;split
 · rw[Le];omega
 · rw[LA,Lp,MO];omega
theorem i7.iz {o:Option V}{u:Option Value}(r:i7 o u):o.isSome=u.isSome:=by
 cases o with
 |none=>cases u with
  |none=>rfl
  |some _=>exact (show False from r).elim
 |some _=>cases u with
  |none=>exact (show False from r).elim
  |some _=>rfl
theorem i7.getD {o:Option V}{u:Option Value}{d:V}{d':Value}(r:i7 o u)(rd:RelV d d'):RelV (o.getD d) (u.getD d'):=by
 cases o with
 |none=>cases u with
  |none=>exact rd
  |some _=>exact (show False from r).elim
 |some _=>cases u with
  |none=>exact (show False from r).elim
  |some _=>exact r
theorem KV.val {kvs:List (κ×V)}{vs:List (κ×Value)}(r:KV kvs vs)(k:κ):i7 (cQ kvs k) (valueAt vs k):=by
 unfold KV at r
 induction r with
 |nil=>exact True.intro
 |@cons p q ps qs h t ih =>
  obtain⟨h1,h2⟩:=h;by_cases e:p.1=k
  · have e':q.1=k:=h1.symm.trans e;have b:valueAt (q::qs) k=some q.2:=by simp[valueAt,MS,e']
    rw[da e,b];exact h2
  · have e':¬q.1=k:=λz=>e (h1.trans z);have b:valueAt (q::qs) k=valueAt qs k:=by simp[valueAt,MS,e']
    rw[cY e,b];exact ih
theorem KV.any {kvs:List (κ×V)}{vs:List (κ×Value)}(r:KV kvs vs)(k:κ):(kvs.any λkv=>decide (kv.1=k))=vs.any λkv=>decide (kv.1=k):=by
 unfold KV at r
 induction r with
 |nil=>rfl
 |cons h t ih=>rw[MM,MM,ih,h.1]
theorem KV.FJ {kvs:List (κ×V)}{vs:List (κ×Value)}(r:KV kvs vs)(k:κ){y:V}{u:Value}(ry:RelV y u) :
  KV (kvs.map λkv=>if kv.1=k then (kv.1,y) else kv) (vs.map λkv=>if kv.1=k then (kv.1,u) else kv):=by
 unfold KV at r ⊢
 induction r with
 |nil=>exact .nil
 |@cons p q ps qs h t ih =>
  rw[Lv,Lv];refine .cons ?_ ih;obtain⟨h1,h2⟩:=h;by_cases e:p.1=k
  · rw[Lg e,Lg (h1.symm.trans e)];exact⟨h1,ry⟩
  · rw[Lf e,Lf (λz=>e (h1.trans z))];exact⟨h1,h2⟩
theorem KV.put {kvs:List (κ×V)}{vs:List (κ×Value)}(r:KV kvs vs)(k:κ){y:V}{u:Value}(ry:RelV y u):KV (putK kvs k y) (stored vs k u):=by
 unfold putK stored;rw[r.any k];by_cases e:(vs.any λkv=>decide (kv.1=k))=true
 · rw[Lg e,Lg e];exact r.FJ k ry
 · rw[Lf e,Lf e];exact Paired.snoc r ⟨rfl,ry⟩
theorem KV.length {kvs:List (κ×V)}{vs:List (κ×Value)}(r:KV kvs vs):kvs.length=vs.length:=Paired.length r
end
theorem oW {P:Program}{w:World}{k:Key}{u:Value}(r:RelV (kV k) u):(cv P w).is k u=true:=by
 cases k with
 |inl i=>obtain⟨t,e⟩:=(show ∃t,u=Value.int i t from r);subst e;exact vF P w i t
 |inr x=>obtain⟨t,e⟩:=(show ∃t,u=Value.str x t from r);subst e;exact vn P w x t
theorem rE {P:Program}{w:World}:∀{ks:List Key} {us:N8},Vals (ks.map kV) us->ItemsAre (cv P w) ks us
 |[],_,r=>by rw[MD] at r;cases r;exact .nil
 |k::ks,_,r=>by
  rw[Lv] at r;cases r with
  |cons h t=>exact .cons (oW h) (rE t)
abbrev KT (H:Hp):List (List Key×V)->List (List Key×Addr×Value)->Prop:=Paired λp q=>p.1=q.1/\H q.2.1=some (.tup (p.1.map kV))/\RelV p.2 q.2.2
theorem KT.val {H:Hp}{kvs:List (List Key×V)}{xs:List (List Key×Addr×Value)}(r:KT H kvs xs)(k:List Key):i7 (cQ kvs k) ((atKey xs k).map (·.2)):=by
 induction r with
 |nil=>exact True.intro
 |@cons p q ps qs h t ih =>
  obtain⟨h1,_,h2⟩:=h;by_cases e:p.1=k
  · have e':q.1=k:=h1.symm.trans e;have b:atKey (q::qs) k=some q.2:=by simp[atKey,MS,e']
    rw[da e,b];exact h2
  · have e':¬q.1=k:=λz=>e (h1.trans z);have b:atKey (q::qs) k=atKey qs k:=by simp[atKey,MS,e']
    rw[cY e,b];exact ih
theorem KT.FJ {H:Hp}{kvs:List (List Key×V)}{xs:List (List Key×Addr×Value)}(r:KT H kvs xs)(k:List Key){y:V}{u:Value}(ry:RelV y u) :
  KT H (kvs.map λkv=>if kv.1=k then (kv.1,y) else kv) (xs.map (putAt k u)):=by
 induction r with
 |nil=>exact .nil
 |@cons p q ps qs h t ih =>
  rw[Lv,Lv];refine .cons ?_ ih;obtain⟨h1,h2,h3⟩:=h;unfold putAt;by_cases e:p.1=k
  · rw[Lg e,Lg (h1.symm.trans e)];exact⟨h1,h2,ry⟩
  · rw[Lf e,Lf (λz=>e (h1.trans z))];exact⟨h1,h2,h3⟩
theorem KT.put {H:Hp}{kvs:List (List Key×V)}{xs:List (List Key×Addr×Value)}(r:KT H kvs xs)(k:List Key){b:Addr}{y:V}{u:Value}(hb:H b=some (.tup (k.map kV)))(ry:RelV y u) :
  KT H (putK kvs k y) (storedH xs k b u):=by
 have e:(kvs.any λkv=>decide (kv.1=k))=(atKey xs k).isSome:=by
  rw[mx,(r.val k).iz,Option.isSome_map]
 unfold putK storedH;rw[e];by_cases q:(atKey xs k).isSome=true
 · rw[Lg q,Lg q];exact r.FJ k ry
 · rw[Lf q,Lf q];exact Paired.snoc r ⟨rfl,hb,ry⟩
theorem KT.keeps {H H':Hp}{kvs:List (List Key×V)}{xs:List (List Key×Addr×Value)}(r:KT H kvs xs)(ht:∀b ys,H b=some (.tup ys)->H' b=some (.tup ys)):KT H' kvs xs :=
 Paired.d8 r λ_ _ z=>⟨z.1,ht _ _ z.2.1,z.2.2⟩
section
variable {P:Program}{w:World}{H:Hp}{h:Heap}{a:Addr}
theorem Fx {u:HO} (ok:iC P w H h) (e:Rd H a u):bL P w H h a u:=e.ok ok
theorem vv {kvs:List (Key×V)}(ok:iC P w H h)(e:Rd H a (.dK kvs)):kvs.length<=sizeLine/\(a==sysModules)=false/\∃vs,KV kvs vs/\h.DictOf (cv P w) a vs :=
 show bL P w H h a (.dK kvs) from Fx ok e
theorem IC {kvs:List (Key×V)}(ok:iC P w H h)(e:H a=some (.dK kvs)):kvs.length<=sizeLine/\(a==sysModules)=false/\∃vs,KV kvs vs/\h.DictOf (cv P w) a vs:=vv ok (.inl e)
theorem o9 {ks:List Key}(ok:iC P w H h)(e:H a=some (.tup (ks.map kV))):(tupleKind (cv P w)).is h ks a:=by
 obtain⟨_,its,r,o,h1,h2,n,h3⟩:=(show bL P w H h a (.tup (ks.map kV)) from ok a _ e);exact⟨o,its.toArray,n,h1,h2,h3,by simpa using rE r⟩
theorem uS {kvs:List (List Key×V)}(ok:iC P w H h)(e:Rd H a (.dT kvs)):kvs.length<=sizeLine/\(a==sysModules)=false /\
  ∃xs,KT H kvs xs/\h.DictOfH (tupleKind (cv P w)) a xs:=by
 obtain⟨z,y,xs,r,o,es,ep,h1,h2,h3,h4,h5⟩:=(show bL P w H h a (.dT kvs) from Fx ok e);refine⟨z,y,xs,r,o,es,ep,h1,h2,h3,h4,λx hx=>?_,h5⟩;have all:∀{l:List (List Key×V)} {m:List (List Key×Addr×Value)},KT H l m->∀x∈m,(tupleKind (cv P w)).is h x.1 x.2.1:=by
  intro l m q
  induction q with
  |nil=>intro x hx;exact nomatch hx
  |@cons p q ps qs hq t ih =>
   intro x hx;rcases Li.mp hx with e|hx
   · subst e;exact o9 ok (by rw[←hq.1];exact hq.2.1)
   · exact ih x hx
 exact all r x hx
theorem IA {kvs:List (List Key×V)}(ok:iC P w H h)(e:H a=some (.dT kvs)):kvs.length<=sizeLine/\(a==sysModules)=false /\
  ∃xs,KT H kvs xs/\h.DictOfH (tupleKind (cv P w)) a xs:=uS ok (.inl e)
end
def gf (H:Hp)(a:Addr)(y:V)(r:Option V):Prop :=
 (∃kvs k,Rd H a (.dK kvs)/\y=kV k/\r=cQ kvs k)∨∃kvs k b,Rd H a (.dT kvs)/\y=.ref b/\H b=some (.tup (k.map kV))/\r=cQ kvs k
def Jq (H:Hp)(a:Addr)(y v:V)(H':Hp):Prop :=
 (∃kvs k,H a=some (.dK kvs)/\y=kV k/\kvs.length < sizeLine/\H'=upd H a (.dK (putK kvs k v))) ∨
 ∃kvs k b,H a=some (.dT kvs)/\y=.ref b/\H b=some (.tup (k.map kV))/\kvs.length < sizeLine/\H'=upd H a (.dT (putK kvs k v))
theorem gf.k {H:Hp}{a:Addr}{kvs:List (Key×V)}{k:Key}(e:H a=some (.dK kvs)):gf H a (kV k) (cQ kvs k):=.inl ⟨kvs,k,.inl e,rfl,rfl⟩
theorem gf.t {H:Hp}{a b:Addr}{kvs:List (List Key×V)}{k:List Key}(e:H a=some (.dT kvs))(eb:H b=some (.tup (k.map kV))):gf H a (.ref b) (cQ kvs k):=.inr ⟨kvs,k,b,.inl e,rfl,eb,rfl⟩
section
variable {X:Cx}{pins:N7}{σ:St}{H:Hp}{s:Shared}{a:Addr}{y v:V}{u r:Value}{o:Option V}{A:Around}{E:N5}
theorem Inv.big (I:Inv X pins σ H s):sysModules < s.heap.objs.size:=by
 have h:mainGlobals < s.heap.objs.size:=(I.mod.glob.keeps I.bk).lt;exact Nat.lt_trans (by decide) h
theorem JP {Q:N5}(hu:A.units+1 < cLine)(I:Inv X pins σ H s)(g:gf H a y o)(ry:RelV y u)(h:∀s',Inv X pins σ H s'->Q (.bool o.isSome) s') :
  wpAny (model X.prog X.w) A (compareOp .In u (.ref a)) Q E s:=by
 rcases g with ⟨kvs,k,e,ey,l⟩|⟨kvs,k,b,e,ey,eb,l⟩
 · subst ey;obtain⟨z,hd,vs,rel,dd⟩:=vv I.bw e;refine wpAny_in_of (oW ry) hd dd.mapOf ?_;rw[←(rel.val k).iz,←l];exact h _ (I.tok _)
 · subst ey;cases (show u=Value.ref b from ry);obtain⟨z,hd,xs,rel,dd⟩:=uS I.bw e;refine wpAny_in_heap (NW hu) (o9 I.bw eb) hd dd ?_;have q:=(rel.val k).iz;rw[Option.isSome_map] at q;rw[←q,←l];exact h _ (I.tok _)
theorem CU {Q:N5}(hu:A.units+1 < cLine)(I:Inv X pins σ H s)(g:gf H a y o)(ry:RelV y u)(h:∀s',Inv X pins σ H s'->Q (.bool (!o.isSome)) s') :
  wpAny (model X.prog X.w) A (compareOp .NotIn u (.ref a)) Q E s:=by
 rcases g with ⟨kvs,k,e,ey,l⟩|⟨kvs,k,b,e,ey,eb,l⟩
 · subst ey;obtain⟨z,hd,vs,rel,dd⟩:=vv I.bw e;refine wpAny_notIn_of (oW ry) hd dd.mapOf ?_;rw[←(rel.val k).iz,←l];exact h _ (I.tok _)
 · subst ey;cases (show u=Value.ref b from ry);obtain⟨z,hd,xs,rel,dd⟩:=uS I.bw e;refine wpAny_notIn_heap (NW hu) (o9 I.bw eb) hd dd ?_;have q:=(rel.val k).iz;rw[Option.isSome_map] at q;rw[←q,←l];exact h _ (I.tok _)
theorem yC {h':Heap}{t':Nat}{ob:HO}(I:Inv X pins σ H s)(mu:IT (H a))(hs:Heap.SameBut a s.heap h')(he:∃q,h'.get? a=some q)(new:bL X.prog X.w (upd H a ob) h' a ob) :
  Inv X pins σ (upd H a ob) {s with heap:=h',toks:=t'} :=
 I.write (x:=a) (e:=a) mu (.inl rfl) (λb q hb z=>(hs.2 b hb).trans z) he new
theorem Gf {P:Program}{w:World}{H':Hp}{h':Heap}{kvs:List (Key×V)}{vs:List (Key×Value)}(z:kvs.length<=sizeLine)(hd:(a==sysModules)=false)(rel:KV kvs vs)(dd:h'.DictOf (cv P w) a vs) :
  bL P w H' h' a (.dK kvs):=⟨z,hd,vs,rel,dd⟩
theorem zi {H':Hp}{Q:Unit->Shared->Prop}(hu:A.units+1 < cLine)(I:Inv X pins σ H s)(g:Jq H a y v H')(ry:RelV y u)(rv:RelV v r)(h:∀s',Inv X pins σ H' s'->Q () s') :
  wpAny (model X.prog X.w) A (setItem (.ref a) u r) Q E s:=by
 rcases g with ⟨kvs,k,e,ey,l,eH⟩|⟨kvs,k,b,e,ey,eb,l,eH⟩
 · subst ey eH;obtain⟨z,hd,vs,rel,dd⟩:=IC I.bw e;have hz:vs.length<=sizeLine:=by rw[←rel.length];exact z
   have hl:(putK kvs k v).length<=sizeLine:=by have:=gN kvs k v;omega
   refine wpAny_setItem_pairs (hsz:=hz) (oW ry) dd λh' dd' hs=>h _ ?_;have he:∃q,h'.get? a=some q:=let ⟨q,_,_,hq,_⟩:=dd';⟨q,hq⟩;exact yC I (by rw[e];exact True.intro) hs he (Gf hl hd (rel.put k rv) dd')
 · subst ey eH;cases (show u=Value.ref b from ry);obtain⟨z,hd,xs,rel,dd⟩:=IA I.bw e;have hz:xs.length<=sizeLine:=by rw[←Paired.length rel];exact z
   have hl:(putK kvs k v).length<=sizeLine:=by have:=gN kvs k v;omega
   refine wpAny_setItem_heap (hsz:=hz) (NW hu) (o9 I.bw eb) dd λh' dd' hs=>h _ ?_;obtain⟨q,es,ep,hq,h2,h3,h4,_,h5⟩:=dd';refine yC I (by rw[e];exact True.intro) hs ⟨q,hq⟩ ⟨hl,hd,_,(rel.put k eb rv).keeps λc ys ec=>?_,q,es,ep,hq,h2,h3,h4,h5⟩;rw[aq (dF ec e (λz=>nomatch z))];exact ec
end
section
variable {X:Cx}{pins:N7}{σ:St}{H:Hp}{s:Shared}{a:Addr}{kvs:List (Key×V)}{k:Key}{u:Value}{A:Around}{E:N5}
end
def HY (i:Expr):Prop:=∀ov iv,subscripted i false ov iv=operate [ov,iv] (getItem ov iv)
theorem DI {prog:Program}{w:World}{A:Around}{E:N5}{s:Shared}{env:Env}{value slice:Expr}{pos:Pos}{T id:String}{Q:N5}
  (hl:typeLookup (.type T) "__getitem__"=pure (some (.builtin id)))(hs:HY slice)
  (h:wpAny (model prog w) A (eval value env) (λo s₁=>wpAny (model prog w) A (eval slice env) (λi s₂=>s₂.TypeIs o T/\wpAny (model prog w) A (getItem o i) Q E s₂) E s₁) E s) :
  wpAny (model prog w) A (eval (.Subscript value slice pos) env) Q E s:=by
 refine Subscript_ (Mw h (λo s₁ h₁=>Mw h₁ (λi s₂ h₂=>?_) λ_ _ x=>x) λ_ _ x=>x);obtain⟨hT,h₂⟩:=h₂;unfold subscriptTail;refine Ld ?_;rw[getitemInPython_of_ne hT.not_modules];refine Ld (wpAny_specialOf hT hl ?_);have fin:wpAny (model prog w) A (subscripted slice false o i) (λr s₃=>wpAny (model prog w) A (letTemporaryGo value o r >>= λ_=>pure r) Q E s₃) E s₂:=by
  rw[hs o i];exact wpAny_operating (Mw h₂ (λr s₃ h₃=>Ld (wpAny_letTemporaryGo (Lk h₃))) λ_ _ x=>x)
 first
  |exact Lk (Ld fin)
  |exact Ld (Lk (Ld fin))
  |exact Ld fin
def Ih (ty td:TE):TE:=λσ H Q=>ty σ H λy H1=>td σ H1 λx H2=>∃a o,x=.ref a/\gf H2 a y o/\Q (.bl o.isSome) H2
def DC (ty td:TE):TE:=λσ H Q=>ty σ H λy H1=>td σ H1 λx H2=>∃a o,x=.ref a/\gf H2 a y o/\Q (.bl (!o.isSome)) H2
def Ji (td ty tv:TE):TS:=λD σ H=>tv σ H λv H1=>td σ H1 λx H2=>ty σ H2 λy H3=>∃a H4,x=.ref a/\Jq H3 a y v H4/\D.nx σ H4
section
variable {X:Cx}{o i e value:Expr}{pos pos' tpos:Pos}{td ty tv:TE}
theorem sR (hu:X.A.units+1 < cLine) (hi:PE X i ty) (ho:PE X o td):PC X .In i o (Ih ty td):=by
 intro pins s σ H Q I h;refine bB (hi pins s σ H _ I h) λiv s1 ⟨y,H1,I1,ry,q1⟩=>bB (ho pins s1 σ H1 _ I1 q1) λu s2 ⟨x,H2,I2,rx,a,ov,ex,g,q2⟩=>?_;subst ex;obtain rfl:u=Value.ref a:=rx;exact JP hu I2 g ry λs3 I3=>⟨.bl ov.isSome,H2,I3,rfl,q2⟩
theorem Ai (hu:X.A.units+1 < cLine)(hi:PE X i ty)(ho:PE X o td):PC X .NotIn i o (DC ty td):=by
 intro pins s σ H Q I h;refine bB (hi pins s σ H _ I h) λiv s1 ⟨y,H1,I1,ry,q1⟩=>bB (ho pins s1 σ H1 _ I1 q1) λu s2 ⟨x,H2,I2,rx,a,ov,ex,g,q2⟩=>?_;subst ex;obtain rfl:u=Value.ref a:=rx;exact CU hu I2 g ry λs3 I3=>⟨.bl (!ov.isSome),H2,I3,rfl,q2⟩
theorem l_ (hu:X.A.units+1 < cLine)(ho:PE X o td)(hi:PE X i ty)(hv:PE X value tv)(hs:swapsWith value (some (.Subscript o i pos')) pos.line X.env=pure false) :
  PS X (.Assign [.Subscript o i pos'] value pos) (Ji td ty tv):=by
 intro pins s σ H D I h;refine wpAny_Assign_Subscript (bB (hv pins s σ H _ I h) λr s1 ⟨v,H1,I1,rv,q1⟩=>bB (ho pins s1 σ H1 _ I1 q1) λu s2 ⟨x,H2,I2,rx,q2⟩=>bB (hi pins s2 σ H2 _ I2 q2) λiv s3 ⟨y,H3,I3,ry,a,H4,ex,g,q3⟩=>?_) hs;subst ex;obtain rfl:u=Value.ref a:=rx;exact zi hu I3 g ry rv λs4 I4=>⟨σ,H4,I4,q3⟩
end
theorem Az {P:Program}{w:World}{H:Hp}(h:Heap)(hb:sysModules < h.objs.size):bL P w H (h.push {cls:=.type "dict",data:=.dict #[]}) h.objs.size (.dK []) :=
 ⟨LJ _,LK.mpr (NU (LP hb)),[],.nil,Heap.DictOf.new h⟩
theorem AI {P:Program}{w:World}{H:Hp}(h:Heap)(hb:sysModules < h.objs.size):bL P w H (h.push {cls:=.type "dict",data:=.dict #[]}) h.objs.size (.dT []) :=
 ⟨LJ _,LK.mpr (NU (LP hb)),[],.nil,_,#[],0,Lu _ rfl,⟨rfl,rfl,rfl⟩,rfl,rfl,List.nodup_nil⟩
def HE:TE:=λ_ H Q=>∀p,H p=none->Q (.ref p) (upd H p (.dK []))
def Hl:TE:=λ_ H Q=>∀p,H p=none->Q (.ref p) (upd H p (.dT []))
section
variable {X:Cx}{pos:Pos}
theorem pf:PE X (.Dict [] [] pos) HE:=λpins s σ H Q I h =>
 wpAny_Dict_empty ⟨.ref s.heap.objs.size,_,I.laid (a:=s.heap.objs.size) (o:=.dK []) (t':=s.toks) (λ_ _ q=>Lh _ q) (Ln _) (Az s.heap I.big),rfl,h _ (I.bw.fresh (Ln _))⟩
theorem px:PE X (.Dict [] [] pos) Hl:=λpins s σ H Q I h =>
 wpAny_Dict_empty ⟨.ref s.heap.objs.size,_,I.laid (a:=s.heap.objs.size) (o:=.dT []) (t':=s.toks) (λ_ _ q=>Lh _ q) (Ln _) (AI s.heap I.big),rfl,h _ (I.bw.fresh (Ln _))⟩
end
structure M2 (X:Cx)(o:Expr)(m:Str)(apos:Pos)(e f:Expr)(cpos:Pos):Prop where
 base:attributeBase o m X.env (eval o X.env)=eval o X.env
 vR:((backTo cpos (starEach [e,f] X.env)).all (λx=>!x.1)&&(backToKw cpos (keywordEach [] X.env)).all (λx=>x.1.isSome)
  && decide (([e,f]:List Expr).length+([]:List Keyword).length+(if ([]:List Keyword).isEmpty then 0 else 1) < 30))=true
 line:(apos.endLine==cpos.line)=true
 trees:backTo cpos (starEach [e,f] X.env)=[(false,eval e X.env),(false,eval f X.env)]
def KH (H:Hp)(a:Addr):Prop:=(∃kvs,Rd H a (.dK kvs))∨∃kvs,Rd H a (.dT kvs)
theorem Hz {X:Cx}{pins:N7}{σ:St}{H:Hp}{s:Shared}{a:Addr}(I:Inv X pins σ H s)(d:KH H a) :
  s.TypeIs (.ref a) "dict"/\(∀b,Value.ref a=.ref b->∃ob,s.heap.get? b=some ob/\ob.dict=none)/\(a==sysModules)=false:=by
 rcases d with ⟨kvs,e⟩|⟨kvs,e⟩
 · obtain⟨_,hd,vs,_,dd⟩:=vv I.bw e;refine⟨dd.typeIs,λb q=>?_,hd⟩;cases q;obtain⟨ob,_,_,h1,h2,_⟩:=dd;exact⟨ob,h1,h2.2.1⟩
 · obtain⟨_,hd,xs,_,dd⟩:=uS I.bw e;refine⟨dd.typeIs,λb q=>?_,hd⟩;cases q;obtain⟨ob,_,_,h1,h2,_⟩:=dd;exact⟨ob,h1,h2.2.1⟩
section
variable {X:Cx}{pins:N7}{σ:St}{H:Hp}{s:Shared}{a:Addr}{y d:V}{u r:Value}{o:Option V}{A:Around}{E:N5}
theorem GK {Q:N5} (hu:A.units+1 < cLine) (I:Inv X pins σ H s) (g:gf H a y o) (ry:RelV y u) (rd:RelV d r) (h:∀w' s',Inv X pins σ H s'->RelV (o.getD d) w'->Q w' s') :
  wpAny (model X.prog X.w) A (call (.builtin "dict.get") [.ref a,u,r]) Q E s:=by
 rcases g with ⟨kvs,k,e,ey,l⟩|⟨kvs,k,b,e,ey,eb,l⟩
 · subst ey;obtain⟨z,hd,vs,rel,dd⟩:=vv I.bw e;refine call_meetsIn PySem.F.slot_dict_get dd.typeIs PySem.F.entry_dict_get (PySem.F.args_dict_get_3 _ _ _) (meets_dict_get_default (cv X.prog X.w) a (oW ry) hd r) ⟨_,dd.mapOf,h _ _ (I.tok _) ?_⟩;rw[l];exact (rel.val k).getD rd
 · subst ey;cases (show u=Value.ref b from ry);obtain⟨z,hd,xs,rel,dd⟩:=uS I.bw e;refine call_meetsIn PySem.F.slot_dict_get dd.typeIs PySem.F.entry_dict_get (PySem.F.args_dict_get_3 _ _ _) (meetsH_dict_get_default (tupleKind (cv X.prog X.w)) a b hd r) ⟨NW hu,k,xs,o9 I.bw eb,dd,h _ _ (I.tok _) ?_⟩;rw[l];exact (rel.val k).getD rd
end
def GA (td ty tx:TE):TE:=λσ H Q=>td σ H λx H1=>∃a,x=.ref a/\KH H1 a/\ty σ H1 λy H2=>tx σ H2 λz H3=>∃o,gf H3 a y o/\Q (o.getD z) H3
section
variable {X:Cx}{o e f:Expr}{apos cpos:Pos}{td ty tx:TE}
theorem vw (hu:X.A.units+1 < cLine) (ho:PE X o td) (he:PE X e ty) (hf:PE X f tx) (m:M2 X o "get" apos e f cpos):PE X (.Call (.Attribute o "get" apos) [e,f] [] cpos) (GA td ty tx):=by
 intro pins s σ H Q I h;refine wpAny_Call_method m.base m.vR m.line PySem.F.plainAttrs_dict PySem.F.slot_dict_get PySem.F.type_dict_get (bB (ho pins s σ H _ I h) λu s1 ⟨x,H1,I1,rx,a,ex,d,q1⟩=>?_);subst ex;obtain rfl:u=Value.ref a:=rx;obtain⟨t1,t2,_⟩:=Hz I1 d;refine⟨t1,t2,?_⟩;rw[m.trees];refine NG rfl (Calls.evalArgs_plain (N0 (bB (he pins s1 σ H1 _ I1 q1) λiv s2 ⟨y,H2,I2,ry,q2⟩ =>
  N0 (bB (hf pins s2 σ H2 _ I2 q2) λfv s3 ⟨z,H3,I3,rz,ov,g,q3⟩=>Calls.spliced_nil ?_))))
 exact GK hu I3 g ry rz λw' s4 I4 rw'=>⟨_,H3,I4,rw',q3⟩
end
section
variable {X:Cx}{pins:N7}{σ:St}{H:Hp}{s:Shared}{a:Addr}{kvs:List (Key×V)}{A:Around}{E:N5}
end
section
variable {X:Cx}{pins:N7}{σ:St}{H:Hp}{s:Shared}{a:Addr}{y:V}{u:Value}{A:Around}{E:N5}
end
section
variable {prog:Program}{w:World}{A:Around}{E:N5}
end
section
variable {X:Cx}
end
section
variable {X:Cx}{pins:N7}{σ:St}{H:Hp}{s:Shared}{h':Heap}
theorem Inv.DF {t':Nat} {ch:List Addr} (I:Inv X pins σ H s) (k:∀b o,b∉ch->s.heap.get? b=some o->h'.get? b=some o) (hf:∀b∈ch,mS X pins H b):Inv X pins σ H {s with heap:=h',toks:=t'}:=by
 have nit:∀b u,H b=some u->b∉ch:=λb u e z=>by
  have q:=(hf b z).1;rw[q] at e;cases e
 refine I.step (g':=s.gens) (d':=s.drawn) (ch:=ch) (λb hb=>⟨(hf b hb).2.2.2.1,(hf b hb).2.1,(hf b hb).2.2.2.2.1,(hf b hb).2.2.2.2.2⟩) (λb o _ _ hc e _=>k b o hc e) (λb o _ _ hc e _=>⟨o.slots,k b o hc e⟩)
  (λ_ _ _ _ n=>n) (λb o hc e=>⟨o,k b o hc e⟩) (λ_ _ e=>e) (λ_ _ _ e=>e) (λb ps e=>⟨#[],by rw[e];simp⟩) (λm hm=>?_) (λb u e=>?_) I.bare
 · obtain⟨o,es,ep,ho,r⟩:=hm;exact⟨o,es,ep,k _ o (λz=>(hf _ z).2.1 rfl) ho,r⟩
 · refine (I.bw b u e).kH (λc v hc q=>k c v ?_ q) (λ_ q=>q) λ_ _ q=>q;rcases hc with z|z
   · rw[z];exact nit b u e
   · exact nit c _ z
theorem Inv.rL {t':Nat}{ch:List Addr}{T:Addr}{ob:HO}(I:Inv X pins σ H s)(k:∀b o,b∉ch->s.heap.get? b=some o->h'.get? b=some o)(hf:∀b∈ch,mS X pins H b)(hT:s.heap.objs.size<=T)
  (new:bL X.prog X.w (upd H T ob) h' T ob):Inv X pins σ (upd H T ob) {s with heap:=h',toks:=t'}:=by
 have hn:H T=none:=I.bw.fresh hT;have nit:∀b u,H b=some u->b∉ch:=λb u e z=>by
  have q:=(hf b z).1;rw[q] at e;cases e
 refine I.step (g':=s.gens) (d':=s.drawn) (ch:=ch) (λb hb=>⟨(hf b hb).2.2.2.1,(hf b hb).2.1,(hf b hb).2.2.2.2.1,(hf b hb).2.2.2.2.2⟩) (λb o _ _ hc e _=>k b o hc e) (λb o _ _ hc e _=>⟨o.slots,k b o hc e⟩)
  (λb o _ e n=>?_) (λb o hc e=>⟨o,k b o hc e⟩) (λb xs e=>?_) (λb o u e=>?_) (λb ps e=>⟨#[],?_⟩) (λm hm=>?_) (λb u e=>?_) I.bare
 · rw[aq (LP (LV (Lq e) hT))];exact n
 · rw[aq (ao e hn)];exact e
 · rw[aq (ao e hn)];exact e
 · rw[aq (ao e hn),e];simp
 · obtain⟨o,es,ep,ho,r⟩:=hm;exact⟨o,es,ep,k _ o (λz=>(hf _ z).2.1 rfl) ho,r⟩
 · by_cases hb:b=T
   · subst hb;rw[ae] at e;cases e;exact new
   · rw[aq hb] at e;refine (I.bw b u e).kH (λc v hc q=>k c v ?_ q) (λc q=>by rw[aq (ao q hn)];exact q) λc xs q=>by rw[aq (ao q hn)];exact q
     rcases hc with z|z
     · rw[z];exact nit b u e
     · exact nit c _ z
end
section
variable {X:Cx}
theorem we {tg:Expr} {pins:N7} {σ:St} {H:Hp} {s:Shared} {R:It->Hp->Prop} {J:It} {tn:Nat->Heap->Prop} {tk:Nat} (I:Inv X pins σ H s) (o:Obj)
  (T:Turn X.prog X.w X.K tg J [s.heap.objs.size] s.heap.objs.size tn) (st:tn 0 (s.heap.push o)) (q:R J H):Kp X pins σ tg R (.ref s.heap.objs.size) {s with heap:=s.heap.push o,toks:=tk}:=by
 refine⟨s.heap.objs.size,[s.heap.objs.size],tn,J,H,rfl,I.kept λb ob e=>Lh _ e,T,st,λb hb=>?_,q⟩;have e:b=s.heap.objs.size:=by simpa using hb
 subst e;exact I.wj (Ln _) (I.bw.fresh (Ln _))
end
def HS (lo c:Int)(n:Nat):It:=⟨λi _=>i < n,λi H x H'=>H'=H/\x=.int (lo+(i:Nat)*c),λi _=>n<=i⟩
theorem vf {P:Program}{w:World}{K:N4}{tg:Expr}(it:Addr)(lo c:Int)(n:Nat):Turn P w K tg (HS lo c n) [it] it (λi h=>IsRangeIter h it (lo+(i:Nat)*c) ((n:Int) - (i:Nat)) c) where
 mem:=by simp
 obj:=λi h st b hb=>by
  have e:b=it:=by simpa using hb
  subst e;exact⟨_,st,λv z=>nomatch z⟩
 keep:=λi h h' st k=>k it (by simp) _ st
 item:=by
  intro X hP hw hK hc i pins s σ H E I hf st hg;subst hP hw hK;obtain⟨f0,f1,f2,f3,f4,f5⟩:=hf it (by simp);have W:=Walks.range (prog:=X.prog) (w:=X.w) (I.ok.hd hc) it lo c n;refine W.item i s _ _ hg st λv h' tk hv st' kk=>?_;obtain⟨t,rfl⟩:=hv;have I1:Inv X pins σ H {s with heap:=h',toks:=tk}:=I.turned (λb o hb e=>kk b o (by simpa using hb) e) f0 f1 f3 f4 f5;exact⟨_,rfl,uZ (s:={s with heap:=h',toks:=tk}) (n:="range_iterator") st' rfl rfl (by decide) ⟨.int (lo+(i:Nat)*c),H,I1,⟨t,rfl⟩,⟨rfl,rfl⟩,st',λb hb=>(hf b hb).1⟩⟩
 done:=by
  intro X hP hw hK hc i pins s σ H E I hf st hg;subst hP hw hK;obtain⟨f0,f1,f2,f3,f4,f5⟩:=hf it (by simp);exact wpAny_pyNext_range_end (I.ok.hd hc) st (by have:n<=i:=hg;omega) λh' eb=>⟨rfl,I.turned (t':=s.toks) (λb o hb e=>eb b o hb e) f0 f1 f3 f4 f5⟩
 self:=λA i s Q E st h=>wpAny_pyIter_rangeiter st h
def IQ (i j c:Int)(n:Nat):Prop:=c≠0/\c.natAbs < 1073741824/\Builtin.Range.small i j c=true/\Builtin.Range.rangeSize i j c=n
theorem IQ.neg {i j:Int}(ha:-(2 ^ 62)<=i)(ha':i < 2 ^ 62)(hb:-(2 ^ 62)<=j)(hb':j < 2 ^ 62):IQ i j (-1) (i - j).toNat :=
 ⟨by decide,by decide,PySem.W.small_down ha ha' hb hb',PySem.W.rangeSize_downNat i j⟩
def E7 (ta:TA):TI:=λσ H R=>ta σ H λvs H1=>∃(i j c:Int) (n:Nat),vs=[.int i,.int j,.int c]/\IQ i j c n/\R (HS i c n) H1
section
variable {X:Cx}{tg:Expr}
theorem rA {a b c:Expr} {ta:TA} {p pos:Pos} (hg:Gl X "range") (hm:X.mg "range"=none) (ha:PA X [a,b,c] ta)
  (hs:starEach [a,b,c] X.env=(false,eval a X.env)::starEach [b,c] X.env:=by rfl) (hpl:(backTo pos (starEach [b,c] X.env)).any (·.1)=false:=by rfl) :
  PI X tg (.Call (.Name "range" p) [a,b,c] [] pos) (E7 ta):=by
 intro pins s σ H R I h;refine Call_ (kR I hg hm boot_range (MF (bB (ha pos pins s σ H _ I h) λus s1 ⟨vs,H1,I1,r1,q1⟩=>?_) hs hpl));obtain⟨i,j,k,n,e,⟨c0,c1,c2,c3⟩,q⟩:=q1;subst e;cases r1 with
 |cons r rr =>
  cases rr with
  |cons r' rr =>
   cases rr with
   |cons r'' rr =>
    cases rr;obtain⟨t,rfl⟩:=r;obtain⟨t',rfl⟩:=r';obtain⟨t'',rfl⟩:=r'';refine call_range_3 c0 ?_ (.inl (PyProof.noPylong_small c1));refine wpAny_pyIter_range (IsRange.new ..) c2 ?_;have I2:Inv X pins σ H1 {s1 with heap:=s1.heap.push {cls:=.type "range",data:=.fields #[.int i t,.int j t',.int k t'']}}:=I1.kept (t':=s1.toks) λb o e=>Lh _ e;refine we (tk:=s1.toks) I2 _ (vf _ i k n) ?_ q;have e1:i+((0:Nat):Int)*k=i:=by simp
    have e2:(n:Int) - ((0:Nat):Int)=Builtin.Range.rangeSize i j k:=by rw[c3];simp
    show IsRangeIter _ _ (i+((0:Nat):Int)*k) ((n:Int) - ((0:Nat):Int)) k;rw[e1,e2];exact Lu _ rfl
end
theorem oK {lo c:Int}{n:Nat}{g:TG}{tb:TS}{D:Ends}{σ:St}{H:Hp}(Pv:Nat->St->Hp->Prop)(h0:Pv 0 σ H)
  (hs:∀i σ H,i < n->Pv i σ H->g (.int (lo+(i:Nat)*c)) σ H λσ2 H2=>tb {D with nx:=Pv (i+1),ct:=Pv (i+1),bk:=D.nx} σ2 H2)(hd:∀σ H,Pv n σ H->D.nx σ H) :
  ∃W:Nat->Nat->St->Hp->Prop,(∃m,W 0 m σ H)/\∀i m σ H,W i m σ H ->
   ((HS lo c n).stop i H/\D.nx σ H)∨((HS lo c n).go i H/\∃N:St->Hp->Prop,(∀σ' H',N σ' H'->∃m',m' < m/\W (i+1) m' σ' H')/\∀x H',(HS lo c n).vS i H x H'->g x σ H' λσ2 H2=>tb {D with nx:=N,ct:=N,bk:=D.nx} σ2 H2):=by
 refine⟨λi m σ H=>m=n - i/\i<=n/\Pv i σ H,⟨n,by simp,LJ _,h0⟩,?_⟩;rintro i m σ H ⟨rfl,hi,p⟩;by_cases hlt:i < n
 · refine .inr ⟨hlt,Pv (i+1),λσ' H' p'=>⟨n - (i+1),by omega,rfl,hlt,p'⟩,λx H' y=>?_⟩;obtain⟨e,y⟩:=y;subst e y;exact hs i σ _ hlt p
 · have e:i=n:=by omega
   subst e;exact .inl ⟨Ln _,hd σ H p⟩
section
variable {X:Cx}{tg:Expr}
end
def Il (x:Str):It:=⟨λi _=>i < x.cps.size,λi H v H'=>H'=H/\∃c,x.cps[i]?=some c/\v=.str ⟨#[c]⟩,λi _=>x.cps.size<=i⟩
theorem uP {P:Program}{w:World}{K:N4}{tg:Expr}(it:Addr)(x:Str)(t:Tok)(ty:String)(hty:ty="str_ascii_iterator"∨ty="str_iterator") :
  Turn P w K tg (Il x) [it] it (λi h=>h.IsStrIter it ty x t i) where
 mem:=by simp
 obj:=λi h st b hb=>by
  have e:b=it:=by simpa using hb
  subst e;obtain⟨o,e,c,d⟩:=st;exact⟨o,e,λv z=>by rw[d] at z;cases z⟩
 keep:=λi h h' st k=>let ⟨o,ho,r⟩:=st;⟨o,k it (by simp) o ho,r⟩
 item:=by
  intro X hP hw hK hc i pins s σ H E I hf st hg;subst hP hw hK;obtain⟨f0,f1,f2,f3,f4,f5⟩:=hf it (by simp);have W:Walks X.prog X.w X.A it [it] [it] x.cps.size (SignAt x) (λi h=>h.IsStrIter it ty x t i):=by
   rcases hty with e|e
   · rw[e];exact Walks.strAscii (I.ok.hd hc) it x t
   · rw[e];exact Walks.strWide (I.ok.hd hc) it x t
  have hno:["enumerate","zip","dict_itemiterator","dict_reverseitemiterator","odict_iterator","itertools.zip_longest","itertools.pairwise"].contains ty=false:=by
   rcases hty with e|e
   · rw[e];decide
   · rw[e];decide
  refine W.item i s _ _ hg st λv h' tk hv st' kk=>?_;obtain⟨c,u,hcx,rfl⟩:=hv;have I1:Inv X pins σ H {s with heap:=h',toks:=tk}:=I.turned (λb o hb e=>kk b o (by simpa using hb) e) f0 f1 f3 f4 f5;obtain⟨oi,e,cc,dd⟩:=id st';exact⟨_,rfl,uZ (s:={s with heap:=h',toks:=tk}) e cc dd hno ⟨.str ⟨#[c]⟩,H,I1,⟨u,rfl⟩,⟨rfl,c,hcx,rfl⟩,st',λb hb=>(hf b hb).1⟩⟩
 done:=by
  intro X hP hw hK hc i pins s σ H E I hf st hg;subst hP hw hK;obtain⟨f0,f1,f2,f3,f4,f5⟩:=hf it (by simp);have hx:x.cps[i]?=none:=Array.getElem?_eq_none hg;rcases hty with e|e
  · rw[e] at st;exact wpAny_pyNext_ascii_end (I.ok.hd hc) st hx λh' eb=>⟨rfl,I.turned (t':=s.toks) (λb o hb e=>eb b o hb e) f0 f1 f3 f4 f5⟩
  · rw[e] at st;exact wpAny_pyNext_wide_end (I.ok.hd hc) st hx λh' eb=>⟨rfl,I.turned (t':=s.toks) (λb o hb e=>eb b o hb e) f0 f1 f3 f4 f5⟩
 self:=λA i s Q E st h=>by
  rcases hty with e|e
  · rw[e] at st;exact wpAny_pyIter_striter_ascii st h
  · rw[e] at st;exact wpAny_pyIter_striter_wide st h
def Kb (te:TE):TI:=λσ H R=>te σ H λv H1=>∃x,v=.str x/\R (Il x) H1
theorem GQ {X:Cx}{tg e:Expr}{te:TE}(he:PE X e te):PI X tg e (Kb te):=by
 intro pins s σ H R I h;refine bB (he pins s σ H _ I h) λv s1 ⟨y,H1,I1,r1,x,ex,q⟩=>?_;subst ex;obtain⟨t,rfl⟩:=r1;cases ha:x.cps.all (· < 128)
 · exact wpAny_pyIter_wide ha (we (tk:=s1.toks) I1 _ (uP _ x t "str_iterator" (.inr rfl)) ⟨_,Lu _ rfl,rfl,rfl⟩ q)
 · exact wpAny_pyIter_ascii ha (we (tk:=s1.toks) I1 _ (uP _ x t "str_ascii_iterator" (.inl rfl)) ⟨_,Lu _ rfl,rfl,rfl⟩ q)
section
variable {prog:Program}{w:World}{A:Around}{E:N5}{s:Shared}
theorem Ab {d:Addr} {o:Obj} {es:Array DictEntry} {ep:Nat} {Q:N5} (hd:(d==sysModules)=false) (ho:s.heap.get? d=some o) (hc:o.ExactDict) (hdat:o.data=.dict es ep)
  (hQ:Q (.ref s.heap.objs.size) {s with heap:=s.heap.push {cls:=.type "dict_keyiterator",data:=.fields #[.ref d,.int 0 0,.int es.size 0,.int ep 0]}}) :
  wpAny (model prog w) A (pyIter (.ref d)) Q E s:=by
 have hT:s.TypeIs (.ref d) "dict":=⟨o,ho,hc.1⟩;refine wpAny_pyIter_slot hT F.slot_dict_iter (MA F.slot_dict_iter hT F.entry_dict_iter ?_ (F.args_dict_iter_1 _));unfold Builtin.«dict.__iter__»;refine Ld ?_;unfold Builtin.Dict.dictSlotNone;refine Ld (wpAny_notOrdered_dict hT ?_);show wpAny _ _ (pure (Value.ref d)) _ _ s;refine Lk ?_;show wpAny _ _ (Builtin.Dict.showsAll d >>= _) _ _ s;unfold Builtin.Dict.showsAll;rw[Lf (by rw[hd];exact LC)];refine Ld (Lk ?_);refine Ld (wpAny_dictEntries ho hdat ?_);refine Ld (wpAny_dictEpoch ho hdat ?_);refine Ld (MG (Lk ⟨_,rfl,"dict_keyiterator",_,⟨_,Lu _ rfl,rfl⟩,MP.lookup,?_⟩));simpa [rawInt] using hQ
theorem qF {it d:Addr}{i n ep:Nat}{od:Obj}{es:Array DictEntry}{en:DictEntry}{Q:Option Value->Shared->Prop}(hit:s.heap.IsKeyIter it d i n ep)(hod:s.heap.get? d=some od)(hdd:od.data=.dict es ep)
  (hsz:es.size=n)(hx:es[i]?=some en)(hQ:∀h',h'.IsKeyIter it d (i+1) n ep->Heap.SameBut it s.heap h'->Q (some en.key) {s with heap:=h'}):wpAny (model prog w) A (pyNext (.ref it)) Q E s:=by
 obtain⟨o,ho,hc,hd⟩:=id hit;unfold pyNext;refine Ld (wpAny_attempt (Mu (name:=Str.ofString "__next__") hit.typeIs MP
  (MA MP hit.typeIs F.entry_dict_keyiterator_next ?_ (F.args_dict_keyiterator_next_1 _))))
 refine Ld (Lk ?_);refine Ld ?_;refine Ld ?_
 first|refine Ld (M8 hit.typeIs (Lk ?_))|refine Ld (Nn hit.typeIs (Lk ?_))
 refine Ld (wpAny_fieldsOf ho hd ?_);have hown:Builtin.Dict_items.ownsTuple "dict_keyiterator"=false:=by decide
 simp only[hown,ME,Nc];show wpAny _ _ (if (Value.ref d==Value.none)=true then _ else _) _ _ s;rw[Lf (show ¬((Value.ref d==Value.none)=true) from LC)];refine Ld (Lk ?_);refine Ld (wpAny_dictEntries hod hdd ?_);rw[Lf (by rw[hsz];simp)];refine Ld (Lk ?_);refine Ld (wpAny_dictEpoch hod hdd ?_);rw[Lf (by simp)];refine Lk ?_;obtain⟨hlt',hen⟩:=Array.getElem?_eq_some_iff.mp hx;simp only[show ¬((i:Int) < 0) from by omega,Nc,LZ,Array.getElem?_eq_getElem hlt'];refine Ld ?_
 first|refine Ld (M8 hit.typeIs (Lk ?_))|refine Ld (Nn hit.typeIs (Lk ?_))
 refine Ld (wpAny_isOneOf_keyiter hit.typeIs ?_);show wpAny _ _ (setField (.ref it) 1 (rawInt ((i:Int)+1)) >>= _) _ _ s;refine Ld (wpAny_setField ho hd (by simp) ?_);have hit':(s.heap.update it (Obj.mapFields (·.setIfInBounds 1 (rawInt ((i:Int)+1))))).IsKeyIter it d (i+1) n ep :=
  ⟨_,Md _ ho (Obj.isFreed_of_fields (Obj.data_mapFields hd _)),(Obj.cls_mapFields ..).trans hc,by rw[Obj.data_mapFields hd];simp[rawInt]⟩
 refine Ld (Nf ?_);refine Ld (wpAny_isOneOf_keyiter (s:={s with heap:=s.heap.update it (Obj.mapFields (·.setIfInBounds 1 (rawInt ((i:Int)+1))))}) hit'.typeIs ?_);show wpAny _ _ (pure es[i].key) _ _ _;rw[hen];exact Lk (Lk ⟨_,rfl,Lk (hQ _ hit' (LD ..))⟩)
theorem sC {it d:Addr}{i n ep:Nat}{od:Obj}{es:Array DictEntry}{Q:Option Value->Shared->Prop}(hh:A.handled=none)(hit:s.heap.IsKeyIter it d i n ep)(hod:s.heap.get? d=some od)(hdd:od.data=.dict es ep)
  (hsz:es.size=n)(hge:n<=i)(hQ:∀h',Heap.ExtBut it s.heap h'->Q none {s with heap:=h'}):wpAny (model prog w) A (pyNext (.ref it)) Q E s:=by
 obtain⟨o,ho,hc,hd⟩:=id hit;unfold pyNext;refine Ld (wpAny_attempt (Mu (name:=Str.ofString "__next__") hit.typeIs MP
  (MA MP hit.typeIs F.entry_dict_keyiterator_next ?_ (F.args_dict_keyiterator_next_1 _))))
 refine Ld (Lk ?_);refine Ld ?_;refine Ld ?_
 first|refine Ld (M8 hit.typeIs (Lk ?_))|refine Ld (Nn hit.typeIs (Lk ?_))
 refine Ld (wpAny_fieldsOf ho hd ?_);have hown:Builtin.Dict_items.ownsTuple "dict_keyiterator"=false:=by decide
 simp only[hown,ME,Nc];show wpAny _ _ (if (Value.ref d==Value.none)=true then _ else _) _ _ s;rw[Lf (show ¬((Value.ref d==Value.none)=true) from LC)];refine Ld (Lk ?_);refine Ld (wpAny_dictEntries hod hdd ?_);rw[Lf (by rw[hsz];simp)];refine Ld (Lk ?_);refine Ld (wpAny_dictEpoch hod hdd ?_);rw[Lf (by simp)];refine Lk ?_;have hge':es.size<=i:=by rw[hsz];exact hge
 simp only[show ¬((i:Int) < 0) from by omega,Nc,LZ,Array.getElem?_eq_none hge'];refine Ld ?_
 first|refine Ld (M8 hit.typeIs (Lk ?_))|refine Ld (Nn hit.typeIs (Lk ?_))
 show wpAny _ _ (setField (.ref it) 0 .none >>= _) _ _ s;refine Ld (wpAny_setField ho hd (by simp) ?_);show wpAny _ _ (newExc (.type "StopIteration") [] >>= _) _ _ _;refine Ld ?_;simp only[newExc,newTuple];refine Ld (MG ?_ (by size_fits));refine Ld (m:=firstArgMember _ _) (wpAny_of_eq (a:=Value.none) (by first|rfl|(simp only[firstArgMember];rfl)) ?_);refine MG ?_ (by size_fits);simp only[raiseNew];refine Ld (wpAny_handled ?_);rw[show A.in1.handled=none from hh];refine Ld (Lk (wpAny_throw ?_));refine Ld (wpAny_isInstance (T:="StopIteration") (b:=true) ⟨_,Lu _ rfl,rfl⟩ isSubtype_stop ?_);exact Lk (hQ _ (((LD ..).extBut.push _).push _))
end
theorem wg {α β:Type}{G:α->β->Prop}{l₁:List α}{l₂:List β}(h:Paired G l₁ l₂):∀{i:Nat} {a:α},l₁[i]?=some a->∃b,l₂[i]?=some b/\G a b:=by
 induction h with
 |nil=>intro i a e;simp at e
 |@cons a b l₁ l₂ r t ih =>
  intro i a' e;cases i with
  |zero =>
   simp only[List.getElem?_cons_zero,Option.some.injEq] at e;subst e;exact⟨b,rfl,r⟩
  |succ j =>
   simp only[List.getElem?_cons_succ] at e ⊢;exact ih e
section
variable {X:Cx}{pins:N7}{σ:St}{H:Hp}{s:Shared}{d:Addr}{o:Obj}
end
section
variable {P:Program}{w:World}{K:N4}{tg:Expr}{d:Addr}{o:Obj}{es:Array DictEntry}{ep:Nat}
end
section
variable {X:Cx}{tg e:Expr}{td:TE}{apos cpos:Pos}
end
def Fl (K:N4)(a:Addr):It :=
 ⟨λi H=>∃(xs:List V) (x:V),aU K H a xs/\xs[i]?=some x,λi H v H'=>∃T x,v=.ref T/\H T=none/\H'=upd H T (.tup [.int (i:Nat),x])/\∀xs,aU K H a xs->xs[i]?=some x,λi H=>∃xs:List V,aU K H a xs/\xs.length<=i⟩
theorem zl {P:Program}{w:World}{K:N4}{elts:List Expr}{kk:Nat}{tpos:Pos}(a e it:Addr) :
  Turn P w K (.Tuple elts kk tpos) (Fl K a) [e,it] e (λi h=>(∃old,IsEnum h e it ((i:Nat):Int) old)/\h.IsListIter it a i/\e≠it) where
 mem:=by simp
 obj:=λi h st b hb=>by
  obtain⟨⟨old,he⟩,⟨o,ho,hc,hd⟩,_⟩:=st;have e':b=e∨b=it:=by simpa using hb
  rcases e' with z|z
  · rw[z];exact⟨_,he,λv q=>nomatch q⟩
  · rw[z];exact⟨o,ho,λv q=>by rw[hd] at q;cases q⟩
 keep:=λi h h' st k=>let ⟨⟨old,he⟩,hi,hne⟩:=st;⟨⟨old,k e (by simp) _ he⟩,hi.at λo q=>k it (by simp) o q,hne⟩
 item:=by
  intro X hP hw hK hc i pins s σ H E I hf st hg;subst hP hw hK;obtain⟨⟨old,he⟩,hit,hne⟩:=st;obtain⟨xs,x,hq,hx⟩:=hg;obtain⟨its,rv,p,hz⟩:=I.list hq;obtain⟨u,hu,ru⟩:=rv.get hx;have hel:e < s.heap.objs.size:=Lq he;have hil:it < s.heap.objs.size:=by obtain⟨_,q,_⟩:=hit;exact Lq q
  refine wpAny_pyNext_enum_item he hit p.isList (x:=u) (by simpa using hu) hne λh' ho hit' hT hsz hk=>?_;refine⟨_,rfl,wpAny_letOwnedTupleGo_enum (s:={s with heap:=h',toks:=s.toks+1}) ho λh'' he' sb=>?_⟩;have hT2:h''.get? s.heap.objs.size=some {cls:=.type "tuple",data:=.seq #[.int i s.toks,u]}:=(sb.2 _ (Nat.ne_of_gt hel)).trans hT;have new:bL X.prog X.w (upd H s.heap.objs.size (.tup [.int (i:Nat),x])) h'' s.heap.objs.size (.tup [.int (i:Nat),x]) :=
   ⟨by show 2<=sizeLine;decide,[.int i s.toks,u],.cons ⟨_,rfl⟩ (.cons ru .nil),⟨_,hT2,rfl,_,rfl⟩⟩
  have I1:Inv X pins σ (upd H s.heap.objs.size (.tup [.int (i:Nat),x])) {s with heap:=h'',toks:=s.toks+1} :=
   I.rL (ch:=[e,it]) (λb ob hb q=>(sb.2 b (λz=>hb (by simp[z]))).trans (hk b ob (λz=>hb (by simp[z])) (λz=>hb (by simp[z])) q)) hf (Ln _) new
  refine⟨.ref s.heap.objs.size,_,I1,rfl,⟨_,x,rfl,I.bw.fresh (Ln _),rfl,λys hy=>by rw[I.p8 hy hq];exact hx⟩,⟨⟨u,?_⟩,hit'.at λo q=>(sb.2 it (NU hne)).trans q,hne⟩,λb hb=>?_⟩
  · have e1:((i+1:Nat):Int)=(i:Int)+1:=by omega
    rw[e1];exact he'
  · have hb':b < s.heap.objs.size:=by
     have e':b=e∨b=it:=by simpa using hb
     rcases e' with z|z
     · rw[z];exact hel
     · rw[z];exact hil
    rw[aq (LP hb')];exact (hf b hb).1
 done:=by
  intro X hP hw hK hc i pins s σ H E I hf st hg;subst hP hw hK;obtain⟨⟨old,he⟩,hit,hne⟩:=st;obtain⟨xs,hq,hx⟩:=hg;obtain⟨its,rv,p,hz⟩:=I.list hq;obtain⟨f0,f1,f2,f3,f4,f5⟩:=hf it (by simp);have hl:=rv.length;exact wpAny_pyNext_enum_end (I.ok.hd hc) he hit p.isList (by simp;omega) λh' eb=>⟨rfl,I.turned (t':=s.toks) (λb o hb q=>eb b o hb q) f0 f1 f3 f4 f5⟩
 self:=λA i s Q E st h=>let ⟨⟨_,he⟩,_⟩:=st;wpAny_pyIter_enum he h
def IB (K:N4)(ta:TA):TI:=λσ H R=>ta σ H λvs H1=>∃a xs,vs=[.ref a]/\aU K H1 a xs/\R (Fl K a) H1
theorem sS {X:Cx}{e:Expr}{ta:TA}{p pos tpos:Pos}{elts:List Expr}{kk:Nat}(hg:Gl X "enumerate")(hm:X.mg "enumerate"=none)(ha:PA X [e] ta)(hs:starEach [e] X.env=[(false,eval e X.env)]:=by rfl) :
  PI X (.Tuple elts kk tpos) (.Call (.Name "enumerate" p) [e] [] pos) (IB X.K ta):=by
 intro pins s σ H R I h;refine Call_ (kR I hg hm boot_enumerate (MF (bB (ha pos pins s σ H _ I h) λus s1 ⟨vs,H1,I1,r1,q1⟩=>?_) hs rfl));obtain⟨a,xs,ex,hq,q⟩:=q1;subst ex;cases r1 with
 |cons r rr =>
  cases rr;cases r;obtain⟨its,rv,p',hz⟩:=I1.list hq;refine call_enumerate_list p'.isList λh' he hit hsz hk=>wpAny_pyIter_enum he ?_;have I2:Inv X pins σ H1 {s1 with heap:=h'}:=I1.kept (t':=s1.toks) hk;refine⟨s1.heap.objs.size+1,[s1.heap.objs.size+1,s1.heap.objs.size],_,_,H1,rfl,I2,zl a (s1.heap.objs.size+1) s1.heap.objs.size,⟨⟨.none,he⟩,hit,Nat.succ_ne_self _⟩,λb hb=>?_,q⟩;have e':b=s1.heap.objs.size+1∨b=s1.heap.objs.size:=by simpa using hb
  have hle:s1.heap.objs.size<=b:=by
   rcases e' with z|z
   · rw[z];exact NK _ _
   · rw[z];exact Ln _
  exact I1.wj hle (I1.bw.fresh hle)
theorem zO:bootBuiltins "zip"=some (.type "zip"):=by decide +kernel
end L2
section
namespace Bits
open PySem PyProof.Rows
end Bits
end
section
namespace TL
open PySem PySem.Builtin PySem.Builtin.Str PySem.StrLaws
abbrev tl (x:Str):N3:=x.cps.toList
theorem k9 (x:Str):x.length=(tl x).length:=by simp[tl,Str.length]
theorem wH {x y:Str}(h:tl x=tl y):x=y:=Str.ext' (Array.toList_inj.mp h)
theorem rn (x y:Str):tl (x++y)=tl x++tl y:=by
 show (x++y).cps.toList=_;rw[Str.cps_append,Array.toList_append]
theorem pQ:∀{l m:List Str},l.map tl=m.map tl->l=m
 |[],[],_=>rfl
 |[],_::_,h=>by simp at h
 |_::_,[],h=>by simp at h
 |x::l,y::m,h=>by
  rw[Lv,Lv] at h;injection h with h1 h2;rw[wH h1,pQ h2]
theorem gH (s:String):tl (Str.ofString s)=s.toList.map Char.toNat:=PyProof.Rows.signs_ofString s
def pre (S l:N3):Bool:=l.take S.length==S
def nQ (S:N3):Nat->N3->N3->N2
 |_,acc,[]=>[acc]
 |0,acc,c::r=>if pre S (c::r)=true then acc::nQ S (S.length - 1) [] r else nQ S 0 (acc++[c]) r
 |k+1,acc,_::r=>nQ S k acc r
theorem oh (S:N3)(k:Nat)(acc:N3):nQ S k acc []=[acc]:=by cases k <;> rfl
theorem yg {S acc r:N3}{c:Nat}(h:pre S (c::r)=true):nQ S 0 acc (c::r)=acc::nQ S (S.length - 1) [] r:=by
 show (if pre S (c::r)=true then acc::nQ S (S.length - 1) [] r else nQ S 0 (acc++[c]) r)=_;rw[Lg h]
theorem vM {S acc r:N3}{c:Nat}(h:pre S (c::r)=false):nQ S 0 acc (c::r)=nQ S 0 (acc++[c]) r:=by
 show (if pre S (c::r)=true then acc::nQ S (S.length - 1) [] r else nQ S 0 (acc++[c]) r)=_;rw[Lf (by rw[h];exact LC)]
theorem vc (S:N3):∀(k:Nat) (acc l:N3),nQ S k acc l=nQ S 0 acc (l.drop k)
 |0,_,_=>by rw[List.drop_zero]
 |k+1,acc,[]=>by rw[List.drop_nil,oh,oh]
 |k+1,acc,c::r=>by
  show nQ S k acc r=nQ S 0 acc (r.drop k);exact vc S k acc r
theorem lG {S:N3}(hS:S≠[]):pre S []=false:=by
 cases S with
 |nil=>exact absurd rfl hS
 |cons s S=>rfl
theorem uG {s c:Nat}(S r:N3)(h:c≠s):pre (s::S) (c::r)=false:=by
 cases hp:pre (s::S) (c::r) with
 |false=>rfl
 |true =>
  have e:(c::r).take (s::S).length=s::S:=MI hp;rw[Lp,List.take_succ_cons] at e;injection e with e1 e2;exact absurd e1 h
theorem lT {L:N3}{a:Nat}(h:a < L.length):∃c,L.drop a=c::L.drop (a+1):=⟨L[a],MB h⟩
theorem tR (S L:N3):∀(m a:Nat) (acc:N3),a+m<=L.length->(∀k,a<=k->k < a+m->pre S (L.drop k)=false) ->
  nQ S 0 acc (L.drop a)=nQ S 0 (acc++(L.drop a).take m) (L.drop (a+m))
 |0,a,acc,_,_=>by rw[List.take_zero,Mg,Nat.add_zero]
 |m+1,a,acc,h,hn=>by
  have hlt:a < L.length:=by omega
  obtain⟨c,e⟩:=lT hlt;have h0:=hn a (Ln _) (by omega);have ih:=tR S L m (a+1) (acc++[c]) (by omega) (λk h1 h2=>hn k (by omega) (by omega));have e2:a+1+m=a+(m+1):=by omega
  rw[e2] at ih;rw[e] at h0;rw[e,vM h0,ih,List.take_succ_cons,MH] <;> rfl
theorem AO (L:N3)(a b:Nat):(L.drop a).drop b=L.drop (a+b):=by
 first
  |rw[List.drop_drop]
  |rw[List.drop_drop,Nat.add_comm]
theorem Hj {S L:N3}(hS:S≠[]){c:Nat}{acc:N3}(h:pre S (L.drop c)=true):nQ S 0 acc (L.drop c)=acc::nQ S 0 [] (L.drop (c+S.length)):=by
 rw[←AO];cases e:L.drop c with
 |nil=>rw[e,lG hS] at h;cases h
 |cons d r =>
  rw[e] at h;rw[yg h,vc];cases S with
  |nil=>exact absurd rfl hS
  |cons s S=>rfl
theorem Cb {x y:Str}(hy:tl y≠[])(i:Nat):At x y x.length i↔pre (tl y) ((tl x).drop i)=true:=by
 have hx:=k9 x;have hl:=k9 y;constructor
 · intro h;have h2:=h.2;rw[subAt_eq,hl] at h2;exact h2
 · intro h;have e:((tl x).drop i).take (tl y).length=tl y:=MI h;have e1:=Ml List.length e;rw[LB,L7] at e1;have e2:0 < (tl y).length:=Mi.mpr hy;refine⟨by omega,?_⟩;rw[subAt_eq,hl];exact h
theorem Fg {x y:Str}(hy:tl y≠[]){i:Nat}(h:¬At x y x.length i):pre (tl y) ((tl x).drop i)=false:=by
 cases hp:pre (tl y) ((tl x).drop i) with
 |false=>rfl
 |true=>exact absurd ((Cb hy i).mpr hp) h
theorem Kd {y:Str}(hy:tl y≠[]):1<=y.length:=by
 have e2:0 < (tl y).length:=Mi.mpr hy;rw[k9 y];exact e2
theorem sf (x:Str)(i j:Nat):tl (strSub x i j)=((tl x).drop i).take (j - i):=strSub_toList x i j
theorem qL (x:Str)(i:Nat):tl (strSub x i x.length)=(tl x).drop i:=by
 rw[sf,k9 x];exact Ma (by rw[L7] <;> omega)
theorem qX {x y:Str}(hy:tl y≠[]):∀(cuts:N3) (a f:Nat),a<=(tl x).length->ChainG x y x.length a cuts f->(∀k,f<=k->¬At x y x.length k) ->
  (partsFrom x y.length a cuts).map tl=nQ (tl y) 0 [] ((tl x).drop a)
 |[],a,f,ha,h,hn=>by
  have e:f=a:=h;subst e;show [tl (strSub x f x.length)]=_;have run:=tR (tl y) (tl x) ((tl x).length - f) f [] (by omega) (λk h1 _=>Fg hy (hn k h1));have e2:f+((tl x).length - f)=(tl x).length:=by omega
  rw[e2,M7,oh,L_,Ma (by rw[L7] <;> omega)] at run;rw[run,qL]
 |c::r,a,f,ha,h,hn=>by
  obtain⟨h1,h2,h3,h4⟩:=h;have hc:c+y.length<=x.length:=h2.1;have hx:=k9 x;have hl:=k9 y;have ih:=qX hy r (c+y.length) f (by omega) h4 hn;show tl (strSub x a c)::(partsFrom x y.length (c+y.length) r).map tl=_;have run:=tR (tl y) (tl x) (c - a) a [] (by omega) (λk k1 k2=>Fg hy (h3 k k1 (by omega)));have e2:a+(c - a)=c:=by omega
  rw[e2,L_,Hj hy ((Cb hy c).mp h2)] at run;rw[run,ih,sf,hl]
theorem zK (x y:Str)(hy:tl y≠[])(hk:¬Builtin.Str.strKind x < Builtin.Str.strKind y):(Txt.split x y).map tl=nQ (tl y) 0 [] (tl x):=by
 obtain⟨f,g,hn⟩:=occ_tight x y (Kd hy);have key:=qX hy _ 0 f (LJ _) g hn;rw[List.drop_zero] at key;have none_case:occurrences x y 0 x.length (x.length+1)=[]->[x].map tl=nQ (tl y) 0 [] (tl x):=λho=>by
  rw[ho] at key;rw[←key];show [tl x]=[tl (strSub x 0 x.length)];rw[sub_whole]
 unfold Txt.split;by_cases h1:(decide (x.length < y.length)||decide (Builtin.Str.strKind x < Builtin.Str.strKind y))=true
 · rw[Lg h1];have hlt:x.length < y.length:=by
    simp only[Me,Lm] at h1;rcases h1 with h|h
    · exact h
    · exact absurd h hk
   refine none_case ?_;cases ho:occurrences x y 0 x.length (x.length+1) with
   |nil=>rfl
   |cons c r =>
    rw[ho] at g;have hc:c+y.length<=x.length:=g.2.1.1;omega
 · rw[Lf h1];by_cases h2:(occurrences x y 0 x.length (x.length+1)).isEmpty=true
   · rw[Lg h2];exact none_case (MQ.mp h2)
   · rw[Lf h2,partsBetween_eq];exact key
theorem D5 {x y:Str}(h:y.cps.all (· < 256)=true):¬Builtin.Str.strKind x < Builtin.Str.strKind y:=by
 have e:Builtin.Str.strKind y=1:=by unfold PySem.Builtin.Str.strKind;rw[Lg h]
 rw[e];unfold PySem.Builtin.Str.strKind;split
 · omega
 · split <;> omega
def dI (S:N3):N2->N3
 |[]=>[]
 |[p]=>p
 |p::q::r=>p++(S++dI S (q::r))
theorem za (y:Str):∀parts:List Str,tl (Str.join y parts)=dI (tl y) (parts.map tl)
 |[]=>rfl
 |[_]=>rfl
 |x::z::r=>by
  show tl (x++y++Str.join y (z::r))=tl x++(tl y++dI (tl y) ((z::r).map tl));rw[rn,rn,za y (z::r),MH]
theorem join_eq (y:Str)(parts:List Str):Txt.join y parts=Str.join y parts:=glued_eq_join y parts
end TL
end
namespace L2
open PySem PySem.Spec PyProof.Rows
theorem rM:∀l:List (Str×Tok),Vals ((l.map (·.1)).map V.str) (strValues l)
 |[]=>.nil
 |p::r=>.cons ⟨p.2,rfl⟩ (rM r)
theorem iX:∀{ys:List Str} {us:N8},Vals (ys.map V.str) us->StrsAre us ys
 |[],_,.nil=>.nil
 |y::ys,_,.cons r t=>by
  obtain⟨k,rfl⟩:=r;exact .cons y k (iX t)
def oV (ys:List Str):Hp->VK->Prop:=λH Q=>∀p,H p=none->Q (.ref p) (upd H p (.lst (ys.map V.str)))
section
variable {X:Cx}{pins:N7}{σ:St}{H:Hp}{s:Shared}{Q:VK}
theorem mJ {l:List (Str×Tok)} {ys:List Str} {k:Nat} (I:Inv X pins σ H s) (e:l.map (·.1)=ys) (hz:ys.length<=sizeLine) (h:oV ys H Q) :
  EP X pins σ Q (.ref s.heap.objs.size) {s with toks:=k,heap:=s.heap.push {cls:=.type "list",data:=.seq (strValues l).toArray}}:=by
 have hp:=I.bw.fresh (Ln _);refine⟨.ref s.heap.objs.size,upd H s.heap.objs.size (.lst (ys.map V.str)),I.laid (λb u q=>Lh _ q) (Ln _) ⟨by rw[Le];exact hz,strValues l,_,?_,Lu _ rfl⟩,rfl,h _ hp⟩;rw[←e];exact rM l
end
section
variable {X:Cx}
theorem Bb:Bu X "str.split" (λx xs H Q=>∃a b,x=.str a/\xs=[.str b]/\(b.length==0)=false/\a.length+2<=sizeLine/\oV (Txt.split a b) H Q):=by
 intro pins s σ H x xs v us Q I rx rs h;obtain⟨a,b,rfl,rfl,hb,hz,h⟩:=h;obtain⟨t,rfl⟩:=rx;cases rs with
 |cons r1 rs =>
  cases rs;obtain⟨u,rfl⟩:=r1;have hl:(Txt.split a b).length<=sizeLine:=L1 (PyProof.Rows.split_le a b) hz;have hn:(Builtin.Str.partsBetween a (Builtin.Str.occurrences a b 0 a.length (a.length+1)) b.length).length<=sizeLine:=by
   have e1:=StrLaws.occ_length_le a b 0 a.length (a.length+1);rw[length_partsBetween];omega
  cases h1:(decide (a.length < b.length)||decide (Builtin.Str.strKind a < Builtin.Str.strKind b))
  · cases hf:(Builtin.Str.occurrences a b 0 a.length (a.length+1)).isEmpty
    · refine call_meets F.slot_str_split (NI _ _ _) F.entry_str_split (F.args_str_split_2 _ _) (meets_str_split_sep a b t u h1 hb hf (by omega) hn) ?_;show EP X pins σ Q (.ref s.heap.objs.size) {s with toks:=_,heap:=s.heap.push {cls:=.type "list",data:=.seq (strsFrom s.toks (Builtin.Str.partsBetween a (Builtin.Str.occurrences a b 0 a.length (a.length+1)) b.length)).toArray}};rw[strsFrom_eq];exact mJ (ys:=Txt.split a b) I ((numbered_texts _ _).trans ((Lf (ne_true_of_eq_false h1)).trans (Lf (ne_true_of_eq_false hf))).symm) hl h
    · refine call_meets F.slot_str_split (NI _ _ _) F.entry_str_split (F.args_str_split_2 _ _) (meets_str_split_not_found a b t u h1 hb hf) ?_;exact mJ (l:=[(a,t)]) (ys:=Txt.split a b) (k:=s.toks) I ((Lf (ne_true_of_eq_false h1)).trans (Lg hf)).symm hl h
  · refine call_meets F.slot_str_split (NI _ _ _) F.entry_str_split (F.args_str_split_2 _ _) (meets_str_split_cannot_occur a b t u h1) ?_;exact mJ (l:=[(a,t)]) (ys:=Txt.split a b) (k:=s.toks) I (Lg h1).symm hl h
theorem Ew:Bu X "str.join" (λx xs H Q=>∃a p,∃ys:List Str,x=.str a/\xs=[.ref p]/\(aU X.K H p (ys.map V.str)∨bZ X.K H p (ys.map V.str)) /\
  (ys.map (·.length)).sum+ys.length*a.length<=16777216/\Q (.str (Txt.join a ys)) H):=by
 intro pins s σ H x xs v us Q I rx rs h;obtain⟨a,p,ys,rfl,rfl,hp,hz,h⟩:=h;obtain⟨t,rfl⟩:=rx;cases rs with
 |cons r1 rs =>
  cases rs;cases r1;rcases hp with hp|hp
  · obtain⟨its,r,⟨o,n,ho,hc,_,hd⟩,_⟩:=I.list hp;exact PyProof.Rows.join_list (items:=its.toArray) ⟨o,ho,hc,n,hd⟩ (by rw[List.toList_toArray];exact iX r) hz λt' k=>⟨.str _,H,I.tok k,⟨t',rfl⟩,h⟩
  · obtain⟨its,r,ht,_⟩:=I.tuple hp;exact PyProof.Rows.join_tuple (items:=its.toArray) ht (by rw[List.toList_toArray];exact iX r) hz λt' k=>⟨.str _,H,I.tok k,⟨t',rfl⟩,h⟩
theorem KQ {id:String}{C:Str->Prop}{g:Str->V}(rule:∀(a:Str) (t:Tok) (s:Shared) (Q:N5),C a->(∀(u:Value) (k:Nat),RelV (g a) u->Q u {s with toks:=k}) ->
  wpAny (model X.prog X.w) X.A (call (.builtin id) [.str a t]) Q X.xe s):Bu X id (λx xs H Q=>∃a,x=.str a/\xs=[]/\C a/\Q (g a) H):=by
 intro pins s σ H x xs v us Q I rx rs h;obtain⟨a,rfl,rfl,hc,h⟩:=h;obtain⟨t,rfl⟩:=rx;cases rs;exact rule a t s _ hc λu k r=>⟨g a,H,I.tok k,r,h⟩
theorem wI:Bu X "str.isdigit" (λx xs H Q=>∃a,x=.str a/\xs=[]/\True/\Q (.bl (Txt.isdigit a)) H) :=
 KQ (C:=λ_=>True) (g:=λa=>.bl (Txt.isdigit a)) λ_ _ s _ _ h=>PySem.SC.isdigit (h _ s.toks rfl)
theorem K7 {id:String}{g:Str->Str->V}(rule:∀(a b:Str) (t u:Tok) (s:Shared) (Q:N5),(∀(v:Value) (k:Nat),RelV (g a b) v->Q v {s with toks:=k}) ->
  wpAny (model X.prog X.w) X.A (call (.builtin id) [.str a t,.str b u]) Q X.xe s):Bu X id (λx xs H Q=>∃a b,x=.str a/\xs=[.str b]/\Q (g a b) H):=by
 intro pins s σ H x xs v us Q I rx rs h;obtain⟨a,b,rfl,rfl,h⟩:=h;obtain⟨t,rfl⟩:=rx;cases rs with
 |cons r1 rs =>
  cases rs;obtain⟨u,rfl⟩:=r1;exact rule a b t u s _ λv k r=>⟨g a b,H,I.tok k,r,h⟩
theorem uD:Bu X "str.endswith" (λx xs H Q=>∃a b,x=.str a/\xs=[.str b]/\Q (.bl (Txt.endswith a b)) H) :=
 K7 (g:=λa b=>.bl (Txt.endswith a b)) λ_ _ _ _ s _ h=>PySem.SC.endswith (h _ s.toks rfl)
theorem tV:iu X (.type "int") (λxs H Q=>∃a n,xs=[.str a]/\PySem.intText? a=some n/\a.length<=640/\Q (.int n) H):=by
 intro pins s σ H xs us Q I rs h;obtain⟨a,n,rfl,hn,hl,h⟩:=h;cases rs with
 |cons r1 rs =>
  cases rs;obtain⟨t,rfl⟩:=r1;exact PySem.W.KIN.call_text hn hl ⟨.int n,H,I.tok _,⟨_,rfl⟩,h⟩
end
section
variable {X:Cx}{o e:Expr}{to te:TE}
def KL (r:V->List V->Hp->VK->Prop) (to:TE):TE:=λσ H Q=>to σ H λx H1=>(∃a,x=.str a)/\r x [] H1 Q
def Kk (r:V->List V->Hp->VK->Prop)(to te:TE):TE:=λσ H Q=>to σ H λx H1=>(∃a,x=.str a)/\te σ H1 λy H2=>r x [y] H2 Q
theorem IS {id:String}{name:Str}{apos pos:Pos}{r:V->List V->Hp->VK->Prop}(slot:Slot "str" name id)(ty:typeOf (.builtin id)=pure (.type "method_descriptor"))(rule:Bu X id r)(ho:PE X o to)
  (hbase:attributeBase o name X.env (eval o X.env)=eval o X.env:=by rfl)(hline:(apos.endLine==pos.line)=true:=by rfl):PE X (.Call (.Attribute o name apos) [] [] pos) (KL r to):=by
 intro pins s σ H Q I h;refine PySem.Call_method0 hbase hline (bB (ho pins s σ H _ I h) λv s1 ⟨x,H1,I1,r1,q1⟩=>?_);obtain⟨⟨a,rfl⟩,q1⟩:=q1;obtain⟨t,rfl⟩:=_root_.id r1;exact⟨"str",_,F.plainAttrs_str,slot,ty,NI _ _ _,(λ_ e=>nomatch e),NG rfl (PySem.evalArgs_none (rule pins s1 σ H1 _ [] _ [] Q I1 r1 .nil q1))⟩
theorem Bi {id:String}{name:Str}{apos pos:Pos}{r:V->List V->Hp->VK->Prop}(slot:Slot "str" name id)(ty:typeOf (.builtin id)=pure (.type "method_descriptor"))(rule:Bu X id r)(ho:PE X o to)(he:PE X e te)
  (hs:starEach [e] X.env=[(false,eval e X.env)]:=by rfl)(hbase:attributeBase o name X.env (eval o X.env)=eval o X.env:=by rfl)(hline:(apos.endLine==pos.line)=true:=by rfl) :
  PE X (.Call (.Attribute o name apos) [e] [] pos) (Kk r to te):=by
 intro pins s σ H Q I h;refine PySem.Call_method1 hbase hs hline (bB (ho pins s σ H _ I h) λv s1 ⟨x,H1,I1,r1,q1⟩=>?_);obtain⟨⟨a,rfl⟩,q1⟩:=q1;obtain⟨t,rfl⟩:=_root_.id r1;refine⟨"str",_,F.plainAttrs_str,slot,ty,NI _ _ _,(λ_ e=>nomatch e),NG rfl (Calls.evalArgs_plain (N0 ?_))⟩;exact bB (he pins s1 σ H1 _ I1 q1) λu s2 ⟨y,H2,I2,r2,q2⟩=>Calls.spliced_nil (rule pins s2 σ H2 _ [y] _ [u] Q I2 r1 (.cons r2 .nil) q2)
theorem lN {apos pos:Pos}(ho:PE X o to)(he:PE X e te)(hs:starEach [e] X.env=[(false,eval e X.env)]:=by rfl)(hbase:attributeBase o "split" X.env (eval o X.env)=eval o X.env:=by rfl)(hline:(apos.endLine==pos.line)=true:=by rfl) :
  PE X (.Call (.Attribute o "split" apos) [e] [] pos) (Kk (λx xs H Q=>∃a b,x=.str a/\xs=[.str b]/\(b.length==0)=false/\a.length+2<=sizeLine/\oV (Txt.split a b) H Q) to te) :=
 Bi F.slot_str_split F.type_str_split Bb ho he hs hbase hline
theorem Dj {apos pos:Pos}(ho:PE X o to)(he:PE X e te)(hs:starEach [e] X.env=[(false,eval e X.env)]:=by rfl)(hbase:attributeBase o "join" X.env (eval o X.env)=eval o X.env:=by rfl)(hline:(apos.endLine==pos.line)=true:=by rfl) :
  PE X (.Call (.Attribute o "join" apos) [e] [] pos) (Kk (λx xs H Q=>∃a p,∃ys:List Str,x=.str a/\xs=[.ref p]/\(aU X.K H p (ys.map V.str)∨bZ X.K H p (ys.map V.str)) /\
   (ys.map (·.length)).sum+ys.length*a.length<=16777216/\Q (.str (Txt.join a ys)) H) to te) :=
 Bi F.slot_str_join F.type_str_join Ew ho he hs hbase hline
end
section
variable {X:Cx}
theorem o_:jv X (compareOp .In) (λx y H Q=>∃(c:Nat) (z:Str),x=.str ⟨#[c]⟩/\y=.str z/\Q (.bl (decide (c∈z.cps.toList))) H):=by
 intro pins s σ H x y v u Q I rx ry h;obtain⟨c,z,rfl,rfl,q⟩:=h;obtain⟨t,rfl⟩:=rx;obtain⟨t',rfl⟩:=ry;exact PyProof.Rows.in_str (bu I q (PySem.StrLaws.found_one z c).symm)
theorem qD:jv X (compareOp .NotIn) (λx y H Q=>∃(c:Nat) (z:Str),x=.str ⟨#[c]⟩/\y=.str z/\Q (.bl (!decide (c∈z.cps.toList))) H):=by
 intro pins s σ H x y v u Q I rx ry h;obtain⟨c,z,rfl,rfl,q⟩:=h;obtain⟨t,rfl⟩:=rx;obtain⟨t',rfl⟩:=ry;exact PyProof.Rows.notIn_str (bu I q (Ml Bool.not (PySem.StrLaws.found_one z c).symm))
end
theorem IsPart.raw {v:Value}{o:Option Int}(p:IsPart v o):∃l:Option (Int×Tok),v=partValue l/\l.map (·.1)=o:=by
 cases p with
 |none=>exact⟨none,rfl,rfl⟩
 |int i t=>exact⟨some (i,t),rfl,rfl⟩
def uC (n d:Nat):Option Int->Int
 |none=>(d:Int)
 |some i=>max 0 (min (if i < 0 then i+(n:Int) else i) (n:Int))
theorem vy (n d:Nat)(o:Option Int):uC n d o=((HT.b8 n d o:Nat):Int):=by
 cases o with
 |none=>rfl
 |some v =>
  show max (0:Int) (min (if v < 0 then v+(n:Int) else v) (n:Int))=(((if v < 0 then (v+(n:Int)).toNat else min v.toNat n):Nat):Int);by_cases hv:v < 0
  · simp only[Lg hv];omega
  · simp only[Lf hv];omega
theorem Ak (a b:Option Int)(n:Nat):Builtin.Str.strSliceIndices a b 1 n=sliceRange (uC n 0 a) (uC n n b) 1:=by
 have h1:((1:Int) > 0)=True:=by simp
 cases a <;> cases b <;> first
  |rfl
  |(simp only[Builtin.Str.strSliceIndices,uC,h1,MX];rfl)
  |simp[Builtin.Str.strSliceIndices,uC]
theorem JR (a b:Option Int)(n:Nat):Builtin.Str.strSliceIndices a b 1 n=(List.range (HT.b8 n n b - HT.b8 n 0 a)).map (λk=>HT.b8 n 0 a+k):=by
 rw[Ak,vy,vy];generalize HT.b8 n 0 a=p;generalize HT.b8 n n b=q;simp only[sliceRange,show ((1:Int) > 0)=True from by simp,MX];by_cases hlt:(p:Int) < q
 · have e3:(((q:Int) - p+1 - 1) / 1).toNat=q - p:=by first|omega|(simp;done)|(simp;omega)
   simp only[hlt,MX,e3];refine L8 λk _=>?_;omega
 · have:q - p=0:=by omega
   simp[hlt,this]
def zx (z:Str)(lo hi:Option Int):Str :=
 ⟨((z.cps.toList.drop (HT.b8 z.length 0 lo)).take (HT.b8 z.length z.length hi - HT.b8 z.length 0 lo)).toArray⟩
theorem kP (z:Str)(lo hi:Option Int):PySem.StrLaws.sliceText z lo hi=zx z lo hi:=by
 have h1:HT.b8 z.length 0 lo<=z.length:=HT.wK _ _ (LJ _) _;have h2:HT.b8 z.length z.length hi<=z.length:=HT.wK _ _ (Ln _) _;have hp:HT.b8 z.length 0 lo<=max (HT.b8 z.length 0 lo) (HT.b8 z.length z.length hi):=Nat.le_max_left _ _;have hq:max (HT.b8 z.length 0 lo) (HT.b8 z.length z.length hi)<=z.length:=Nat.max_le.mpr ⟨h1,h2⟩;have hd:max (HT.b8 z.length 0 lo) (HT.b8 z.length z.length hi) - HT.b8 z.length 0 lo=HT.b8 z.length z.length hi - HT.b8 z.length 0 lo:=by omega
 have e:Builtin.Str.strSliceIndices lo hi 1 z.length =
   Builtin.Str.strSliceIndices (some ((HT.b8 z.length 0 lo:Nat):Int)) (some ((max (HT.b8 z.length 0 lo) (HT.b8 z.length z.length hi):Nat):Int)) 1 z.length:=by
  rw[PySem.StrLaws.strSliceIndices_plain hp hq,hd,JR]
 have e2:PySem.StrLaws.sliceText z lo hi =
   PySem.StrLaws.sliceText z (some ((HT.b8 z.length 0 lo:Nat):Int)) (some ((max (HT.b8 z.length 0 lo) (HT.b8 z.length z.length hi):Nat):Int)):=by
  unfold PySem.StrLaws.sliceText;rw[e]
 rw[e2,PySem.StrLaws.sliceText_nat z hp hq,hd];rfl
theorem nG (z:Str)(lo hi:Option Int):(zx z lo hi).length<=z.length:=by
 show (((z.cps.toList.drop (HT.b8 z.length 0 lo)).take (HT.b8 z.length z.length hi - HT.b8 z.length 0 lo)).toArray).size<=z.cps.size;rw[Lz,LB,L7,MZ];omega
def J_:V->Option Int->Option Int->Hp->VK->Prop:=λx lo hi H Q=>∃z,x=.str z/\z.length<=sizeLine/\Q (.str (zx z lo hi)) H
theorem G8 {X:Cx}:HZ X J_:=by
 intro pins s σ H x v vl vu lo hi sl Q I rx hs pl pu h;obtain⟨z,rfl,hz,q⟩:=h;obtain⟨t,rfl⟩:=rx;obtain⟨os,hos,hcs,hds⟩:=hs;obtain⟨l,rfl,rfl⟩:=IsPart.raw pl;obtain⟨u,rfl,rfl⟩:=IsPart.raw pu;refine⟨"str",_,F.slot_str_getitem.lookup,NI _ _ _,?_⟩;refine wpAny_getItem_str_slice (l:=l) (u:=u) (st:=none) ⟨os,hos,hcs,hds⟩ rfl ?_;have hl:(PySem.StrLaws.sliceText z (l.map (·.1)) (u.map (·.1))).length<=sizeLine:=by
  rw[kP];exact L1 (nG z _ _) hz
 rw[←kP] at q;unfold PySem.StrLaws.sliceText at q hl;show Made.post (if ((1:Int)==1&&(Builtin.Str.strSliceIndices (l.map (·.1)) (u.map (·.1)) 1 z.length).length==z.length)=true then Made.val (.str z t)
  else Made.str ⟨((Builtin.Str.strSliceIndices (l.map (·.1)) (u.map (·.1)) 1 z.length).filterMap (z.cps[·]?)).toArray⟩) (EP X pins σ Q) s
 by_cases c:((1:Int)==1&&(Builtin.Str.strSliceIndices (l.map (·.1)) (u.map (·.1)) 1 z.length).length==z.length)=true
 · rw[Lg c] at q ⊢;exact⟨.str z,H,I,⟨t,rfl⟩,q⟩
 · rw[Lf c] at q hl ⊢;exact⟨hl,.str _,H,I.tok _,⟨_,rfl⟩,q⟩
end L2
namespace Att
open PySem PySem.W PySem.Calls PyProof.Rows
section
variable {prog:Program}{w:World}{A:Around}{E:N5}{s:Shared}{K:Frag}
end
end Att
namespace L2
open PySem PySem.Spec PyProof.Rows
end L2
section
set_option Elab.async false
set_option linter.all false
set_option maxRecDepth 100000
set_option maxHeartbeats 2000000
namespace L2
open PySem PySem.Spec PyProof.Rows
open PySem.W (WData Codec OpenSpec Well WellAll ReadsW ReadsAllW)
mutual
inductive Dw (K:N4)(H:Hp):V->WData->Prop
 |cj:Dw K H .cj .none
 |bl (b:Bool):Dw K H (.bl b) (.bool b)
 |int (i:Int):Dw K H (.int i) (.int i)
 |str (x:Str):Dw K H (.str x) (.str x)
 |vQ (b:Array UInt8):Dw K H (.vQ b) (.bytes b.toList)
 |lst {a:Addr} {xs:List V} {ds:List WData}:aU K H a xs->ib K H xs ds->Dw K H (.ref a) (.list ds)
 |tup {a:Addr} {xs:List V} {ds:List WData}:bZ K H a xs->ib K H xs ds->Dw K H (.ref a) (.tuple ds)
inductive ib (K:N4)(H:Hp):List V->List WData->Prop
 |nil:ib K H [] []
 |cons {v:V} {vs:List V} {d:WData} {ds:List WData}:Dw K H v d->ib K H vs ds->ib K H (v::vs) (d::ds)
end
theorem yj {K:N4}{H:Hp}:∀ns:List Int,ib K H (ns.map V.int) (ns.map WData.int)
 |[]=>.nil
 |n::r=>.cons (.int n) (yj r)
theorem sU {K:N4}{H:Hp}:∀(ns:List Int) (xs:List V),ib K H xs (ns.map WData.int)->xs=ns.map V.int
 |[],xs,h=>by
  cases h;rfl
 |n::r,xs,h=>by
  cases h with
  |cons h1 h2 =>
   cases h1;rw[sU r _ h2] <;> rfl
section
variable {P:Program}{w:World}{K:N4}{H:Hp}{h:Heap}{R:PySem.W.WRecords}{cl:Str->Option Addr}
theorem Ga {a:Addr} {xs:List V} (bw:iC P w H h) (KX:K.In h) (q:aU K H a xs):∃(its:N8) (o:Obj) (n:Nat),Vals xs its/\h.get? a=some o/\o.cls=.type "list"/\o.data=.seq its.toArray n:=by
 rcases q with q|⟨o,its,n,e,hc,_,hd,_,hv⟩
 · obtain⟨_,its,n,hv,e⟩:=(show bL P w H h a (.lst xs) from q.ok bw);exact⟨its,_,n,hv,e,rfl,rfl⟩
 · exact⟨its.toList,o,n,hv,KX _ _ e,hc,by simp[hd]⟩
theorem GP {a:Addr}{xs:List V}(bw:iC P w H h)(KX:K.In h)(q:bZ K H a xs):∃(its:N8) (o:Obj) (n:Nat),Vals xs its/\h.get? a=some o/\o.cls=.type "tuple"/\o.data=.seq its.toArray n:=by
 rcases q with q|⟨o,its,n,e,hc,hd,_,hv⟩
 · obtain⟨_,its,hv,o,e,hc,n,hd⟩:=(show bL P w H h a (.tup xs) from q.ok bw);exact⟨its,o,n,hv,e,hc,hd⟩
 · exact⟨its.toList,o,n,hv,KX _ _ e,hc,by simp[hd]⟩
mutual
theorem Dw.reads (bw:iC P w H h)(KX:K.In h):∀(d:WData) (v:V) (u:Value),Dw K H v d->RelV v u->∃as,ReadsW R cl h u d as
 |.none,_,_,x,r=>by
  cases x;cases r;exact⟨_,ReadsW.none⟩
 |.bool b,_,_,x,r=>by
  cases x;cases r;exact⟨_,ReadsW.bool b⟩
 |.int i,_,_,x,r=>by
  cases x;obtain⟨t,rfl⟩:=r;exact⟨_,ReadsW.int i t⟩
 |.str s,_,_,x,r=>by
  cases x;obtain⟨t,rfl⟩:=r;exact⟨_,ReadsW.str s t⟩
 |.bytes b,_,_,x,r=>by
  cases x;obtain⟨t,rfl⟩:=r;exact⟨_,ReadsW.bytes _ t⟩
 |.list ds,_,_,x,r=>by
  cases x with
  |lst hs ha =>
   cases r;obtain⟨its,o,n,rv,ho,hc,hd⟩:=Ga bw KX hs;obtain⟨as,hr⟩:=Dw.readsAll bw KX ds _ its ha rv;exact⟨_,ReadsW.list ho hc hd hr⟩
 |.tuple ds,_,_,x,r=>by
  cases x with
  |tup hs ha =>
   cases r;obtain⟨its,o,n,rv,ho,hc,hd⟩:=GP bw KX hs;obtain⟨as,hr⟩:=Dw.readsAll bw KX ds _ its ha rv;exact⟨_,ReadsW.tuple ho hc hd hr⟩
 |.float _,_,_,x,_=>by cases x
 |.dict _,_,_,x,_=>by cases x
 |.bytearray _,_,_,x,_=>by cases x
 |.set _,_,_,x,_=>by cases x
 |.frozenset _,_,_,x,_=>by cases x
 |.obj _ _,_,_,x,_=>by cases x
theorem Dw.readsAll (bw:iC P w H h)(KX:K.In h):∀(ds:List WData) (vs:List V) (us:N8),ib K H vs ds->Vals vs us->∃as,ReadsAllW R cl h us ds as
 |[],_,_,x,r=>by
  cases x;cases r;exact⟨_,ReadsAllW.nil⟩
 |d::ds,_,_,x,r=>by
  cases x with
  |cons h1 h2 =>
   cases r with
   |cons r1 r2 =>
    obtain⟨as,q1⟩:=Dw.reads bw KX d _ _ h1 r1;obtain⟨bs,q2⟩:=Dw.readsAll bw KX ds _ _ h2 r2;exact⟨_,ReadsAllW.cons q1 q2⟩
end
end
mutual
def yh:WData->Bool
 |.none=>true
 |.bool _=>true
 |.int _=>true
 |.str _=>true
 |.bytes _=>true
 |.list xs=>nY xs
 |.tuple xs=>nY xs
 |_=>false
def nY:List WData->Bool
 |[]=>true
 |x::r=>yh x&&nY r
end
theorem uA {α:Type}{f:α->WData}(h:∀a,yh (f a)=true):∀l:List α,nY (l.map f)=true
 |[]=>rfl
 |x::r=>by
  show (yh (f x)&&nY (r.map f))=true;rw[h x,uA h r] <;> rfl
theorem jL:∀(c:Codec) (a:c.denote),yh (c.enc a)=true
 |.unit,_=>rfl
 |.bool,_=>rfl
 |.int _ _,_=>rfl
 |.nat _ _,_=>rfl
 |.u8,_=>rfl
 |.bytes _ _,_=>rfl
 |.text _ _ _ _,_=>rfl
 |.list _ _ c,a=>uA (λx=>jL c x) a
 |.pair c d,a=>by
  show (yh (c.enc a.1)&&(yh (d.enc a.2)&&true))=true;rw[jL c a.1,jL d a.2] <;> rfl
 |.triple c d e,a=>by
  show (yh (c.enc a.1)&&(yh (d.enc a.2.1)&&(yh (e.enc a.2.2)&&true)))=true;rw[jL c a.1,jL d a.2.1,jL e a.2.2] <;> rfl
 |.option c,none=>rfl
 |.option c,some x=>jL c x
theorem qT:∀(cs:List Codec) (a:Codec.denoteAll cs),nY (Codec.encAll cs a)=true
 |[],_=>rfl
 |c::cs,a=>by
  show (yh (c.enc a.1)&&nY (Codec.encAll cs a.2))=true;rw[jL c a.1,qT cs a.2] <;> rfl
theorem ly:∀{xs:List WData} {d:WData},d∈xs->d.weight<=WData.weightAll xs
 |[],d,h=>absurd h (by simp)
 |x::r,d,h=>by
  show d.weight<=x.weight+1+WData.weightAll r;rcases Li.mp h with e|m
  · rw[e];omega
  · have z:=ly m;omega
def toV:Value->V
 |.none=>.cj
 |.bool b=>.bl b
 |.int i _=>.int i
 |.str x _=>.str x
 |.bytes b _=>.vQ b
 |.ref a=>.ref a
 |_=>.cj
def zk (A:List Addr):Value->Prop
 |.none=>True
 |.bool _=>True
 |.int _ _=>True
 |.str _ _=>True
 |.bytes _ _=>True
 |.ref a=>a∈A
 |_=>False
theorem zk.mono {A B:List Addr}(h:∀a∈A,a∈B):∀{u:Value},zk A u->zk B u:=λ{u} x=>by
 cases u with
 |ref a=>exact h a x
 |none=>trivial
 |bool b=>trivial
 |int i t=>trivial
 |str s t=>trivial
 |bytes b t=>trivial
 |_=>exact False.elim x
theorem A_ {A:List Addr}{u:Value}(x:zk A u):RelV (toV u) u:=by
 cases u with
 |ref a=>rfl
 |none=>rfl
 |bool b=>rfl
 |int i t=>exact⟨t,rfl⟩
 |str s t=>exact⟨t,rfl⟩
 |bytes b t=>exact⟨t,rfl⟩
 |_=>exact False.elim x
theorem iE {A:List Addr}:∀{vs:N8},(∀u∈vs,zk A u)->Vals (vs.map toV) vs
 |[],_=>.nil
 |u::r,h=>.cons (A_ (h u (L0 ..))) (iE λx hx=>h x (Lw _ hx))
def jh (h:Heap)(A:List Addr)(a:Addr):Prop:=∃vs:N8,vs.length<=sizeLine/\(∀u∈vs,zk A u) /\
 (h.get? a=some {cls:=.type "list",data:=.seq vs.toArray}∨h.get? a=some {cls:=.type "tuple",data:=.seq vs.toArray})
theorem jh.mono {h:Heap}{A B:List Addr}{a:Addr}(k:∀a∈A,a∈B)(x:jh h A a):jh h B a:=by
 obtain⟨vs,h1,h2,h3⟩:=x;exact⟨vs,h1,λu hu=>(h2 u hu).mono k,h3⟩
theorem gO {P:Params}{h:Heap}:∀{vs:N8} {ds:List WData},WellAll P h vs ds->vs.length=ds.length
 |_,_,.nil=>rfl
 |_,_,.cons _ b=>by
  show _+1=_+1;rw[gO b]
theorem rG {P:Params}{h:Heap}{v:Value}{ds:List WData}(x:Well P h v (.list ds)):∃(a:Addr) (vs:N8),v=.ref a/\h.get? a=some {cls:=.type "list",data:=.seq vs.toArray}/\WellAll P h vs ds:=by
 cases x with
 |list ho hall=>exact⟨_,_,rfl,ho,hall⟩
theorem o7 {P:Params}{h:Heap}{v:Value}{ds:List WData}(x:Well P h v (.tuple ds)):∃(a:Addr) (vs:N8),v=.ref a/\h.get? a=some {cls:=.type "tuple",data:=.seq vs.toArray}/\WellAll P h vs ds:=by
 cases x with
 |tuple ho hall=>exact⟨_,_,rfl,ho,hall⟩
theorem qW {P:Params}{h:Heap}{us:N8}{d:WData}{ds:List WData}(x:WellAll P h us (d::ds)):∃(v:Value) (vs:N8),us=v::vs/\Well P h v d/\WellAll P h vs ds:=by
 cases x with
 |cons a b=>exact⟨_,_,rfl,a,b⟩
theorem yK {n:Nat}(h:n<=1048576):n<=sizeLine:=L1 h (by decide)
section
variable {P:Params}{h:Heap}
mutual
theorem Cn:∀(d:WData) (v:Value),Well P h v d->yh d=true->d.weight<=1048576->∃A:List Addr,zk A v/\∀a∈A,jh h A a
 |.none,_,x,_,_=>by
  cases x;exact⟨[],trivial,λa m=>absurd m (by simp)⟩
 |.bool b,_,x,_,_=>by
  cases x;exact⟨[],trivial,λa m=>absurd m (by simp)⟩
 |.int i,_,x,_,_=>by
  cases x;exact⟨[],trivial,λa m=>absurd m (by simp)⟩
 |.str s,_,x,_,_=>by
  cases x;exact⟨[],trivial,λa m=>absurd m (by simp)⟩
 |.bytes b,_,x,_,_=>by
  cases x;exact⟨[],trivial,λa m=>absurd m (by simp)⟩
 |.list ds,_,x,p,z=>by
  obtain⟨a,vs,rfl,ho,hall⟩:=rG x;have z2:WData.weightAll ds<=1048576:=z;obtain⟨A,h1,h2⟩:=lY ds _ hall p λd hd=>L1 (ly hd) z2;have k:∀b∈A,b∈a::A:=λb hb=>Lw _ hb;refine⟨a::A,L0 ..,λb hb=>?_⟩;rcases Li.mp hb with e|m
  · rw[e];exact⟨vs,yK (by rw[gO hall];exact L1 (PySem.W.length_le_weightAllW ds) z2),λu hu=>(h1 u hu).mono k,.inl ho⟩
  · exact (h2 b m).mono k
 |.tuple ds,_,x,p,z=>by
  obtain⟨a,vs,rfl,ho,hall⟩:=o7 x;have z2:WData.weightAll ds<=1048576:=z;obtain⟨A,h1,h2⟩:=lY ds _ hall p λd hd=>L1 (ly hd) z2;have k:∀b∈A,b∈a::A:=λb hb=>Lw _ hb;refine⟨a::A,L0 ..,λb hb=>?_⟩;rcases Li.mp hb with e|m
  · rw[e];exact⟨vs,yK (by rw[gO hall];exact L1 (PySem.W.length_le_weightAllW ds) z2),λu hu=>(h1 u hu).mono k,.inr ho⟩
  · exact (h2 b m).mono k
 |.float _,_,_,p,_=>Bool.noConfusion (show false=true from p)
 |.dict _,_,_,p,_=>Bool.noConfusion (show false=true from p)
 |.bytearray _,_,_,p,_=>Bool.noConfusion (show false=true from p)
 |.set _,_,_,p,_=>Bool.noConfusion (show false=true from p)
 |.frozenset _,_,_,p,_=>Bool.noConfusion (show false=true from p)
 |.obj _ _,_,_,p,_=>Bool.noConfusion (show false=true from p)
theorem lY:∀(ds:List WData) (vs:N8),WellAll P h vs ds->nY ds=true->(∀d∈ds,d.weight<=1048576)->∃A:List Addr,(∀u∈vs,zk A u)/\∀a∈A,jh h A a
 |[],_,x,_,_=>by
  cases x;exact⟨[],λu m=>absurd m (by simp),λa m=>absurd m (by simp)⟩
 |d::ds,_,x,p,z=>by
  obtain⟨v,vs,rfl,x1,x2⟩:=qW x;have q:yh d=true/\nY ds=true:=NO.mp p;obtain⟨A,a1,a2⟩:=Cn d v x1 q.1 (z d (L0 ..));obtain⟨B,b1,b2⟩:=lY ds vs x2 q.2 λe he=>z e (Lw _ he);have kA:∀b∈A,b∈A++B:=λb hb=>L4.mpr (.inl hb);have kB:∀b∈B,b∈A++B:=λb hb=>L4.mpr (.inr hb);refine⟨A++B,λu hu=>?_,λb hb=>?_⟩
  · rcases Li.mp hu with e|m
    · rw[e];exact a1.mono kA
    · exact (b1 u m).mono kB
  · rcases L4.mp hb with m|m
    · exact (a2 b m).mono kA
    · exact (b2 b m).mono kB
end
end
def Ed (o:Obj):Option HO:=match o.data with
 |.seq vs _=>if (o.cls==Value.type "list")=true then some (.frz o (.lst (vs.toList.map toV))) else some (.frz o (.tup (vs.toList.map toV)))
 |_=>none
def ja (K:N4)(h:Heap)(A:List Addr):Hp:=λb=>if b∈A then (if (K.lookup b).isNone=true then (h.get? b).bind Ed else none) else none
def vg (H:Hp):Prop:=∀b,H b=none∨∃o u,H b=some (.frz o u)
theorem uH (vs:N8):Ed {cls:=.type "list",data:=.seq vs.toArray}=some (.frz {cls:=.type "list",data:=.seq vs.toArray} (.lst (vs.map toV))):=by
 show (if (Value.type "list"==Value.type "list")=true then some (HO.frz {cls:=.type "list",data:=.seq vs.toArray} (.lst (vs.toArray.toList.map toV))) else some (HO.frz {cls:=.type "list",data:=.seq vs.toArray} (.tup (vs.toArray.toList.map toV))))=_;rw[Lg (beq_self_eq_true _)]
theorem vC (vs:N8):Ed {cls:=.type "tuple",data:=.seq vs.toArray}=some (.frz {cls:=.type "tuple",data:=.seq vs.toArray} (.tup (vs.map toV))):=by
 show (if (Value.type "tuple"==Value.type "list")=true then some (HO.frz {cls:=.type "tuple",data:=.seq vs.toArray} (.lst (vs.toArray.toList.map toV))) else some (HO.frz {cls:=.type "tuple",data:=.seq vs.toArray} (.tup (vs.toArray.toList.map toV))))=_;rw[Lf (by decide)]
section
variable {P:Program}{w:World}{K:N4}{h:Heap}{A:List Addr}
theorem oA {b:Addr} {o:Obj} (hb:b∈A) (hk:K.lookup b=none) (e:h.get? b=some o):ja K h A b=Ed o:=by
 unfold ja;rw[Lg hb,hk,Lg (show (none:Option Obj).isNone=true from rfl),e] <;> rfl
theorem EH {b:Addr}{u:HO}(q:ja K h A b=some u):b∈A/\K.lookup b=none:=by
 unfold ja at q;by_cases hb:b∈A
 · rw[Lg hb] at q;cases hk:K.lookup b with
   |none=>exact⟨hb,rfl⟩
   |some o =>
    rw[hk,Lf (by simp)] at q;cases q
 · rw[Lf hb] at q;cases q
theorem oq (ar:∀a∈A,jh h A a){b:Addr}{u:HO}(q:ja K h A b=some u):K.lookup b=none/\∃vs:N8,vs.length<=sizeLine/\(∀u∈vs,zk A u) /\
  ((h.get? b=some {cls:=.type "list",data:=.seq vs.toArray}/\u=.frz {cls:=.type "list",data:=.seq vs.toArray} (.lst (vs.map toV))) ∨
   (h.get? b=some {cls:=.type "tuple",data:=.seq vs.toArray}/\u=.frz {cls:=.type "tuple",data:=.seq vs.toArray} (.tup (vs.map toV)))):=by
 obtain⟨hb,hk⟩:=EH q;obtain⟨vs,h1,h2,h3⟩:=ar b hb;refine⟨hk,vs,h1,h2,?_⟩;rcases h3 with e|e
 · rw[oA hb hk e,uH] at q;exact .inl ⟨e,(LQ q).symm⟩
 · rw[oA hb hk e,vC] at q;exact .inr ⟨e,(LQ q).symm⟩
theorem Af (ar:∀a∈A,jh h A a):vg (ja K h A):=λb=>by
 cases q:ja K h A b with
 |none=>exact .inl rfl
 |some u =>
  obtain⟨_,vs,_,_,⟨_,e⟩|⟨_,e⟩⟩:=oq ar q
  · exact .inr ⟨_,_,by rw[e]⟩
  · exact .inr ⟨_,_,by rw[e]⟩
theorem ED (ar:∀a∈A,jh h A a):iC P w (ja K h A) h:=λb u q=>by
 obtain⟨_,vs,h1,h2,⟨e,rfl⟩|⟨e,rfl⟩⟩:=oq ar q
 · exact⟨e,by rw[Le];exact h1,vs,_,iE h2,e⟩
 · exact⟨e,by rw[Le];exact h1,vs,iE h2,_,e,rfl,_,rfl⟩
theorem oy {c c':Value}{vs us:N8}(e:(some {cls:=c,data:=.seq vs.toArray}:Option Obj)=some {cls:=c',data:=.seq us.toArray}):c=c'/\vs=us:=by
 have e1:=LQ e;have e2:c=c':=Ml Obj.cls e1;have e3:Data.seq vs.toArray=Data.seq us.toArray:=Ml Obj.data e1;injection e3 with e4;refine⟨e2,?_⟩;have e5:=Ml Array.toList e4;simpa using e5
theorem Ky (KX:K.In h)(ar:∀a∈A,jh h A a){a:Addr}{vs:N8}(ha:a∈A)(e:h.get? a=some {cls:=.type "list",data:=.seq vs.toArray}):(∀u∈vs,zk A u)/\aU K (ja K h A) a (vs.map toV):=by
 obtain⟨us,h1,h2,h3⟩:=ar a ha;have hu:us=vs:=by
  rcases h3 with q|q
  · rw[e] at q;exact (oy q).2.symm
  · rw[e] at q;exact absurd (Value.type.inj (oy q).1) (by decide)
 subst hu;refine⟨h2,?_⟩;cases hk:K.lookup a with
 |none=>exact .inl (.inr ⟨_,by rw[oA ha hk e,uH]⟩)
 |some o =>
  have e2:=KX a o hk;rw[e] at e2;obtain rfl:=LQ e2;exact .inr ⟨_,us.toArray,_,hk,rfl,rfl,rfl,by rw[Lz];exact h1,by simpa using iE h2⟩
theorem Kt (KX:K.In h)(ar:∀a∈A,jh h A a){a:Addr}{vs:N8}(ha:a∈A)(e:h.get? a=some {cls:=.type "tuple",data:=.seq vs.toArray}):(∀u∈vs,zk A u)/\bZ K (ja K h A) a (vs.map toV):=by
 obtain⟨us,h1,h2,h3⟩:=ar a ha;have hu:us=vs:=by
  rcases h3 with q|q
  · rw[e] at q;exact absurd (Value.type.inj (oy q).1) (by decide)
  · rw[e] at q;exact (oy q).2.symm
 subst hu;refine⟨h2,?_⟩;cases hk:K.lookup a with
 |none=>exact .inl (.inr ⟨_,by rw[oA ha hk e,vC]⟩)
 |some o =>
  have e2:=KX a o hk;rw[e] at e2;obtain rfl:=LQ e2;exact .inr ⟨_,us.toArray,_,hk,rfl,rfl,by rw[Lz];exact h1,by simpa using iE h2⟩
mutual
theorem G7 {Pm:Params}(KX:K.In h)(ar:∀a∈A,jh h A a):∀(d:WData) (v:Value),Well Pm h v d->yh d=true->zk A v->Dw K (ja K h A) (toV v) d
 |.none,_,x,_,_=>by
  cases x;exact .cj
 |.bool b,_,x,_,_=>by
  cases x;exact .bl b
 |.int i,_,x,_,_=>by
  cases x;exact .int i
 |.str s,_,x,_,_=>by
  cases x;exact .str s
 |.bytes b,_,x,_,_=>by
  cases x;have z:=Dw.vQ (K:=K) (H:=ja K h A) b.toArray;exact z
 |.list ds,_,x,p,hu=>by
  obtain⟨a,vs,rfl,ho,hall⟩:=rG x;obtain⟨h2,hs⟩:=Ky KX ar hu ho;exact .lst hs (sZ KX ar ds _ hall p h2)
 |.tuple ds,_,x,p,hu=>by
  obtain⟨a,vs,rfl,ho,hall⟩:=o7 x;obtain⟨h2,hs⟩:=Kt KX ar hu ho;exact .tup hs (sZ KX ar ds _ hall p h2)
 |.float _,_,_,p,_=>Bool.noConfusion (show false=true from p)
 |.dict _,_,_,p,_=>Bool.noConfusion (show false=true from p)
 |.bytearray _,_,_,p,_=>Bool.noConfusion (show false=true from p)
 |.set _,_,_,p,_=>Bool.noConfusion (show false=true from p)
 |.frozenset _,_,_,p,_=>Bool.noConfusion (show false=true from p)
 |.obj _ _,_,_,p,_=>Bool.noConfusion (show false=true from p)
theorem sZ {Pm:Params}(KX:K.In h)(ar:∀a∈A,jh h A a):∀(ds:List WData) (vs:N8),WellAll Pm h vs ds->nY ds=true->(∀u∈vs,zk A u)->ib K (ja K h A) (vs.map toV) ds
 |[],_,x,_,_=>by
  cases x;exact .nil
 |d::ds,_,x,p,hu=>by
  obtain⟨v,vs,rfl,x1,x2⟩:=qW x;have q:yh d=true/\nY ds=true:=NO.mp p;exact .cons (G7 KX ar d v x1 q.1 (hu _ (L0 ..))) (sZ KX ar ds vs x2 q.2 λu m=>hu u (Lw _ m))
end
end
theorem zZ {P:Program}{w:World}{K:N4}{mg mb:N6}{CX:lR}{k:Nat}{fa:Addr}{fd:FuncData}{ps:List Str}{sp:Sp}{s₁:Shared}{vals:N8}{ds:List WData}{R:PySem.W.WRecords}{cl:Str->Option Addr}{d0:WData}
  (KX:K.In s₁.heap)(hns:s₁.heap.Ns mainGlobals mg)(hb:s₁.heap.Ns builtinsNs mb)(hbb:∀x:Str,x≠"__name__"->mb x=bootBuiltins x)(hlim:s₁.heap.NoLimit)(hg:s₁.gens=#[])
  (hwl:WellAll w.params s₁.heap vals ds)(hpl:nY ds=true)(hwt:∀d∈ds,d.weight<=1048576)(hr:cX k callerA)
  (F:∀base:Heap,K.In base->base.Ns mainGlobals mg->bc P w K mg base CX k fa fd ps sp)(hbind:∀(s:Shared) (us:N8),us.length=ps.length->BindsTo s fd ⟨us,[]⟩ (ps.zip us))(hlen:ds.length=ps.length)
  (hsp:∀(H:Hp) (xs:List V),vg H->ib K H xs ds->sp xs H (λv H'=>Dw K H' v d0) λ_ _ _=>False)
  (hCX:∀H e s',CX [] H s₁ (λ_ _ _=>False) e s'->False) :
  codeAny (model P w) callerA (.call (.ref fa) ⟨vals,[]⟩) (λr s'=>∃u as,r=.ok (.ret u)/\ReadsW R cl s'.heap u d0 as/\OldK s₁.heap s'.heap/\s'.os=s₁.os/\AllBare s'.gens) s₁:=by
 obtain⟨A,ho,ar⟩:=lY ds vals hwl hpl hwt;have hO:vg (ja K s₁.heap A):=Af ar;have bw:iC P w (ja K s₁.heap A) s₁.heap:=ED ar;have hS:=sZ KX ar ds vals hwl hpl ho;have hV:=iE ho;have hK:∀b u,ja K s₁.heap A b=some u->K.lookup b=none:=λb u q=>(oq ar q).1;have noA:∀{b:Addr} {o:Obj} {es:Array DictEntry} {ep:Nat},s₁.heap.get? b=some o->o.data=.dict es ep->ja K s₁.heap A b=none:=λ{b o es ep} e d=>by
  cases q:ja K s₁.heap A b with
  |none=>rfl
  |some u =>
   obtain⟨_,vs,_,_,⟨e2,_⟩|⟨e2,_⟩⟩:=oq ar q
   · rw[e2] at e;cases e;have d':Data.seq vs.toArray _=Data.dict es ep:=d;cases d'
   · rw[e2] at e;cases e;have d':Data.seq vs.toArray _=Data.dict es ep:=d;cases d'
 generalize ja K s₁.heap A=H at hO bw hS hK noA;have base_of:∀{b:Addr} {o:Obj},s₁.heap.get? b=some o->H b=none->(sQ s₁.heap H).get? b=some o:=λe n=>BG e n;have CQ:∀{b:Addr} {m:N6},s₁.heap.Ns b m->(sQ s₁.heap H).Ns b m:=λ{b m} ⟨o,es,ep,e,d,r⟩=>⟨o,es,ep,base_of e (noA e d),d,r⟩;have nK:∀b o,K.lookup b=some o->H b=none:=λb o e=>by
  cases q:H b with
  |none=>rfl
  |some u =>
   rw[hK b u q] at e;cases e
 have hKb:K.In (sQ s₁.heap H):=λb o e=>base_of (KX b o e) (nK b o e);have hM:Mod K mg (sQ s₁.heap H):=⟨hKb,CQ hns,⟨mb,CQ hb,hbb⟩,let ⟨mc,h1,h2⟩:=hlim;⟨mc,CQ h1,h2⟩⟩;have e0:wD P w K mg (sQ s₁.heap H) callerA [] s₁ H:=⟨rfl,hM,λb o e=>DS e,NV (ze _ _),trivial,λb hb=>absurd (show b∈([]:List Addr) from hb) (by simp),bw,.of_eq hg⟩;have hl:vals.length=ps.length:=by rw[gO hwl];exact hlen
 refine NT ((F _ hKb (CQ hns)).run callerA [] s₁ H ⟨vals,[]⟩ vals (vals.map toV) _ _ hr e0 (hbind s₁ vals hl) hV (hsp H _ hO hS)) λr s' x=>?_;cases r with
 |error e=>exact (hCX H e s' x).elim
 |ok fl =>
  cases fl with
  |next=>exact False.elim x
  |brk=>exact False.elim x
  |cont=>exact False.elim x
  |ret u =>
   obtain⟨v,H',os,bare,un,hok',r',q⟩:=x;have kept:∀b o,s₁.heap.get? b=some o->s'.heap.get? b=some o:=λb o e=>by
    cases q2:H b with
    |none=>exact un.keep b o e q2 (by intro z;exact absurd (show b∈([]:List Addr) from z) (by simp)) (by simp)
    |some u2 =>
     rcases hO b with z|⟨ob,u3,z⟩
     · rw[q2] at z;cases z
     · have z2:=un.mI b ob _ z;obtain⟨e1,_⟩:=bw b _ z;obtain⟨e2,_⟩:=hok' b _ z2;rw[e] at e1;cases e1;exact e2
   have KX':K.In s'.heap:=λb o e=>kept b o (KX b o e);obtain⟨as,hrd⟩:=Dw.reads (R:=R) (cl:=cl) hok' KX' d0 v u q r';exact⟨u,as,rfl,hrd,OldK.of_keep kept,os,bare⟩
theorem qx {ds:List WData}(h:WData.layableAll ds=true):∀d∈ds,d.weight<=1048576:=λd hd =>
 (PySem.W.layableW_iff.mp (LI.mp h d hd)).2.2
theorem qj:∀(cs:List Codec) (a:Codec.denoteAll cs),(Codec.encAll cs a).length=cs.length
 |[],_=>rfl
 |c::cs,a=>by
  show (Codec.encAll cs a.2).length+1=cs.length+1;rw[qj cs a.2]
theorem Ae {r:OpenSpec}{k:Nat}{q:Program}{loose:List Str}{XP:(Str->Option Value)->Heap->Prop}{YP:World->Heap->Prop}{d:DefRec}{K:Params->N4}{CX:World->lR}{ps:List Str}{sp:World->Sp}
  (hwell:r.wellSaid=true)(hdf:d.params.defaults=[])(hlen:r.args.length=ps.length)(hr:cX k callerA)
  (hY:∀(w:World) (h:Heap),YP w h->(K w.params).In h)
  (F:∀(w:World) (mg:N6) (fa:Addr) (h:Heap),YP w h->(K w.params).In h->h.Ns mainGlobals mg->mg d.name=some (.ref fa) ->
   ∃fd:FuncData,(∀(s:Shared) (us:N8),us.length=ps.length->BindsTo s fd ⟨us,[]⟩ (ps.zip us)) /\
    ∀base:Heap,(K w.params).In base->base.Ns mainGlobals mg->bc r.prog w (K w.params) mg base (CX w) k fa fd ps (sp w))
  (hsp:∀(w:World) (H:Hp) (xs:List V) (a:Codec.denoteAll r.args),vg H->Codec.withinAll r.args a=true->Codec.app r.args r.asked a=true->ib (K w.params) H xs (Codec.encAll r.args a) ->
   sp w xs H (λv H'=>Dw (K w.params) H' v (r.ret.enc (Codec.app r.args r.f a))) λ_ _ _=>False)
  (hCX:∀(w:World) (H:Hp) (s:Shared) (e:Value) (s':Shared),CX w [] H s (λ_ _ _=>False) e s'->False) :
  PySem.W.WalkOS q loose XP YP r d [] (λf vs=>PySem.call f vs):=by
 intro w ku s₁ mg mb G Y fa o pm cd doc dV kV ho hd hcd hD hmg hg args vals as hpre hlay hrd hwl hlo;obtain⟨a,e1,e2⟩:=PySem.W.os_pre_some hpre;obtain⟨e3,hwi⟩:=Codec.encAll_of_decAll r.args args a e1;subst e3;have KX:=hY w _ Y;obtain⟨fd,hb,hF⟩:=F w mg fa _ Y KX G.T.g hmg;refine PySem.W.enter_call (NT (zZ (R:=[]) (cl:=classAt ku.heap) (d0:=r.ret.enc (Codec.app r.args r.f a)) KX G.T.g G.T.b G.T.builtins G.T.nolimit hg hwl (qT _ _) (qx hlay) hr hF hb (by rw[qj];exact hlen)
  (λH xs hO hS=>hsp w H xs a hO hwi e2 hS) λH e s'=>hCX w H s₁ e s') λr' s' hq=>?_)
 obtain⟨u,as',rfl,h1,h2,h3,h4⟩:=hq;exact⟨.inl ⟨u,_,as',rfl,λ_=>rfl,h1,(OpenSpec.post_iff hwell hwi _ _).mpr rfl,λz=>Bool.noConfusion (show false=true from z)⟩,h2,h3,h4⟩
theorem w8 {r:OpenSpec}{k:Nat}{q:Program}{loose:List Str}{XP:(Str->Option Value)->Heap->Prop}{YP:World->Heap->Prop}{d:DefRec}{K:Params->N4}{CX:lR}{ps:List Str}{sp:N4->Sp}
  (hwell:r.wellSaid=true)(hdf:d.params.defaults=[])(hlen:r.args.length=ps.length)(hr:cX k callerA)
  (hY:∀(w:World) (h:Heap),YP w h->(K w.params).In h)
  (F:∀(w:World) (mg:N6) (fa:Addr) (h:Heap),YP w h->(K w.params).In h->h.Ns mainGlobals mg->mg d.name=some (.ref fa) ->
   ∃fd:FuncData,(∀(s:Shared) (us:N8),us.length=ps.length->BindsTo s fd ⟨us,[]⟩ (ps.zip us)) /\
    ∀base:Heap,(K w.params).In base->base.Ns mainGlobals mg->bc r.prog w (K w.params) mg base CX k fa fd ps (sp (K w.params)))
  (hsp:∀(K:N4) (H:Hp) (xs:List V) (a:Codec.denoteAll r.args),vg H->Codec.withinAll r.args a=true->Codec.app r.args r.asked a=true->ib K H xs (Codec.encAll r.args a) ->
   sp K xs H (λv H'=>Dw K H' v (r.ret.enc (Codec.app r.args r.f a))) λ_ _ _=>False)
  (hCX:∀(H:Hp) (s:Shared) (e:Value) (s':Shared),CX [] H s (λ_ _ _=>False) e s'->False) :
  PySem.W.WalkOS q loose XP YP r d [] (λf vs=>PySem.call f vs) :=
 Ae (K:=K) (CX:=λ_=>CX) (sp:=λw=>sp (K w.params)) hwell hdf hlen hr hY F (λw H xs a h1 h2 h3 h4=>hsp (K w.params) H xs a h1 h2 h3 h4) λ_ H s e s'=>hCX H s e s'
end L2
end
namespace L2
open PySem PySem.Spec PyProof.Rows
abbrev bG:lR:=λ_ _ _ _ _ _=>False
abbrev E0:XK:=λ_ _ _=>False
theorem bf {X:Cx}:Passes bG X E0:=λ_ _ _ _ _ _ _ h=>h.elim
structure dG (K:N4)(x qual:Str)(st:Stmt)(f:Addr)(fd:FuncData):Prop where
 ex:∃(oc:Value) (od:Option Addr) (kV doc pm:Value) (an:Option Addr) (cdv ct:Value) (osl:Array (Option Value)),
  fd=PySem.W.fnOf x qual (cR st) (cx st) (ax st) .none kV doc pm an cdv ct/\K.lookup f=some ⟨oc,od,.func fd,osl⟩/\PySem.W.codeIn K cdv qual=true
 kp:PySem.W.keepIn K (.ref f)=true
section
variable {P:Program}{w:World}{K:N4}{mg:N6}{base:Heap}
theorem dG.ok {x qual:Str} {st:Stmt} {f:Addr} {fd:FuncData} {N ps:List Str} {k:Nat} {sp:Sp} (F:dG K x qual st f fd) (S:aI N ps (ax st)) (len:∀vs H Q E,sp vs H Q E->vs.length=ps.length)
  (hbody:∀(cdv:Value) (A:Around) (outer:List Env) (s:Shared) (H:Hp) (vs:List V) (Q:VK) (E:XK),cX k (A.deeper (envOfC qual (ax st) s.heap.objs.size f cdv))->sp vs H Q E ->
   ∃t,uh (n8 bG P w K mg base N qual (ax st) f cdv A outer s H E).HQ (cx st) t/\t {nx:=λ_ H'=>Q .cj H',rt:=Q} (start N vs) H):bc P w K mg base bG (k+1) f fd ps sp:=by
 obtain⟨oc,od,kV,doc,pm,an,cdv,ct,osl,rfl,lk,hcd⟩:=F.ex;refine Fs lk hcd S len λA outer s H vs Q E hr hsp=>?_;obtain⟨t,h,q⟩:=hbody cdv A outer s H vs Q E hr hsp;exact⟨t,h.HQ,q⟩
theorem dG.binds {x qual:Str}{st:Stmt}{f:Addr}{fd:FuncData}{ps:List Str}(F:dG K x qual st f fd)
  (h:∀(kV doc pm:Value) (an:Option Addr) (cdv ct:Value) (us:N8),us.length=ps.length->bindArgs (PySem.W.fnOf x qual (cR st) (cx st) (ax st) .none kV doc pm an cdv ct) ⟨us,[]⟩=pure (ps.zip us)):Binds K fd ps []:=by
 obtain⟨oc,od,kV,doc,pm,an,cdv,ct,osl,rfl,lk,hcd⟩:=F.ex;exact .all (h kV doc pm an cdv ct)
theorem sW {x qual:Str}{st:Stmt}{f:Addr}{oc:Value}{od an:Option Addr}{osl:Array (Option Value)}{kV doc pm cdv ct:Value}(l:K.lookup f=some ⟨oc,od,.func (PySem.W.fnOf x qual (cR st) (cx st) (ax st) .none kV doc pm an cdv ct),osl⟩)
  (c:PySem.W.codeIn K cdv qual=true)(k:PySem.W.keepIn K (.ref f)=true):dG K x qual st f (PySem.W.fnOf x qual (cR st) (cx st) (ax st) .none kV doc pm an cdv ct):=⟨⟨oc,od,kV,doc,pm,an,cdv,ct,osl,rfl,l,c⟩,k⟩
end
theorem vG {A:Around}{k:Nat}(hr:cX k A):A.units+1 < cLine:=Nat.lt_of_le_of_lt (Nat.add_le_add_left (by decide:1<=64) _) hr.units
section
variable {X:Cx}
theorem pv (i:Nat) {x:Str} {pos:Pos} (hN:X.N[i]?=some x:=by rfl) (hv:HU X.env.scope x:=by first|exact Or.inl rfl|exact Or.inr (Or.inl rfl)|exact Or.inr (Or.inr rfl)) (hd:(x==("__debug__":Str))=false:=by decide)
  (hcd:(x==("__classdict__":Str))=false:=by decide):PE X (.Name x pos) (cH i):=Ha hN hv hd hcd
end
theorem t7 {A B:Prop}(h:B):if false=true then A else B:=by
 rw[Lf LC];exact h
theorem n_ {A B:Prop}(h:A):if true=true then A else B:=by
 rw[Lg rfl];exact h
theorem gF {c A B:Prop} [Decidable c] (h1:c->A)(h2:¬c->B):if c then A else B:=by
 by_cases h:c
 · rw[Lg h];exact h1 h
 · rw[Lf h];exact h2 h
def au (H H':Hp):Prop:=∀b o,H b=some o->H' b=some o
theorem au.refl (H:Hp):au H H:=λ_ _ h=>h
theorem au.trans {H H1 H2:Hp}(a:au H H1)(b:au H1 H2):au H H2:=λc o h=>b c o (a c o h)
theorem au.free {H H':Hp}(e:au H H'){l:Addr}(h:H' l=Option.none):H l=Option.none:=by
 cases q:H l with
 |none=>rfl
 |some o =>
  rw[e l o q] at h;cases h
theorem au.seq {K:N4}{H H':Hp}{a:Addr}{xs:List V}(e:au H H')(h:aU K H a xs):aU K H' a xs:=by
 rcases h with (h|⟨o,h⟩)|h
 · exact .inl (.inl (e _ _ h))
 · exact .inl (.inr ⟨o,e _ _ h⟩)
 · exact .inr h
section
variable {κ:Type} [DecidableEq κ]
end
end L2
end
set_option autoImplicit false
set_option linter.all false
set_option maxRecDepth 100000
set_option maxHeartbeats 2000000
namespace BwX
open PySem PySem.Calls PySem.Spec PyProof.Rows
structure Nt (fs ch:List Addr)(h g:Heap):Prop where
 keep:∀b o,h.get? b=some o->b∉fs->b∉ch->g.get? b=some o
 slot:∀b o,h.get? b=some o->b∉ch->∃sl,g.get? b=some {o with slots:=sl}
section
variable {fs ch fs' ch':List Addr}{h g k:Heap}
theorem Nt.refl (fs ch:List Addr) (h:Heap):Nt fs ch h h:=⟨λ_ _ e _ _=>e,λ_ o e _=>⟨o.slots,e⟩⟩
theorem Nt.trans (a:Nt fs ch h g)(b:Nt fs ch g k):Nt fs ch h k where
 keep:=λc o e hf hc=>b.keep c o (a.keep c o e hf hc) hf hc
 slot:=λc o e hc=>by
  obtain⟨_,e1⟩:=a.slot c o e hc;obtain⟨sl,e2⟩:=b.slot c _ e1 hc;exact⟨sl,e2⟩
theorem Nt.mono (a:Nt fs ch h g)(hf:∀b∈fs,b∈fs')(hc:∀b∈ch,b∈ch'):Nt fs' ch' h g :=
 ⟨λb o e n m=>a.keep b o e (λz=>n (hf b z)) λz=>m (hc b z),λb o e m=>a.slot b o e λz=>m (hc b z)⟩
theorem Nt.push (o:Obj):Nt fs ch h (h.push o):=⟨λ_ _ e _ _=>Lh o e,λ_ u e _=>⟨u.slots,Lh o e⟩⟩
theorem Nt.upd {a:Addr}{f:Obj->Obj}(ha:a∈ch):Nt fs ch h (h.update a f):=by
 have kH:∀b,b∉ch->(h.update a f).get? b=h.get? b:=λb m=>Na _ _ λz=>m (z ▸ ha);exact⟨λb o e _ m=>(kH b m).trans e,λb o e m=>⟨o.slots,(kH b m).trans e⟩⟩
theorem Nt.slots (so:Heap.SlotsOnly fs h g):Nt fs ch h g:=⟨λb o e n _=>(so.2.1 b n).trans e,λb o e _=>so.2.2 b o e⟩
end
def Rec (h:Heap)(a:Addr)(k:Value)(d:Option Addr)(vs:Array Value):Prop:=∃o,h.get? a=some o/\(o.cls=k/\o.dict=d)/\o.data=.fields vs
section
variable {M:Model}{A:Around}{E:N5}{s:Shared}{h g:Heap}{a:Addr}{k x:Value}{d:Option Addr}{vs:Array Value}{i:Nat}
theorem Rec.put (r:Rec h a k d vs):Rec (h.update a (Obj.mapFields (·.setIfInBounds i x))) a k d (vs.setIfInBounds i x):=by
 obtain⟨⟨oc,od,dt,sl⟩,e,c,dd⟩:=r;cases dd;exact⟨_,Md _ e rfl,c,rfl⟩
theorem Rec.over {fs ch:List Addr}(r:Rec h a k d vs)(N:Nt fs ch h g)(m:a∉ch):Rec g a k d vs:=by
 obtain⟨o,e,c,dd⟩:=r;obtain⟨sl,e'⟩:=N.slot a o e m;exact⟨_,e',c,dd⟩
theorem Rec.read {Q:N5}(r:Rec s.heap a k d vs)(hi:vs[i]?=some x)(q:Q x s):wpAny M A (field (.ref a) i) Q E s:=by
 obtain⟨o,e,_,dd⟩:=r;exact wpAny_field e dd hi q
theorem Rec.write {Q:Unit->Shared->Prop}(r:Rec s.heap a k d vs)(hi:i < vs.size)(q:Q () {s with heap:=s.heap.update a (Obj.mapFields (·.setIfInBounds i x))}):wpAny M A (setField (.ref a) i x) Q E s:=by
 obtain⟨o,e,_,dd⟩:=r;exact wpAny_setField e dd hi q
end
def kr (h0 h:Heap)(e:Addr)(k:Value)(dx:Addr)(p:Option (Addr×Value)):Prop :=
 ∃vs,(Rec h e k (some dx) vs/\h0.get? e=none) /\
  match p with
  |none=>vs[1]?=some .none
  |some (T,fl)=>vs[1]?=some (.ref T)/\T≠e/\h0.get? T=none/\∃c d ts,Rec h T c d ts/\ts[3]?=some fl
def jr (e:Addr)(p:Option (Addr×Value)):List Addr:=e::p.toList.map (·.1)
section
variable {h0 h1 h:Heap}{e dx:Addr}{k:Value}{p:Option (Addr×Value)}
theorem kr.x_ (F:kr h0 h e k dx p):∀b∈jr e p,h0.get? b=none/\∃c d vs,Rec h b c d vs:=by
 obtain⟨vs,⟨r,n⟩,q⟩:=F;intro b hb;cases p with
 |none =>
  obtain rfl:b=e:=by simpa [jr] using hb
  exact⟨n,_,_,_,r⟩
 |some p =>
  obtain⟨_,_,nT,c,d,ts,rT,_⟩:=q;have hb:b=e∨b=p.1:=by simpa [jr] using hb
  rcases hb with rfl|rfl
  · exact⟨n,_,_,_,r⟩
  · exact⟨nT,c,d,ts,rT⟩
theorem kr.low (F:kr h0 h e k dx p)(hm:∀b,h0.get? b=none->h1.get? b=none):kr h1 h e k dx p:=by
 obtain⟨vs,⟨r,n⟩,q⟩:=F;cases p with
 |none=>exact⟨vs,⟨r,hm _ n⟩,q⟩
 |some p =>
  obtain⟨q1,q2,q3,q4⟩:=q;exact⟨vs,⟨r,hm _ n⟩,q1,q2,hm _ q3,q4⟩
end
section
variable {M:Model}{A:Around}{E:N5}{s:Shared}{base:Heap}{env:Env}{outer:List Env}{L e dx:Addr}{k:Value}{h0:Heap}
theorem entry {vs:Array Value} {hd0:Value} {nx:Bool} {Q:Unit->Shared->Prop} (fr:A.frames=some (env::outer)) (ff:s.heap.FunFrames base (env::outer)) (hf:env.frame=some L) (r:Rec s.heap e k (some dx) vs) (hz:1 < vs.size)
  (fin:∀g T c d ts,s.heap.objs.size<=T->T≠e->Nt ((env::outer).filterMap (·.frame)) [e] s.heap g->Rec g e k (some dx) (vs.setIfInBounds 1 (.ref T))->Rec g T c d ts->ts[3]?=some (rawInt L)->Q () {s with heap:=g}) :
  wpAny M A (frameOf env >>= λa=>entryPlaceOf L nx >>= λpl=>EntryCells.newEntry hd0 a .none (rawInt L) .none pl >>= λb=>setField (.ref e) 1 b) Q E s:=by
 refine Ld (wpAny_frameOf_fun fr ff hf λg so=>Ld (wpAny_entryPlaceOf λpl ip=>Ld ?_));simp only[EntryCells.newEntry,newFields];refine MG ?_ (ip.sizeOk5 _ _ _ _ _);have h3:(([hd0,Value.ref L,Value.none,rawInt L,Value.none]++(if pl.isEmpty then List.replicate 6 Value.none else pl)).toArray)[3]?=some (rawInt L):=by simp
 generalize ([hd0,Value.ref L,Value.none,rawInt L,Value.none]++(if pl.isEmpty then List.replicate 6 Value.none else pl)).toArray=ts at h3;have r2:Rec (g.push {cls:=.type "traceback",dict:=none,data:=.fields ts}) e k (some dx) vs:=r.over ((Nt.slots so).trans (Nt.push _):Nt _ [] _ _) (by simp);have ne:g.objs.size≠e:=by
  obtain⟨o,eo,_⟩:=r.over (Nt.slots so:Nt _ [] _ _) (by simp);exact Nat.ne_of_gt (Lq eo)
 have rT:Rec (g.push {cls:=.type "traceback",dict:=none,data:=.fields ts}) g.objs.size (.type "traceback") none ts:=⟨_,Lu g rfl,⟨rfl,rfl⟩,rfl⟩;have up:Nt ((env::outer).filterMap (·.frame)) [e] (g.push {cls:=.type "traceback",dict:=none,data:=.fields ts}) _:=Nt.upd (f:=Obj.mapFields (·.setIfInBounds 1 (Value.ref g.objs.size))) (Ls.mpr rfl);exact Rec.write (s:={s with heap:=g.push {cls:=.type "traceback",dict:=none,data:=.fields ts}}) r2 hz
  (fin _ g.objs.size _ _ ts (NV so.1.symm) ne (((Nt.slots so).trans (Nt.push _)).trans up) r2.put (rT.over up λz=>ne (Ls.mp z)) h3)
theorem eV {vs:Array Value}{i:Nat}{x:Value}(h:vs[i]?=some x):i < vs.size:=(Array.getElem?_eq_some_iff.mp h).1
theorem xS {p:Option (Addr×Value)}{Q:Unit->Shared->Prop}(fr:A.frames=some (env::outer))(ff:s.heap.FunFrames base (env::outer))(hf:env.frame=some L)(F:kr h0 s.heap e k dx p)(hst:∀b,s.heap.get? b=none->h0.get? b=none)
  (hp:∀T fl,p=some (T,fl)->fl=.none∨fl=rawInt L)
  (fin:∀g T,kr h0 g e k dx (some (T,rawInt L))->(T∈jr e p∨s.heap.objs.size<=T)->Nt ((env::outer).filterMap (·.frame)) (jr e p) s.heap g->Q () {s with heap:=g}):wpAny M A (noteFrame (.ref e) env) Q E s:=by
 obtain⟨vs,⟨r,n⟩,q⟩:=F;have made:∀(h:Heap),h.objs.size=s.heap.objs.size->∀g T c d ts,h.objs.size<=T->T≠e->Rec g e k (some dx) (vs.setIfInBounds 1 (.ref T))->Rec g T c d ts->ts[3]?=some (rawInt L)->1 < vs.size->kr h0 g e k dx (some (T,rawInt L)):=λh hs g T c d ts hT ne r1 rT h3 hz =>
  ⟨_,⟨r1,n⟩,by simp[hz],ne,hst T (Heap.get?_none_of_le (hs ▸ hT)),c,d,ts,rT,h3⟩
 simp only[noteFrame,hf];cases p with
 |none =>
  refine Ld (r.read q ?_);exact entry fr ff hf r (eV q) λg T c d ts hT ne N r1 rT h3=>fin g T (made _ rfl g T c d ts hT ne r1 rT h3 (eV q)) (.inr hT) N
 |some p =>
  obtain⟨T,fl⟩:=p;obtain⟨h1,ne,nT,c,d,ts,rT,h3⟩:=q;refine Ld (r.read h1 (Ld (rT.read h3 ?_)));rcases hp T fl rfl with rfl|rfl
  · have N1:Nt ((env::outer).filterMap (·.frame)) [T] s.heap _:=Nt.upd (f:=Obj.mapFields (·.setIfInBounds 3 Value.none)) (Ls.mpr rfl);have r1:=r.over N1 λz=>ne (Ls.mp z).symm;have hs:(s.heap.update T (Obj.mapFields (·.setIfInBounds 3 Value.none))).objs.size=s.heap.objs.size:=Heap.size_after_update ..;have f1:(s.heap.update T (Obj.mapFields (·.setIfInBounds 3 Value.none))).FunFrames base (env::outer):=ff.of_keeps λb o eb nb=>by
     obtain⟨sl,z⟩:=N1.slot b o eb λz=>by
      obtain⟨u,eu,_,du⟩:=rT;rw[Ls.mp z,eu] at eb;cases eb;exact nb ts du
     exact⟨_,z,rfl⟩
    refine Ld (rT.write (eV h3) ?_);refine entry (s:={s with heap:=s.heap.update T (Obj.mapFields (·.setIfInBounds 3 Value.none))}) fr f1 hf r1 (eV h1) λg T' c' d' ts' hT ne' N r2 rT' h3'=>?_;refine fin g T' (made _ hs g T' c' d' ts' hT ne' r2 rT' h3' (eV h1)) (.inr (L1 (NV hs.symm) hT)) ?_;exact (N1.mono (λ_ z=>z) λb z=>by simp at z;simp[jr,z]).trans (N.mono (λ_ z=>z) λb z=>by simp at z;simp[jr,z])
  · have same:(rawInt L==rawInt L)=true:=by first|exact beq_self_eq_true _|simp
    rw[Lg same];exact Lk (fin s.heap T ⟨vs,⟨r,n⟩,h1,ne,nT,c,d,ts,rT,h3⟩ (.inl (by simp[jr])) (Nt.refl _ _ _))
theorem xr {T:Addr}{fl:Value}{v:Option Addr}{fs:List Addr}{Q:Unit->Shared->Prop}(F:kr h0 s.heap e k dx (some (T,fl)))
  (fin:∀g,kr h0 g e k dx (some (T,v.elim .none λf=>rawInt f))->Nt fs (jr e (some (T,fl))) s.heap g->Q () {s with heap:=g}) :
  wpAny M A (setFlight (.ref e) v) Q E s:=by
 obtain⟨vs,⟨r,n⟩,h1,ne,nT,c,d,ts,rT,h3⟩:=F;have N1:Nt fs [T] s.heap _:=Nt.upd (f:=Obj.mapFields (·.setIfInBounds 3 (v.elim Value.none λf=>rawInt f))) (Ls.mpr rfl);simp only[setFlight];refine Ld (r.read h1 (rT.write (eV h3) (fin _ ⟨vs,⟨r.over N1 λz=>ne (Ls.mp z).symm,n⟩,h1,ne,nT,c,d,_,rT.put,by simp[eV h3]⟩ ?_)));exact N1.mono (λ_ z=>z) λb z=>by simp at z;simp[jr,z]
end
end BwX
namespace BwX
open PySem PySem.Calls PySem.W Builtin Builtin.ObjectAttr
abbrev rN:N8:=[.type "Exception",.type "BaseException",.type "object"]
def cK (o:Obj)(C N:Addr):Prop:=∃nm q bs sn sub ab col dd k0 k1 k2 k3 k5,o=excClassObj nm q C N bs rN true sn sub ab col dd k0 k1 k2 k3 k5 "Exception.__new__"
section
variable {M:Model}{h:Heap}{a C N:Addr}{oC:Obj}{d:Option Addr}{vs:Array Value}
theorem Rec.type {k:Value} (r:Rec h a k d vs):Looks M h (typeOf (.ref a)) k:=by
 obtain⟨o,e,⟨c,_⟩,_⟩:=r;exact c ▸ (Looks.ld e).andThen .now
theorem cK.data (Z:cK oC C N)(e:h.get? C=some oC):∃cd:ClassData,Looks M h (classData C) cd/\cd.mro=.ref C::rN/\cd.hasDict=true:=by
 obtain⟨nm,q,bs,sn,sub,ab,col,dd,k0,k1,k2,k3,k5,rfl⟩:=Z;exact⟨_,(Looks.ld (part:=none) e).andThen .now,rfl,rfl⟩
theorem cK.mro (Z:cK oC C N)(e:h.get? C=some oC):Looks M h (mroOf (.ref C)) (.ref C::rN):=by
 obtain⟨cd,l,m,_⟩:=Z.data (M:=M) e;exact l.andThen (m ▸ .now)
theorem cK.sub (Z:cK oC C N)(e:h.get? C=some oC){b:Value}{r:Bool}(hb:(Value.ref C::rN).contains b=r):Looks M h (isSubtype (.ref C) b) r:=by
 unfold isSubtype;refine (Z.mro e).andThen ?_;dsimp only;rw[hb];exact .now
theorem cK.meta (Z:cK oC C N)(e:h.get? C=some oC):Looks M h (typeOf (.ref C)) (.type "type"):=by
 obtain⟨nm,q,bs,sn,sub,ab,col,dd,k0,k1,k2,k3,k5,rfl⟩:=Z;exact (Looks.ld e).andThen .now
theorem Rec.Ic {k:Value}(r:Rec h a k d vs):Looks M h (isType (.ref a)) false:=by
 obtain⟨o,e,_,dt⟩:=r;refine (Looks.ld e).andThen ?_;rw[dt];exact .now
end
section
variable {M:Model}{A:Around}{E:N5}{s:Shared}{env:Env}
theorem xE {x:Sem Value} {Q:Flow->Shared->Prop} (hh:A.handled=none)
  (h:wpAny M A x (λv s1=>∃e C N oC d vs,v=.ref e/\Rec s1.heap e (.ref C) d vs/\vs[1]?=some .none/\s1.heap.get? C=some oC/\cK oC C N/\E (.ref e) s1) E s) :
  wpAny M A (raiseStmt env (some x) none) Q E s:=by
 refine Ld (Mw h (λv s1 q=>?_) λ_ _ z=>z);obtain⟨e,C,N,oC,d,vs,rfl,r,h1,eC,Z,hE⟩:=q;obtain⟨hp,g,dr,tk,os⟩:=s1;have r:Rec hp e (.ref C) d vs:=r;have eC:hp.get? C=some oC:=eC;have l0:=r.type (M:=M);have l1:=Z.sub (M:=M) eC (b:=.type "BaseException") (r:=true) (by rw[List.contains_cons];exact Bool.or_eq_true_iff.mpr (.inr (by decide)));have l2:=Z.meta (M:=M) eC;have l3:=r.Ic (M:=M);have lE:Looks M hp (isExcClass (.ref e)) false:=l3.andThen .now;have lI:Looks M hp (isInstance (.ref e) (.type "BaseException")) true:=l0.andThen l1;have l4:Looks M hp (excFromValue (.ref e) "exceptions must derive from BaseException") (.ref e):=lE.andThen (lI.andThen .now);have l5:Looks M hp (raisedInstance (.ref e)) (.ref e):=l0.andThen (l2.andThen .now);refine Ld (Lk (Ld (Nf (l4.at ?_))));refine Ld (l3.at (Ld (l5.at (Ld ?_))));refine Ld (r.read (s:=⟨hp,g,dr,tk,os⟩) h1 (Lk ?_));exact wpAny_raiseNew_none hh hE
end
theorem EY {o:Obj}{es:Array DictEntry}{ep:Nat}{f:Str}{v:Value}(d:o.data=.dict es ep)(e:nsFind es f=some v):lookIn f o=some (some v):=by
 unfold lookIn;rw[d];unfold nsFind findBy at e;rw[←Array.find?_toList] at e;dsimp only;split
 · rename_i en he;rw[he] at e;exact Ml some e
 · rename_i he;rw[he] at e;cases e
section
variable {prog:Program}{w:World}{A:Around}{E:N5}{K:Frag}{h:Heap}{g:Array GenState}{dr:Drawn}{tk:Nat}{os:OsState}{a C N dx:Addr}{oC:Obj}{vs:Array Value}{f:Str}{v:Value}{mA:N6}{b:Bool}
theorem uw {Q:N5} (X:K.In h) (eC:K.lookup C=some oC) (Z:cK oC C N) (ga:findIn K (.ref C) "__getattribute__"=some (some (.builtin "BaseException.__getattribute__"))) (gt:findIn K (.ref C) "__getattr__"=some none) (nf:findIn K (.ref C) f=some none)
  (r:Rec h a (.ref C) (some dx) vs) (n:h.Ns1 dx mA) (hv:mA f=some v) (hh:handedOut v=pure v) (q:Q v ⟨h,g,dr,tk+1,os⟩):wpAny (model prog w) A (getAttr (.ref a) f b) Q E ⟨h,g,dr,tk,os⟩:=by
 obtain⟨o,e,⟨c,d⟩,dt⟩:=id r;obtain⟨od,es,ep,e1,e2,_,_,e3⟩:=n;obtain⟨nm,q',bs,sn,sub,ab,col,dd,k0,k1,k2,k3,k5,rfl⟩:=id Z;have I:InstAt h a o C (some od):=⟨e,c,by unfold notCls;rw[dt],by rw[d];exact e1⟩;have fo:findObj K C (some od) f=some (.value v):=by
  obtain⟨cd,hc,hd⟩:∃cd,clsIn K C=some cd/\cd.hasDict=true:=⟨_,by unfold clsIn;rw[eC],rfl⟩;have ho:ownOf cd (some od) f=some (some v):=(Lg hd).trans (EY e2 ((e3 f).trans hv));unfold findObj;rw[hc,nf];show (ownOf cd (some od) f).bind _=_;rw[ho];rfl
 have FB:=F.attrBase_Exception;have l0:=I.type (M:=model prog w);have l1:=looks_findIn (M:=model prog w) X ga;have l2:=looks_findIn (M:=model prog w) X gt;have l3:=looks_find (M:=model prog w) X I fo;refine Ld (wpAny_mkText (Nf (Ld (l0.at (Ld (l1.at ?_))))));show wpAny _ _ (getAttrByItsOwn (.ref a) (.str f tk) (.ref C) (.builtin "BaseException.__getattribute__") true b) _ _ _;refine Ld (l2.at (Ld (wpAny_attempt (Nf ?_))));have hcall:callGetattribute (.ref a) (.str f tk) (.builtin "BaseException.__getattribute__") b=call (.builtin "BaseException.__getattribute__") [.ref a,.str f tk]:=by
  have hb:callGetattribute (.ref a) (.str f tk) (.builtin "BaseException.__getattribute__") b=boundAndCalled (.builtin "BaseException.__getattribute__") (.ref a) (.str f tk):=by cases b <;> rfl
  rw[hb];unfold boundAndCalled;rw[FB.ga.bind];rfl
 rw[hcall];refine wpAny_call (codeAny_call_builtin FB.ga.plain F.entry_bexc_ga (wpAny_check_ga_own FB (X _ _ eC) .base e c ?_));refine Ld (Lk (Ld (Lk (Ld (l0.at (Ld (l3.at (Lk ?_))))))));show wpAny _ _ (handedOut v) _ _ _;rw[hh];exact Lk q
theorem uL {sl:Array (Option Value)}{Q:Unit->Shared->Prop}(X:K.In h)(eC:K.lookup C=some oC)(Z:cK oC C N)(sa:findIn K (.ref C) "__setattr__"=some (some (.builtin "object.__setattr__")))(nf:findIn K (.ref C) f=some none)
  (e:h.get? a=some ⟨.ref C,none,.fields vs,sl⟩)
  (fin:∀g' tk',g'.get? a=some ⟨.ref C,some h.objs.size,.fields vs,sl⟩->g'.Ns1 h.objs.size (λy=>if y=f then some v else none)->(∀b o,b≠a->h.get? b=some o->g'.get? b=some o)->Q () ⟨g',g,dr,tk',os⟩) :
  wpAny (model prog w) A (setAttr (.ref a) f v) Q E ⟨h,g,dr,tk,os⟩:=by
 have SF:=F.store_Exception;have r:Rec h a (.ref C) none vs:=⟨_,e,⟨rfl,rfl⟩,rfl⟩;have eC':=X _ _ eC;have l0:=r.type (M:=model prog w);have l1:=looks_findIn (M:=model prog w) X sa;have l2:=looks_findIn (M:=model prog w) X nf;have l3:=Z.mro (M:=model prog w) eC';obtain⟨cd,l4,_,hd⟩:=Z.data (M:=model prog w) eC';have ne:a≠h.objs.size:=LP (Lq e);obtain⟨nm,q',bs,sn,sub,ab,col,dd,k0,k1,k2,k3,k5,rfl⟩:=id Z;refine Ld (wpAny_mkText (Ld (Ld (Ld (l0.at (l1.at ?_))))));refine Nf (Ld ?_);rw[SF.slot.bind];refine Lk (Ld (wpAny_call ?_));refine codeAny_call_builtin SF.slot.plain SF.entry ?_;show wpAny _ _ (checkBuiltinCall "object.__setattr__" ⟨[.ref a,.str f tk,v],[]⟩) _ _ _;refine PySem.wpAny_check_sa (sa:="object.__setattr__") (owner:="object") (B:="Exception") (bm:=rN) SF (x:=a) (C:=C) eC' e rfl ?_;show wpAny _ _ (Builtin.«object.__setattr__» ⟨[.ref a,.str f tk,v],[]⟩) _ _ _;rw[osa_eq,refuse_eq];refine Ld (Ld (l0.at (Ld (l3.at ?_))));rw[refuseLoop_ref,SF.passes];refine Lk (Ld (l0.at (Ld (l2.at (Ld (Lk ?_))))));show wpAny _ _ (storeInOwnDict (.ref a) (.ref C) (.str f tk) f v false) _ _ _;have dic:∀(A':Around) (E':N5) (Q':Option Addr->Shared->Prop) (tk':Nat),Q' (some h.objs.size) ⟨(h.push {cls:=.type "dict",data:=.dict #[]}).update a λo=>{o with dict:=some h.objs.size},g,dr,tk',os⟩ ->
   wpAny (model prog w) A' (ownDictForStores (.ref a)) Q' E' ⟨h,g,dr,tk',os⟩:=λA' E' Q' tk' z=>by
  refine Ld (wpAny_loadPart e (Ld (l4.at ?_)));rw[hd];exact Ld (wpAny_alloc (Ld (wpAny_update (Lh _ e) (Lk z))))
 refine Ld (Lk (Ld (dic _ _ _ _ ?_)));have atA:((h.push {cls:=.type "dict",data:=.dict #[]}).update a λo=>{o with dict:=some h.objs.size}).get? a=some ⟨.ref C,some h.objs.size,.fields vs,sl⟩:=Md _ (Lh _ e) rfl;have atD:((h.push {cls:=.type "dict",data:=.dict #[]}).update a λo=>{o with dict:=some h.objs.size}).get? h.objs.size=some {cls:=.type "dict",data:=.dict #[]}:=(Na _ _ ne).trans (Lu h rfl);have old:∀b o,b≠a->h.get? b=some o->((h.push {cls:=.type "dict",data:=.dict #[]}).update a λo=>{o with dict:=some h.objs.size}).get? b=some o:=λb o n eb=>(Na _ _ (NU n)).trans (Lh _ eb);generalize ((h.push {cls:=.type "dict",data:=.dict #[]}).update a λo=>{o with dict:=some h.objs.size})=h1 at atA atD old;have n1:h1.Ns1 h.objs.size (λ_=>none):=⟨_,#[],_,atD,rfl,λy hy=>by simp at hy,by unfold UniqKeys;simp,λ_=>rfl⟩;show wpAny _ _ (storeInDict h.objs.size (.str f tk) f v) _ _ _;refine Ld (Lk (Ld (wpAny_nsSet1 n1 λh2 n2 same=>?_)));obtain⟨oD,esD,epD,hoD,hdD,vR⟩:=n2.count (Within.cons f v Within.nil);refine Ld (wpAny_lookBehind hoD (by rw[hdD];exact pastItsLine_dict (L1 vR (by show 1<=sizeLine+1;decide))) (Lk ?_));refine Lk (Lk (fin h2 _ ((same.2 a ne).trans atA) n2 λb o n eb=>(same.2 b (LP (Lq eb))).trans (old b o n eb)))
end
end BwX
namespace L2
open PySem PySem.Spec PyProof.Rows BwX
def ff (k p:Int):List (Str×V):=[("kind",.int k),("place",.int p)]
def rq (dx:Addr)(fs:List (Str×V)):HO:=.ext λh=>∃mA,h.Ns1 dx mA/\∀f,i7 (fs.lookup f) (mA f)
def Rz (C:Addr)(E:XK)(k p:Int):Prop:=∀(H:Hp) (dx:Addr),H dx=some (rq dx (ff k p))->E (.ref C) (some dx) H
def fh (P:Program)(w:World)(C:Addr):lR:=λouter H s E e s' =>
 ∃(a dx T:Addr) (H':Hp) (k p:Int),(e=.ref a/\s'.os=s.os/\AllBare s'.gens/\Un (vO outer) [] H H' s.heap s'.heap/\iC P w H' s'.heap) /\
  kr s.heap s'.heap a (.ref C) dx (some (T,.none))/\(∀b∈jr a (some (T,Value.none)),H' b=none)/\H' dx=some (rq dx (ff k p))/\Rz C E k p
def XF (X:Cx)(C:Addr)(E:XK):Value->Shared->Prop:=λe s' =>
 ∃(σ:St) (H:Hp) (a dx:Addr) (t:Option (Addr×Value)) (k p:Int),(e=.ref a/\Inv X [] σ H s')/\kr X.ku.heap s'.heap a (.ref C) dx t/\(∀b∈jr a t,H b=none) /\
  (∀T fl,t=some (T,fl)->fl=.none∨fl=rawInt X.env.locals)/\H dx=some (rq dx (ff k p))/\Rz C E k p
structure lK (X:Cx):Prop where
 Fp:X.stack=X.env::X.outer
 frame:X.env.frame=some X.env.locals
 pn:X.pn=[]
 ex:X.ex=[]
section
variable {X:Cx}{pins:N7}{σ:List (Option V)}{H H':Hp}{s:Shared}{h':Heap}
theorem Inv.gone (I:Inv X pins σ H s) (O:lK X):∀b,s.heap.get? b=none->X.ku.heap.get? b=none:=λb e=>by
 cases q:X.ku.heap.get? b with
 |none=>rfl
 |some o =>
  obtain⟨o',z⟩:=I.base.there b o q (by rw[O.ex];simp);rw[e] at z;cases z
end
section
variable {X:Cx}{σ:St}{H:Hp}{s:Shared}{C a dx:Addr}{E:XK}{M:Model}
theorem Inv.Fw {g:Heap} {ch:List Addr} (I:Inv X [] σ H s) (O:lK X) (nt:Nt (vO X.stack) ch s.heap g) (hch:∀b∈ch,X.ku.heap.get? b=none/\∃c d vs,Rec s.heap b c d vs) (hH:∀b∈ch,H b=none):Inv X [] σ H {s with heap:=g}:=by
 refine I.Fb (s':={s with heap:=g}) (ch:=ch) rfl ⟨λb o e _ hb hc=>nt.keep b o e hb hc,λb o e _ _ hc=>nt.slot b o e hc,λ_ _ _ n _=>n,λb o e hc=>(let ⟨_,z⟩:=nt.slot b o e hc;⟨_,z⟩),λ_ _ e=>e,λ_ _ _ e=>e,λb ps e=>⟨#[],by rw[e];simp⟩⟩ (λb u e=>?_) I.bare (λb hb=>?_)
 · refine (I.bw b u e).kH (λc v hc q=>?_) (λ_ q=>q) λ_ _ q=>q;have tr:H c≠none:=by
    rcases hc with rfl|hc
    · rw[e];simp
    · rw[hc];simp
   exact nt.keep c v q (λz=>tr (I.s_ c z)) λz=>tr (hH c z)
 · obtain⟨h1,c,d,vs,o,ho,_,hd⟩:=hch b hb;refine⟨.inr h1,?_,?_,?_⟩
   · rintro rfl;obtain⟨m,⟨o',es,ep,ho',hd',_⟩,_⟩:=I.loc;rw[ho'] at ho;cases ho;rw[hd'] at hd;cases hd
   · rintro x c e rfl;obtain⟨v,o',ho',hd'⟩:=I.cell x c e;rw[ho'] at ho;cases ho;rw[hd'] at hd;cases hd
   · intro p hp;rw[O.pn] at hp;simp at hp
theorem xB {t:Option (Addr×Value)}{k:Value}{E':N5}{Q:Unit->Shared->Prop}(O:lK X)(I:Inv X [] σ H s)(F:kr X.ku.heap s.heap a k dx t)(hH:∀b∈jr a t,H b=none)
  (hfl:∀T fl,t=some (T,fl)->fl=.none∨fl=rawInt X.env.locals)
  (fin:∀g T,Inv X [] σ H {s with heap:=g}->kr X.ku.heap g a k dx (some (T,rawInt X.env.locals))->(∀b∈jr a (some (T,rawInt X.env.locals)),H b=none)->Q () {s with heap:=g}) :
  wpAny M X.A (noteFrame (.ref a) X.env) Q E' s:=by
 have fr:=I.ok.frames;have ff:=I.stack;rw[O.Fp] at fr ff;refine xS (base:=X.base) fr ff O.frame F (I.gone O) hfl λg T F' hT N=>fin g T (I.Fw O (by rw[O.Fp];exact N) F.x_ hH) F' λb hb=>?_;rcases Li.mp hb with rfl|hb
 · exact hH _ (L0 ..)
 · have:b=T:=by simpa using hb
   subst this;rcases hT with hT|hT
   · exact hH _ hT
   · exact I.bw.fresh hT
theorem mq {T:Addr}{fl k:Value}{v:Option Addr}{E':N5}{Q:Unit->Shared->Prop}{A:Around}(O:lK X)(I:Inv X [] σ H s)(F:kr X.ku.heap s.heap a k dx (some (T,fl)))(hH:∀b∈jr a (some (T,fl)),H b=none)
  (fin:∀g,Inv X [] σ H {s with heap:=g}->kr X.ku.heap g a k dx (some (T,v.elim .none λf=>rawInt f))->Q () {s with heap:=g}) :
  wpAny M A (setFlight (.ref a) v) Q E' s :=
 xr (fs:=vO X.stack) F λg F' N=>fin g (I.Fw O N F.x_ hH) F'
theorem Dv {P:Program}{w:World}{e:Value}{Q:Unit->Shared->Prop}{E':N5}(O:lK X)(hP:X.prog=P)(hw:X.w=w)(h:XF X C E e s)(fin:∀s',fh P w C X.outer X.HM X.ku E e s'->Q () s'):wpAny M X.A (leaving X.env e) Q E' s:=by
 obtain⟨σ,H,a,dx,t,k,p,⟨rfl,I⟩,F,hH,hfl,hx,hz⟩:=h;unfold leaving;refine Ld (xB O I F hH hfl λg T I1 F1 H1=>mq O I1 F1 H1 λg2 I2 F2=>fin _ ?_);have b:=I2.base;rw[O.ex] at b;exact⟨a,dx,T,H,k,p,⟨rfl,I2.os,I2.bare,b,hP ▸ hw ▸ I2.bw⟩,F2,H1,hx,hz⟩
theorem yB (O:lK X):PassesOwn M X.A X.env (XF X C E):=by
 rintro e s' ⟨σ,H,a,dx,t,k,p,⟨rfl,I⟩,F,hH,hfl,hx,hz⟩;refine xB O I F hH hfl λg T I1 F1 H1=>?_;unfold cameBackBy;obtain⟨vs,⟨r,_⟩,h1,_⟩:=id F1;refine Ld (Rec.read (s:={s' with heap:=g}) r h1 ?_);rw[Lf (by simp)];refine mq O I1 F1 H1 λg2 I2 F2=>?_;refine⟨σ,H,a,dx,_,k,p,⟨rfl,I2⟩,F2,H1,λT' fl' q=>?_,hx,hz⟩;rw[O.frame] at q;injection q with q;injection q with _ q;exact .inr q.symm
theorem bR {P:Program}{w:World}(O:lK X)(hP:X.prog=P)(hw:X.w=w):Passes (fh P w C) (X.iw (XF X C E)) E:=by
 rintro pins σ H s e s' I ⟨a,dx,T,H',k,p,⟨rfl,os,bare,un,bw⟩,F,hH,hx,hz⟩;subst hP hw;have I1:Inv X pins σ H s:=I.dq;have I2:Inv X pins σ H' s':=I1.Ft (ch:=[]) os un bw bare (λb z=>absurd z (by simp));refine⟨σ,H',a,dx,_,k,p,⟨rfl,I2.md (pins':=[]) (λp hp=>absurd hp (by simp))⟩,F.low (I1.gone O),hH,λT' fl' q=>?_,hx,hz⟩;injection q with q;injection q with _ q;exact .inl q.symm
end
section
variable {P:Program}{w:World}{K:N4}{mg:N6}{base:Heap}
theorem aJ {CX:lR} {N:List Str} {qual:Str} {scope:Scope} {f:Addr} {cd:Value} {A:Around} {outer:List Env} {s:Shared} {H:Hp} {E:XK}:lK (n8 CX P w K mg base N qual scope f cd A outer s H E):=⟨rfl,rfl,rfl,rfl⟩
abbrev KW (C:Addr)(P:Program)(w:World)(K:N4)(mg:N6)(base:Heap)(N:List Str)(qual:Str)(scope:Scope)(f:Addr)(cd:Value)(A:Around)(outer:List Env)(s:Shared)(H:Hp)(E:XK):Cx :=
 (n8 (fh P w C) P w K mg base N qual scope f cd A outer s H E).iw (XF (n8 (fh P w C) P w K mg base N qual scope f cd A outer s H E) C E)
theorem dG.xU {x qual:Str}{st:Stmt}{f C:Addr}{fd:FuncData}{N ps:List Str}{k:Nat}{sp:Sp}(F:dG K x qual st f fd)(S:aI N ps (ax st))(len:∀vs H Q E,sp vs H Q E->vs.length=ps.length)
  (hbody:∀(cdv:Value) (A:Around) (outer:List Env) (s:Shared) (H:Hp) (vs:List V) (Q:VK) (E:XK),cX k (A.deeper (envOfC qual (ax st) s.heap.objs.size f cdv))->sp vs H Q E ->
   ∃t,uh (KW C P w K mg base N qual (ax st) f cdv A outer s H E) (cx st) t/\t {nx:=λ_ H'=>Q .cj H',rt:=Q} (start N vs) H):bc P w K mg base (fh P w C) (k+1) f fd ps sp:=by
 obtain⟨oc,od,kV,doc,pm,an,cdv,ct,osl,rfl,lk,hcd⟩:=F.ex;refine Fs lk hcd S len λA outer s H vs Q E hr hsp=>?_;obtain⟨t,h,q⟩:=hbody cdv A outer s H vs Q E hr hsp;refine⟨t,λpins s1 σ H1 D I hw=>?_,q⟩;refine Mw (h pins s1 σ H1 D (I.iw _) hw) (λ_ _ q=>q.dq) λe s' z=>?_;exact Dv aJ rfl rfl z λs'' z=>z
end
def iF (K:N4)(N:Addr):Bool:=match K.lookup N with
 |some ⟨_,_,.dict es _,_⟩=>es.toList.all λe=>match e.key with
  |.str _ _=>true
  |_=>false
 |_=>false
def CQ (K:N4)(N:Addr)(x:Str):Option Value:=match K.lookup N with
 |some ⟨_,_,.dict es _,_⟩=>nsFind es x
 |_=>none
theorem AY {K:N4}{N:Addr}{h:Heap}(X:K.In h)(e:iF K N=true):h.Ns N (CQ K N):=by
 unfold iF at e;split at e
 · rename_i c d es n sl q;refine⟨_,es,n,X _ _ q,rfl,λy hy=>?_,λname=>?_⟩
   · have z:=LI.mp e y (Array.mem_toList_iff.mpr hy);split at z
     · rename_i a b w;exact⟨a,b,w⟩
     · cases z
   · unfold CQ;rw[q]
 · cases e
theorem sX {K:N4}{N:Addr}{x:Str}{r:Option Value}(e:PySem.W.nsIn K N x=some r):CQ K N x=r:=by
 unfold PySem.W.nsIn at e;unfold CQ;split at e
 · rename_i c d es n sl q;rw[q];show nsFind es x=r;unfold nsFind findBy;rw[←Array.find?_toList];split at e
   · rename_i y w;rw[w];exact LQ e
   · rename_i w;rw[w];split at e
     · cases e
     · exact LQ e
 · cases e
structure qm (K:N4)(C N fI:Addr):Prop where
 cls:∃oC,K.lookup C=some oC/\cK oC C N
 keys:iF K N=true
 init:PySem.W.nsIn K N "__init__"=some (some (.ref fI))
 fn:PySem.W.isFn K (.ref fI)=true
 kp:PySem.W.keepIn K (.ref C)=true
 AF:PySem.W.nsIn K N "__setattr__"=some none
 J4:PySem.W.nsIn K N "kind"=some none
 J7:PySem.W.nsIn K N "place"=some none
 sa:PySem.W.findIn K (.ref C) "__setattr__"=some (some (.builtin "object.__setattr__"))
 ga:PySem.W.findIn K (.ref C) "__getattribute__"=some (some (.builtin "BaseException.__getattribute__"))
 gt:PySem.W.findIn K (.ref C) "__getattr__"=some none
 fK:PySem.W.findIn K (.ref C) "kind"=some none
 fP:PySem.W.findIn K (.ref C) "place"=some none
theorem K4:typeLookup (.type "Exception") "kind"=pure none:=by rw[typeLookup_type,builtinLookup_eq_fast];kernel_rfl
theorem K_:typeLookup (.type "Exception") "place"=pure none:=by rw[typeLookup_type,builtinLookup_eq_fast];kernel_rfl
def tI (a C t:Addr)(od:Option Addr):HO:=.ext λh=>h.get? a=some {cls:=.ref C,dict:=od,data:=.fields #[.ref t,.none,.none,.none,.bool false,.none]}
theorem bL.there {P:Program}{w:World}{H:Hp}{h:Heap}{a:Addr}{o:HO}(x:bL P w H h a o):∃u,h.get? a=some u:=by
 cases o with
 |lst xs=>obtain⟨_,_,_,_,e⟩:=x;exact⟨_,e⟩
 |tup xs=>obtain⟨_,_,_,o,e,_⟩:=x;exact⟨_,e⟩
 |dK kvs=>obtain⟨_,_,_,_,o,_,_,e,_⟩:=x;exact⟨_,e⟩
 |dT kvs=>obtain⟨_,_,_,_,o,_,_,e,_⟩:=x;exact⟨_,e⟩
 |set S n=>obtain⟨o,_,_,_,e,_⟩:=x;exact⟨_,e⟩
 |ins C dx fs=>obtain⟨_,_,_,e,_⟩:=x;exact⟨_,e⟩
 |own y=>exact x
 |xd fs=>obtain⟨_,⟨_,_,_,e,_⟩,_⟩:=x;exact⟨_,e⟩
 |rng lo hi=>obtain⟨_,_,_,e⟩:=x;exact⟨_,e⟩
 |frz ob u=>obtain⟨e,_⟩:=x;exact⟨_,e⟩
 |tbl ps=>exact⟨_,show h.get? a=some _ from x⟩
 |met f y=>exact⟨_,show h.get? a=some _ from x⟩
 |ext φ=>obtain⟨_,e,_⟩:=x;exact e
theorem iC.gone {P:Program}{w:World}{H:Hp}{h:Heap}{a:Addr}(x:iC P w H h)(e:h.get? a=none):H a=none:=by
 cases q:H a with
 |none=>rfl
 |some o =>
  obtain⟨u,z⟩:=(x a o q).there;rw[e] at z;cases z
theorem Cg {P:Program}{w:World}{H:Hp}{h:Heap}{dx:Addr}{fs:List (Str×V)}{mA:N6}(n:h.Ns1 dx mA)(r:∀f,i7 (fs.lookup f) (mA f)):bL P w H h dx (rq dx fs):=by
 obtain⟨o,es,ep,e,c⟩:=id n;refine⟨⟨mA,n,r⟩,⟨o,e⟩,?_⟩;rintro h1 h2 ⟨m,⟨o,es,ep,e,c⟩,r⟩ k;exact⟨m,⟨o,es,ep,k _ e,c⟩,r⟩
theorem AV {P:Program}{w:World}{H:Hp}{h:Heap}{a C t:Addr}{od:Option Addr}(e:h.get? a=some {cls:=.ref C,dict:=od,data:=.fields #[.ref t,.none,.none,.none,.bool false,.none]}):bL P w H h a (tI a C t od) :=
 ⟨e,⟨_,e⟩,λ_ _ e k=>k _ e⟩
section
variable {X:Cx}{pins:N7}{σ:St}{H:Hp}{s:Shared}{a C N fI t dx:Addr}{fs:List (Str×V)}{f:Str}{v:V}{u:Value}{A:Around}{E':N5}{Q:Unit->Shared->Prop}
theorem Ju (I:Inv X pins σ H s) (Z:qm X.K C N fI) (nf:PySem.W.findIn X.K (.ref C) f=some none) (ea:H a=some (tI a C t none)) (r:RelV v u)
  (h:∀s' dx,H dx=none->dx≠a->Inv X pins σ (upd (upd H dx (rq dx [(f,v)])) a (tI a C t (some dx))) s'->Q () s'):wpAny (model X.prog X.w) A (setAttr (.ref a) f u) Q E' s:=by
 obtain⟨oC,hC,hF⟩:=Z.cls;obtain⟨φ,_,_⟩:=I.bw a _ ea;have hK:=I.mP;obtain⟨hp,ga,d,tk,os⟩:=s;refine uL hK hC hF Z.sa nf φ λg tk' h1 h2 h3=>?_;have fr:H hp.objs.size=none:=I.bw.fresh (Ln _);have ne:hp.objs.size≠a:=λz=>by rw[z,ea] at fr;cases fr
 refine h ⟨g,ga,d,tk',os⟩ hp.objs.size fr ne ?_;have at_:∀b o,H b=some o->b≠a->(upd (upd H hp.objs.size (rq hp.objs.size [(f,v)])) a (tI a C t (some hp.objs.size))) b=some o:=λb o e n=>by
  rw[aq n,aq (λz=>by rw[z,fr] at e;cases e)];exact e
 have no:∀b o,H b=some o->(∀φ,o≠.ext φ)->b≠a:=λb o e n z=>by
  rw[z,ea] at e;exact n _ (LQ e).symm
 refine I.un (h':=g) (t':=tk') ⟨λb o e n _ _=>?_,λb o e n _ _=>?_,λb o e n _=>?_,λb o e _=>?_,λb xs e=>at_ b _ e (no b _ e λ_ z=>by cases z),λb o u e=>at_ b _ e (no b _ e λ_ z=>by cases z),λb ps e=>⟨#[],by rw[at_ b _ e (no b _ e λ_ z=>by cases z)];simp⟩⟩ (λb u e=>?_)
 · exact h3 b o (λz=>by rw[z,ea] at n;cases n) e
 · exact⟨o.slots,h3 b o (λz=>by rw[z,ea] at n;cases n) e⟩
 · rw[aq (λz=>by rw[z,ea] at n;cases n),aq (LP (Lq e))];exact n
 · by_cases z:b=a
   · exact⟨_,z ▸ h1⟩
   · exact⟨o,h3 b o z e⟩
 · by_cases z:b=a
   · subst z;rw[ae] at e;cases e;exact AV h1
   · rw[aq z] at e;by_cases z2:b=hp.objs.size
     · subst z2;rw[ae] at e;cases e;refine Cg h2 λy=>?_;by_cases hy:y=f
       · subst hy;simp only[List.lookup,beq_self_eq_true,MX];exact r
       · have hb:(y==f)=false:=LK.mpr hy;simp only[List.lookup,hb,Lf hy]
         trivial
     · rw[aq z2] at e;refine (I.bw b u e).kH (λc w' hc q=>h3 c w' ?_ q) (λc q=>at_ c _ q (no c _ q λ_ z=>by cases z)) λc xs q=>at_ c _ q (no c _ q λ_ z=>by cases z);rcases hc with rfl|hc
       · exact z
       · exact no c _ hc λ_ z=>by cases z
theorem Jh (I:Inv X pins σ H s)(Z:qm X.K C N fI)(hn:PySem.W.nsIn X.K N f=some none)(hB:typeLookup (.type "Exception") f=pure none)(ea:H a=some (tI a C t (some dx)))(ed:H dx=some (rq dx fs))(ne:dx≠a)(hl:fs.length < 1000)(r:RelV v u)
  (h:∀s',Inv X pins σ (upd H dx (rq dx (d_ f v fs))) s'->Q () s'):wpAny (model X.prog X.w) A (setAttr (.ref a) f u) Q E' s:=by
 obtain⟨_,hC,nm,q,bs,sn,sub,ab,col,dd,k0,k1,k2,k3,k5,rfl⟩:=Z.cls;have hC':=I.mP _ _ hC;have hN:=AY I.mP Z.keys;have nC:a≠C:=λz=>by
  have:=(I.bs C _ (I.ok.mod.Fq _ _ hC)).2;rw[←z,ea] at this;cases this
 obtain⟨φ,_,_⟩:=I.bw a _ ea;obtain⟨⟨mA,n1,rl⟩,_,_⟩:=I.bw dx _ ed;obtain⟨hp,ga,d,tk,os⟩:=s;have wi:Within mA (fs.map (·.1)):=λy hy=>by
  have q:=rl y;cases e:fs.lookup y with
  |none =>
   rw[e] at q;cases e2:mA y with
   |none=>exact absurd e2 hy
   |some w'=>rw[e2] at q;exact q.elim
  |some w'=>exact LM.mpr ⟨(y,w'),PySem.mem_of_lookup e,rfl⟩
 refine store_attr F.store_Exception hC' hN (sX Z.AF) (sX hn) hB nC ⟨_,φ,rfl,(λc q=>by cases q),Or.inr ⟨dx,rfl,ne,n1⟩⟩ (λh' tk' J keep same=>?_) wi (by rw[Le,LG];omega);obtain⟨o1,e1,c1,d1,s1,x1⟩:=same _ φ;have x1:o1.dict=some dx:=x1 dx rfl;obtain⟨o2,e2,_,_,r2⟩:=J;rw[e1] at e2;cases e2;have n2:h'.Ns1 dx (λy=>if y=f then some u else mA y):=by
  rcases r2 with ⟨z,_⟩|⟨d',z,_,w'⟩
  · rw[x1] at z;cases z
  · rw[x1] at z;cases z;exact w'
 refine h ⟨h',ga,d,tk',os⟩ (I.write (h':=h') (t':=tk') (x:=dx) (e:=dx) (by rw[ed];trivial) (.inl rfl) (λb o hb e=>?_) ?_ (Cg n2 λy=>?_))
 · by_cases z:b=a
   · subst z;rw[φ] at e;cases e;rw[e1];obtain⟨p1,p2,p3,p4⟩:=o1;simp only at c1 d1 s1 x1;rw[c1,d1,s1,x1]
   · exact keep b o z (λo₀ dx' w0 w1=>by
      rw[φ] at w0;cases w0;cases w1;exact hb) e
 · obtain⟨o,_,_,e,_⟩:=n2;exact⟨o,e⟩
 · rw[jq];by_cases hy:y=f
   · simp only[Lg hy];exact r
   · simp only[Lf hy];exact rl y
end
def HV (C:Addr)(ta tv:TE)(f:Str):TS:=λD σ H=>tv σ H λy H1=>ta σ H1 λx H2=>∃a t,x=.ref a /\
 ((H2 a=some (tI a C t none)/\∀dx,H2 dx=none->dx≠a->D.nx σ (upd (upd H2 dx (rq dx [(f,y)])) a (tI a C t (some dx)))) ∨
  ∃dx fs,H2 a=some (tI a C t (some dx))/\H2 dx=some (rq dx fs)/\dx≠a/\fs.length < 1000/\D.nx σ (upd H2 dx (rq dx (d_ f y fs))))
theorem yP {X:Cx}{C N fI:Addr}{o value:Expr}{f:Str}{pos pos':Pos}{ta tv:TE}(Z:qm X.K C N fI)(nf:PySem.W.findIn X.K (.ref C) f=some none)(hn:PySem.W.nsIn X.K N f=some none)(hB:typeLookup (.type "Exception") f=pure none)(ha:PE X o ta)(hv:PE X value tv)
  (hs:swapsWith value (some (.Attribute o f pos')) pos.line X.env=pure false):PS X (.Assign [.Attribute o f pos'] value pos) (HV C ta tv f):=by
 intro pins s σ H D I h;refine plainObj_wpAny_Assign_Attribute (bB (hv pins s σ H _ I h) λu s1 ⟨y,H1,I1,ry,q⟩=>bB (ha pins s1 σ H1 _ I1 q) λov s2 ⟨x,H2,I2,rx,a,t,ex,q2⟩=>?_) hs;subst ex;obtain rfl:ov=Value.ref a:=rx;rcases q2 with ⟨ea,q2⟩|⟨dx,fs,ea,ed,ne,hl,q2⟩
 · exact Ju I2 Z nf ea ry λs3 dx fr ne I3=>⟨σ,_,I3,q2 dx fr ne⟩
 · exact Jh I2 Z hn hB ea ed ne hl ry λs3 I3=>⟨σ,_,I3,q2⟩
def HA (C:Addr):Sp:=λvs H Q _=>∃(a t:Addr) (k p:Int),vs=[.ref a,.int k,.int p]/\H a=some (tI a C t none) /\
 ∀(dx:Addr),H dx=none->dx≠a->Q .cj (upd (upd H dx (rq dx (ff k p))) a (tI a C t (some dx)))
section
variable {X:Cx}{pins:N7}{σ:St}{H:Hp}{s:Shared}
theorem Inv.grown {a:Addr} {o:HO} {h':Heap} {t':Nat} (I:Inv X pins σ H s) (k:∀b u,s.heap.get? b=some u->h'.get? b=some u) (hp:s.heap.get? a=none) (new:bL X.prog X.w (upd H a o) h' a o):Inv X pins σ (upd H a o) {s with heap:=h',toks:=t'}:=by
 have fr:H a=none:=I.bw.gone hp;have at_:∀b u,H b=some u->(upd H a o) b=some u:=λb u e=>by rw[aq (ao e fr)];exact e
 refine I.un (h':=h') (t':=t') ⟨λb u e n _ _=>k b u e,λb u e n _ _=>⟨u.slots,k b u e⟩,λb u e n _=>?_,λb u e _=>⟨u,k b u e⟩,λb xs e=>at_ b _ e,λb u v e=>at_ b _ e,λb ps e=>⟨#[],by rw[at_ b _ e];simp⟩⟩ λb u e=>?_
 · rw[aq (λz=>by rw[z,hp] at e;cases e)];exact n
 · by_cases z:b=a
   · subst z;rw[ae] at e;cases e;exact new
   · rw[aq z] at e;exact (I.bw b u e).kH (λc v _ q=>k c v q) (λc q=>at_ c _ q) λc xs q=>at_ c _ q
def JF (H:Hp)(a:Addr):Hp:=λb=>if b=a then none else H b
theorem pU {a:Addr}:JF H a a=none:=Lg rfl
theorem tf {a b:Addr}(h:b≠a):JF H a b=H b:=Lf h
theorem Inv.dropped {a:Addr}{φ:Heap->Prop}(I:Inv X pins σ H s)(e:H a=some (.ext φ)):Inv X pins σ (JF H a) s:=by
 have at_:∀b u,H b=some u->(∀ψ,u≠.ext ψ)->JF H a b=some u:=λb u q n=>by
  rw[tf (λz=>by rw[z,e] at q;exact n _ (LQ q).symm)];exact q
 refine I.un (h':=s.heap) (t':=s.toks) ⟨λb u q n _ _=>q,λb u q n _ _=>⟨u.slots,q⟩,λb u q n _=>?_,λb u q _=>⟨u,q⟩,λb xs q=>at_ b _ q (λ_ z=>by cases z),λb u v q=>at_ b _ q (λ_ z=>by cases z),λb ps q=>⟨#[],by rw[at_ b _ q (λ_ z=>by cases z)];simp⟩⟩ λb u q=>?_
 · by_cases z:b=a
   · rw[z];exact pU
   · rw[tf z];exact n
 · by_cases z:b=a
   · rw[z,pU] at q;cases q
   · rw[tf z] at q;exact (I.bw b u q).kH (λc v _ w=>w) (λc w=>at_ c _ w λ_ z=>by cases z) λc xs w=>at_ c _ w λ_ z=>by cases z
theorem Inv.seen {a:Addr}{φ:Heap->Prop}(I:Inv X pins σ H s)(O:lK X)(h0:X.ku.heap.get? a=none)(fr:H a=none)(nL:a≠X.env.locals)(nC:∀x c,X.env.cells.lookup x=some c->c≠a)(npn:pins=[])(nf:a∉X.fs)(new:bL X.prog X.w (upd H a (.ext φ)) s.heap a (.ext φ)) :
  Inv X pins σ (upd H a (.ext φ)) s:=by
 have at_:∀b u,H b=some u->(upd H a (.ext φ)) b=some u:=λb u q=>by rw[aq (ao q fr)];exact q
 refine⟨I.ok,I.os,I.bare,⟨I.base.keep,I.base.slot,λb o q n hx=>?_,I.base.there,λb xs q=>at_ b _ (I.base.nU b xs q),λb u v q=>at_ b _ (I.base.mI b u v q),λb ps q=>?_⟩,I.loc,I.cell,?_,λx c q=>?_,λp hp=>?_,λb u q=>?_,I.len⟩
 · rw[aq (λz=>by rw[z,h0] at q;cases q)];exact I.base.free b o q n hx
 · obtain⟨m,w⟩:=I.base.nW b ps q;exact⟨m,at_ b _ w⟩
 · rw[aq nL.symm];exact I.free
 · rw[aq (nC x c q)];exact I.gq x c q
 · rw[O.pn,npn] at hp;simp at hp
 · by_cases z:b=a
   · subst z;rw[ae] at q;cases q;exact new
   · rw[aq z] at q;exact (I.bw b u q).kH (λc v _ w=>w) (λc w=>at_ c _ w) λc xs w=>at_ c _ w
end
def JY (C:Addr)(E:XK)(t:TA):TS:=λ_ σ H=>t σ H λvs _=>∃k p,vs=[.int k,.int p]/\Rz C E k p
theorem AU {X:Cx}{C N fI:Addr}{E:XK}{x:Str}{np cpos pos:Pos}{e:Expr}{es:List Expr}{t:TA}{j:Nat}{fdI:FuncData}(O:lK X)(Z:qm X.K C N fI)(FI:bc X.prog X.w X.K X.mg X.base bG j fI fdI ["self","kind","place"] (HA C))(hr:cX (j+1) X.A)
  (bI:Binds X.K fdI ["self","kind","place"] [])(hg:Gl X x)(hm:X.mg x=some (.ref C))(ha:PA (X.iw (XF X C E)) (e::es) t)(hdb:(x==("__debug__":Str))=false:=by decide)
  (he:starEach (e::es) X.env=(false,eval e X.env)::starEach es X.env:=by rfl)(hpl:(backTo cpos (starEach es X.env)).any (·.1)=false:=by rfl) :
  PS (X.iw (XF X C E)) (.Raise (some (.Call (.Name x np) (e::es) [] cpos)) none pos) (JY C E t):=by
 intro pins s σ H D I h;obtain⟨oC,hC,hF⟩:=Z.cls;rw[arm_exec_Raise];refine Ld (wpAny_standAt (xE hr.hd (Ld (Mw ?_ (λv s1 q=>Ld (wpAny_standAt (Lk q))) λ_ _ z=>z))));refine Nu (lL (X:=X) I.dq hg hm ?_ hdb);refine PySem.W.callWith_K (h₀:=X.base) I.ok.mod.Fq Z.kp (bB (ha cpos pins s σ H _ I h) λus s2 ⟨vs,H1,I1,r,k,p,ev,hz⟩=>⟨I1.mP,?_⟩) he hpl;subst ev;have I1:Inv X pins σ H1 s2:=I1.dq;obtain⟨u1,u2,rfl,r1,r2⟩:=vals2 r;obtain⟨oI,hfo,hfc⟩:∃oI,s2.heap.get? fI=some oI/\oI.cls=.type "function":=by
  have z:=L5.mp Z.fn;unfold PySem.W.typeIn at z;cases q:X.K.lookup fI with
  |none=>simp[q] at z
  |some o =>
   simp[q] at z;exact⟨o,I1.mP _ _ q,z⟩
 obtain⟨nm,q,bs,sn,sub,ab,col,dd,k0,k1,k2,k3,k5,hF'⟩:=id hF;obtain⟨hp,ga,d,tk,os⟩:=s2;refine wpAny_call_exc_init F.excBase_Exception (hF' ▸ I1.mP _ _ hC) (AY I1.mP Z.keys) (sX Z.init) hfo hfc (λh' a M=>?_) (by show 2<=sizeLine;decide);obtain⟨keep,fresh,t0,hget,_,_⟩:=M;have I2:Inv X pins σ (upd H1 a (tI a C t0 none)) (⟨h',ga,d,tk,os⟩:Shared):=I1.grown keep fresh (AV hget);have rv:Vals [V.ref a,V.int k,V.int p] [Value.ref a,u1,u2]:=.cons rfl r;refine wpAny_call (NT (FI.run _ X.stack _ _ ⟨[Value.ref a,u1,u2],[]⟩ [Value.ref a,u1,u2] [V.ref a,V.int k,V.int p]
  (λv H'=>v=.cj/\∃dx,(upd H1 a (tI a C t0 none)) dx=none/\dx≠a/\H'=upd (upd (upd H1 a (tI a C t0 none)) dx (rq dx (ff k p))) a (tI a C t0 (some dx))) E0 (hr.make C [u1,u2] []) (I2.Gz.make C [u1,u2] []) ?_ rv ⟨a,t0,k,p,rfl,ae,λdx h1 h2=>⟨rfl,dx,h1,h2,rfl⟩⟩) λr s3 hq=>?_)
 · have z:=bI (⟨h',ga,d,tk,os⟩:Shared) [Value.ref a,u1,u2] I2.mP rfl;rw[Mg] at z;exact z
 cases r with
 |error e=>exact False.elim hq
 |ok fl =>
  cases fl with
  |next=>exact False.elim hq
  |brk=>exact False.elim hq
  |cont=>exact False.elim hq
  |ret u =>
   obtain⟨v,H',I3,rv,ev,dx,hdx,ne,eH⟩:=I2.after hq;subst ev eH;have ea:(upd (upd (upd H1 a (tI a C t0 none)) dx (rq dx (ff k p))) a (tI a C t0 (some dx))) a=some (tI a C t0 (some dx)):=ae;obtain⟨φ,_,_⟩:=I3.bw a _ ea;refine⟨rv,a,C,N,oC,some dx,_,rfl,⟨_,φ,⟨rfl,rfl⟩,rfl⟩,rfl,I3.mP _ _ hC,hF,σ,_,a,dx,none,k,p,⟨rfl,(I3.dropped ea).md (pins':=[]) λp hp=>absurd hp (by simp)⟩,⟨_,⟨⟨_,φ,⟨rfl,rfl⟩,rfl⟩,I1.gone O a fresh⟩,rfl⟩,λb hb=>?_,λT fl z=>(nomatch z),?_,hz⟩
   · have:b=a:=by simpa [jr] using hb
     rw[this];exact pU
   · rw[tf ne,aq ne,ae]
section
variable {X:Cx}{st:Stmt}{rest:List Stmt}{t u:TS}
theorem PS.zero (h:PS X st t):Ks X st t:=λs σ H D I q=>h [] s σ H D I q
theorem uh.zero (h:uh X rest t):A3 X rest t:=λs σ H D I q=>h [] s σ H D I q
theorem ig (h1:Ks X st t)(h2:A3 X rest u):A3 X (st::rest) (HG t u):=by
 intro s σ H D I h;refine wpAny_execs_cons (bB (h1 s σ H {D with nx:=u D} I h) λf s1 q=>?_);cases f with
 |next =>
  obtain⟨σ',H',I',q⟩:=q;exact h2 s1 σ' H' D I' q
 |ret v=>exact q
 |brk=>exact q
 |cont=>exact q
end
section
variable {P:Program}{w:World}{K:N4}{mg:N6}{base:Heap}
theorem dG.Kc {x qual:Str} {st:Stmt} {f:Addr} {fd:FuncData} {N ps:List Str} {k:Nat} {sp:Sp} (F:dG K x qual st f fd) (S:aI N ps (ax st)) (len:∀vs H Q E,sp vs H Q E->vs.length=ps.length)
  (hbody:∀(cdv:Value) (A:Around) (outer:List Env) (s:Shared) (H:Hp) (vs:List V) (Q:VK) (E:XK),cX k (A.deeper (envOfC qual (ax st) s.heap.objs.size f cdv))->sp vs H Q E ->
   ∃t,A3 (n8 bG P w K mg base N qual (ax st) f cdv A outer s H E).HQ (cx st) t/\t {nx:=λ_ H'=>Q .cj H',rt:=Q} (start N vs) H):bc P w K mg base bG (k+1) f fd ps sp:=by
 obtain⟨oc,od,kV,doc,pm,an,cdv,ct,osl,rfl,lk,hcd⟩:=F.ex;refine AH lk hcd S len λA outer s H vs Q E hr hsp=>?_;obtain⟨t,h,q⟩:=hbody cdv A outer s H vs Q E hr hsp;exact⟨t,λs1 σ H1 D I hw=>Mw (h s1 σ H1 D (I.iw _) hw) (λ_ _ q=>q.dq) λ_ _ z=>False.elim z,q⟩
end
def JG (a C dx:Addr):HO:=.ext λh=>∃(oe:Obj) (vs:Array Value),h.get? a=some oe/\oe.cls=.ref C/\oe.dict=some dx/\oe.data=.fields vs
theorem Hi {P:Program}{w:World}{H:Hp}{h:Heap}{a C dx:Addr}{oe:Obj}{vs:Array Value}(e:h.get? a=some oe)(c:oe.cls=.ref C)(x:oe.dict=some dx)(d:oe.data=.fields vs):bL P w H h a (JG a C dx) :=
 ⟨⟨oe,vs,e,c,x,d⟩,⟨_,e⟩,λh1 h2 ⟨o,vs,e,r⟩ k=>⟨o,vs,k _ e,r⟩⟩
def Iu (C:Addr)(ta:TE)(f:Str):TE:=λσ H Q=>ta σ H λx H1=>∃a dx fs v,x=.ref a/\H1 a=some (JG a C dx)/\H1 dx=some (rq dx fs)/\fs.lookup f=some v/\Q v H1
theorem y4 {X:Cx}{C N fI:Addr}{e:Expr}{f:Str}{pos:Pos}{ta:TE}(Z:qm X.K C N fI)(nf:PySem.W.findIn X.K (.ref C) f=some none)(he:PE X e ta)(hb:attributeBase e f X.env (eval e X.env)=eval e X.env):PE X (.Attribute e f pos) (Iu C ta f):=by
 intro pins s σ H Q I h;obtain⟨oC,hC,hF⟩:=Z.cls;refine yt hb (bB (he pins s σ H _ I h) λu s1 ⟨x,H1,I1,rx,a,dx,fs,v,ex,ea,ed,l,q⟩=>?_);subst ex;obtain rfl:u=Value.ref a:=rx;obtain⟨⟨oe,vs,e1,c1,x1,d1⟩,_,_⟩:=I1.bw a _ ea;obtain⟨⟨mA,n1,rl⟩,_,_⟩:=I1.bw dx _ ed;have rv:=rl f;rw[l] at rv;obtain⟨u,hu,ru⟩:=i7.some_of rv;have hK:=I1.mP;obtain⟨hp,ga,d,tk,os⟩:=s1;exact uw hK hC hF Z.ga Z.gt nf ⟨oe,e1,⟨c1,x1⟩,d1⟩ n1 hu (PySem.W.handedOut_of (qY ru)) ⟨v,H1,I1.tok _,ru,q⟩
def EE (R:Int->Int->Prop):XK:=λ_ odx H=>∃dx k p,odx=some dx/\H dx=some (rq dx (ff k p))/\R k p
theorem Jv {C:Addr}{R:Int->Int->Prop}{k p:Int}(h:R k p):Rz C (EE R) k p:=λ_ dx e=>⟨dx,k,p,rfl,e,h⟩
abbrev Cx.Fy (X:Cx)(a:Addr):Cx:={X with A:=X.A.mark (some (.ref a)),calm:=false,xe:=λ_ _=>False}
section
variable {X:Cx}{pins:N7}{σ:St}{H:Hp}{s:Shared}
theorem Inv.Fy (I:Inv X pins σ H s) (a:Addr):Inv (X.Fy a) pins σ H s :=
 ⟨⟨I.ok.mod,I.ok.kind,I.ok.glob,I.ok.blt,I.ok.above,I.ok.inj,I.ok.has,I.ok.HN,λz=>(by cases z),I.ok.frames,I.ok.Fp,I.ok.II,I.ok.bs,I.ok.CO,I.ok.zA,I.ok.zY,I.ok.my,I.ok.Fj⟩,I.os,I.bare,I.base,I.loc,I.cell,I.free,I.gq,I.pin,I.bw,I.len⟩
theorem Inv.Jb {a:Addr}(I:Inv (X.Fy a) pins σ H s)(ok:X.Ok):Inv X pins σ H s:=⟨ok,I.os,I.bare,I.base,I.loc,I.cell,I.free,I.gq,I.pin,I.bw,I.len⟩
theorem Inv.Hm {h':Heap}{m':N6}{t':Nat}(I:Inv X [] σ H s)(O:lK X)(hn:h'.Ns X.env.locals m')(sb:Heap.SameBut X.env.locals s.heap h'):Inv X [] (List.replicate X.N.length none) H {s with heap:=h',toks:=t'}:=by
 refine⟨I.ok,I.os,I.bare,⟨λb o e n hb hx=>?_,λb o e n hb hx=>?_,I.base.free,λb o e hx=>?_,I.base.nU,I.base.mI,I.base.nW⟩,⟨m',hn,λi x v e1 e2 _=>?_⟩,λx c e=>?_,I.free,I.gq,λp hp=>?_,λb u e=>?_,by simp⟩
 · exact (sb.2 b (LP (LV (Lq e) I.ok.above))).trans (I.base.keep b o e n hb hx)
 · obtain⟨sl,z⟩:=I.base.slot b o e n hb hx;exact⟨sl,(sb.2 b (LP (LV (Lq e) I.ok.above))).trans z⟩
 · obtain⟨o',z⟩:=I.base.there b o e hx;exact⟨o',(sb.2 b (LP (LV (Lq e) I.ok.above))).trans z⟩
 · rw[List.getElem?_replicate] at e2;split at e2 <;> cases e2
 · obtain⟨v,z⟩:=I.cell x c e;exact⟨v,z.sameBut sb (I.E_ x c e)⟩
 · rw[O.pn] at hp;simp at hp
 · refine (I.bw b u e).kH (λc v hc q=>(sb.2 c ?_).trans q) (λ_ q=>q) λ_ _ q=>q;rintro rfl;have fr:=I.free;rcases hc with rfl|hc
   · rw[fr] at e;cases e
   · rw[fr] at hc;cases hc
end
def K6 (X:Cx)(pins:N7)(D:Ends)(f:Flow)(s':Shared):Prop:=match f with
 |.ret u=>SP X [] D (.ret u) s'
 |f=>SP X pins D f s'
def KJ (X:Cx)(st:Stmt)(t:TS):Prop:=∀(pins:N7) (s:Shared) (σ:St) (H:Hp) (D:Ends),Inv X pins σ H s->t D σ H->wpAny (model X.prog X.w) X.A (exec st X.env) (K6 X pins D) X.xe s
theorem Dk {X:Cx}{tg iter:Expr}{st:Stmt}{wi:TI}{g:TG}{tb:TS}{pos:Pos}(hp:PassesOwn (model X.prog X.w) X.A X.env X.xe)(hc:X.calm=true)(hi:PI X tg iter wi)(hg:PG X tg g)(hb:KJ X st tb)
  (hs:∀x,foldedSetIterable iter X.env x=pure x:=by intro _;rfl):Ks X (.For tg iter [st] [] pos) (GG wi g tb):=by
 intro s σ H D I h;refine wpAny_For (bB (hi [] s σ H _ I h) λv s1 h1=>bB h1 λitv s2 h2=>?_) hs;obtain⟨it,fp,tn,J,H2,e,I2,T,st2,f2,W,⟨m0,w0⟩,turn⟩:=h2;subst e;have stat:∀{H':Hp},(∀b∈fp,H' b=none)->∀b∈fp,mS X [] H' b:=λhn b hb=>⟨hn b hb,(f2 b hb).2⟩;refine codeAny_forLoop_any (λn s'=>∃i σ' H',Inv X [] σ' H' s'/\tn i s'.heap/\(∀b∈fp,H' b=none)/\W i n σ' H') ?_ m0 ⟨0,σ,H2,I2,st2,λb hb=>(f2 b hb).1,w0⟩;rintro n s3 ⟨i,σ3,H3,I3,st3,fr3,w3⟩;rcases turn i n σ3 H3 w3 with ⟨stop,qn⟩|⟨go,N,hN,step⟩
 · refine My hp (bB (T.done X rfl rfl rfl hc i [] s3 σ3 H3 X.xe I3 (stat fr3) st3 stop) λr s4 ⟨hr,I4⟩=>?_);subst hr;exact Nb ⟨σ3,H3,I4,qn⟩
 · refine My hp (bB (T.item X rfl rfl rfl hc i [] s3 σ3 H3 X.xe I3 (stat fr3) st3 go) λr s4 ⟨u,hr,h4⟩=>?_);subst hr;refine My hp (bB h4 λ_ s5 ⟨x,H5,I5,r5,y5,st5,fr5⟩=>?_);have I5':=I5.pinned (stat fr5) (T.obj _ _ st5);refine My hp (bB (hg _ s5 σ3 H5 x u _ I5' r5 (step x H5 y5)) λ_ s6 ⟨σ6,H6,I6,q6⟩=>?_);refine My hp (wpAny_execs_cons (bB (hb _ s6 σ6 H6 _ I6 q6) λf s7 q7=>?_));have again:∀{σ7:St} {H7:Hp},Inv X ([]++m7 fp s5.heap) σ7 H7 s7->N σ7 H7->∃m,m < n/\∃i σ' H',Inv X [] σ' H' s7/\tn i s7.heap/\(∀b∈fp,H' b=none)/\W i m σ' H':=λ{σ7 H7} I7 n7=>by
    obtain⟨m',hm,w7⟩:=hN σ7 H7 n7;refine⟨m',hm,i+1,σ7,H7,I7.ic,T.keep _ _ _ st5 λb hb o e=>(I7.pin (b,o) (Mc _ (Mc _ (gC hb e)))).1,λb hb=>?_,w7⟩;obtain⟨o,e,d⟩:=T.obj _ _ st5 b hb;exact (I7.pin (b,o) (Mc _ (Mc _ (gC hb e)))).2.1
   cases f with
   |next=>obtain⟨σ7,H7,I7,n7⟩:=q7;exact Nb (again I7 n7)
   |cont=>obtain⟨σ7,H7,I7,n7⟩:=q7;exact again I7 n7
   |brk=>obtain⟨σ7,H7,I7,q7⟩:=q7;exact⟨σ7,H7,I7.ic,q7⟩
   |ret v=>exact q7
def J2 (C:Addr)(i:Nat)(R:Int->Int->Prop)(tb th:TS):TS:=λD σ H=>tb D σ H /\
 ∀(σ':St) (H':Hp) (a dx:Addr) (k p:Int),R k p->σ'[i]?=some (some (.ref a))->H' a=some (JG a C dx)->H' dx=some (rq dx (ff k p))->th {nx:=λ_ _=>False,rt:=D.rt} σ' H'
theorem G9 {X:Cx}{C N fI:Addr}{R:Int->Int->Prop}{x n:Str}{np hpos pos:Pos}{body suite:List Stmt}{b0:Stmt}{i:Nat}{tb th:TS}(O:lK X)(Z:qm X.K C N fI)(hg:Gl X x)(hm:X.mg x=some (.ref C))(hN:X.N.Nodup)(hi:X.N[i]?=some n)
  (hl:X.env.scope.names.lookup n=some .local)(hb:uh (X.iw (XF X C (EE R))) body tb)(hh:∀a,uh (X.Fy a) (b0::suite) th)(hdb:(x==("__debug__":Str))=false:=by decide) :
  KJ X (.Try body [.ExceptHandler (some (.Name x np)) (some n) (b0::suite) hpos] [] [] pos) (J2 C i R tb th):=by
 rintro pins s σ H D I ⟨hq,hth⟩;obtain⟨oC,hC,hF⟩:=Z.cls;refine wpAny_Try_except (Mw (hb pins s σ H D (I.iw _) hq) (λf s1 q=>?_) λe s1 z=>?_)
 · cases f with
   |next=>exact Nb q.dq
   |brk=>exact q.dq
   |cont=>exact q.dq
   |ret u =>
    obtain⟨v,σ',H',I',r⟩:=q.dq;exact⟨v,σ',H',I'.md (pins':=[]) λp hp=>absurd hp (by simp),r⟩
 obtain⟨σ1,H1,a,dx,t,k,p,⟨rfl,I1⟩,F1,hH,hfl,hx,hz⟩:=z;obtain⟨dx',k',p',e1,e2,hR⟩:=hz H1 dx hx;cases e1;refine xB O I1 F1 hH hfl λg T I2 F2 H2=>?_;refine mq (v:=none) O I2 F2 H2 λg2 I3 F3=>?_;obtain⟨vs3,⟨⟨oe3,ge3,⟨ce3,xe3⟩,de3⟩,_⟩,_⟩:=id F3;obtain⟨_,_,_,_,_,_,_,_,_,_,_,_,_,hF'⟩:=id hF;refine wpAny_handleBy_cons (codeAny_handlers_test (lL (X:=X.Fy a) (I3.Fy a) hg hm ?_ hdb)) (by intro z;cases z);refine wpAny_excMatches_sub_self (hF' ▸ I3.mP _ _ hC) ge3 ce3 (by decide) (codeAny_handlers_suite_as ?_);have H3:∀b∈jr a (some (T,(none:Option Addr).elim Value.none λf=>rawInt f)),H1 b=none:=H2;refine mq (v:=none) O I3 F3 H3 λg4 I4 F4=>?_;obtain⟨vs4,⟨⟨oe4,ge4,⟨ce4,xe4⟩,de4⟩,z4⟩,_⟩:=id F4;have nL:a≠X.env.locals:=by
  rintro rfl;obtain⟨m,⟨o',es,ep,ho',hd',_⟩,_⟩:=I4.loc;rw[ho'] at ge4;cases ge4;rw[hd'] at de4;cases de4
 have nC:∀x c,X.env.cells.lookup x=some c->c≠a:=by
  rintro x c e rfl;obtain⟨v,o',ho',hd'⟩:=I4.cell x c e;rw[ho'] at ge4;cases ge4;rw[hd'] at de4;cases de4
 have nf:a∉X.fs:=λz=>by
  obtain⟨_,o',ho',hd'⟩:=I4.my.mem z;rw[ho'] at ge4;cases ge4;exact hd' _ de4
 have I5:Inv X [] σ1 (upd H1 a (JG a C dx)) _:=I4.seen O z4 (hH a (L0 ..)) nL nC rfl nf (Hi ge4 ce4 xe4 de4);have nd:dx≠a:=λz=>by
  have:=hH a (L0 ..);rw[←z,hx] at this;cases this
 refine lW (X:=X.Fy a) (v:=V.ref a) (I5.Fy a) hN hi (.inl hl) rfl (λs6 I6=>?_) (.inr hl);have li:i < σ1.length:=by rw[I4.len];exact (Lr.mp hi).1
 refine Mw (hh a [] s6 _ _ {nx:=λ_ _=>False,rt:=D.rt} I6 (hth _ _ a dx k' p' hR (NA li) ae (by rw[aq nd];exact e2))) (λf s7 z=>?_) λ_ _ z=>False.elim z;cases f with
 |next=>obtain⟨_,_,_,z⟩:=z;exact False.elim z
 |brk=>obtain⟨_,_,_,z⟩:=z;exact False.elim z
 |cont=>obtain⟨_,_,_,z⟩:=z;exact False.elim z
 |ret u =>
  obtain⟨v,σ8,H8,I8,rv,z⟩:=z;have I8:Inv X [] σ8 H8 s7:=I8.Jb I.ok;obtain⟨m,hn,_⟩:=id I8.loc;refine wpAny_nameGoes hl hn (by rw[I.ok.kind];rfl) λh' m' hn' sb=>?_;exact⟨v,_,H8,I8.Hm O hn' sb,rv,z⟩
end L2
namespace L2
open PySem PySem.Spec PyProof.Rows
section
variable {X:Cx}
theorem xl:iu X (.builtin "sorted") (λxs H Q=>∃(t:Addr) (ns:List Int),xs=[.ref t]/\bZ X.K H t (ns.map V.int)/\ns.length < 64 /\
  ∀(ms:List Int) (p:Addr),ms.Perm ns->ms.Pairwise (·<=·)->H p=none->Q (.ref p) (upd H p (.lst (ms.map V.int)))):=by
 rintro pins s σ H xs us Q I r ⟨t,ns,rfl,ht,h64,q⟩;rw[Vals.wo r];obtain⟨its,rv,⟨o,ho,hc,n,hd⟩,hz⟩:=I.tuple ht;have hi:=rv.ints;have vR:its.length < 64:=by rw[hi.length];exact h64
 have line:its.length<=sizeLine:=yx vR;refine PySem.Calls.call_function_entry kind_sorted plain_sorted entry_sorted (args_sorted1 _) ?_;show wpAny _ _ (checkCount "sorted" 1 1 1 >>= λ_=>collect (.ref t) >>= λvs=>newList vs >>= λl=>holding [l] (call (.builtin "list.sort") [l] []) >>= λ_=>ret l) _ _ _;refine Ld (Lk (Ld (wpAny_collect_seq t (.inr rfl) ho hc hd (λh1 k1=>Ld (wpAny_newList (Ld (Nf ?_)) ?_)) ?_)))
 ·
  have new:(h1.push {cls:=.type "list",data:=.seq its.toArray.toList.toArray}).get? h1.objs.size=some (seqObj "list" its.toArray 0):=Lu h1 rfl;refine MA slot_list_sort ⟨_,new,rfl⟩ entry_list_sort (list_sort_tree new hi vR λout ms p1 p2 p3=>⟨.none,rfl,Lk ⟨_,rfl,?_⟩⟩) (args_list_sort _);have none0:s.heap.get? h1.objs.size=none:=by
   cases z:s.heap.get? h1.objs.size with
   |none=>rfl
   |some u=>exact absurd (Lq (k1 _ _ z)) (Mz _)
  obtain⟨ep,at_⟩:=sortedHeap_at (vs:=its) (out:=out) new;have keep:∀b u,s.heap.get? b=some u->(sortedHeap (h1.push {cls:=.type "list",data:=.seq its.toArray.toList.toArray}) h1.objs.size its out).get? b=some u:=λb u e=>by
   have e1:=Lh {cls:=.type "list",data:=.seq its.toArray.toList.toArray} (k1 b u e);rw[sortedHeap_old (λz=>by rw[z,none0] at e;cases e) (Lq e1)];exact e1
  have len:(ms.map V.int).length<=sizeLine:=by rw[Le,p2.length_eq];exact yx h64
  exact⟨.ref _,upd H h1.objs.size (.lst (ms.map V.int)),I.grown (t':=s.toks) keep none0 ⟨len,out.toList,ep,ml p1,at_⟩,rfl,q ms _ p2 p3 (I.bw.gone none0)⟩
 · simpa using line
 · simpa using line
end
end L2
namespace BwX
open PySem
section
variable {P:Program}{w:World}{A:Around}{E:N5}{s:Shared}
theorem A2 {it t:Addr} {k:Nat} {its:Array Value} {x:Value} {Q:N5} (hi:s.heap.IsTupleIter it t k) (ht:s.heap.IsTuple t its) (hx:its[k]?=some x)
  (q:∀h',h'.IsTupleIter it t (k+1)->Heap.SameBut it s.heap h'->Q x {s with heap:=h'}):wpAny (model P w) A (Builtin.SmallTypes.nextOf (.ref it)) Q E s:=by
 have ty:=hi.typeIs;obtain⟨⟨c1,d1,f1,l1⟩,g1,rfl,rfl⟩:=hi;obtain⟨⟨c2,d2,f2,l2⟩,g2,rfl,n,rfl⟩:=ht;unfold Builtin.SmallTypes.nextOf;refine Ld (Mu (name:=Str.ofString "__next__") ty Nh (MA Nh ty F.entry_tuple_iterator_next ?_ (F.args_tuple_iterator_next_1 _)));obtain⟨hp,ga,d,tk,os⟩:=s;show wpAny _ _ (Builtin.«tuple_iterator.__next__» _) _ _ _
 wp_walk
 rw[LZ,hx];refine Ld (wpAny_setField g1 rfl (by simp) (Lk ⟨x,rfl,Lk (q _ ⟨_,Md _ g1 rfl,rfl,?_⟩ (LD ..))⟩));simp[Obj.mapFields,rawInt]
theorem Cv {it t:Addr}{k:Nat}{its:Array Value}{Q:N5}(hh:A.handled=none)(hi:s.heap.IsTupleIter it t k)(ht:s.heap.IsTuple t its)(hx:its[k]?=none)
  (q:∀h' e,Heap.ExtBut it s.heap h'->(∃o,h'.get? e=some o/\o.cls=.type "StopIteration")->E (.ref e) {s with heap:=h'}):wpAny (model P w) A (Builtin.SmallTypes.nextOf (.ref it)) Q E s:=by
 have ty:=hi.typeIs;obtain⟨⟨c1,d1,f1,l1⟩,g1,rfl,rfl⟩:=hi;obtain⟨⟨c2,d2,f2,l2⟩,g2,rfl,n,rfl⟩:=ht;unfold Builtin.SmallTypes.nextOf;refine Ld (Mu (name:=Str.ofString "__next__") ty Nh (MA Nh ty F.entry_tuple_iterator_next ?_ (F.args_tuple_iterator_next_1 _)));obtain⟨hp,ga,d,tk,os⟩:=s;have h1:A.in1.handled=none:=hh;show wpAny _ _ (Builtin.«tuple_iterator.__next__» _) _ _ _
 wp_walk
 rw[LZ,hx]
 wp_walk
 unfold raiseNew
 wp_walk
 exact q _ _ (((LD ..).extBut.push _).push _) ⟨_,Lu _ rfl,rfl⟩
end
structure Src (P:Program)(w:World)(i:Addr)(T:Nat->Heap->Prop)(xs:Array Value)(fp:List Addr):Prop where
 item:∀(A:Around) (k:Nat) (x:Value) (s:Shared) (Q:N5) (E:N5),T k s.heap->xs[k]?=some x->(∀h',T (k+1) h'->Heap.SameBut i s.heap h'->Q x {s with heap:=h'})->wpAny (model P w) A (Builtin.SmallTypes.nextOf (.ref i)) Q E s
 stop:∀(A:Around) (k:Nat) (s:Shared) (Q:N5) (E:N5),A.handled=none->T k s.heap->xs[k]?=none->(∀h' e,Heap.ExtBut i s.heap h'->(∃o,h'.get? e=some o/\o.cls=.type "StopIteration")->E (.ref e) {s with heap:=h'})->wpAny (model P w) A (Builtin.SmallTypes.nextOf (.ref i)) Q E s
 keep:∀k h h',T k h->(∀b∈fp,∀o,h.get? b=some o->h'.get? b=some o)->T k h'
 mem:i∈fp
theorem yr {P:Program}{w:World}{it t:Addr}{its:Array Value}(ne:t≠it):Src P w it (λk h=>h.IsTupleIter it t k/\h.IsTuple t its) its [it,t] where
 item:=λA k x s Q E st hx q=>A2 st.1 st.2 hx λh' z sb=>q h' ⟨z,st.2.extBut sb.extBut ne⟩ sb
 stop:=λA k s Q E hh st hx q=>Cv hh st.1 st.2 hx q
 keep:=λk h h' st z=>⟨st.1.at λo e=>z it (by simp) o e,by
  obtain⟨o,e,r⟩:=st.2;exact⟨o,z t (by simp) o e,r⟩⟩
 mem:=by simp
theorem yw {P:Program}{w:World}{it t:Addr}{its:Array Value}(ne:t≠it):Src P w it (λk h=>h.IsListIter it t k/\h.IsList t its) its [it,t] where
 item:=λA k x s Q E st hx q=>wpAny_nextOf_list_item st.1 st.2 hx λh' z sb=>q h' ⟨z,st.2.extBut sb.extBut ne⟩ sb
 stop:=λA k s Q E hh st hx q=>wpAny_nextOf_list_end hh st.1 st.2 hx q
 keep:=λk h h' st z=>⟨st.1.at λo e=>z it (by simp) o e,st.2.at λo e=>z t (by simp) o e⟩
 mem:=by simp
structure Zp (z TI TO i1 i2:Addr)(p1 p2:List Addr)(T1 T2:Nat->Heap->Prop)(f0:Value)(k1 k2:Nat)(h:Heap):Prop where
 zp:IsZip h z TI TO f0
 ti:IsPair h TI (.ref i1) (.ref i2)
 to:∃a b,IsPair h TO a b
 s1:T1 k1 h
 s2:T2 k2 h
 n1:¬z∈p1/\¬TO∈p1/\¬i2∈p1
 n2:¬z∈p2/\¬TO∈p2/\¬i1∈p2
 nz:TI≠z/\TO≠z/\TI≠TO/\TI≠i1/\TI≠i2/\TO≠i1/\TO≠i2/\i1≠z/\i2≠z
section
variable {P:Program}{w:World}{A:Around}{E:N5}{s:Shared}{z TI TO i1 i2:Addr}{p1 p2:List Addr}{T1 T2:Nat->Heap->Prop}{k1 k2:Nat}{xs ys:Array Value}
theorem Du {x y:Value} {Q:N5} (S1:Src P w i1 T1 xs p1) (S2:Src P w i2 T2 ys p2) (Z:Zp z TI TO i1 i2 p1 p2 T1 T2 .none k1 k2 s.heap) (hx:xs[k1]?=some x) (hy:ys[k2]?=some y)
  (q:∀h',Zp z TI TO i1 i2 p1 p2 T1 T2 (rawInt s.heap.objs.size) (k1+1) (k2+1) h'->IsPair h' s.heap.objs.size x y->(∀c o,c≠z->c≠TO->c≠i1->c≠i2->s.heap.get? c=some o->h'.get? c=some o)->Q (.ref s.heap.objs.size) {s with heap:=h'}) :
  wpAny (model P w) A (Builtin.«zip.__next__» ⟨[.ref z],[]⟩) (λfin s'=>∃v,fin=.done (.ret v)/\Q v s') E s:=by
 obtain⟨hz,hTI,⟨a,b,hTO⟩,t1,t2,n1,n2,nz⟩:=Z;obtain⟨hp,ga,d,tk,os⟩:=s;have d1:∀(h:Heap) (Q:N5) (E:N5),(∀h',T1 (k1+1) h'->Heap.SameBut i1 h h'->Q x ⟨h',ga,d,tk,os⟩)->T1 k1 h->wpAny (model P w) A (Builtin.SmallTypes.nextOf (.ref i1)) Q E ⟨h,ga,d,tk,os⟩:=λh Q E c t=>S1.item A k1 x ⟨h,ga,d,tk,os⟩ Q E t hx c;have d2:∀(h:Heap) (Q:N5) (E:N5),(∀h',T2 (k2+1) h'->Heap.SameBut i2 h h'->Q y ⟨h',ga,d,tk,os⟩)->T2 k2 h->wpAny (model P w) A (Builtin.SmallTypes.nextOf (.ref i2)) Q E ⟨h,ga,d,tk,os⟩:=λh Q E c t=>S2.item A k2 y ⟨h,ga,d,tk,os⟩ Q E t hy c;obtain⟨z1,z2,z3,z4,z5,z6,z7,z8,z9⟩:=nz;have o1:∀b∈p1,b≠z/\b≠TO/\b≠i2:=λb hb=>⟨λe=>n1.1 (e ▸ hb),λe=>n1.2.1 (e ▸ hb),λe=>n1.2.2 (e ▸ hb)⟩;have o2:∀b∈p2,b≠z/\b≠TO/\b≠i1:=λb hb=>⟨λe=>n2.1 (e ▸ hb),λe=>n2.2.1 (e ▸ hb),λe=>n2.2.2 (e ▸ hb)⟩;have z12:i1≠i2:=(o1 i1 S1.mem).2.2
 wp_walk using wpAny_onRaise,d1
 rotate_left
 · exact S1.keep k1 _ _ t1 λb hb o e=>((LD ..).2 b (o1 b hb).1).trans e
 intro h1 t1' sb1;have up0:∀b,b≠z->(hp.update z (Obj.mapFields λx=>x.setIfInBounds 0 Value.ellipsis)).get? b=hp.get? b:=λb n=>(LD ..).2 b n;have hz1:IsZip h1 z TI TO .ellipsis:=(sb1.2 z z8.symm).trans (Md _ hz rfl);have hTO1:IsPair h1 TO a b:=(sb1.2 TO z6).trans ((up0 TO z2).trans hTO);have kp1:∀b o,b≠z->b≠i1->hp.get? b=some o->h1.get? b=some o:=λb o n m e=>(sb1.2 b m).trans ((up0 b n).trans e);have l1:h1.objs.size=hp.objs.size:=sb1.1.trans (LD ..).1;clear up0 sb1 d1
 wp_walk using wpAny_onRaise,d2
 rotate_left
 · exact S2.keep k2 _ _ t2 λb hb o e=>((LD ..).2 b (o2 b hb).2.1).trans (kp1 b o (o2 b hb).1 (o2 b hb).2.2 e)
 intro h2 t2' sb2;have up1:∀b,b≠TO->(h1.update TO (Obj.mapSeq λv=>v.setIfInBounds 0 x)).get? b=h1.get? b:=λb n=>(LD ..).2 b n;have hz2:IsZip h2 z TI TO .ellipsis:=(sb2.2 z z9.symm).trans ((up1 z z2.symm).trans hz1);have hTO2:IsPair h2 TO x b:=(sb2.2 TO z7).trans (Md _ hTO1 rfl);have kp2:∀b o,b≠TO->b≠i2->h1.get? b=some o->h2.get? b=some o:=λb o n m e=>(sb2.2 b m).trans ((up1 b n).trans e);have l2:h2.objs.size=hp.objs.size:=(sb2.1.trans (LD ..).1).trans l1;clear up1 sb2 d2
 wp_walk
 have hTO3:IsPair (h2.update TO (Obj.mapSeq λx=>x.setIfInBounds (0+1) y)) TO x y:=Md _ hTO2 rfl;have kp3:∀b o,b≠TO->h2.get? b=some o->(h2.update TO (Obj.mapSeq λx=>x.setIfInBounds (0+1) y)).get? b=some o:=λb o n e=>((LD ..).2 b n).trans e;have l3:(h2.update TO (Obj.mapSeq λx=>x.setIfInBounds (0+1) y)).objs.size=hp.objs.size:=(LD ..).1.trans l2;refine⟨_,rfl,?_⟩;generalize h2.update TO (Obj.mapSeq λx=>x.setIfInBounds (0+1) y)=h3 at hTO3 kp3 l3 ⊢;dsimp only at q;rw[←l3] at q;have zn:z≠h3.objs.size:=LP (by rw[l3];exact Lq hz);have g4:∀b o,h3.get? b=some o->(h3.push {cls:=.type "tuple",data:=.seq #[x,y]}).get? b=some o:=λb o e=>Lh _ e;have gn:(h3.push {cls:=.type "tuple",data:=.seq #[x,y]}).get? h3.objs.size=some {cls:=.type "tuple",data:=.seq #[x,y]}:=Lu _ rfl;show Q _ ⟨((h3.push {cls:=.type "tuple",data:=.seq #[x,y]}).update z _).update z _,ga,d,tk,os⟩;generalize h3.push {cls:=.type "tuple",data:=.seq #[x,y]}=h4 at g4 gn ⊢;have hz4:IsZip h4 z TI TO .ellipsis:=g4 _ _ (kp3 _ _ z2.symm hz2);have kz:∀b o,b≠z->h4.get? b=some o->((h4.update z (Obj.mapFields λv=>v.setIfInBounds 0 (rawInt (h3.objs.size:Nat)))).update z (Obj.mapFields λv=>v.setIfInBounds 1 (.bool false))).get? b=some o:=λb o n e=>((LD ..).2 b n).trans (((LD ..).2 b n).trans e);have kp:∀b o,b≠z->b≠TO->b≠i1->b≠i2->hp.get? b=some o->((h4.update z (Obj.mapFields λv=>v.setIfInBounds 0 (rawInt (h3.objs.size:Nat)))).update z (Obj.mapFields λv=>v.setIfInBounds 1 (.bool false))).get? b=some o:=λb o n1 n2 n3 n4 e=>kz b o n1 (g4 b o (kp3 b o n2 (kp2 b o n2 n4 (kp1 b o n1 n3 e))));have hz5:IsZip (h4.update z (Obj.mapFields λv=>v.setIfInBounds 0 (rawInt (h3.objs.size:Nat)))) z TI TO (rawInt (h3.objs.size:Nat)):=Md _ hz4 rfl;refine q _ ⟨Md _ hz5 rfl,kp _ _ z1 z3 z4 z5 hTI,⟨x,y,kz _ _ z2 (g4 _ _ hTO3)⟩,S1.keep _ _ _ t1' λb hb o e=>kz b o (o1 b hb).1 (g4 b o (kp3 b o (o1 b hb).2.1 (kp2 b o (o1 b hb).2.1 (o1 b hb).2.2 e))),S2.keep _ _ _ t2' λb hb o e=>kz b o (o2 b hb).1 (g4 b o (kp3 b o (o2 b hb).2.1 e)),n1,n2,⟨z1,z2,z3,z4,z5,z6,z7,z8,z9⟩⟩ (kz _ _ zn.symm gn) kp
theorem C_ {Q:Fin->Shared->Prop}(hh:A.handled=none)(S1:Src P w i1 T1 xs p1)(S2:Src P w i2 T2 ys p2)(Z:Zp z TI TO i1 i2 p1 p2 T1 T2 .none k1 k2 s.heap)(he:xs[k1]?=none∨ys[k2]?=none)
  (q:∀h' e,(∀c o,c≠z->c≠TO->c≠i1->c≠i2->s.heap.get? c=some o->h'.get? c=some o)->(∃o,h'.get? e=some o/\o.cls=.type "StopIteration")->E (.ref e) {s with heap:=h'}) :
  wpAny (model P w) A (Builtin.«zip.__next__» ⟨[.ref z],[]⟩) Q E s:=by
 obtain⟨hz,hTI,⟨a,b,hTO⟩,t1,t2,n1,n2,nz⟩:=Z;obtain⟨hp,ga,d,tk,os⟩:=s;obtain⟨z1,z2,z3,z4,z5,z6,z7,z8,z9⟩:=nz;have o1:∀b∈p1,b≠z:=λb hb e=>n1.1 (e ▸ hb);have o2:∀b∈p2,b≠z/\b≠TO/\b≠i1:=λb hb=>⟨λe=>n2.1 (e ▸ hb),λe=>n2.2.1 (e ▸ hb),λe=>n2.2.2 (e ▸ hb)⟩;have zs:∀(h:Heap) (e:Addr),IsZip h z TI TO .ellipsis->(∃o,h.get? e=some o/\o.cls=.type "StopIteration")->∃o,(h.update z (Obj.mapFields λv=>v.setIfInBounds 0 .none)).get? e=some o/\o.cls=.type "StopIteration":=λh e hz ⟨o,ho,hc⟩=>by
  refine⟨o,((LD ..).2 e ?_).trans ho,hc⟩;rintro rfl;rw[hz] at ho;cases ho;simp at hc
 cases hx:xs[k1]? with
 |none =>
  have d1:∀(h:Heap) (Q:N5) (E:N5),(∀h' e,Heap.ExtBut i1 h h'->(∃o,h'.get? e=some o/\o.cls=.type "StopIteration")->E (.ref e) ⟨h',ga,d,tk,os⟩)->T1 k1 h->wpAny (model P w) A (Builtin.SmallTypes.nextOf (.ref i1)) Q E ⟨h,ga,d,tk,os⟩:=λh Q E c t=>S1.stop A k1 ⟨h,ga,d,tk,os⟩ Q E hh t hx c
  wp_walk using wpAny_onRaise,d1
  rotate_left
  · exact S1.keep k1 _ _ t1 λb hb o e=>((LD ..).2 b (o1 b hb)).trans e
  intro h1 e eb st;have hz1:IsZip h1 z TI TO .ellipsis:=eb z _ z8.symm (Md _ hz rfl);have kp:∀b o,b≠z->b≠i1->hp.get? b=some o->h1.get? b=some o:=λb o n m q=>eb b o m (((LD ..).2 b n).trans q)
  wp_walk
  exact q _ e (λc o c1 c2 c3 c4 w=>((LD ..).2 c c1).trans (kp c o c1 c3 w)) (zs h1 e hz1 st)
 |some x =>
  have hy:ys[k2]?=none:=he.resolve_left (by rw[hx];simp);have d1:∀(h:Heap) (Q:N5) (E:N5),(∀h',T1 (k1+1) h'->Heap.SameBut i1 h h'->Q x ⟨h',ga,d,tk,os⟩)->T1 k1 h->wpAny (model P w) A (Builtin.SmallTypes.nextOf (.ref i1)) Q E ⟨h,ga,d,tk,os⟩:=λh Q E c t=>S1.item A k1 x ⟨h,ga,d,tk,os⟩ Q E t hx c;have d2:∀(h:Heap) (Q:N5) (E:N5),(∀h' e,Heap.ExtBut i2 h h'->(∃o,h'.get? e=some o/\o.cls=.type "StopIteration")->E (.ref e) ⟨h',ga,d,tk,os⟩)->T2 k2 h->wpAny (model P w) A (Builtin.SmallTypes.nextOf (.ref i2)) Q E ⟨h,ga,d,tk,os⟩:=λh Q E c t=>S2.stop A k2 ⟨h,ga,d,tk,os⟩ Q E hh t hy c
  wp_walk using wpAny_onRaise,d1
  rotate_left
  · exact S1.keep k1 _ _ t1 λb hb o e=>((LD ..).2 b (o1 b hb)).trans e
  intro h1 t1' sb1;have hz1:IsZip h1 z TI TO .ellipsis:=(sb1.2 z z8.symm).trans (Md _ hz rfl);have kp1:∀b o,b≠z->b≠i1->hp.get? b=some o->h1.get? b=some o:=λb o n m e=>(sb1.2 b m).trans (((LD ..).2 b n).trans e);have hTO1:IsPair h1 TO a b:=kp1 _ _ z2 z6 hTO;clear sb1 d1
  wp_walk using wpAny_onRaise,d2
  rotate_left
  · exact S2.keep k2 _ _ t2 λb hb o e=>((LD ..).2 b (o2 b hb).2.1).trans (kp1 b o (o2 b hb).1 (o2 b hb).2.2 e)
  intro h2 e eb st;have hz2:IsZip h2 z TI TO .ellipsis:=eb z _ z9.symm (((LD ..).2 z z2.symm).trans hz1);have kp2:∀b o,b≠TO->b≠i2->h1.get? b=some o->h2.get? b=some o:=λb o n m q=>eb b o m (((LD ..).2 b n).trans q)
  wp_walk
  exact q _ e (λc o c1 c2 c3 c4 w=>((LD ..).2 c c1).trans (kp2 c o c2 c4 (kp1 c o c1 c3 w))) (zs h2 e hz2 st)
abbrev Zt (z TI TO i1 i2 t l:Addr)(xs ys:Array Value)(f0:Value)(k:Nat)(h:Heap):Prop:=Zp z TI TO i1 i2 [i1,t] [i2,l] (λk h=>h.IsTupleIter i1 t k/\h.IsTuple t xs) (λk h=>h.IsListIter i2 l k/\h.IsList l ys) f0 k k h
theorem Hh (t l:Addr)(xs ys:Array Value):Meets (Builtin.«zip.__new__» ⟨[.type "zip",.ref t,.ref l],[]⟩) (λ_ R s=>s.heap.IsTuple t xs/\s.heap.IsList l ys /\
  ∀h',Zt (s.heap.objs.size+4) (s.heap.objs.size+2) (s.heap.objs.size+3) s.heap.objs.size (s.heap.objs.size+1) t l xs ys .none 0 h'->(∀c o,s.heap.get? c=some o->h'.get? c=some o)->R (.ok (.ret (.ref (s.heap.objs.size+4)))) {s with heap:=h'}):=by
 refine .of_wp λP w A R s c=>?_;obtain⟨ht,hl,q⟩:=c;obtain⟨hp,ga,d,tk,os⟩:=s;have sz:=sub_zip;have t0:(Shared.heap ⟨hp,ga,d,tk,os⟩).IsTuple t xs:=ht;have l0:(Shared.heap ⟨hp.push {cls:=.type "tuple_iterator",data:=.fields #[.ref t,.int 0 0]},ga,d,tk,os⟩).IsList l ys:=hl.push _;have nt:@LT.lt Nat _ t hp.objs.size:=by obtain⟨_,e,_⟩:=ht;exact Lq e
 have nl:@LT.lt Nat _ l hp.objs.size:=by obtain⟨_,e,_⟩:=hl;exact Lq e
 wp_walk using wpAny_pyIter_tuple t0,wpAny_pyIter_list l0
 refine⟨_,rfl,?_⟩;have z1:(hp.push {cls:=.type "tuple_iterator",data:=.fields #[.ref t,.int 0 0]}).objs.size=hp.objs.size+1:=Mn ..;have g1:(hp.push {cls:=.type "tuple_iterator",data:=.fields #[.ref t,.int 0 0]}).get? hp.objs.size=some {cls:=.type "tuple_iterator",data:=.fields #[.ref t,.int 0 0]}:=Lu _ rfl;have k1:∀c o,hp.get? c=some o->(hp.push {cls:=.type "tuple_iterator",data:=.fields #[.ref t,.int 0 0]}).get? c=some o:=λc o e=>Lh _ e;dsimp only;generalize hp.push {cls:=.type "tuple_iterator",data:=.fields #[.ref t,.int 0 0]}=h1 at z1 g1 k1 ⊢;have z2:(h1.push {cls:=.type "list_iterator",data:=.fields #[.ref l,.int 0 0]}).objs.size=hp.objs.size+2:=(Mn ..).trans (by rw[z1]);have g2:(h1.push {cls:=.type "list_iterator",data:=.fields #[.ref l,.int 0 0]}).get? h1.objs.size=some {cls:=.type "list_iterator",data:=.fields #[.ref l,.int 0 0]}:=Lu _ rfl;have k2:∀c o,h1.get? c=some o->(h1.push {cls:=.type "list_iterator",data:=.fields #[.ref l,.int 0 0]}).get? c=some o:=λc o e=>Lh _ e;generalize h1.push {cls:=.type "list_iterator",data:=.fields #[.ref l,.int 0 0]}=h2 at z2 g2 k2 ⊢;rw[z1] at g2 ⊢;show R (.ok (.ret (.ref ((h2.push {cls:=.type "tuple",data:=.seq #[.ref hp.objs.size,.ref (hp.objs.size+1)]}).push {cls:=.type "tuple",data:=.seq #[.none,.none]}).objs.size))) ⟨((h2.push {cls:=.type "tuple",data:=.seq #[.ref hp.objs.size,.ref (hp.objs.size+1)]}).push {cls:=.type "tuple",data:=.seq #[.none,.none]}).push {cls:=.type "zip",data:=.fields #[.none,.bool false,.bool false,.ref h2.objs.size,.ref (h2.push {cls:=.type "tuple",data:=.seq #[.ref hp.objs.size,.ref (hp.objs.size+1)]}).objs.size]},ga,d,tk,os⟩;have z3:(h2.push {cls:=.type "tuple",data:=.seq #[.ref hp.objs.size,.ref (hp.objs.size+1)]}).objs.size=hp.objs.size+3:=(Mn ..).trans (by rw[z2]);have g3:(h2.push {cls:=.type "tuple",data:=.seq #[.ref hp.objs.size,.ref (hp.objs.size+1)]}).get? h2.objs.size=some {cls:=.type "tuple",data:=.seq #[.ref hp.objs.size,.ref (hp.objs.size+1)]}:=Lu _ rfl;have k3:∀c o,h2.get? c=some o->(h2.push {cls:=.type "tuple",data:=.seq #[.ref hp.objs.size,.ref (hp.objs.size+1)]}).get? c=some o:=λc o e=>Lh _ e;generalize h2.push {cls:=.type "tuple",data:=.seq #[.ref hp.objs.size,.ref (hp.objs.size+1)]}=h3 at z3 g3 k3 ⊢;rw[z2] at g3 ⊢;have z4:(h3.push {cls:=.type "tuple",data:=.seq #[.none,.none]}).objs.size=hp.objs.size+4:=(Mn ..).trans (by rw[z3]);have g4:(h3.push {cls:=.type "tuple",data:=.seq #[.none,.none]}).get? h3.objs.size=some {cls:=.type "tuple",data:=.seq #[.none,.none]}:=Lu _ rfl;have k4:∀c o,h3.get? c=some o->(h3.push {cls:=.type "tuple",data:=.seq #[.none,.none]}).get? c=some o:=λc o e=>Lh _ e;generalize h3.push {cls:=.type "tuple",data:=.seq #[.none,.none]}=h4 at z4 g4 k4 ⊢;rw[z3] at g4 ⊢;have g5:∀o:Obj,o.isFreed=false->(h4.push o).get? (hp.objs.size+4)=some o:=λo f=>by rw[←z4];exact Lu _ f
 rw[z4];have k5:∀c o u,h4.get? c=some o->(h4.push u).get? c=some o:=λc o u e=>Lh _ e;refine q _ ⟨g5 _ rfl,k5 _ _ _ (k4 _ _ g3),⟨_,_,k5 _ _ _ g4⟩,⟨⟨_,k5 _ _ _ (k4 _ _ (k3 _ _ (k2 _ _ g1))),rfl,rfl⟩,?_⟩,⟨⟨_,k5 _ _ _ (k4 _ _ (k3 _ _ g2)),rfl,rfl⟩,?_⟩,?_,?_,?_⟩ λc o e=>k5 _ _ _ (k4 _ _ (k3 _ _ (k2 _ _ (k1 _ _ e))))
 · obtain⟨o,e,r⟩:=ht;exact⟨o,k5 _ _ _ (k4 _ _ (k3 _ _ (k2 _ _ (k1 _ _ e)))),r⟩
 · exact hl.at λo e=>k5 _ _ _ (k4 _ _ (k3 _ _ (k2 _ _ (k1 _ _ e))))
 · refine⟨?_,?_,?_⟩ <;> simp only[Li,M1,or_false,not_or] <;> exact⟨by intro e;have e:(_:Nat)=_:=e;omega,by intro e;have e:(_:Nat)=_:=e;omega⟩
 · refine⟨?_,?_,?_⟩ <;> simp only[Li,M1,or_false,not_or] <;> exact⟨by intro e;have e:(_:Nat)=_:=e;omega,by intro e;have e:(_:Nat)=_:=e;omega⟩
 · refine⟨?_,?_,?_,?_,?_,?_,?_,?_,?_⟩ <;> intro e <;> have e:(_:Nat)=_:=e <;> omega
theorem Er {t l:Addr}{xs ys:Array Value}{Q:N5}(ht:s.heap.IsTuple t xs)(hl:s.heap.IsList l ys)
  (q:∀h',Zt (s.heap.objs.size+4) (s.heap.objs.size+2) (s.heap.objs.size+3) s.heap.objs.size (s.heap.objs.size+1) t l xs ys .none 0 h'->(∀c o,s.heap.get? c=some o->h'.get? c=some o)->Q (.ref (s.heap.objs.size+4)) {s with heap:=h'}):wpAny (model P w) A (call (.type "zip") [.ref t,.ref l]) Q E s :=
 callType_new F.called_zip (by decide) (F.typeCall_zip_2 _ _) (F.newCall_zip_2 _ _) (λo=>F.args_object_init_3 o _ _) F.entry_zip_new (Hh t l xs ys) ⟨ht,hl,λh' Z k=>⟨⟨_,Z.zp,rfl⟩,q h' Z k⟩⟩
theorem um {t l:Addr}{xs ys:Array Value}{k:Nat}{x y:Value}{Q:Option Value->Shared->Prop}(n1:t≠i1)(n2:l≠i2)(Z:Zt z TI TO i1 i2 t l xs ys .none k s.heap)(hx:xs[k]?=some x)(hy:ys[k]?=some y)
  (q:∀h',Zt z TI TO i1 i2 t l xs ys (rawInt s.heap.objs.size) (k+1) h'->IsPair h' s.heap.objs.size x y->(∀c o,c≠z->c≠TO->c≠i1->c≠i2->s.heap.get? c=some o->h'.get? c=some o)->Q (some (.ref s.heap.objs.size)) {s with heap:=h'}):wpAny (model P w) A (pyNext (.ref z)) Q E s:=by
 have ty:s.TypeIs (.ref z) "zip":=⟨_,Z.zp,rfl⟩;unfold pyNext;exact Ld (wpAny_attempt (Mu (name:=Str.ofString "__next__") ty F.slot_zip_next (MA F.slot_zip_next ty F.entry_zip_next (Du (yr n1) (yw n2) Z hx hy λh' a b c=>Lk (q h' a b c)) (F.args_zip_next_1 _))))
theorem sO {t l:Addr}{xs ys:Array Value}{k:Nat}{Q:Option Value->Shared->Prop}(hh:A.handled=none)(n1:t≠i1)(n2:l≠i2)(Z:Zt z TI TO i1 i2 t l xs ys .none k s.heap)(he:xs[k]?=none∨ys[k]?=none)
  (q:∀h',(∀c o,c≠z->c≠TO->c≠i1->c≠i2->s.heap.get? c=some o->h'.get? c=some o)->Q none {s with heap:=h'}):wpAny (model P w) A (pyNext (.ref z)) Q E s:=by
 have ty:s.TypeIs (.ref z) "zip":=⟨_,Z.zp,rfl⟩;unfold pyNext;refine Ld (wpAny_attempt (Mu (name:=Str.ofString "__next__") ty F.slot_zip_next (MA F.slot_zip_next ty F.entry_zip_next (C_ hh (yr n1) (yw n2) Z he λh' e kp st=>?_) (F.args_zip_next_1 _))));obtain⟨o,e1,e2⟩:=st;exact Ld (wpAny_isInstance (T:="StopIteration") (b:=true) ⟨o,e1,e2⟩ isSubtype_stop (Lk (q _ kp)))
end
end BwX
namespace BwX
open PySem PyProof.Rows
section
variable {P:Program}{w:World}{A:Around}{E:N5}{s:Shared}
theorem BH {S t:Addr} {its:Array Value} {ns:List Int} {R:Result->Shared->Prop} {led:Bool} (hh:A.handled=none) (ht:s.heap.IsTuple t its) (hi:IntsAre its.toList ns) (hb:its.size+1 < scanBound) (ne:t≠S)
  (hS:s.heap.get? S=some {cls:=.type "set",dict:=none,data:=.set #[] 0 (.fresh 0 0 led)})
  (q:∀(h':Heap) (tk:Nat),h'.SetOf (intKind P w) S (λk=>(firstMet (λi=>ns.getD i 0) its.size).any (·==k)) (firstMet (λi=>ns.getD i 0) its.size).length->(∀b o,b≠S->s.heap.get? b=some o->h'.get? b=some o)->R (.ok (.ret .none)) {s with heap:=h',toks:=tk}) :
  codeAny (model P w) A (.builtin "set.__init__" ⟨[.ref S,.ref t],[]⟩) R s:=by
 have ty:=ht.typeIs;have hT:s.TypeIs (.ref S) "set":=⟨_,hS,rfl⟩;have b1:=F.sub_tuple_set;have b2:=F.sub_tuple_frozenset;have pl:plainId "set.__init__"=true:=by decide +kernel
 refine codeAny_builtin F.entry_set_init ?_;rw[Around.under_plainId pl _];obtain⟨hp,ga,d,tk,os⟩:=s;have t0:(Shared.heap ⟨hp,ga,d,tk,os⟩).IsTuple t its:=ht
 wp_walk using wpAny_pyIter_tuple t0
 have lt:t < hp.objs.size:=by obtain⟨_,e,_⟩:=ht;exact Lq e
 have lS:S < hp.objs.size:=Lq hS;have hh1:A.in1.in1.handled=none:=by simp[hh]
 refine codeAny_set_update_loopS ((Walks.tuple hh1 hp.objs.size t (LP lt) its).toS) S (by simp only[Li,M1,or_false,not_or];exact⟨LP lS,ne.symm⟩) (λi=>ns.getD i 0) (λi v hv=>IntsAre.int_at hi i v (by rw[Array.getElem?_toList];exact hv)) hb its.size 0 _ (by omega) (LJ _) ?_ ?_ ?_
 · exact⟨⟨_,Lu _ rfl,rfl,rfl⟩,ht.push _⟩
 · exact SetOf_congr ((setObjOf_fresh led).setOf (Lh _ hS) (by decide)) (λ_=>rfl) rfl
 · rintro⟨h',g',d',tk',os'⟩ mv hq;obtain rfl:g'=ga:=mv.gens;obtain rfl:d'=d:=mv.drawn;obtain rfl:os'=os:=mv.os
   wp_walk
   refine q h' tk' hq λb o n e=>mv.heap b o ?_ (Lh _ e);simp only[Li,M1,or_false,not_or];exact⟨n,LP (Lq e)⟩
def HB (o:Obj):Prop:=∃led:Bool,o={cls:=.type "set",dict:=none,data:=.set #[] 0 (.fresh 0 0 led)}
theorem Ah {t:Addr}{its:Array Value}{ns:List Int}{Q:N5}(hh:A.handled=none)(ht:s.heap.IsTuple t its)(hi:IntsAre its.toList ns)(hb:its.size+1 < scanBound)
  (q:∀(h':Heap) (tk:Nat),h'.SetOf (intKind P w) s.heap.objs.size (λk=>(firstMet (λi=>ns.getD i 0) its.size).any (·==k)) (firstMet (λi=>ns.getD i 0) its.size).length->(∀b o,s.heap.get? b=some o->h'.get? b=some o)->Q (.ref s.heap.objs.size) {s with heap:=h',toks:=tk}) :
  wpAny (model P w) A (call (.type "set") [.ref t]) Q E s:=by
 have c1:=NF.notType;have c2:=NF.canCreate;have c3:=NF.made;have c4:=NF.sub;have c5:=F.typeCall_set_1 (.ref t);obtain⟨_,_,c6⟩:=NF.mro;refine wpAny_call (codeAny_of_tree (Lk ⟨Code.quiet_builtin _ (by decide +kernel),codeAny_builtin F.entry_type_call ?_⟩));rw[Around.under_plain (weight_type_call_type "set" [.ref t] []) rfl]
 wp_walk
 refine NT (code_set_new_1 (.ref t) (E:=E) (Q₁:=λv s1=>∃g o,v=.ref s.heap.objs.size/\s1={s with heap:=g}/\g.get? s.heap.objs.size=some o/\HB o/\∀b u,s.heap.get? b=some u->g.get? b=some u) λled=>⟨_,_,rfl,rfl,Lu _ rfl,⟨led,rfl⟩,λb u e=>Lh _ e⟩) λr s1 z=>?_
 match r,z with
 |.error e,z=>exact z
 |.ok (.ret v),z =>
  obtain⟨g,_,rfl,rfl,at0,⟨led,rfl⟩,kept⟩:=z;have ty:Shared.TypeIs {s with heap:=g} (.ref s.heap.objs.size) "set":=⟨_,at0,rfl⟩;have c7:=NF.init.lookup;have c8:=NF.init.bind (.ref s.heap.objs.size)
  wp_walk
  have there:g.IsTuple t its:=ht.at λo e=>kept t o e;have apart:t≠s.heap.objs.size:=by obtain⟨_,e,_⟩:=ht;exact LP (Lq e)
  refine codeAny_call_builtin_code (plainId_quiet (by decide +kernel) _) (check_set_init_1 ty (BH (A:=A.in1) (ns:=ns) (by simp[hh]) there hi hb apart at0 λh' tk hq kp=>?_))
  wp_walk
  exact q h' tk hq λb o e=>kp b o (LP (Lq e)) (kept b o e)
end
end BwX
namespace Bw
open PySem PySem.Spec PyProof.Rows L2
def Fn (P:Program)(w:World)(K:N4)(mg:N6)(base:Heap)(CX:lR)(k:Nat)(x:Str)(ps:List Str)(sp:Sp):Prop :=
 ∃(f:Addr) (fd:FuncData),mg x=some (.ref f)/\PySem.W.keepIn K (.ref f)=true/\Binds K fd ps []/\bc P w K mg base CX k f fd ps sp
def g_ (K:N4)(mg:N6)(x:Str)(st:Stmt):Prop:=∃(f:Addr) (fd:FuncData),mg x=some (.ref f)/\dG K x x st f fd
section
variable {X:Cx}{CX:lR}{k:Nat}{x:Str}{ps:List Str}{sp:Sp}{E:XK}{p pos:Pos}{e:Expr}{es:List Expr}{t:TA}
theorem aV (F:Fn X.prog X.w X.K X.mg X.base CX k x ps sp) (hr:cX k X.A) (hx:Passes CX X E) (ha:PA X (e::es) t) (hg:Gl X x:=by rfl) (hdb:(x==("__debug__":Str))=false:=by decide) (he:starEach (e::es) X.env=(false,eval e X.env)::starEach es X.env:=by rfl) (hpl:(backTo pos (starEach es X.env)).any (·.1)=false:=by rfl) :
  PE X (.Call (.Name x p) (e::es) [] pos) (nE sp [] E t):=by
 obtain⟨f,fd,hm,hk,hb,F⟩:=F;exact EO F hr hg hm hk hb .nil hx ha hdb he hpl
end
section
variable {P:Program}{w:World}{K:N4}{mg:N6}{base:Heap}
theorem g_.mk {CX:lR} {x:Str} {st:Stmt} {ps:List Str} {k:Nat} {sp:Sp} (D:g_ K mg x st)
  (hb:∀(kV doc pm:Value) (an:Option Addr) (cdv ct:Value) (us:N8),us.length=ps.length->bindArgs (PySem.W.fnOf x x (cR st) (cx st) (ax st) .none kV doc pm an cdv ct) ⟨us,[]⟩=pure (ps.zip us))
  (ok:∀f fd,dG K x x st f fd->bc P w K mg base CX k f fd ps sp):Fn P w K mg base CX k x ps sp:=by
 obtain⟨f,fd,hm,F⟩:=D;exact⟨f,fd,hm,F.kp,F.binds hb,ok f fd F⟩
theorem Fn.mono {CX:lR}{x:Str}{ps:List Str}{j k:Nat}{sp:Sp}(F:Fn P w K mg base CX j x ps sp)(h:j<=k):Fn P w K mg base CX k x ps sp:=by
 obtain⟨f,fd,hm,hk,hb,F⟩:=F;exact⟨f,fd,hm,hk,hb,F.mono h⟩
end
def st (w:W):Str:=⟨w.toArray⟩
theorem qv (w:W):TL.tl (st w)=w:=rfl
theorem b6 (w:W):(st w).length=w.length:=by rw[TL.k9,qv]
theorem jK {v w:W}:st v=st w↔v=w:=⟨λh=>by have:=Ml TL.tl h;exact this,λh=>by rw[h]⟩
theorem kI {s:String}:Str.ofString s=st (cd s):=TL.wH (by rw[TL.gH,qv];rfl)
def Gv (mg:N6)(x:Str)(v:V):Prop:=∃u,mg x=some u/\RelV v u
theorem bg {X:Cx}{x:Str}{v:V}{pos:Pos}(h:Gv X.mg x v)(hg:Gl X x:=by rfl)(hd:(x==("__debug__":Str))=false:=by decide):PE X (.Name x pos) (tC v):=by
 obtain⟨u,hm,r⟩:=h;exact C4 hg hm r hd
theorem fs {N P:List Str}{sc:Scope}(a:sc.kind=.function:=by rfl)(b:sc.isCoroutine=false:=by rfl)(c:sc.isGenerator=false:=by rfl)(d:N.Nodup:=by decide +kernel)(e:N.take P.length=P:=by rfl)(f:∀x∈P,sc.names.lookup x=some .local∨sc.names.lookup x=some .cell:=by decide +kernel)(g:∀y∈sc.names,y.2≠.free:=by decide +kernel):aI N P sc:=⟨a,b,c,d,e,f,g⟩
end Bw
namespace L2
open PySem PySem.Spec PyProof.Rows
def Ev (t:TE)(σ:St)(H:Hp)(v:V):Prop:=∀R:VK,R v H->t σ H R
def Tv (t:TT)(σ:St)(H:Hp)(b:Bool):Prop:=∀R:Bool->Hp->Prop,R b H->t σ H R
section
variable {σ:St}{H:Hp}{ta tb tc te:TE}{t u:TT}{x y v:V}{i j k:Int}{b c:Bool}{K:N4}{a p:Addr}{xs ys:List V}
theorem ag {n:Nat} (h:σ[n]?=some (some v)):Ev (cH n) σ H v:=λ_ r=>⟨v,h,r⟩
theorem aE:Ev (tC v) σ H v:=λ_ r=>r
theorem lO {f:Int->Int->V}(ha:Ev ta σ H (.int i))(hb:Ev tb σ H (.int j)):Ev (kG (qB f) ta tb) σ H (f i j):=λ_ r=>ha _ (hb _ ⟨i,j,rfl,rfl,r⟩)
theorem yM {C:Int->Int->Prop}{f:Int->Int->V}(ha:Ev ta σ H (.int i))(hb:Ev tb σ H (.int j))(h:C i j):Ev (kG (rI C f) ta tb) σ H (f i j):=λ_ r=>ha _ (hb _ ⟨i,j,rfl,rfl,h,r⟩)
theorem b9 (ha:Ev ta σ H x)(hb:Ev tb σ H y)(s:C3 x y=true:=by rfl):Ev (kG JK ta tb) σ H (.bl (decide (x=y))):=λ_ r=>ha _ (hb _ ⟨s,r⟩)
theorem qw (ha:Ev ta σ H x)(hb:Ev tb σ H y)(s:C3 x y=true:=by rfl):Ev (kG KD ta tb) σ H (.bl (!decide (x=y))):=λ_ r=>ha _ (hb _ ⟨s,r⟩)
theorem tT (ha:Ev ta σ H x):Ev (kG (λx y H Q=>y=.cj/\Q (.bl (decide (x=.cj))) H) ta (tC .cj)) σ H (.bl (decide (x=.cj))):=λ_ r=>ha _ ⟨rfl,r⟩
theorem Bo {n:Nat}{z:Str}(ha:Ev ta σ H (.str ⟨#[n]⟩))(hb:Ev tb σ H (.str z)):Ev (kG (λx y H Q=>∃(c:Nat) (z:Str),x=.str ⟨#[c]⟩/\y=.str z/\Q (.bl (decide (c∈z.cps.toList))) H) ta tb) σ H (.bl (decide (n∈z.cps.toList))):=λ_ r=>ha _ (hb _ ⟨n,z,rfl,rfl,r⟩)
theorem EM {n:Nat}{z:Str}(ha:Ev ta σ H (.str ⟨#[n]⟩))(hb:Ev tb σ H (.str z)):Ev (kG (λx y H Q=>∃(c:Nat) (z:Str),x=.str ⟨#[c]⟩/\y=.str z/\Q (.bl (!decide (c∈z.cps.toList))) H) ta tb) σ H (.bl (!decide (n∈z.cps.toList))):=λ_ r=>ha _ (hb _ ⟨n,z,rfl,rfl,r⟩)
theorem mB {neg:Bool}(ha:Ev ta σ H x)(hb:Ev tb σ H (.ref p))(s:aU K H p xs∨bZ K H p xs)(f:dJ x=true)(fs:xs.all dJ=true):Ev (kG (FU K neg) ta tb) σ H (.bl (if neg then !n9 x xs else n9 x xs)):=λ_ r=>ha _ (hb _ ⟨p,xs,rfl,s,f,fs,r⟩)
theorem sM {z:Str}{n:Nat}(ha:Ev ta σ H (.str z))(hb:Ev tb σ H (.int i))(hz:z.length<=sizeLine)(e:nJ z.cps.toList i=some n):Ev (kG JC ta tb) σ H (.str ⟨#[n]⟩):=λ_ r=>ha _ (hb _ ⟨z,i,n,rfl,rfl,hz,e,r⟩)
theorem a_ (ha:Ev ta σ H (.ref p))(hb:Ev tb σ H (.int i))(s:aU K H p xs)(e:nJ xs i=some v):Ev (kG (zQ K) ta tb) σ H v:=λ_ r=>ha _ (hb _ ⟨p,xs,i,v,rfl,rfl,s,e,r⟩)
theorem BB (ha:Ev ta σ H (.ref p))(hb:Ev tb σ H (.int i))(s:bZ K H p xs)(e:nJ xs i=some v):Ev (kG (JE K) ta tb) σ H v:=λ_ r=>ha _ (hb _ ⟨p,xs,i,v,rfl,rfl,s,e,r⟩)
theorem bo {C dx:Addr}{fs:List (Str×V)}{f:Str}(ha:Ev ta σ H (.ref a))(e:H a=some (.ins C dx fs))(c:yy K C)(n:gY K C f)(l:fs.lookup f=some v):Ev (ux K ta f) σ H v:=λ_ r=>ha _ ⟨a,C,dx,fs,v,rfl,e,c,n,l,r⟩
theorem aZ (ha:Ev ta σ H (.ref p))(s:aU K H p xs∨bZ K H p xs):Ev (HR (λxs H Q=>∃p ys,xs=[.ref p]/\(aU K H p ys∨bZ K H p ys)/\Q (.int ys.length) H) (cU ta eZ)) σ H (.int xs.length):=λ_ r=>ha _ ⟨p,xs,rfl,s,r⟩
theorem t8 {z:Str}(ha:Ev ta σ H (.str z))(hz:z.length<=sizeLine):Ev (HR (λxs H Q=>∃z,xs=[.str z]/\z.length<=sizeLine/\Q (.int z.length) H) (cU ta eZ)) σ H (.int z.length):=λ_ r=>ha _ ⟨z,rfl,hz,r⟩
theorem JA (ha:Ev ta σ H (.bl b))(hb:b=false->Ev tb σ H (.bl c)):Ev (Jo ta tb) σ H (.bl (b||c)):=λR r=>ha _ ⟨b,rfl,by
 cases b with
 |false=>exact t7 (hb rfl _ r)
 |true=>exact n_ r⟩
theorem aL (h:Ev te σ H (.bl b)):Tv (pH te) σ H b:=λ_ r=>h _ ⟨b,rfl,r⟩
theorem Kg (h:Ev te σ H (.bl b)):Tv (tB te) σ H b:=λ_ r=>h _ ⟨b,rfl,r⟩
theorem BZ {p q:Int->Int->Bool}(ha:Ev ta σ H (.int i))(hb:Ev tb σ H (.int j))(hc:Ev tc σ H (.int k)):Ev (wC (qB λi j=>.bl (p i j)) (qB λi j=>.bl (q i j)) ta tb tc) σ H (.bl (p i j&&q j k)):=λR r=>ha _ (hb _ ⟨i,j,rfl,rfl,p i j,rfl,by
 cases h:p i j with
 |false=>rw[h] at r;exact t7 r
 |true=>rw[h] at r;exact n_ (hc _ ⟨j,k,rfl,rfl,r⟩)⟩)
theorem cC {p q:Int->Int->Bool}(ha:Ev ta σ H (.int i))(hb:Ev tb σ H (.int j))(hc:Ev tc σ H (.int k)):Tv (pH (wC (qB λi j=>.bl (p i j)) (qB λi j=>.bl (q i j)) ta tb tc)) σ H (p i j&&q j k):=aL (BZ ha hb hc)
theorem jC {p:Int->Int->Bool}(ha:Ev ta σ H (.int i))(hb:Ev tb σ H (.int j)):Tv (pH (kG (qB λi j=>.bl (p i j)) ta tb)) σ H (p i j):=λ_ r=>ha _ (hb _ ⟨i,j,rfl,rfl,_,rfl,r⟩)
theorem e_ (h:Tv t σ H b):Tv (IV t) σ H (!b):=λ_ r=>h _ r
theorem oR (h:Tv t σ H b)(h2:b=true->Tv u σ H c):Tv (Iw t u) σ H (b&&c):=λR r=>h _ (by
 cases b with
 |false=>exact t7 r
 |true=>exact n_ (h2 rfl _ r))
theorem gP (h:Tv t σ H b)(h2:b=false->Tv u σ H c):Tv (KC t u) σ H (b||c):=λR r=>h _ (by
 cases b with
 |false=>exact t7 (h2 rfl _ r)
 |true=>exact n_ r)
theorem tM (ha:Ev ta σ H (.int i)):Ev (KI (rU λi=>.int (-i)) ta) σ H (.int (-i)):=λ_ r=>ha _ ⟨i,rfl,r⟩
theorem IU {z:Str}{r:V->List V->Hp->VK->Prop}(ha:Ev ta σ H (.str z))(h:∀R,R v H->r (.str z) [] H R):Ev (KL r ta) σ H v:=λR q=>ha _ ⟨⟨z,rfl⟩,h R q⟩
theorem aX {D:Ends}{s1 s2:TS}(h:Tv t σ H b)(q1:b=true->s1 D σ H)(q2:b=false->s2 D σ H):JB t s1 s2 D σ H:=h _ (by
 cases b with
 |false=>exact t7 (q2 rfl)
 |true=>exact n_ (q1 rfl))
theorem bU {D:Ends}(h:Ev te σ H v)(q:D.rt v H):Dz te D σ H:=h _ q
theorem cE {D:Ends}{n:Nat}(h:Ev te σ H v)(q:D.nx (σ.set n (some v)) H):Bt te (gG n) D σ H:=h _ q
theorem HJ {D:Ends}{s1 s2:TS}(q:s1 {D with nx:=s2 D} σ H):HG s1 s2 D σ H:=q
end
theorem au.laid {H H':Hp}{p:Addr}{o:HO}(e:au H H')(h:H p=none):au H (upd H' p o):=λb u q=>by
 rw[aq (ao q h)];exact e b u q
section
variable {σ:St}{H:Hp}{ta tb tc:TE}{i j c:Int}
theorem yS {n:Nat} {R:It->Hp->Prop} (ha:Ev ta σ H (.int i)) (hb:Ev tb σ H (.int j)) (hc:Ev tc σ H (.int c)) (rg:IQ i j c n) (q:R (HS i c n) H):E7 (cU ta (cU tb (cU tc eZ))) σ H R:=ha _ (hb _ (hc _ ⟨i,j,c,n,rfl,rg,q⟩))
theorem zb {R:It->Hp->Prop}(ha:Ev ta σ H (.int i))(hb:Ev tb σ H (.int j))(rg:-(2 ^ 62)<=i/\i < 2 ^ 62/\-(2 ^ 62)<=j/\j < 2 ^ 62)(q:R (An i (j - i).toNat) H):Ff (cU ta (cU tb eZ)) σ H R:=ha _ (hb _ ⟨i,j,rfl,rg,q⟩)
theorem tD {R:It->Hp->Prop}(ha:Ev ta σ H (.int j))(h1:-(2 ^ 62)<=j)(h2:j < 2 ^ 62)(q:R (An 0 j.toNat) H):CJ (cU ta eZ) σ H R:=ha _ ⟨j,rfl,h1,h2,q⟩
theorem qt {wi:TI}{g:TG}{tb:TS}{D:Ends}(h:wi σ H λJ H1=>∃W:Nat->Nat->St->Hp->Prop,(∃m,W 0 m σ H1)/\∀i m σ H,W i m σ H ->
  (J.stop i H/\D.nx σ H)∨(J.go i H/\∃N:St->Hp->Prop,(∀σ' H',N σ' H'->∃m',m' < m/\W (i+1) m' σ' H')/\∀x H',J.vS i H x H'->g x σ H' λσ2 H2=>tb {D with nx:=N,ct:=N,bk:=D.nx} σ2 H2)):GG wi g tb D σ H:=h
end
theorem HF {z:Str}{g:TG}{tt:TT}{te:TE}{vs:N3}{σ:St}{H1:Hp}{D:Addr}{Qd:Hp->Prop}(Pv:Nat->Hp->Prop)(h0:Pv 0 (upd H1 D (.lst [])))
  (hs:∀i c H,z.cps.toList[i]?=some c->Pv i H->g (.str ⟨#[c]⟩) (wipe σ vs) H λσ2 H2=>wipe σ2 vs=wipe σ vs/\tt σ2 H2 λb H3 =>
   if b=true then te σ2 H3 λy H4=>∃acc,H4 D=some (.lst acc)/\acc.length < sizeLine/\Pv (i+1) (upd H4 D (.lst (acc++[y]))) else Pv (i+1) H3) (hd:∀H,Pv z.cps.toList.length H->Qd H) :
  ∃W:Nat->Nat->Hp->Prop,(∃m,W 0 m (upd H1 D (.lst [])))/\∀i m H,W i m H ->
   ((Il z).stop i H/\Qd H)∨((Il z).go i H/\∃Nx:Hp->Prop,(∀H',Nx H'->∃m',m' < m/\W (i+1) m' H')/\∀x H',(Il z).vS i H x H'->g x (wipe σ vs) H' λσ2 H2=>wipe σ2 vs=wipe σ vs/\tt σ2 H2 λb H3 =>
    if b=true then te σ2 H3 λy H4=>∃acc,H4 D=some (.lst acc)/\acc.length < sizeLine/\Nx (upd H4 D (.lst (acc++[y]))) else Nx H3):=by
 have sz:z.cps.toList.length=z.cps.size:=MZ;refine⟨λi m H=>m=z.cps.size - i/\i<=z.cps.size/\Pv i H,⟨z.cps.size,by simp,LJ _,h0⟩,?_⟩;rintro i m H ⟨rfl,hi,p⟩;by_cases hlt:i < z.cps.size
 · refine .inr ⟨hlt,Pv (i+1),λH' p'=>⟨z.cps.size - (i+1),by omega,rfl,hlt,p'⟩,λx H' y=>?_⟩;obtain⟨e,c,hc,rfl⟩:=y;subst e;exact hs i c _ (by rw[Array.getElem?_toList];exact hc) p
 · have e:i=z.cps.size:=by omega
   subst e;exact .inl ⟨Ln _,hd H (by rw[sz];exact p)⟩
end L2
namespace Bw
open PySem PySem.Spec PyProof.Rows L2
abbrev Ac:Str:=Str.ofString "abcdefghijklmnopqrstuvwxyz"
abbrev z_:Str:=Str.ofString "0123456789"
structure GW (mg:N6):Prop where
 ub:Gv mg "LETTERS" (.str Ac)
 digits:Gv mg "DIGITS" (.str z_)
 most:Gv mg "MOST_NAME" (.int 12)
 Jl:Gv mg "MOST_DIGITS" (.int 7)
 len:mg "len"=none
 all:mg "all"=none
 int:mg "int"=none
theorem Ay:TL.tl Ac=(List.range 26).map (·+97):=by rw[TL.gH];decide +kernel
theorem BN:TL.tl z_=(List.range 10).map (·+48):=by rw[TL.gH];decide +kernel
theorem F_ {c:Nat}(h1:97<=c)(h2:c<=122):nJ (Ac.cps.toList) ((c:Int) - 97)=some c:=by
 have e:((c:Int) - 97)=((c - 97:Nat):Int):=by omega
 rw[e];refine cw ?_;have q:Ac.cps.toList=(List.range 26).map (·+97):=Ay;rw[q,Lj,MY (by omega)];simp;omega
theorem Hr {c:Nat}(h1:48<=c)(h2:c<=57):nJ (z_.cps.toList) ((c:Int) - 48)=some c:=by
 have e:((c:Int) - 48)=((c - 48:Nat):Int):=by omega
 rw[e];refine cw ?_;have q:z_.cps.toList=(List.range 10).map (·+48):=BN;rw[q,Lj,MY (by omega)];simp;omega
theorem xo (c:Nat):decide (c∈Ac.cps.toList)=isLet c:=by
 have q:Ac.cps.toList=(List.range 26).map (·+97):=Ay;rw[q,LR];unfold isLet;simp only[Lm,Ll,LM,M3];constructor
 · rintro⟨x,hx,rfl⟩;omega
 · rintro⟨h1,h2⟩;exact⟨c - 97,by omega,by omega⟩
theorem Gg (c:Nat):decide (c∈z_.cps.toList)=bX c:=by
 have q:z_.cps.toList=(List.range 10).map (·+48):=BN;rw[q,LR];unfold bX;simp only[Lm,Ll,LM,M3];constructor
 · rintro⟨x,hx,rfl⟩;omega
 · rintro⟨h1,h2⟩;exact⟨c - 48,by omega,by omega⟩
def Cs:Sp:=λvs H Q _=>∃c:Nat,vs=[.int c]/\Q (.str (st [sg c])) H
theorem Eo {c:Nat}(h:97<=c/\c<=122):sg c=c:=by unfold sg tX isLet;simp[h]
theorem C7 {c:Nat}(h:48<=c/\c<=57):sg c=c:=by unfold sg tX bX;simp[h]
theorem ID {c:Nat}(h1:¬(97<=c/\c<=122))(h2:¬(48<=c/\c<=57))(h3:c≠32)(h4:c≠10)(h5:c≠44)(h6:c≠47):sg c=63:=by
 unfold sg tX isLet bX;have e1:(decide (97<=c)&&decide (c<=122))=false:=by simp;omega
 have e2:(decide (48<=c)&&decide (c<=57))=false:=by simp;omega
 rw[e1,e2];simp[h3,h4,h5,h6]
section
variable {P:Program}{w:World}{K:N4}{mg:N6}{base:Heap}
theorem EU:aI ["code"] ["code"] (ax kq):=fs
theorem D8 (G:GW mg){f:Addr}{fd:FuncData}(F:dG K "sign_of" "sign_of" kq f fd):bc P w K mg base bG 1 f fd ["code"] Cs:=by
 refine F.ok EU (λvs H Q E h=>?_) (λcdv A outer s H vs Q E hr h=>?_)
 · obtain⟨c,rfl,_⟩:=h;rfl
 · obtain⟨c,rfl,q⟩:=h;refine⟨_,af (aS (cD b7 b7 aw (pv 0) aw) (ak (az (bq ui (bg G.ub) (bH fH (pv 0) aw) (λ_ _=>rfl)))) aD)
    (af (aS (cD b7 b7 aw (pv 0) aw) (ak (az (bq ui (bg G.digits) (bH fH (pv 0) aw) (λ_ _=>rfl)))) aD)
    (af (aS (aC ck (pv 0) aw (aM _)) (ak (az bt)) aD)
    (af (aS (aC ck (pv 0) aw (aM _)) (ak (az bt)) aD)
    (af (aS (aC ck (pv 0) aw (aM _)) (ak (az bt)) aD)
    (af (aS (aC ck (pv 0) aw (aM _)) (ak (az bt)) aD)
    (ak (az bt))))))),?_⟩
   refine aX (cC aE (ag rfl) aE) (λh=>?_) (λh1=>?_)
   · simp only[Ll,Lm] at h;refine bU (sM aE (lO (ag rfl) aE) (by decide +kernel) (F_ (c:=c) (by omega) (by omega))) ?_;rw[Eo (by omega)] at q;exact q
   refine aX (cC aE (ag rfl) aE) (λh=>?_) (λh2=>?_)
   · simp only[Ll,Lm] at h;refine bU (sM aE (lO (ag rfl) aE) (by decide +kernel) (Hr (c:=c) (by omega) (by omega))) ?_;rw[C7 (by omega)] at q;exact q
   have step:∀(n:Nat) (b:Bool),b=decide (V.int (c:Int)=V.int (n:Int))->(b=true->c=n)/\(b=false->c≠n):=λn b e=>by
    rw[a9] at e;subst e;constructor
    · intro z;have:=MI z;omega
    · intro z z2;subst z2;simp at z
   refine aX (aL (b9 (ag rfl) aE)) (λh=>?_) (λh3=>?_)
   · have e:=(step 32 _ rfl).1 h;subst e;exact bU aE q
   refine aX (aL (b9 (ag rfl) aE)) (λh=>?_) (λh4=>?_)
   · have e:=(step 10 _ rfl).1 h;subst e;exact bU aE q
   refine aX (aL (b9 (ag rfl) aE)) (λh=>?_) (λh5=>?_)
   · have e:=(step 44 _ rfl).1 h;subst e;exact bU aE q
   refine aX (aL (b9 (ag rfl) aE)) (λh=>?_) (λh6=>?_)
   · have e:=(step 47 _ rfl).1 h;subst e;exact bU aE q
   rw[ID (λz=>by simp at h1;omega) (λz=>by simp at h2;omega) ((step 32 _ rfl).2 h3) ((step 10 _ rfl).2 h4) ((step 44 _ rfl).2 h5) ((step 47 _ rfl).2 h6)] at q;exact q
def tN (K:N4):Sp:=λvs H Q _=>∃(a:Addr) (cs:N3),vs=[.ref a]/\aU K H a (cs.map λc=>V.int (c:Nat))/\cs.length<=70000/\∀H',au H H'->Q (.str (st (cs.map sg))) H'
theorem take_snoc {α:Type}{l:List α}{i:Nat}{x:α}(h:l[i]?=some x):l.take (i+1)=l.take i++[x]:=by
 rw[List.take_add_one,h];rfl
theorem xG (l:N3):Txt.join (Str.ofString "") (l.map λc=>st [c])=st l:=by
 rw[TL.join_eq];refine TL.wH ?_;rw[TL.za,TL.gH,qv];show TL.dI [] ((l.map λc=>st [c]).map TL.tl)=l;rw[LF]
 induction l with
 |nil=>rfl
 |cons c l ih =>
  cases l with
  |nil=>rfl
  |cons d l =>
   have ih:TL.dI [] ((d::l).map (TL.tl ∘ λc=>st [c]))=d::l:=ih;show [c]++([]++TL.dI [] ((d::l).map (TL.tl ∘ λc=>st [c])))=c::d::l;rw[ih];rfl
theorem sx:aI ["codes","code"] ["codes"] (ax j8):=fs
theorem D_ {k:Nat}(FS:Fn P w K mg base bG k "sign_of" ["code"] Cs){f:Addr}{fd:FuncData}(F:dG K "text_of" "text_of" j8 f fd):bc P w K mg base bG (k+1) f fd ["codes"] (tN K):=by
 refine F.ok sx (λvs H Q E h=>?_) (λcdv A outer s H vs Q E hr h=>?_)
 · obtain⟨a,cs,rfl,_⟩:=h;rfl
 · obtain⟨a,cs,rfl,hS,hl,q⟩:=h;refine⟨_,ak (az (Dj bt (fw rfl sx.nd (bK (pv 0)) (bA (own:=[("code",1)]) rfl) (λ_ _ _ _ _=>aK (i:=1) sx.nd rfl (Or.inl rfl)) (λ_ _ _ _ _=>cn)
    (λ_ _ _ _ _=>aV FS hr bf (aa (pv 1) ah))))),?_⟩
   refine⟨⟨_,rfl⟩,_,rfl,a,rfl,⟨_,hS⟩,λD hD=>jf (K:=K) (a:=a) (xs:=cs.map λc=>V.int (c:Nat)) (λi H'=>au H H'/\H' D=some (.lst ((cs.take i).map λc=>V.str (st [sg c]))))
    ⟨(au.refl H).laid hD,ae⟩ (λi H' _ h=>h.1.seq hS) ?_ ?_⟩
   · rintro i x H' hi ⟨h1,h2⟩;rw[Lj] at hi;obtain⟨c,hc,rfl⟩:=LO.mp hi;refine⟨rfl,_,rfl,c,rfl,_,h2,?_,?_⟩
     · rw[Le,LB,LG];omega
     · refine⟨λb u z=>?_,?_⟩
       · rw[aq (ao z hD)];exact h1 b u z
       · rw[ae,take_snoc hc,Lx];rfl
   · rintro H' ⟨h1,h2⟩;rw[Le,Mb] at h2;refine⟨_,D,(cs.map sg).map (λc=>st [c]),rfl,rfl,.inl (aU.of ?_),?_,?_⟩
     · rw[h2,LF,LF];rfl
     · have e:(((cs.map sg).map (λc=>st [c])).map (·.length)).sum=cs.length:=by
        rw[LF,LF];clear h2 hS q hl
        induction cs with
        |nil=>rfl
        |cons c cs ih =>
         rw[Lv,ML,ih,Lp];show 1+cs.length=_;omega
       have e2:(Str.ofString "").length=0:=by decide +kernel
       rw[e,e2];omega
     · rw[xG];exact q H' h1
def lP:Sp:=λvs H Q _=>∃wd:W,vs=[.str (st wd)]/\wd.length<=70000/\∀H',au H H'->Q (.bl (eN wd)) H'
theorem ye {wd:W}(h:wd≠[]):nJ (st wd).cps.toList ((0:Int))=some (wd.headD 0):=by
 refine cw (j:=0) ?_;show wd[0]?=some (wd.headD 0);cases wd with
 |nil=>exact absurd rfl h
 |cons c r=>rfl
theorem mL:aI ["word","sign"] ["word"] (ax j6):=fs
theorem zr (G:GW mg){f:Addr}{fd:FuncData}(F:dG K "is_name" "is_name" j6 f fd):bc P w K mg base bG 1 f fd ["word"] lP:=by
 refine F.ok mL (λvs H Q E h=>?_) (λcdv A outer s H vs Q E hr h=>?_)
 · obtain⟨a,rfl,_⟩:=h;rfl
 · obtain⟨wd,rfl,hl,q⟩:=h;have hz:(st wd).length<=sizeLine:=by rw[b6,LG];omega
   refine⟨_,af (aS (PW.pt (eh (cF (cD b7 b7 aw (aH fM (by rfl) G.len PySem.boot_len (aa (pv 0) ah)) (bg G.most)))
     (cO (aC qD (bq ui (pv 0) aw (λ_ _=>rfl)) (bg G.ub) (by with_unfolding_all rfl))))) (ak (az lJ)) aD)
    (ak (az (aH (xm rfl) (by rfl) G.all PyProof.Rows.boot_all (aa (fw rfl mL.nd (GQ (pv 0)) (bA (own:=[("sign",1)]) rfl) (λ_ _ _ _ _=>aK (i:=1) mL.nd rfl (Or.inl rfl)) (λ_ _ _ _ _=>cn)
     (λ_ _ _ _ _=>Iq (fm o_ (pv 1) (bg G.ub) (by with_unfolding_all rfl)) (xc (fm o_ (pv 1) (bg G.digits) (by with_unfolding_all rfl))))) ah)))),?_⟩
   refine aX (gP (e_ (cC aE (t8 (ag rfl) hz) aE)) λh0=>aL (EM (sM (ag rfl) aE hz (ye ?_)) aE)) (λh=>?_) (λh=>?_)
   · rintro rfl;simp at h0;rw[b6] at h0;simp at h0
   · rw[xo] at h;refine bU aE ?_;have e:eN wd=false:=by
      unfold eN;rw[b6] at h;simp only[Me,L6,MC,LW] at h;rcases h with (h|h)|h
      · have:¬1<=wd.length:=λz=>h (by omega);simp[this]
      · have:¬wd.length<=12:=λz=>h (by omega);simp[this]
      · rw[h];simp
     rw[←e];exact q H (au.refl H)
   · rw[xo,b6] at h;simp only[Mp,L9,Ll,Lm] at h;obtain⟨⟨h1,h2⟩,h3⟩:=h;have e:eN wd=wd.all λc=>isLet c||bX c:=by
      unfold eN;have z1:decide (1<=wd.length)=true:=LU (by omega);have z2:decide (wd.length<=12)=true:=LU (by omega);rw[z1,z2,h3];simp
     refine⟨_,rfl,_,rfl,λD hD=>HF (z:=st wd) (λi H'=>au H H'/\H' D=some (.lst ((wd.take i).map λc=>V.bl (isLet c||bX c)))) ⟨(au.refl H).laid hD,ae⟩ ?_ ?_⟩
     · rintro i c H' hi ⟨k1,k2⟩;have hi:wd[i]?=some c:=hi;refine⟨rfl,?_⟩;refine (JA (Bo (ag rfl) aE) λ_=>Bo (ag rfl) aE) _ ⟨_,k2,?_,?_⟩
       · rw[Le,LB,LG];omega
       · rw[xo,Gg];refine⟨λb u z=>?_,?_⟩
         · rw[aq (ao z hD)];exact k1 b u z
         · rw[ae,take_snoc hi,Lx];rfl
     · rintro H' ⟨k1,k2⟩;have k2:H' D=some (.lst ((wd.take wd.length).map λc=>V.bl (isLet c||bX c))):=k2;rw[Mb] at k2;refine⟨D,wd.map λc=>isLet c||bX c,rfl,aU.of (by rw[k2,LF];rfl),?_⟩;have e2:((wd.map λc=>isLet c||bX c).all id)=eN wd:=by rw[e,Nl];rfl
       rw[e2];exact q H' k1
def kM:Sp:=λvs H Q _=>∃wd:W,vs=[.str (st wd)]/\wd.length<=70000/\(∀c∈wd,c < 128)/\Q (.int (ay wd)) H
theorem yT:∀c:Nat,c < 128->Unicode.isDigit c=bX c:=by decide +kernel
theorem pj {wd:W}(h:∀c∈wd,c < 128):Txt.isdigit (st wd)=(!wd.isEmpty&&wd.all bX):=by
 unfold Txt.isdigit;have e:(st wd).cps.all Unicode.isDigit=wd.all bX:=by
  show wd.toArray.all Unicode.isDigit=_;rw[List.all_toArray,LR,LI,LI];exact⟨λz c hc=>by rw[←yT c (h c hc)];exact z c hc,λz c hc=>by rw[yT c (h c hc)];exact z c hc⟩
 rw[e,b6];cases wd with
 |nil=>rfl
 |cons c r=>simp
theorem xf (wd:W):NumText.digitsVal wd=xF wd:=by
 unfold NumText.digitsVal xF;congr 1;funext n c;omega
theorem GX {wd:W}(h0:wd≠[])(h1:wd.all bX=true)(h2:wd.length<=7):intText? (st wd)=some ((xF wd:Nat):Int):=by
 rw[←xf];refine intText_digits (x:=st wd) (λc hc=>?_) h0 (by rw[b6];omega);have:=LI.mp h1 c hc;unfold bX at this;simpa using this
theorem F7:aI ["word"] ["word"] (ax gQ):=fs
theorem F5 (G:GW mg){f:Addr}{fd:FuncData}(F:dG K "number_of" "number_of" gQ f fd):bc P w K mg base bG 1 f fd ["word"] kM:=by
 refine F.ok F7 (λvs H Q E h=>?_) (λcdv A outer s H vs Q E hr h=>?_)
 · obtain⟨a,rfl,_⟩:=h;rfl
 · obtain⟨wd,rfl,hl,ha,q⟩:=h;have hz:(st wd).length<=sizeLine:=by rw[b6,LG];omega
   refine⟨_,af (aS (PW.pt (eh (aC kQ (aH fM (by rfl) G.len PySem.boot_len (aa (pv 0) ah)) (bg G.Jl) (aM _)) (cO (cF (hZ (IS PySem.F.slot_str_isdigit PySem.F.type_str_isdigit wI (pv 0))))))) (ak (az (vq pL aw))) aD)
    (af (aS (PW.pt (sH (aC ck (bq ui (pv 0) aw (λ_ _=>rfl)) bt (aM _)) (oE (aC o8 (pv 0) bt (aM _))))) (ak (az (vq pL aw))) aD)
    (ak (az (kh tV (by rfl) G.int PyProof.Rows.boot_int (aa (pv 0) ah))))),?_⟩
   refine aX (gP (aL (lO (t8 (ag rfl) hz) aE)) λh0=>e_ (Kg (IU (ag rfl) λR r=>⟨_,rfl,rfl,trivial,r⟩))) (λh=>?_) (λh=>?_)
   · refine bU (tM aE) ?_;have e:ay wd=-1:=by
      unfold ay;rw[Lg];rw[pj ha,b6] at h;simp only[Me,L6,MC,Lm] at h;rcases h with h|h|h
      · exact .inl (by omega)
      · exact .inr (.inl (by cases wd with|nil=>rfl|cons c r=>simp at h))
      · exact .inr (.inr h)
     rw[e] at q;exact q
   · rw[pj ha,b6] at h;simp only[Mp,L9,Ll,LW] at h;obtain⟨h1,h2,h3⟩:=h;have hne:wd≠[]:=by rintro rfl;simp at h2
     have e0:ay wd=if wd.headD 0=48/\wd≠[48] then -1 else (xF wd:Int):=by
      unfold ay;rw[Lf];rintro (z|z|z)
      · exact h1 (by omega)
      · exact hne z
      · rw[h3] at z;cases z
     refine aX (oR (aL (b9 (sM (ag rfl) aE hz (ye hne)) aE)) λh0=>aL (qw (ag rfl) aE)) (λh=>?_) (λh=>?_)
     · refine bU (tM aE) ?_;rw[Lg] at e0
       · rw[e0] at q;exact q
       · simp only[Ll,Lm,L6,LW] at h;refine⟨?_,λz=>h.2 ?_⟩
         · have:=h.1;injection this with this;have:=Ml TL.tl this;have:[wd.headD 0]=[48]:=this;injection this
         · rw[z];rfl
     · rw[Lf] at e0
       · rw[e0] at q;exact⟨_,rfl,_,_,rfl,GX hne h3 (by omega),by rw[b6];omega,q⟩
       · rintro⟨z1,z2⟩;simp only[MC,LW,L9,Lm] at h;rcases h with h|h
         · exact h (by rw[z1];rfl)
         · injection h with h;have h:=Ml TL.tl h;exact z2 h
end
end Bw
namespace L2
open PySem PySem.Spec PyProof.Rows
structure yc (P:Program)(w:World)(K:N4)(d:Addr)(vs:List (Key×Value)):Prop where
 dd:∀h:Heap,K.In h->h.DictOf (cv P w) d vs
 ne:(d==sysModules)=false
section
variable {X:Cx}{d:Addr}{vs:List (Key×Value)}{o i:Expr}{td ty:TE}{pos:Pos}
def Hu (d:Addr) (vs:List (Key×Value)) (td ty:TE):TE:=λσ H Q=>td σ H λx H1=>ty σ H1 λy H2=>∃k v u,x=.ref d/\y=kV k/\valueAt vs k=some u/\RelV v u/\Q v H2
def Ig (d:Addr)(vs:List (Key×Value))(ty td:TE):TE:=λσ H Q=>ty σ H λy H1=>td σ H1 λx H2=>∃k,x=.ref d/\y=kV k/\Q (.bl (valueAt vs k).isSome) H2
theorem Cy (D:yc X.prog X.w X.K d vs)(ho:PE X o td)(hi:PE X i ty)(hs:HY i):PE X (.Subscript o i pos) (Hu d vs td ty):=by
 intro pins s σ H Q I h;refine DI PySem.F.slot_dict_getitem.lookup hs (bB (ho pins s σ H _ I h) λu s1 ⟨x,H1,I1,rx,q1⟩=>bB (hi pins s1 σ H1 _ I1 q1) λiv s2 ⟨y,H2,I2,ry,k,v,u',ex,ey,hv,rv,q2⟩=>?_);subst ex ey;obtain rfl:u=Value.ref d:=rx;have dd:=D.dd s2.heap I2.mP;obtain⟨ob,es,ep,e1,e2,_⟩:=id dd;exact⟨⟨ob,e1,e2.1⟩,wpAny_getItem_of (oW ry) dd.mapOf hv ⟨v,H2,I2.tok _,rv,q2⟩⟩
theorem Dx (D:yc X.prog X.w X.K d vs)(hi:PE X i ty)(ho:PE X o td):PC X .In i o (Ig d vs ty td):=by
 intro pins s σ H Q I h;refine bB (hi pins s σ H _ I h) λiv s1 ⟨y,H1,I1,ry,q1⟩=>bB (ho pins s1 σ H1 _ I1 q1) λu s2 ⟨x,H2,I2,rx,k,ex,ey,q2⟩=>?_;subst ex ey;obtain rfl:u=Value.ref d:=rx;have dd:=D.dd s2.heap I2.mP;exact wpAny_in_of (oW ry) D.ne dd.mapOf ⟨.bl _,H2,I2.tok _,rfl,q2⟩
end
theorem au.tup {K:N4}{H H':Hp}{a:Addr}{xs:List V}(e:au H H')(h:bZ K H a xs):bZ K H' a xs:=by
 rcases h with (h|⟨o,h⟩)|h
 · exact .inl (.inl (e _ _ h))
 · exact .inl (.inr ⟨o,e _ _ h⟩)
 · exact .inr h
section
variable {α β γ:Type}{F G:α->β->Prop}
theorem Paired.qK:∀{l₁:List α} {l₂:List β} {i:Nat} {x:α},Paired F l₁ l₂->l₁[i]?=some x->∃y,l₂[i]?=some y/\F x y
 |_,_,_,_,.nil,e=>by simp at e
 |_,_,0,_,.cons r _,e=>by simp at e;subst e;exact⟨_,rfl,r⟩
 |_,_,i+1,x,.cons _ t,e=>by
  obtain⟨y,h1,h2⟩:=Paired.qK (i:=i) (x:=x) t (by simpa using e);exact⟨y,by simpa using h1,h2⟩
theorem Paired.at2:∀{l₁:List α} {l₂:List β} {i:Nat} {y:β},Paired F l₁ l₂->l₂[i]?=some y->∃x,l₁[i]?=some x/\F x y
 |_,_,_,_,.nil,e=>by simp at e
 |_,_,0,_,.cons r _,e=>by simp at e;subst e;exact⟨_,rfl,r⟩
 |_,_,i+1,y,.cons _ t,e=>by
  obtain⟨x,h1,h2⟩:=Paired.at2 (i:=i) (y:=y) t (by simpa using e);exact⟨x,by simpa using h1,h2⟩
theorem Paired.tk:∀{l₁:List α} {l₂:List β} (n:Nat),Paired F l₁ l₂->Paired F (l₁.take n) (l₂.take n)
 |_,_,0,_=>.nil
 |_,_,_+1,.nil=>.nil
 |_,_,n+1,.cons r t=>.cons r (Paired.tk n t)
theorem Paired.dp:∀{l₁:List α} {l₂:List β} (n:Nat),Paired F l₁ l₂->Paired F (l₁.drop n) (l₂.drop n)
 |_,_,0,r=>r
 |_,_,_+1,.nil=>.nil
 |_,_,n+1,.cons _ t=>Paired.dp n t
theorem Paired.rep {a:α}{b:β}(h:F a b):∀n:Nat,Paired F (List.replicate n a) (List.replicate n b)
 |0=>.nil
 |n+1=>.cons h (Paired.rep h n)
end
end L2
namespace Bw
open PySem PySem.Spec PyProof.Rows L2 Tote
def sV (ws:List W):List V:=ws.map λw=>V.str (st w)
def nV (ns:N3):List V:=ns.map λn=>V.int (n:Nat)
def hU (K:N4)(H:Hp)(a:Addr)(ns:N3):Prop:=aU K H a (nV ns)
def bF (K:N4)(H:Hp)(a:Addr)(rs:N2):Prop:=∃as:List Addr,aU K H a (as.map V.ref)/\Paired (hU K H) as rs
def lB (H:Hp)(a:Addr)(rs:N2):Prop:=∃as:List Addr,H a=some (.lst (as.map V.ref))/\Paired (λb ns=>H b=some (.lst (nV ns))) as rs
section
variable {K:N4}{H H':Hp}{a:Addr}
theorem lB.lists {rs:N2} (h:lB H a rs):bF K H a rs:=by
 obtain⟨as,h1,h2⟩:=h;exact⟨as,aU.of h1,Paired.d8 h2 λ_ _ z=>aU.of z⟩
theorem lB.same {rs:N2}(h:lB H a rs)(e:au H H'):lB H' a rs:=by
 obtain⟨as,h1,h2⟩:=h;exact⟨as,e _ _ h1,Paired.d8 h2 λ_ _ z=>e _ _ z⟩
theorem hU.same {ns:N3}(h:hU K H a ns)(e:au H H'):hU K H' a ns:=e.seq h
theorem iV {as:List Addr}{rs:N2}(h:Paired (hU K H) as rs)(e:au H H'):Paired (hU K H') as rs:=Paired.d8 h λ_ _ z=>z.same e
theorem bF.same {rs:N2}(h:bF K H a rs)(e:au H H'):bF K H' a rs:=by
 obtain⟨as,h1,h2⟩:=h;exact⟨as,e.seq h1,iV h2 e⟩
theorem dH (ws:List W):(sV ws).length=ws.length:=Le ..
theorem aR (ws:N3):(nV ws).length=ws.length:=Le ..
theorem Ct {ws:List W}{i:Nat}{x:W}(h:ws[i]?=some x):(sV ws)[i]?=some (.str (st x)):=by
 unfold sV;rw[Lj,h];rfl
end
structure CK (K:N4)(mg:N6)(x:Str)(fs:List Str)(C:Addr):Prop where
 cl:yy K C
 no:∀f∈fs,gY K C f
 mg:mg x=some (.ref C)
def Dm (K:N4)(C:Addr)(m qual:Str)(st:Stmt):Prop:=∃(f:Addr) (fd:FuncData),Meth K C m f/\dG K m qual st f fd
def Di (K:N4)(C:Addr)(qual:Str)(st:Stmt):Prop:=∃(f:Addr) (fd:FuncData),Mk K C f/\dG K "__init__" qual st f fd
def xQ (P:Program)(w:World)(K:N4)(mg:N6)(base:Heap)(CX:lR)(k:Nat)(C:Addr)(ps:List Str)(sp:Sp):Prop :=
 ∃(f:Addr) (fd:FuncData),Mk K C f/\Binds K fd ps []/\bc P w K mg base CX k f fd ps sp
def pP (P:Program)(w:World)(K:N4)(mg:N6)(base:Heap)(CX:lR)(k:Nat)(C:Addr)(m:Str)(ps:List Str)(sp:Sp):Prop :=
 ∃(f:Addr) (fd:FuncData),Meth K C m f/\Binds K fd ps []/\bc P w K mg base CX k f fd ps sp
section
variable {X:Cx}{CX:lR}{k:Nat}{x:Str}{ps:List Str}{sp:Sp}{E:XK}{p pos:Pos}{e:Expr}{es:List Expr}{t:TA}{C:Addr}
theorem pz (F:xQ X.prog X.w X.K X.mg X.base CX k C ps sp) (hr:cX (k+1) X.A) (hm:X.mg x=some (.ref C)) (hx:Passes CX X E) (ha:PA X (e::es) t) (hg:Gl X x:=by rfl) (hdb:(x==("__debug__":Str))=false:=by decide) (he:starEach (e::es) X.env=(false,eval e X.env)::starEach es X.env:=by rfl)
  (hpl:(backTo pos (starEach es X.env)).any (·.1)=false:=by rfl):PE X (.Call (.Name x p) (e::es) [] pos) (Fd C sp [] E t):=by
 obtain⟨f,fd,M,hb,F⟩:=F;exact D9 M F hr hg hm hb .nil hx ha hdb he hpl
end
theorem bS {f:Str}{v:V}:d_ f v []=[(f,v)]:=rfl
theorem bh {f g:Str}{v x:V}{r:List (Str×V)}(h:g≠f):d_ f v ((g,x)::r)=(g,x)::d_ f v r:=by
 show (if g=f then (g,v)::r else (g,x)::d_ f v r)=_;rw[Lf h]
theorem bT {f:Str}{v:V}{r:List (Str×V)}:List.lookup f ((f,v)::r)=some v:=by simp[List.lookup]
theorem bb {f g:Str}{v:V}{r:List (Str×V)}(h:f≠g):List.lookup f ((g,v)::r)=List.lookup f r:=by
 have:(f==g)=false:=LK.mpr h;simp[List.lookup,this]
def jk (nm kd fa u:V):List (Str×V):=[("name",nm),("kind",kd),("fields",fa),("unit",u)]
abbrev gZ:List Str:=["name","kind","fields","unit"]
theorem lq {a b c d:V}:(jk a b c d).lookup ("name":Str)=some a:=bT
theorem jc {a b c d:V}:(jk a b c d).lookup ("kind":Str)=some b:=by unfold jk;rw[bb (by decide +kernel)];exact bT
theorem mE {a b c d:V}:(jk a b c d).lookup ("fields":Str)=some c:=by unfold jk;rw[bb (by decide +kernel),bb (by decide +kernel)];exact bT
theorem xy {a b c d:V}:(jk a b c d).lookup ("unit":Str)=some d:=by unfold jk;rw[bb (by decide +kernel),bb (by decide +kernel),bb (by decide +kernel)];exact bT
def de (K:N4)(C:Addr)(H:Hp)(a:Addr)(p:aO):Prop:=∃dx fa,H a=some (.ins C dx (jk (.str (st p.name)) (.str (st (cd (kindS p.kind)))) (.ref fa) (.int (p.unit:Nat))))/\bF K H fa p.fields
def cV (K:N4)(C:Addr)(H:Hp)(a:Addr)(ps:List aO):Prop:=∃as:List Addr,aU K H a (as.map V.ref)/\Paired (de K C H) as ps
section
variable {K:N4}{H H':Hp}{C a:Addr}
theorem de.same {p:aO} (h:de K C H a p) (e:au H H'):de K C H' a p:=by
 obtain⟨dx,fa,h1,h2⟩:=h;exact⟨dx,fa,e _ _ h1,h2.same e⟩
theorem qc {as:List Addr}{ps:List aO}(h:Paired (de K C H) as ps)(e:au H H'):Paired (de K C H') as ps:=Paired.d8 h λ_ _ z=>z.same e
theorem cV.same {ps:List aO}(h:cV K C H a ps)(e:au H H'):cV K C H' a ps:=by
 obtain⟨as,h1,h2⟩:=h;exact⟨as,e.seq h1,qc h2 e⟩
end
def tm (C:Addr):Sp:=λvs H Q _=>∃(x dx:Addr) (a b c d:V),vs=[.ref x,a,b,c,d]/\H x=some (.ins C dx [])/\Q .cj (upd H x (.ins C dx (jk a b c d)))
section
variable {P:Program}{w:World}{K:N4}{mg:N6}{base:Heap}
theorem CL:aI ["self","name","kind","fields","unit"] ["self","name","kind","fields","unit"] (ax gJ):=fs
theorem Ca {C:Addr}(T:CK K mg "Pool" gZ C){f:Addr}{fd:FuncData}(F:dG K "__init__" "Pool.__init__" gJ f fd):bc P w K mg base bG 1 f fd ["self","name","kind","fields","unit"] (tm C):=by
 refine F.ok CL (λvs H Q E h=>?_) (λcdv A outer s H vs Q E hr h=>?_)
 · obtain⟨x,dx,a,b,c,d,rfl,_⟩:=h;rfl
 · obtain⟨x,dx,a,b,c,d,rfl,hx,q⟩:=h;refine⟨_,af (cB (pv 0) (pv 1) rfl) (af (cB (pv 0) (pv 2) rfl) (af (cB (pv 0) (pv 3) rfl) (ak (cB (pv 0) (pv 4) rfl)))),?_⟩;refine⟨_,rfl,_,rfl,x,C,dx,[],rfl,hx,T.cl,T.no _ (by simp),(by show 0 < 1000;decide),?_⟩;refine⟨_,rfl,_,rfl,x,C,dx,_,rfl,ae,T.cl,T.no _ (by simp),(by show 1 < 1000;decide),?_⟩;refine⟨_,rfl,_,rfl,x,C,dx,_,rfl,ae,T.cl,T.no _ (by simp),(by repeat (first|rw[bS]|rw[bh (by decide +kernel)]);show 2 < 1000;decide),?_⟩;refine⟨_,rfl,_,rfl,x,C,dx,_,rfl,ae,T.cl,T.no _ (by simp),(by repeat (first|rw[bS]|rw[bh (by decide +kernel)]);show 3 < 1000;decide),?_⟩;rw[cI,cI,cI]
   repeat (first|rw[bS]|rw[bh (by decide +kernel)])
   exact q
end
end Bw
namespace L2
open PySem PySem.Spec PyProof.Rows
theorem jW {α β:Type}{F:α->β->Prop}:∀{l₁:List α} {l₂:List β},l₁.length=l₂.length->(∀(i:Nat) x y,l₁[i]?=some x->l₂[i]?=some y->F x y)->Paired F l₁ l₂
 |[],[],_,_=>.nil
 |x::l₁,y::l₂,h,g=>.cons (g 0 x y rfl rfl) (jW (by simpa using h) λi a b h1 h2=>g (i+1) a b (by simpa using h1) (by simpa using h2))
 |[],_::_,h,_=>by simp at h
 |_::_,[],h,_=>by simp at h
section
variable {X:Cx}
end
end L2
namespace HT
open PySem PySem.Spec PyProof.Rows
theorem lU {P:Program}{w:World}{A:Around}{E:N5}{s:Shared}{t sl:Addr}{items:Array Value}{vl vu:Value}{lo hi:Option Int}{Q:N5}(ht:IsTup s.heap t items)(hs:s.heap.IsSliceOf sl vl vu .none)(pl:IsPart vl lo)(pu:IsPart vu hi)
  (hw:b8 items.size 0 lo=0/\b8 items.size items.size hi=items.size)(h:Q (.ref t) s):wpAny (model P w) A (getItem (.ref t) (.ref sl)) Q E s:=by
 obtain⟨os,hos,hcs,hds⟩:=id hs;have ty:s.TypeIs (.ref sl) "slice":=⟨os,hos,hcs⟩;unfold getItem
 try with_reducible refine Nf ?_
 first|refine Ld (Lk ?_)|skip
 refine Ld (wpAny_sequenceKey ht.typeIs (by decide) ?_);refine Ld (Mu (name:=Str.ofString "__getitem__") ht.typeIs Mv (MA Mv ht.typeIs entry_tuple_getitem ?_ (args_tuple_getitem _ _)));show wpAny _ _ (Builtin.Tuple.tupleItemsOf (.ref t) >>= _) _ _ s;refine Ld (tupleItemsOf_ ht (Ld (wpAny_typeOf ty ?_)));rw[Lg (by decide)];refine Ld (ia hs pl pu ?_);rw[hw.1,hw.2];show wpAny _ _ (if (((0:Nat):Int)==0&&(1:Int)==1&&(items.size - 0)==items.size)=true then _ else _) _ _ s;rw[Lg (by simp)];have t0:s.heap.IsTuple t items:=ht;obtain⟨⟨c,dd,f,l⟩,g,rfl,n,rfl⟩:=ht;obtain⟨hp,ga,d,tk,os⟩:=s
 wp_walk
 exact⟨_,rfl,Lk h⟩
end HT
namespace L2
open PySem PySem.Spec PyProof.Rows
section
variable {X:Cx}
def Kz:V->Option Int->Option Int->Hp->VK->Prop:=λx lo hi H Q=>∃a xs,x=.ref a/\H a=some (.tup xs)/\∀p H',au H H'->H' p=some (.tup (fA xs lo hi))->Q (.ref p) H'
theorem EZ:HZ X Kz:=by
 intro pins s σ H x v vl vu lo hi sl Q I rx hs pl pu h;obtain⟨a,xs,rfl,hx,q⟩:=h;by_cases hw:HT.b8 xs.length 0 lo=0/\HT.b8 xs.length xs.length hi=xs.length
 · cases rx;obtain⟨its,r,ht,hz⟩:=I.tuple (bZ.of hx);have hlen:its.toArray.size=xs.length:=by rw[Lz];exact r.length.symm
   refine⟨"tuple",_,Mv.lookup,ht.typeIs,HT.lU ht hs pl pu (by rw[hlen];exact hw) ⟨.ref a,H,I,rfl,q a H (au.refl H) ?_⟩⟩;rw[hx];unfold fA;rw[hw.1,hw.2];simp
 · exact G1 pins s σ H _ v vl vu lo hi sl Q I rx hs pl pu ⟨a,xs,rfl,bZ.of hx,hw,λp hp=>q p _ ((au.refl H).laid hp) ae⟩
theorem m_:∀(l acc:List Int),(l.foldl step_dedup acc).length<=acc.length+l.length/\((l.foldl step_dedup acc).length=acc.length+l.length↔l.Nodup/\∀x∈l,¬x∈acc)
 |[],acc=>by simp
 |v::l,acc=>by
  rw[MJ];by_cases h:v∈acc
  · have e:step_dedup acc v=acc:=by unfold step_dedup;rw[Lg (by simpa using h)]
    rw[e];have:=(m_ l acc).1;rw[Lp];refine⟨by omega,λz=>by omega,λz=>absurd h (z.2 v (by simp))⟩
  · have e:step_dedup acc v=acc++[v]:=by unfold step_dedup;rw[Lf (by simpa using h)]
    rw[e];obtain⟨i1,i2⟩:=m_ l (acc++[v]);rw[LA,Ms] at i1 i2;rw[Lp];refine⟨by omega,?_⟩;rw[show acc.length+(l.length+1)=acc.length+1+l.length by omega,i2,Mq,NN];simp only[L4,Ls,not_or];constructor
    · rintro⟨a,b⟩;exact⟨⟨λm=>(b v m).2 rfl,a⟩,h,λx hx=>(b x hx).1⟩
    · rintro⟨⟨a,b⟩,_,c⟩;exact⟨b,λx hx=>⟨c x hx,λz=>a (z ▸ hx)⟩⟩
theorem E1 (ns:List Int):firstMet (λi=>ns.getD i 0) ns.length=ns.foldl step_dedup []:=by
 unfold firstMet;congr 1;refine NC λi=>?_;rw[Lj];by_cases h:i < ns.length
 · rw[MY h,Lo h];simp[h]
 · rw[Mh (by simpa using h),Mh (by omega)];rfl
theorem Dh (hc:X.calm=true):iu X (.type "set") (λxs H Q=>∃(t:Addr) (ns:List Int),xs=[.ref t]/\bZ X.K H t (ns.map V.int)/\ns.length<=1000/\∀p S n,H p=none->n<=ns.length->(n=ns.length↔ns.Nodup)->Q (.ref p) (upd H p (.set S n))):=by
 intro pins s σ H xs us Q I r h;obtain⟨t,ns,rfl,ht,hl,q⟩:=h;rw[Vals.wo r];obtain⟨its,rv,pt,_⟩:=I.tuple ht;have hn:its.length=ns.length:=by rw[←rv.length,Le]
 have hi:IntsAre its.toArray.toList ns:=intsAre_of rv;obtain⟨d1,d2⟩:=m_ ns [];rw[MO,Nat.zero_add] at d1 d2;refine BwX.Ah (I.ok.hd hc) (show s.heap.IsTuple t its.toArray from pt) hi (by rw[Lz,hn];show ns.length+1 < 4096;omega) λh' tk hS kp=>?_;have hz:its.toArray.size=ns.length:=by rw[Lz,hn]
 rw[hz,E1] at hS;refine⟨.ref s.heap.objs.size,_,I.laid (t':=tk) kp (Ln _) (show bL X.prog X.w _ h' _ (.set _ _) from hS),rfl,q _ _ _ (I.bw.fresh (Ln _)) d1 (d2.trans ⟨λz=>z.1,λz=>⟨z,by simp⟩⟩)⟩
theorem DE:iu X (.builtin "len") (λxs H Q=>∃p S n,xs=[.ref p]/\H p=some (.set S n)/\n<=1000/\Q (.int (n:Nat)) H):=by
 intro pins s σ H xs us Q I r h;obtain⟨p,S,n,rfl,hp,hn,q⟩:=h;rw[Vals.wo r];obtain⟨o,es,ep,t,ho,hx,hd,_,_,_,hf,rfl⟩:=I.bw p _ hp;exact call_len_set ho hx hd hf (by omega) ⟨.int _,H,I.tok _,⟨_,rfl⟩,q⟩
end
def BC (K:N4)(a b:Addr):It :=
 ⟨λi H=>∃(xs ys:List V) (x y:V),bZ K H a xs/\aU K H b ys/\xs[i]?=some x/\ys[i]?=some y,
  λi H v H'=>∃T x y,v=.ref T/\H T=none/\H'=upd H T (.tup [x,y])/\(∀xs,bZ K H a xs->xs[i]?=some x)/\∀ys,aU K H b ys->ys[i]?=some y,
  λi H=>∃xs ys:List V,bZ K H a xs/\aU K H b ys/\(xs.length<=i∨ys.length<=i)⟩
structure ZA (z TI TO i1 i2 a b:Addr):Prop where
 n1:¬z∈[i1,a]/\¬TO∈[i1,a]/\¬i2∈[i1,a]
 n2:¬z∈[i2,b]/\¬TO∈[i2,b]/\¬i1∈[i2,b]
 nz:TI≠z/\TO≠z/\TI≠TO/\TI≠i1/\TI≠i2/\TO≠i1/\TO≠i2/\i1≠z/\i2≠z
 na:a≠i1
 nb:b≠i2
theorem Et {P:Program}{w:World}{K:N4}{elts:List Expr}{kk:Nat}{tpos:Pos}{a b z TI TO i1 i2:Addr}(D:ZA z TI TO i1 i2 a b) :
  Turn P w K (.Tuple elts kk tpos) (BC K a b) [z,TI,TO,i1,i2] z (λi h=>IsZip h z TI TO .none/\IsPair h TI (.ref i1) (.ref i2)/\(∃x y,IsPair h TO x y)/\h.IsTupleIter i1 a i/\h.IsListIter i2 b i) where
 mem:=by simp
 obj:=λi h st c hc=>by
  obtain⟨hz,hTI,⟨x,y,hTO⟩,⟨o1,e1,_,d1⟩,⟨o2,e2,_,d2⟩⟩:=st;have e':c=z∨c=TI∨c=TO∨c=i1∨c=i2:=by simpa using hc
  rcases e' with q|q|q|q|q
  · rw[q];exact⟨_,hz,λv q=>nomatch q⟩
  · rw[q];exact⟨_,hTI,λv q=>nomatch q⟩
  · rw[q];exact⟨_,hTO,λv q=>nomatch q⟩
  · rw[q];exact⟨o1,e1,λv q=>by rw[d1] at q;cases q⟩
  · rw[q];exact⟨o2,e2,λv q=>by rw[d2] at q;cases q⟩
 keep:=λi h h' st k=>by
  obtain⟨hz,hTI,⟨x,y,hTO⟩,h1,h2⟩:=st;exact⟨k z (by simp) _ hz,k TI (by simp) _ hTI,⟨x,y,k TO (by simp) _ hTO⟩,h1.at λo q=>k i1 (by simp) o q,h2.at λo q=>k i2 (by simp) o q⟩
 item:=by
  intro X hP hw hK hc i pins s σ H E I hf st hg;subst hP hw hK;obtain⟨hz,hTI,hTO,h1,h2⟩:=st;obtain⟨xs,ys,x,y,hqx,hqy,hx,hy⟩:=hg;obtain⟨its,rv,p,_⟩:=I.tuple hqx;obtain⟨its2,rv2,p2,_⟩:=I.list hqy;obtain⟨u,hu,ru⟩:=rv.get hx;obtain⟨u2,hu2,ru2⟩:=rv2.get hy;have hzl:z < s.heap.objs.size:=Lq hz;refine BwX.um (x:=u) (y:=u2) D.na D.nb ⟨hz,hTI,hTO,⟨h1,p⟩,⟨h2,p2.isList⟩,D.n1,D.n2,D.nz⟩ (by simpa using hu) (by simpa using hu2) λh' Z hT hk=>?_;refine⟨_,rfl,wpAny_letOwnedTupleGo_zip (s:={s with heap:=h'}) Z.zp λh'' z'' sb=>?_⟩;have hT2:h''.get? s.heap.objs.size=some {cls:=.type "tuple",data:=.seq #[u,u2]}:=(sb.2 _ (Nat.ne_of_gt hzl)).trans hT;have new:bL X.prog X.w (upd H s.heap.objs.size (.tup [x,y])) h'' s.heap.objs.size (.tup [x,y]) :=
   ⟨by show 2<=sizeLine;decide,[u,u2],.cons ru (.cons ru2 .nil),⟨_,hT2,rfl,_,rfl⟩⟩
  have I1:Inv X pins σ (upd H s.heap.objs.size (.tup [x,y])) {s with heap:=h''} :=
   I.rL (t':=s.toks) (ch:=[z,TI,TO,i1,i2]) (λc o hb q=>(sb.2 c (λq'=>hb (by simp[q']))).trans (hk c o (λq'=>hb (by simp[q'])) (λq'=>hb (by simp[q'])) (λq'=>hb (by simp[q'])) (λq'=>hb (by simp[q'])) q)) hf (Ln _) new
  obtain⟨z1,z2,z3,z4,z5,z6,z7,z8,z9⟩:=D.nz;obtain⟨x',y',hTO'⟩:=Z.to;refine⟨.ref s.heap.objs.size,_,I1,rfl,⟨_,x,y,rfl,I.bw.fresh (Ln _),rfl,λl hl=>by rw[I.rQ hl hqx];exact hx,λl hl=>by rw[I.p8 hl hqy];exact hy⟩,⟨z'',(sb.2 _ z1).trans Z.ti,⟨x',y',(sb.2 _ z2).trans hTO'⟩,Z.s1.1.at λo q=>(sb.2 _ z8).trans q,Z.s2.1.at λo q=>(sb.2 _ z9).trans q⟩,λc hcm=>?_⟩;have hlt:c < s.heap.objs.size:=by
   have e':c=z∨c=TI∨c=TO∨c=i1∨c=i2:=by simpa using hcm
   obtain⟨_,_,hTO⟩:=hTO;rcases e' with q|q|q|q|q
   · rw[q];exact hzl
   · rw[q];exact Lq hTI
   · rw[q];exact Lq hTO
   · rw[q];obtain⟨_,e1,_⟩:=h1;exact Lq e1
   · rw[q];obtain⟨_,e2,_⟩:=h2;exact Lq e2
  rw[aq (LP hlt)];exact (hf c hcm).1
 done:=by
  intro X hP hw hK hc i pins s σ H E I hf st hg;subst hP hw hK;obtain⟨hz,hTI,hTO,h1,h2⟩:=st;obtain⟨xs,ys,hqx,hqy,hend⟩:=hg;obtain⟨its,rv,p,_⟩:=I.tuple hqx;obtain⟨its2,rv2,p2,_⟩:=I.list hqy;have l1:=rv.length;have l2:=rv2.length;have he:its.toArray[i]?=none∨its2.toArray[i]?=none:=by
   rcases hend with q|q
   · exact .inl (by simp;omega)
   · exact .inr (by simp;omega)
  exact BwX.sO (I.ok.hd hc) D.na D.nb ⟨hz,hTI,hTO,⟨h1,p⟩,⟨h2,p2.isList⟩,D.n1,D.n2,D.nz⟩ he λh' hk=>⟨rfl,I.DF (t':=s.toks) (ch:=[z,TI,TO,i1,i2]) (λc o hb q =>
   hk c o (λq'=>hb (by simp[q'])) (λq'=>hb (by simp[q'])) (λq'=>hb (by simp[q'])) (λq'=>hb (by simp[q'])) q) hf⟩
 self:=λA i s Q E st h=>wpAny_pyIter_zip st.1 h
def IE (K:N4)(ta:TA):TI:=λσ H R=>ta σ H λvs H1=>∃a b xs ys,vs=[.ref a,.ref b]/\bZ K H1 a xs/\aU K H1 b ys/\R (BC K a b) H1
theorem D6 {X:Cx}{e e2:Expr}{ta:TA}{p pos tpos:Pos}{elts:List Expr}{kk:Nat}(hg:Gl X "zip")(hm:X.mg "zip"=none)(ha:PA X [e,e2] ta)
  (hs:starEach [e,e2] X.env=(false,eval e X.env)::starEach [e2] X.env:=by rfl)(hpl:(backTo pos (starEach [e2] X.env)).any (·.1)=false:=by rfl) :
  PI X (.Tuple elts kk tpos) (.Call (.Name "zip" p) [e,e2] [] pos) (IE X.K ta):=by
 intro pins s σ H R I h;refine Call_ (kR I hg hm zO (MF (bB (ha pos pins s σ H _ I h) λus s1 ⟨vs,H1,I1,r1,q1⟩=>?_) hs hpl));obtain⟨a,b,xs,ys,ex,hqx,hqy,q⟩:=q1;subst ex;cases r1 with
 |cons r rr =>
  cases rr with
  |cons r' rr =>
   cases rr;cases r;cases r';obtain⟨its,rv,p1,_⟩:=I1.tuple hqx;obtain⟨its2,rv2,p2,_⟩:=I1.list hqy;refine BwX.Er p1 p2.isList λh' Z hk=>wpAny_pyIter_zip Z.zp ?_;have I2:Inv X pins σ H1 {s1 with heap:=h'}:=I1.kept (t':=s1.toks) hk;have na:a≠s1.heap.objs.size:=by obtain⟨_,e,_⟩:=p1;exact LP (Lq e)
   have nb:b≠s1.heap.objs.size+1:=LP (Nat.lt_succ_of_lt p2.lt);refine⟨s1.heap.objs.size+4,[s1.heap.objs.size+4,s1.heap.objs.size+2,s1.heap.objs.size+3,s1.heap.objs.size,s1.heap.objs.size+1],_,_,H1,rfl,I2,Et ⟨Z.n1,Z.n2,Z.nz,na,nb⟩,⟨Z.zp,Z.ti,Z.to,Z.s1.1,Z.s2.1⟩,λc hcm=>?_,q⟩;have e':c=s1.heap.objs.size+4∨c=s1.heap.objs.size+2∨c=s1.heap.objs.size+3∨c=s1.heap.objs.size∨c=s1.heap.objs.size+1:=by simpa using hcm
   have hle:s1.heap.objs.size<=c:=by
    rcases e' with z|z|z|z|z
    · rw[z];exact NK _ _
    · rw[z];exact NK _ _
    · rw[z];exact NK _ _
    · rw[z];exact Ln _
    · rw[z];exact NK _ _
   exact I1.wj hle (I1.bw.fresh hle)
theorem Ie {K:N4}{a b:Addr}{xs ys:List V}{g:TG}{tt:TT}{te:TE}{vs:N3}{σ:St}{H1:Hp}{D:Addr}{Qd:Hp->Prop}(hle:xs.length<=ys.length)(Pv:Nat->Hp->Prop)(h0:Pv 0 (upd H1 D (.lst [])))(hl:∀i H,i<=xs.length->Pv i H->bZ K H a xs/\aU K H b ys)
  (hs:∀i x y H T,xs[i]?=some x->ys[i]?=some y->Pv i H->H T=none->g (.ref T) (wipe σ vs) (upd H T (.tup [x,y])) λσ2 H2=>wipe σ2 vs=wipe σ vs/\tt σ2 H2 λb H3 =>
   if b=true then te σ2 H3 λy H4=>∃acc,H4 D=some (.lst acc)/\acc.length < sizeLine/\Pv (i+1) (upd H4 D (.lst (acc++[y]))) else Pv (i+1) H3) (hd:∀H,Pv xs.length H->Qd H) :
  ∃W:Nat->Nat->Hp->Prop,(∃m,W 0 m (upd H1 D (.lst [])))/\∀i m H,W i m H ->
   ((BC K a b).stop i H/\Qd H)∨((BC K a b).go i H/\∃Nx:Hp->Prop,(∀H',Nx H'->∃m',m' < m/\W (i+1) m' H')/\∀x H',(BC K a b).vS i H x H'->g x (wipe σ vs) H' λσ2 H2=>wipe σ2 vs=wipe σ vs/\tt σ2 H2 λb H3 =>
    if b=true then te σ2 H3 λy H4=>∃acc,H4 D=some (.lst acc)/\acc.length < sizeLine/\Nx (upd H4 D (.lst (acc++[y]))) else Nx H3):=by
 refine⟨λi m H=>m=xs.length - i/\i<=xs.length/\Pv i H,⟨xs.length,by simp,LJ _,h0⟩,?_⟩;rintro i m H ⟨rfl,hi,p⟩;obtain⟨q1,q2⟩:=hl i H hi p;by_cases hlt:i < xs.length
 · refine .inr ⟨⟨xs,ys,xs[i],ys[i],q1,q2,by simp[hlt],by simp⟩,Pv (i+1),λH' p'=>⟨xs.length - (i+1),by omega,rfl,hlt,p'⟩,λx H' w=>?_⟩;obtain⟨T,v,u,rfl,hT,rfl,hx,hy⟩:=w;exact hs i v u _ T (hx xs q1) (hy ys q2) p hT
 · have e:i=xs.length:=by omega
   subst e;exact .inl ⟨⟨xs,ys,q1,q2,.inl (Ln _)⟩,hd H p⟩
section
variable {σ:St}{H:Hp}{ta tb te:TE}{t u:TT}{x y v:V}{b c:Bool}
theorem yZ {Q:VK} (h:Ev ta σ H (.bl b)) (q1:b=true->tb σ H Q) (q2:b=false->Q (.bl false) H):Fm ta tb σ H Q:=h _ ⟨b,rfl,by
 cases b with
 |false=>exact t7 (q2 rfl)
 |true=>exact n_ (q1 rfl)⟩
end
end L2
namespace Bw
open PySem PySem.Spec PyProof.Rows L2 Tote
def mK (ws:List W):Prop:=ws.length<=70000/\∀w∈ws,w.length<=70000/\∀c∈w,c < 128
theorem i8 {w:W}{s:String}:decide (V.str (st w)=V.str (Str.ofString s))=decide (w=cd s):=by
 rw[M0,kI];constructor
 · intro h;injection h with h;exact jK.mp h
 · intro h;rw[h]
theorem Fz {ws:List W}{i:Nat}(h:i < ws.length):ws[i]?=some (ws.getD i []):=by
 rw[LX,Lo h];rfl
theorem dC {ws:List W}{i:Nat}(h:i < ws.length):nJ (sV ws) ((i:Nat):Int)=some (.str (st (ws.getD i []))):=cw (Ct (Fz h))
theorem mK.getD {ws:List W}(o:mK ws)(i:Nat):(ws.getD i []).length<=70000/\∀c∈ws.getD i [],c < 128:=by
 by_cases h:i < ws.length
 · exact o.2 _ (LH (Fz h))
 · rw[LX,Mh (by omega)];exact⟨LJ _,λc hc=>by simp at hc⟩
abbrev fb:List (Nat×W):=[(0,cd "pool"),(4,cd "from"),(6,cd "take"),(8,cd "break"),(10,cd "least"),(12,cd "unit"),(14,cd "none")]
abbrev sizeOf:Tote.Kind->Int×Int
 |.place=>(1,4)
 |.order=>(2,4)
 |.any=>(2,3)
 |.legs=>(2,6)
structure GC (P:Program)(w:World)(K:N4)(mg:N6)(dS aF:Addr):Prop where
 races:Gv mg "MOST_RACES" (.int 16)
 pools:Gv mg "MOST_POOLS" (.int 64)
 couples:Gv mg "MOST_COUPLES" (.int 8)
 runners:Gv mg "MOST_RUNNERS" (.int 24)
 words:Gv mg "POOL_WORDS" (.int 16)
 Fo:Gv mg "SIZES" (.ref dS)
 fixed:Gv mg "FIXED" (.ref aF)
 B6:∃ts:Tote.Kind->Addr,yc P w K dS [(.inr (st (cd "place")),.ref (ts .place)),(.inr (st (cd "order")),.ref (ts .order)),(.inr (st (cd "any")),.ref (ts .any)),(.inr (st (cd "legs")),.ref (ts .legs))]/\∀(k:Tote.Kind) (H:Hp),bZ K H (ts k) [.int (sizeOf k).1,.int (sizeOf k).2]
 F9:∃ts:List Addr,(∀H,bZ K H aF (ts.map V.ref))/\Paired (λt (p:Nat×W)=>∀H,bZ K H t [.int (p.1:Nat),.str (st p.2)]) ts fb
 range:mg "range"=none
section
variable {P:Program}{w:World}{K:N4}{mg:N6}{base:Heap}
def A1 (K:N4):Sp:=λvs H Q _=>∃(a:Addr) (ws:List W),vs=[.ref a]/\aU K H a (sV ws)/\mK ws/\∀H',au H H'->Q (.bl (ik ws)) H'
theorem GJ:aI ["words"] ["words"] (ax lF):=fs
theorem Hg (G:GW mg){k:Nat}(FN:Fn P w K mg base bG k "is_name" ["word"] lP){f:Addr}{fd:FuncData}(F:dG K "is_day" "is_day" lF f fd):bc P w K mg base bG (k+1) f fd ["words"] (A1 K):=by
 refine F.ok GJ (λvs H Q E h=>?_) (λcdv A outer s H vs Q E hr h=>?_)
 · obtain⟨a,ws,rfl,_⟩:=h;rfl
 · obtain⟨a,ws,rfl,hS,ok,q⟩:=h;refine⟨_,ak (az (wX (fm ck (aH aA (by rfl) G.len PySem.boot_len (aa (pv 0) ah)) aw (aM _)) (wX (fm ck (bq aQ (pv 0) aw (λ_ _=>rfl)) bt (aM _))
    (xc (aV FN hr bf (aa (bq aQ (pv 0) aw (λ_ _=>rfl)) ah)))))),?_⟩
   refine yZ (b9 (aZ (ag rfl) (.inl hS)) aE) (λh=>?_) (λh=>?_)
   · rw[a9,dH] at h;have hl:ws.length=2:=by have:=MI h;omega
     refine yZ (b9 (a_ (ag rfl) aE hS (dC (i:=0) (by omega))) aE) (λh=>?_) (λh=>?_)
     · rw[i8] at h;refine (a_ (ag rfl) aE hS (dC (i:=1) (by omega))) _ ⟨_,rfl,(ok.getD 1).1,λH' e=>?_⟩;have:ik ws=eN (ws.getD 1 []):=by
        unfold ik;rw[hl,Ly h];simp
       rw[←this];exact q H' e
     · rw[i8] at h;have:ik ws=false:=by
        unfold ik;have z:(ws.getD 0 []==cd "day")=false:=by
         rw[LK];exact LY h
        rw[z];simp
       rw[←this];exact q H (au.refl H)
   · rw[a9,dH] at h;have:ik ws=false:=by
      unfold ik;have z:(ws.length==2)=false:=by
       rw[LK] at h ⊢;exact λz=>h (by rw[z];rfl)
      rw[z];rfl
     rw[←this];exact q H (au.refl H)
def fE (ws:List W):Bool:=ws.length==16&&(fb.all λp=>ws.getD p.1 []==p.2)&&eN (ws.getD 1 [])&&(dD (ws.getD 2 [])).isSome
def wZ (K:N4):Sp:=λvs H Q _=>∃(a:Addr) (ws:List W),vs=[.ref a]/\aU K H a (sV ws)/\mK ws/\∀H',au H H'->Q (.bl (fE ws)) H'
theorem u6 {ts:Tote.Kind->Addr}{w:W}:valueAt [((.inr (st (cd "place")):Key),Value.ref (ts .place)),(.inr (st (cd "order")),.ref (ts .order)),(.inr (st (cd "any")),.ref (ts .any)),(.inr (st (cd "legs")),.ref (ts .legs))] (.inr (st w))=(dD w).map λk=>Value.ref (ts k):=by
 have key:∀s:W,((Sum.inr (st s):Key)=Sum.inr (st w))↔s=w:=λs=>⟨λh=>jK.mp (Sum.inr.inj h),λh=>by rw[h]⟩;unfold valueAt dD;simp only[MS,List.find?_nil,key];by_cases h1:w=cd "place"
 · subst h1;simp
 · rw[L3 (λz=>h1 z.symm),Lf h1];by_cases h2:w=cd "order"
   · subst h2;simp
   · rw[L3 (λz=>h2 z.symm),Lf h2];by_cases h3:w=cd "any"
     · subst h3;simp
     · rw[L3 (λz=>h3 z.symm),Lf h3];by_cases h4:w=cd "legs"
       · subst h4;simp
       · rw[L3 (λz=>h4 z.symm),Lf h4];rfl
theorem oB:aI ["words","at","word"] ["words"] (ax dR):=fs
theorem Eh {dS aF:Addr}(G:GW mg)(GC:GC P w K mg dS aF){k:Nat}(FN:Fn P w K mg base bG k "is_name" ["word"] lP){f:Addr}{fd:FuncData}(F:dG K "has_pool_form" "has_pool_form" dR f fd) :
  bc P w K mg base bG (k+1) f fd ["words"] (wZ K):=by
 refine F.ok oB (λvs H Q E h=>?_) (λcdv A outer s H vs Q E hr h=>?_)
 · obtain⟨a,ws,rfl,_⟩:=h;rfl
 · obtain⟨a,ws,rfl,hS,ok,q⟩:=h;obtain⟨ts,hD,hT⟩:=GC.B6;obtain⟨fs,hF,hP⟩:=GC.F9;refine⟨_,af (aS (aC o8 (aH aA (by rfl) G.len PySem.boot_len (aa (pv 0) ah)) (bg GC.words) (aM _)) (ak (az lJ)) aD)
    (af (aS (cF (hZ (aH (xm rfl) (by rfl) G.all PyProof.Rows.boot_all (aa (fw (g:=ER K 2 (pR (gG 1) (pR (gG 2) Ea))) (te:=kG JK (kG (zQ K) (cH 0) (cH 1)) (cH 2)) rfl oB.nd (Gn (bg GC.fixed)) (bA (own:=[("at",1),("word",2)]) rfl)
      (λ_ _ _ _ _=>lD rfl (b_ (aK (i:=1) oB.nd rfl (Or.inl rfl) (Or.inr rfl)) (b_ (aK (i:=2) oB.nd rfl (Or.inl rfl) (Or.inr rfl)) iW))) (λ_ _ _ _ _=>cn)
      (λ_ _ _ _ _=>fm ck (bq aQ (pv 0) (pv 1) (λ_ _=>rfl)) (pv 2) (aM _))) ah)))) (ak (az lJ)) aD)
    (ak (az (wX (aV FN hr bf (aa (bq aQ (pv 0) aw (λ_ _=>rfl)) ah)) (xc (GS (Dx hD (bq aQ (pv 0) aw (λ_ _=>rfl)) (bg GC.Fo)))))))),?_⟩
   refine aX (aL (qw (aZ (ag rfl) (.inl hS)) aE)) (λh=>?_) (λh=>?_)
   · rw[a9,dH] at h;refine bU aE ?_;have:fE ws=false:=by
      unfold fE;have z:(ws.length==16)=false:=by
       rw[L6,LK] at h;rw[LK];exact λz=>h (by rw[z];rfl)
      rw[z];rfl
     rw[←this];exact q H (au.refl H)
   · rw[a9,dH] at h;have hl:ws.length=16:=by
      rw[L9] at h;have:=MI h;omega
     have lenF:fs.length=7:=by rw[Paired.length hP];rfl
     refine⟨aF,rfl,⟨_,hF H⟩,λD hD0=>G2 (K:=K) (a:=aF) (xs:=fs.map V.ref) (λi H'=>au H H'/\H' D=some (.lst ((fb.take i).map λp=>V.bl (decide (ws.getD p.1 []=p.2)))))
      ⟨(au.refl H).laid hD0,ae⟩ (λi H' _ h=>hF H') ?_ ?_⟩
     · rintro i x H' hi ⟨k1,k2⟩;rw[Lj] at hi;obtain⟨t,ht,rfl⟩:=LO.mp hi;obtain⟨⟨n,wd⟩,hp,hs⟩:=Paired.qK hP ht;have hn:n < 16:=by
        have:=LH hp;simp at this;omega
       refine⟨t,_,rfl,hs H',rfl,_,_,rfl,_,_,rfl,rfl,rfl,?_⟩;refine (b9 (a_ (ag rfl) (ag rfl) (k1.seq hS) (dC (i:=n) (by omega))) (ag rfl)) _ ⟨_,k2,?_,?_⟩
       · rw[Le,LB,LG];have:fb.length=7:=rfl;omega
       · refine⟨λb u z=>?_,?_⟩
         · rw[aq (ao z hD0)];exact k1 b u z
         · rw[ae,take_snoc hp,Lx];have:decide (V.str (st (ws.getD n []))=V.str (st wd))=decide (ws.getD n []=wd):=by
            rw[M0];exact⟨λh=>jK.mp (by injection h),λh=>by rw[h]⟩
           rw[this];rfl
     · rintro H' ⟨k1,k2⟩;have k2:H' D=some (.lst ((fb.take (fs.map V.ref).length).map λp=>V.bl (decide (ws.getD p.1 []=p.2)))):=k2;rw[Le,lenF] at k2;have eA:((fb.map λp=>decide (ws.getD p.1 []=p.2)).all id)=fb.all λp=>ws.getD p.1 []==p.2:=by
        rw[Nl];congr 1;funext p;show decide (ws.getD p.1 []=p.2)=(ws.getD p.1 []==p.2);rw[LR,Lm,L5]
       refine⟨D,fb.map λp=>decide (ws.getD p.1 []=p.2),rfl,aU.of (by rw[k2,LF];rfl),_,rfl,?_⟩;rw[eA];refine gF (λh=>?_) (λh=>?_)
       · refine bU aE ?_;have:fE ws=false:=by
          unfold fE;rw[L6] at h;rw[h];simp
         rw[←this];exact q H' k1
       · have hA:(fb.all λp=>ws.getD p.1 []==p.2)=true:=by simpa using h
         refine (a_ (ag rfl) aE (k1.seq hS) (dC (i:=1) (by omega))) _ ⟨_,rfl,(ok.getD 1).1,λH2 e2=>⟨_,rfl,?_⟩⟩;have eF:fE ws=(eN (ws.getD 1 [])&&(dD (ws.getD 2 [])).isSome):=by
          unfold fE;rw[hA,hl];simp
         refine gF (λh=>?_) (λh=>?_)
         · refine (a_ (ag rfl) aE ((k1.trans e2).seq hS) (dC (i:=2) (by omega))) _ ⟨Sum.inr (st (ws.getD 2 [])),rfl,rfl,?_⟩;rw[u6];have:((dD (ws.getD 2 [])).map λk=>Value.ref (ts k)).isSome=fE ws:=by
            rw[eF,h,Option.isSome_map];rfl
           rw[this];exact q H2 (k1.trans e2)
         · have:fE ws=false:=by
            rw[eF];have:eN (ws.getD 1 [])=false:=by simpa using h
            rw[this];rfl
           rw[←this];exact q H2 (k1.trans e2)
end
theorem gD {σ:L2.St}{H:Hp}{te:TE}{wd:W}(h:Ev te σ H (.str (st wd)))(ok:wd.length<=70000/\∀c∈wd,c < 128):Ev (nE kM [] E0 (cU te eZ)) σ H (.int (ay wd)):=λ_ r=>h _ ⟨wd,rfl,ok.1,ok.2,r⟩
theorem yA {xs:List V}{i j:Nat}(h:j<=xs.length):fA xs (some (i:Int)) (some (j:Int))=(xs.drop i).take (j - i):=by
 unfold fA;rw[HT.je,HT.je,Nd h];by_cases hi:i<=xs.length
 · rw[Nd hi]
 · rw[Nat.min_eq_right (by omega),M_ (Ln _),M_ (by omega)];simp
section
variable {P:Program}{w:World}{K:N4}{mg:N6}{base:Heap}
def eW (ws:List W):Bool :=
 !(!(decide (0<=ay (ws.getD 7 []))&&decide (ay (ws.getD 7 [])<=400))||!(decide (1<=ay (ws.getD 9 []))&&decide (ay (ws.getD 9 [])<=1000))) &&
 (!(!(decide (1<=ay (ws.getD 13 []))&&decide (ay (ws.getD 13 [])<=10000))||!(decide (ay (ws.getD 11 [])=0)||(decide (ay (ws.getD 13 [])<=ay (ws.getD 11 []))&&decide (ay (ws.getD 11 [])<=2*ay (ws.getD 13 []))))) &&
 (if ws.getD 15 []=cd "fewer" then !decide (ws.getD 2 []=cd "place") else decide (ws.getD 15 []=cd "refund")||decide (ws.getD 15 []=cd "carry")))
def tG (K:N4):Sp:=λvs H Q _=>∃(a:Addr) (ws:List W),vs=[.ref a]/\aU K H a (sV ws)/\mK ws/\ws.length=16/\∀H',au H H'->Q (.bl (eW ws)) H'
theorem oZ:aI ["words","least","unit"] ["words"] (ax dz):=fs
theorem AL {k:Nat}(FN:Fn P w K mg base bG k "number_of" ["word"] kM){f:Addr}{fd:FuncData}(F:dG K "are_terms_good" "are_terms_good" dz f fd):bc P w K mg base bG (k+1) f fd ["words"] (tG K):=by
 refine F.ok oZ (λvs H Q E h=>?_) (λcdv A outer s H vs Q E hr h=>?_)
 · obtain⟨a,ws,rfl,_⟩:=h;rfl
 · obtain⟨a,ws,rfl,hS,ok,hl,q⟩:=h;refine⟨_,af (aN (i:=1) oZ.nd rfl (Or.inl rfl) (aV FN hr bf (aa (bq aQ (pv 0) aw (λ_ _=>rfl)) ah)))
    (af (aN (i:=2) oZ.nd rfl (Or.inl rfl) (aV FN hr bf (aa (bq aQ (pv 0) aw (λ_ _=>rfl)) ah)))
    (af (aS (PW.pt (eh (cF (cD b7 b7 aw (aV FN hr bf (aa (bq aQ (pv 0) aw (λ_ _=>rfl)) ah)) aw)) (cO (cF (cD b7 b7 aw (aV FN hr bf (aa (bq aQ (pv 0) aw (λ_ _=>rfl)) ah)) aw))))) (ak (az lJ)) aD)
    (af (aS (PW.pt (eh (cF (cD b7 b7 aw (pv 2) aw)) (cO (cF (PW.pt (eh (aC ck (pv 1) aw (aM _)) (cO (cD b7 b7 (pv 2) (pv 1) (bH vV aw (pv 2)))))))))) (ak (az lJ)) aD)
    (af (aS (aC ck (bq aQ (pv 0) aw (λ_ _=>rfl)) bt (aM _)) (ak (az (fm o8 (bq aQ (pv 0) aw (λ_ _=>rfl)) bt (aM _)))) aD)
    (ak (az (fm gc (bq aQ (pv 0) aw (λ_ _=>rfl)) (dm (aa bt (aa bt ah))) (by with_unfolding_all rfl)))))))),?_⟩
   refine cE (gD (a_ (ag rfl) aE hS (dC (i:=11) (by omega))) (ok.getD 11)) ?_;refine cE (gD (a_ (ag rfl) aE hS (dC (i:=13) (by omega))) (ok.getD 13)) ?_;refine aX (gP (e_ (cC aE (gD (a_ (ag rfl) aE hS (dC (i:=7) (by omega))) (ok.getD 7)) aE)) λ_=>e_ (cC aE (gD (a_ (ag rfl) aE hS (dC (i:=9) (by omega))) (ok.getD 9)) aE)) (λh=>?_) (λh1=>?_)
   · refine bU aE ?_;have:eW ws=false:=by unfold eW;rw[h];rfl
     rw[←this];exact q H (au.refl H)
   refine aX (gP (e_ (cC aE (ag rfl) aE)) λ_=>e_ (gP (aL (b9 (ag rfl) aE)) λ_=>cC (ag rfl) (ag rfl) (yM aE (ag rfl) (.inl ⟨by decide,by decide⟩)))) (λh=>?_) (λh2=>?_)
   · refine bU aE ?_;have:eW ws=false:=by
      unfold eW;have e:decide (V.int (ay (ws.getD 11 []))=V.int 0)=decide (ay (ws.getD 11 [])=0):=by rw[a9];rfl
      rw[e] at h;rw[h];simp
     rw[←this];exact q H (au.refl H)
   have e2:eW ws=if ws.getD 15 []=cd "fewer" then !decide (ws.getD 2 []=cd "place") else decide (ws.getD 15 []=cd "refund")||decide (ws.getD 15 []=cd "carry"):=by
    unfold eW;have e:decide (V.int (ay (ws.getD 11 []))=V.int 0)=decide (ay (ws.getD 11 [])=0):=by rw[a9];rfl
    rw[e] at h2;rw[h1,h2];simp
   refine aX (aL (b9 (a_ (ag rfl) aE hS (dC (i:=15) (by omega))) aE)) (λh=>?_) (λh=>?_)
   · rw[i8] at h;refine bU (qw (a_ (ag rfl) aE hS (dC (i:=2) (by omega))) aE) ?_;rw[i8];rw[Lg (Ly h)] at e2;rw[←e2];exact q H (au.refl H)
   · rw[i8] at h;refine (a_ (ag rfl) aE hS (dC (i:=15) (by omega))) _ ⟨(by show 2<=sizeLine;decide),λt ht=>⟨t,_,rfl,.inr (bZ.of ae),rfl,rfl,?_⟩⟩;rw[Lf (LY h)] at e2;have:n9 (V.str (st (ws.getD 15 []))) [V.str (Str.ofString "refund"),V.str (Str.ofString "carry")]=eW ws:=by
      rw[e2];have key:∀s:String,rO (V.str (Str.ofString s)) (V.str (st (ws.getD 15 [])))=decide (ws.getD 15 []=cd s):=λs=>by
       show (Str.ofString s==st (ws.getD 15 []))=_;rw[LR,L5,Lm,kI,jK];exact⟨λz=>z.symm,λz=>z.symm⟩
      show ([V.str (Str.ofString "refund"),V.str (Str.ofString "carry")].any λy=>rO y (V.str (st (ws.getD 15 []))))=_;simp only[MM,List.any_nil,key,Nr]
     rw[←this] at q;exact q _ ((au.refl H).laid ht)
def mw (kd:Tote.Kind)(k rc:Nat)(rs:N2):Bool:=match kd with
 |.legs=>decide (rc+k<=rs.length+1)
 |_=>decide (k<=(rs.getD (rc - 1) []).length)
def gR {α:Type}(d:α)(kd:Tote.Kind)(k rc:Nat)(as:List α):List α:=match kd with
 |.legs=>(as.drop (rc - 1)).take k
 |.place=>[as.getD (rc - 1) d]
 |_=>List.replicate k (as.getD (rc - 1) d)
theorem v9 (kd:Tote.Kind)(k rc:Nat)(rs:N2):gR [] kd k rc rs=fq kd k rc rs:=by cases kd <;> rfl
theorem tH {α β:Type}{F:α->β->Prop}{d:α}{e:β}{kd:Tote.Kind}{k rc:Nat}{as:List α}{rs:List β}(h:Paired F as rs)(h1:1<=rc)(h2:rc<=rs.length):Paired F (gR d kd k rc as) (gR e kd k rc rs):=by
 obtain⟨y,hy⟩:∃y,rs[rc - 1]?=some y:=⟨_,Lo (by omega)⟩;obtain⟨x,hx,hf⟩:=Paired.at2 h hy;have ex:as.getD (rc - 1) d=x:=by rw[LX,hx];rfl
 have ey:rs.getD (rc - 1) e=y:=by rw[LX,hy];rfl
 unfold gR;cases kd with
 |legs=>exact Paired.tk k (Paired.dp (rc - 1) h)
 |place=>rw[ex,ey];exact .cons hf .nil
 |order=>rw[ex,ey];exact Paired.rep hf k
 |any=>rw[ex,ey];exact Paired.rep hf k
def pF (K:N4):Sp:=λvs H Q _=>∃(kd:Tote.Kind) (k rc:Nat) (a:Addr) (as:List Addr) (rs:N2),vs=[.str (st (cd (kindS kd))),.int (k:Nat),.int (rc:Nat),.ref a]/\aU K H a (as.map V.ref)/\Paired (hU K H) as rs/\1<=k/\k<=6/\1<=rc/\rc<=rs.length/\rs.length<=70000 /\
 (mw kd k rc rs=false->Q .cj H)/\(mw kd k rc rs=true->∀H' p,au H H'->H p=none->H' p=some (.lst ((gR 0 kd k rc as).map V.ref))->Q (.ref p) H')
theorem iA {kd:Tote.Kind}{s:String}:decide (V.str (st (cd (kindS kd)))=V.str (Str.ofString s))=decide (cd (kindS kd)=cd s):=i8
theorem jX:aI ["kind","size","race","races","interests","place"] ["kind","size","race","races"] (ax gT):=fs
theorem Aa {dS aF:Addr}(G:GW mg)(GC:GC P w K mg dS aF){f:Addr}{fd:FuncData}(F:dG K "fields_of" "fields_of" gT f fd):bc P w K mg base bG 1 f fd ["kind","size","race","races"] (pF K):=by
 refine F.ok jX (λvs H Q E h=>?_) (λcdv A outer s H vs Q E hr h=>?_)
 · obtain⟨_,_,_,_,_,_,rfl,_⟩:=h;rfl
 · obtain⟨kd,k,rc,a,as,rs,rfl,hA,hP,hk1,hk2,hr1,hr2,hr3,q0,q1⟩:=h;have lenA:as.length=rs.length:=Paired.length hP;refine⟨_,af (aS (aC ck (pv 0) bt (aM _)) (af (aS (aC kQ (bH fH (bH eG (pv 2) (pv 1)) aw) (aH aA (by rfl) G.len PySem.boot_len (aa (pv 3) ah)) (aM _)) (ak (az cA)) aD)
     (ak (az (cJ fk (pv 3) (cT (bH fH (pv 2) aw)) (cT (bH eG (bH fH (pv 2) aw) (pv 1))))))) aD)
    (af (aN (i:=4) jX.nd rfl (Or.inr rfl) (bq aQ (pv 3) (bH fH (pv 2) aw) (λ_ _=>rfl)))
    (af (aS (aC nP (aH aA (by rfl) G.len PySem.boot_len (aa (pv 4) ah)) (pv 1) (aM _)) (ak (az cA)) aD)
    (af (aS (aC ck (pv 0) bt (aM _)) (ak (az (bW (aa (pv 4) ah)))) aD)
    (ak (az (fw rfl jX.nd (gd rfl GC.range (aa (pv 1) ah)) (bA (own:=[("place",5)]) rfl) (λ_ _ _ _ _=>aK (i:=5) jX.nd rfl (Or.inl rfl)) (λ_ _ _ _ _=>cn) (λ_ _ _ _ _=>pv 4))))))),?_⟩
   refine aX (aL (b9 (ag rfl) aE)) (λh=>?_) (λh=>?_)
   · rw[iA] at h;have e:kd=.legs:=by
      cases kd <;> first|rfl|(exact absurd (Ly h) (by decide))
     subst e;refine aX (jC (lO (lO (ag rfl) (ag rfl)) aE) (aZ (ag rfl) (.inl hA))) (λh=>?_) (λh=>?_)
     · refine bU aE (q0 ?_);rw[Le,lenA] at h;have:=Ly h;exact L3 (by omega)
     · rw[Le,lenA] at h;have:=LY h;refine⟨_,rfl,?_⟩;refine (lO (ag rfl) aE) _ ⟨_,rfl,?_⟩;refine (lO (lO (ag rfl) aE) (ag rfl)) _ ⟨_,rfl,a,as.map V.ref,rfl,hA,λp hp=>?_⟩;have e1:(rc:Int) - 1=((rc - 1:Nat):Int):=by omega
       have e2:(rc:Int) - 1+(k:Int)=((rc - 1+k:Nat):Int):=by omega
       rw[e1,show (((rc - 1:Nat):Int)+(k:Int))=((rc - 1+k:Nat):Int) by omega,yA (by rw[Le,lenA];omega)];refine q1 (LU (by omega)) _ p ((au.refl H).laid hp) hp ?_;show upd H p _ p=some (.lst (((as.drop (rc - 1)).take k).map V.ref));rw[ae,show rc - 1+k - (rc - 1)=k by omega,List.map_take,NL]
   · rw[iA] at h;have hnl:kd≠.legs:=by
      rintro rfl;exact absurd (LY h) (by decide)
     obtain⟨ns,hns⟩:∃ns,rs[rc - 1]?=some ns:=⟨_,Lo (by omega)⟩;obtain⟨ai,hai,hI⟩:=Paired.at2 hP hns;have hg:rs.getD (rc - 1) []=ns:=by rw[LX,hns];rfl
     have hgA:as.getD (rc - 1) 0=ai:=by rw[LX,hai];rfl
     have hat:nJ (as.map V.ref) ((rc:Int) - 1)=some (.ref ai):=by
      rw[show (rc:Int) - 1=((rc - 1:Nat):Int) by omega];exact cw (by rw[Lj,hai];rfl)
     refine cE (a_ (ag rfl) (lO (ag rfl) aE) hA hat) ?_;have eO:mw kd k rc rs=decide (k<=ns.length):=by
      unfold mw;rw[hg];cases kd <;> first|rfl|exact absurd rfl hnl
     rw[eO] at q0 q1;refine aX (jC (aZ (ag rfl) (.inl hI)) (ag rfl)) (λh=>?_) (λh=>?_)
     · refine bU aE (q0 (L3 ?_));rw[aR] at h;have:=Ly h;omega
     · rw[aR] at h;have:=LY h;have q1:=q1 (LU (by omega));refine aX (aL (b9 (ag rfl) aE)) (λh=>?_) (λh=>?_)
       · rw[iA] at h;have e:kd=.place:=by
          cases kd <;> first|rfl|(exact absurd (Ly h) (by decide))
         subst e;refine⟨_,rfl,(by show 1<=sizeLine;decide),λp hp=>q1 _ p ((au.refl H).laid hp) hp ?_⟩;show upd H p _ p=some (.lst [.ref (as.getD (rc - 1) 0)]);rw[hgA];exact ae
       · rw[iA] at h;have hnp:kd≠.place:=by
          rintro rfl;exact absurd (LY h) (by decide)
         have eF:gR 0 kd k rc as=List.replicate k ai:=by
          unfold gR;rw[hgA];cases kd <;> first|rfl|exact absurd rfl hnl|exact absurd rfl hnp
         rw[eF] at q1;refine⟨_,rfl,(k:Int),rfl,by omega,by omega,λD hD=>?_⟩;rw[show ((k:Int)).toNat=k by omega];refine mD (lo:=0) (n:=k) (λi H'=>au H H'/\H' D=some (.lst ((List.replicate i ai).map V.ref))) ⟨(au.refl H).laid hD,ae⟩ ?_ ?_
         · rintro i H' hi ⟨k1,k2⟩;refine⟨rfl,_,rfl,_,k2,?_,?_⟩
           · rw[Le,LN,LG];omega
           · refine⟨λb u z=>?_,?_⟩
             · rw[aq (ao z hD)];exact k1 b u z
             · rw[ae,List.replicate_succ',Lx];rfl
         · rintro H' ⟨k1,k2⟩;exact q1 H' D k1 hD k2
end
theorem mM {w:W}{kd:Tote.Kind}(h:dD w=some kd):w=cd (kindS kd):=by
 unfold dD at h;split at h
 · rename_i e;cases h;exact e
 · split at h
   · rename_i e;cases h;exact e
   · split at h
     · rename_i e;cases h;exact e
     · split at h
       · rename_i e;cases h;exact e
       · cases h
theorem rf {ws:List W}(h:fE ws=true):ws.length=16/\∃kd,dD (ws.getD 2 [])=some kd:=by
 unfold fE at h;simp only[Ll,L5] at h;exact⟨h.1.1.1,Np.mp h.2⟩
theorem E9 {ws:List W}(h:ws.length=16):∃p nm kd k fr rc tk t br b le m un u no z:W,ws=[p,nm,kd,k,fr,rc,tk,t,br,b,le,m,un,u,no,z]:=by
 match ws,h with
 |[p,nm,kd,k,fr,rc,tk,t,br,b,le,m,un,u,no,z],_=>exact⟨p,nm,kd,k,fr,rc,tk,t,br,b,le,m,un,u,no,z,rfl⟩
theorem qS {ws:List W}{rs:N2}(h:¬(fE ws=true/\eW ws=true)):eU ws rs=none:=by
 by_cases hl:ws.length=16
 · obtain⟨p,nm,kd,k,fr,rc,tk,t,br,b,le,m,un,u,no,z,rfl⟩:=E9 hl;show (match dD kd with
    |none=>none
    |some kind=>if dw rs kind p nm k fr rc tk t br b le m un u no z then some (⟨nm,kind,fq kind (ay k).toNat (ay rc).toNat rs,(ay u).toNat⟩:aO) else none)=none
   cases hk:dD kd with
   |none=>rfl
   |some kind =>
    show (if dw rs kind p nm k fr rc tk t br b le m un u no z then _ else none)=none;rw[Lf];rintro⟨c1,c2,c3,c4,c5,c6,c7,c8,c9,c10,c11,c12,c13,c14,c15,c16⟩;refine h ⟨?_,?_⟩
    · unfold fE;show (_&&(fb.all λq=>_)&&eN nm&&(dD kd).isSome)=true;rw[c8,hk];simp[fb,c1,c2,c3,c4,c5,c6,c7]
    · have hkl:=mM hk;unfold eW;show (!(!(decide (0<=ay t)&&decide (ay t<=400))||!(decide (1<=ay b)&&decide (ay b<=1000)))&&(!(!(decide (1<=ay u)&&decide (ay u<=10000))||!(decide (ay m=0)||(decide (ay u<=ay m)&&decide (ay m<=2*ay u)))) &&
       (if z=cd "fewer" then !decide (kd=cd "place") else decide (z=cd "refund")||decide (z=cd "carry"))))=true
      have d1:(decide (0<=ay t)&&decide (ay t<=400))=true:=by simp[c9]
      have d2:(decide (1<=ay b)&&decide (ay b<=1000))=true:=by simp[c10]
      have d3:(decide (1<=ay u)&&decide (ay u<=10000))=true:=by simp[c11]
      have d4:(decide (ay m=0)||(decide (ay u<=ay m)&&decide (ay m<=2*ay u)))=true:=by simpa using c12
      rw[d1,d2,d3,d4];by_cases hz:z=cd "fewer"
      · rw[Lg hz];rcases c13 with c|c|c
        · have:kd≠cd "place":=by
           rw[hkl];intro e;exact c.2 (by cases kind <;> first|rfl|exact absurd e (by decide))
          simp[this]
        · rw[hz] at c;exact absurd c (by decide)
        · rw[hz] at c;exact absurd c (by decide)
      · rw[Lf hz];rcases c13 with c|c|c
        · exact absurd c.1 hz
        · simp[c]
        · simp[c]
 · unfold eU;split
   · rename_i e;exact absurd (by rfl) hl
   · rfl
theorem Ds {ws:List W}{rs:N2}{kd:Tote.Kind}(hf:fE ws=true)(ht:eW ws=true)(hk:dD (ws.getD 2 [])=some kd) :
  eU ws rs=if ((sizeOf kd).1<=ay (ws.getD 3 [])/\ay (ws.getD 3 [])<=(sizeOf kd).2)/\(1<=ay (ws.getD 5 [])/\ay (ws.getD 5 [])<=(rs.length:Int))/\mw kd (ay (ws.getD 3 [])).toNat (ay (ws.getD 5 [])).toNat rs=true
   then some ⟨ws.getD 1 [],kd,fq kd (ay (ws.getD 3 [])).toNat (ay (ws.getD 5 [])).toNat rs,(ay (ws.getD 13 [])).toNat⟩ else none:=by
 obtain⟨hl,_⟩:=rf hf;obtain⟨p,nm,kw,k,fr,rc,tk,t,br,b,le,m,un,u,no,z,rfl⟩:=E9 hl;have hk:dD kw=some kd:=hk;show (match dD kw with
   |none=>none
   |some kind=>if dw rs kind p nm k fr rc tk t br b le m un u no z then some (⟨nm,kind,fq kind (ay k).toNat (ay rc).toNat rs,(ay u).toNat⟩:aO) else none)=if ((sizeOf kd).1<=ay k/\ay k<=(sizeOf kd).2)/\(1<=ay rc/\ay rc<=(rs.length:Int))/\mw kd (ay k).toNat (ay rc).toNat rs=true
   then some (⟨nm,kd,fq kd (ay k).toNat (ay rc).toNat rs,(ay u).toNat⟩:aO) else none
 rw[hk];show (if dw rs kd p nm k fr rc tk t br b le m un u no z then some (⟨nm,kd,fq kd (ay k).toNat (ay rc).toNat rs,(ay u).toNat⟩:aO) else none)=_;have key:dw rs kd p nm k fr rc tk t br b le m un u no z↔((sizeOf kd).1<=ay k/\ay k<=(sizeOf kd).2)/\(1<=ay rc/\ay rc<=(rs.length:Int))/\mw kd (ay k).toNat (ay rc).toNat rs=true:=by
  have hkl:=mM hk;have f1:(fb.all λq=>[p,nm,kw,k,fr,rc,tk,t,br,b,le,m,un,u,no,z].getD q.1 []==q.2)=true:=by
   unfold fE at hf;simp only[Ll] at hf;exact hf.1.1.2
  have f2:eN nm=true:=by
   unfold fE at hf;simp only[Ll] at hf;exact hf.1.2
  have f1:p=cd "pool"/\fr=cd "from"/\tk=cd "take"/\br=cd "break"/\le=cd "least"/\un=cd "unit"/\no=cd "none":=by
   have g:((p==cd "pool")&&((fr==cd "from")&&((tk==cd "take")&&((br==cd "break")&&((le==cd "least")&&((un==cd "unit")&&((no==cd "none")&&true)))))))=true:=f1;simp only[Ll,L5] at g;obtain⟨g1,g2,g3,g4,g5,g6,g7,_⟩:=g;exact⟨g1,g2,g3,g4,g5,g6,g7⟩
  have f3:(!(!(decide (0<=ay t)&&decide (ay t<=400))||!(decide (1<=ay b)&&decide (ay b<=1000)))&&(!(!(decide (1<=ay u)&&decide (ay u<=10000))||!(decide (ay m=0)||(decide (ay u<=ay m)&&decide (ay m<=2*ay u)))) &&
        (if z=cd "fewer" then !decide (kw=cd "place") else decide (z=cd "refund")||decide (z=cd "carry"))))=true:=ht
  simp only[Ll,L6,Mp,L9,Lm,Me] at f3;obtain⟨⟨t1,t2⟩,⟨t3,t4⟩,t5⟩:=f3;have s1:(leastK kd:Int)=(sizeOf kd).1:=by cases kd <;> rfl
  have s2:(mostK kd:Int)=(sizeOf kd).2:=by cases kd <;> rfl
  have s3:1<=(sizeOf kd).1:=by cases kd <;> decide
  constructor
  · rintro⟨_,_,_,_,_,_,_,_,_,_,_,_,_,c14,c15,c16⟩;rw[s1,s2] at c14;refine⟨c14,c15,?_⟩;unfold mw;rcases c16 with ⟨rfl,c⟩|⟨hn,c⟩
    · exact LU (by omega)
    · have e:(ay rc - 1).toNat=(ay rc).toNat - 1:=by omega
      rw[e] at c;cases kd <;> first|exact LU (by omega)|exact absurd rfl hn
  · rintro⟨c14,c15,c16⟩;refine⟨f1.1,f1.2.1,f1.2.2.1,f1.2.2.2.1,f1.2.2.2.2.1,f1.2.2.2.2.2.1,f1.2.2.2.2.2.2,f2,t1,t2,t3,t4,?_,by rw[s1,s2];exact c14,c15,?_⟩
    · split at t5
      · rename_i hz;simp only[L6,LW] at t5;refine .inl ⟨hz,?_⟩;rintro rfl;exact t5 hkl
      · refine .inr ?_;simpa using t5
    · have e:(ay rc - 1).toNat=(ay rc).toNat - 1:=by omega
      rw[e];unfold mw at c16;by_cases hn:kd=.legs
      · subst hn;have:=Ly c16;exact .inl ⟨rfl,by omega⟩
      · refine .inr ⟨hn,?_⟩;have:(ay k).toNat<=(rs.getD ((ay rc).toNat - 1) []).length:=by
         cases kd <;> first|exact Ly c16|exact absurd rfl hn
        omega
 by_cases hc:dw rs kd p nm k fr rc tk t br b le m un u no z
 · rw[Lg hc,Lg (key.mp hc)]
 · rw[Lf hc,Lf (λz=>hc (key.mpr z))]
section
variable {P:Program}{w:World}{K:N4}{mg:N6}{base:Heap}
def wU (K:N4) (C:Addr):Sp:=λvs H Q _=>∃(a b:Addr) (ws:List W) (as:List Addr) (rs:N2),vs=[.ref a,.ref b]/\aU K H a (sV ws)/\mK ws/\aU K H b (as.map V.ref)/\Paired (hU K H) as rs/\rs.length<=16 /\
 (eU ws rs=none->∀H',au H H'->Q .cj H')/\(∀p,eU ws rs=some p->∀H' x dx fa fas,au H H'->H x=none->H fa=none->H' x=some (.ins C dx (jk (.str (st p.name)) (.str (st (cd (kindS p.kind)))) (.ref fa) (.int (p.unit:Nat)))) ->
  H' fa=some (.lst (fas.map V.ref))->(∀F:Addr->N3->Prop,Paired F as rs->Paired F fas p.fields)->Q (.ref x) H')
theorem kl:aI ["words","races","kind","size","bounds","race","fields"] ["words","races"] (ax gX):=fs
theorem Ei {dS aF C:Addr}(G:GW mg)(GC:GC P w K mg dS aF)(T:CK K mg "Pool" gZ C){k:Nat}(FF:Fn P w K mg base bG k "has_pool_form" ["words"] (wZ K))(FT:Fn P w K mg base bG k "are_terms_good" ["words"] (tG K))
  (FN:Fn P w K mg base bG k "number_of" ["word"] kM)(FL:Fn P w K mg base bG k "fields_of" ["kind","size","race","races"] (pF K))(FP:xQ P w K mg base bG k C ["self","name","kind","fields","unit"] (tm C))
  {f:Addr}{fd:FuncData}(F:dG K "read_pool" "read_pool" gX f fd):bc P w K mg base bG (k+2) f fd ["words","races"] (wU K C):=by
 refine F.ok kl (λvs H Q E h=>?_) (λcdv A outer s H vs Q E hr1 h=>?_)
 · obtain⟨_,_,_,_,_,rfl,_⟩:=h;rfl
 · obtain⟨a,b,ws,as,rs,rfl,hS,ok,hA0,hP0,hR16,q0,q1⟩:=h;have hr:cX k _:=hr1.mono (Nat.le_succ k);obtain⟨ts,hD,hT⟩:=GC.B6;refine⟨_,af (aS (PW.pt (eh (cF (hZ (aV FF hr bf (aa (pv 0) ah)))) (cO (cF (hZ (aV FT hr bf (aa (pv 0) ah))))))) (ak (az cA)) aD)
    (af (aN (i:=2) kl.nd rfl (Or.inl rfl) (bq aQ (pv 0) aw (λ_ _=>rfl)))
    (af (aN (i:=3) kl.nd rfl (Or.inl rfl) (aV FN hr bf (aa (bq aQ (pv 0) aw (λ_ _=>rfl)) ah)))
    (af (aN (i:=4) kl.nd rfl (Or.inl rfl) (Cy hD (bg GC.Fo) (pv 2) (λ_ _=>rfl)))
    (af (aN (i:=5) kl.nd rfl (Or.inl rfl) (aV FN hr bf (aa (bq aQ (pv 0) aw (λ_ _=>rfl)) ah)))
    (af (aS (PW.pt (eh (cF (cD b7 b7 (bq Ba (pv 4) aw (λ_ _=>rfl)) (pv 3) (bq Ba (pv 4) aw (λ_ _=>rfl)))) (cO (cF (cD b7 b7 aw (pv 5) (aH aA (by rfl) G.len PySem.boot_len (aa (pv 1) ah))))))) (ak (az cA)) aD)
    (af (aN (i:=6) kl.nd rfl (Or.inl rfl) (aV FL hr bf (aa (pv 2) (aa (pv 3) (aa (pv 5) (aa (pv 1) ah))))))
    (af (aS (aC uc (pv 6) cA (aM _)) (ak (az cA)) aD)
    (ak (az (pz FP hr1 T.mg bf (aa (bq aQ (pv 0) aw (λ_ _=>rfl)) (aa (pv 2) (aa (pv 6) (aa (aV FN hr bf (aa (bq aQ (pv 0) aw (λ_ _=>rfl)) ah)) ah)))))))))))))),?_⟩
   refine⟨_,rfl,a,ws,rfl,hS,ok,λH1 e1=>⟨_,rfl,?_⟩⟩;refine gF (λh=>?_) (λh=>?_)
   · refine q0 (qS λz=>?_) H1 e1;rw[z.1] at h;cases h
   have hf:fE ws=true:=by simpa using h
   obtain⟨hl,kd,hk⟩:=rf hf;refine⟨_,rfl,a,ws,rfl,e1.seq hS,ok,hl,λH2 e2=>⟨_,rfl,?_⟩⟩;have e12:=e1.trans e2;refine gF (λh=>?_) (λh=>?_)
   · refine q0 (qS λz=>?_) H2 e12;rw[z.2] at h;cases h
   have ht:eW ws=true:=by simpa using h
   have hS2:=e12.seq hS;have pe:=Ds (rs:=rs) hf ht hk;have hkl:=mM hk;refine cE (a_ (ag rfl) aE hS2 (dC (i:=2) (by omega))) ?_;refine cE (gD (a_ (ag rfl) aE hS2 (dC (i:=3) (by omega))) (ok.getD 3)) ?_;refine⟨_,rfl,Sum.inr (st (ws.getD 2 [])),V.ref (ts kd),Value.ref (ts kd),rfl,rfl,by rw[u6,hk];rfl,rfl,?_⟩;refine cE (gD (a_ (ag rfl) aE hS2 (dC (i:=5) (by omega))) (ok.getD 5)) ?_;have hA:=e12.seq hA0;have hP:=iV hP0 e12;have lenA:as.length=rs.length:=Paired.length hP;refine aX (gP (e_ (cC (BB (ag rfl) aE (hT kd H2) (cw (j:=0) rfl)) (ag rfl) (BB (ag rfl) aE (hT kd H2) (cw (j:=1) rfl)))) λ_=>e_ (cC aE (ag rfl) (aZ (ag rfl) (.inl hA)))) (λh=>?_) (λh=>?_)
   · refine bU aE (q0 ?_ H2 e12);rw[pe,Lf];rintro⟨z1,z2,_⟩;rw[Le,lenA] at h;simp only[Me,L6,MC,LW] at h;omega
   rw[Le,lenA] at h;simp only[Mp,L9,Ll,Lm] at h;obtain⟨h1,h2⟩:=h;have s3:1<=(sizeOf kd).1:=by cases kd <;> decide
   have s4:(sizeOf kd).2<=6:=by cases kd <;> decide
   have n3:ay (ws.getD 3 [])=(((ay (ws.getD 3 [])).toNat:Nat):Int):=by omega
   have n5:ay (ws.getD 5 [])=(((ay (ws.getD 5 [])).toNat:Nat):Int):=by omega
   refine⟨_,rfl,_,rfl,_,rfl,_,rfl,kd,(ay (ws.getD 3 [])).toNat,(ay (ws.getD 5 [])).toNat,b,as,rs,by rw[←n3,←n5,←hkl];rfl,hA,hP,by omega,by omega,by omega,by omega,by omega,λhO=>?_,λhO H3 p e3 hpn hp=>?_⟩
   ·
    refine⟨_,rfl,rfl,_,rfl,q0 ?_ H2 e12⟩;rw[pe,Lf];rintro⟨_,_,z⟩;rw[hO] at z;cases z
   · refine⟨_,rfl,rfl,_,rfl,?_⟩;have e13:=e12.trans e3;have hS3:=e13.seq hS;refine (a_ (ag rfl) aE hS3 (dC (i:=1) (by omega))) _ ⟨_,rfl,_,rfl,?_⟩;refine (gD (a_ (ag rfl) aE hS3 (dC (i:=13) (by omega))) (ok.getD 13)) _ ?_;intro x dx nx ndx nex;refine⟨x,dx,_,_,_,_,rfl,ae,rfl,?_⟩;rw[Lg ⟨h1,h2,hO⟩] at pe;have sm:au H3 (upd (upd (upd H3 dx (.own x)) x (.ins C dx [])) x (.ins C dx (jk (V.str (st (ws.getD 1 []))) (V.str (st (ws.getD 2 []))) (V.ref p) (V.int (ay (ws.getD 13 [])))))):=λb u z=>by
      rw[aq (ao z nx),aq (ao z nx),aq (ao z ndx)];exact z
     have hu:0<=ay (ws.getD 13 []):=by
      unfold eW at ht;simp only[Ll,L6,Mp,L9,Lm] at ht;omega
     have nxp:p≠x:=ao hp nx;have npd:p≠dx:=ao hp ndx;refine q1 _ pe _ x dx p (gR 0 kd (ay (ws.getD 3 [])).toNat (ay (ws.getD 5 [])).toNat as) (e13.trans sm) (e13.free nx) (e12.free hpn) ?_ ?_ ?_
     · rw[ae,hkl];rw[hkl] at *;simp only[Int.toNat_of_nonneg hu]
     · exact sm _ _ hp
     · intro F0 hF0;show Paired _ _ (fq _ _ _ rs);rw[←v9];exact tH hF0 (by omega) (by omega)
end
end Bw
namespace L2
open PySem PySem.Spec PyProof.Rows
theorem Jc {te:TE}{D:Ends}{σ:St}{H:Hp}(h:te σ H D.rt):Dz te D σ H:=h
theorem yI {wi:TI}{g:TG}{tt:TT}{te:TE}{vs:N3}{σ:St}{H:Hp}{Q:VK}(h:wi σ H λJ H1=>∀D,H1 D=none->∃W:Nat->Nat->Hp->Prop,(∃m,W 0 m (upd H1 D (.lst [])))/\∀i m H,W i m H ->
 (J.stop i H/\Q (.ref D) H)∨(J.go i H/\∃Nx:Hp->Prop,(∀H',Nx H'->∃m',m' < m/\W (i+1) m' H')/\∀x H',J.vS i H x H'->g x (wipe σ vs) H' λσ2 H2=>wipe σ2 vs=wipe σ vs/\tt σ2 H2 λb H3 =>
  if b=true then te σ2 H3 λy H4=>∃acc,H4 D=some (.lst acc)/\acc.length < sizeLine/\Nx (upd H4 D (.lst (acc++[y]))) else Nx H3)):F6 wi g tt te vs σ H Q:=h
theorem jJ {σ:St}{H:Hp}{ta tb:TE}{i j:Int}(ha:Ev ta σ H (.int i))(hb:Ev tb σ H (.int j)):Ev (kG (qB λi j=>.int (i+j)) ta tb) σ H (.int (i+j)):=λ_ r=>ha _ (hb _ ⟨i,j,rfl,rfl,r⟩)
theorem qh {σ:St}{H:Hp}{ta tb:TE}{i j:Int}(ha:Ev ta σ H (.int i))(hb:Ev tb σ H (.int j)):Ev (kG (qB λi j=>.int (i - j)) ta tb) σ H (.int (i - j)):=λ_ r=>ha _ (hb _ ⟨i,j,rfl,rfl,r⟩)
theorem tE {σ:St}{H:Hp}{ty td:TE}{y:V}{d:Addr}{o:Option V}(hy:Ev ty σ H y)(hd:Ev td σ H (.ref d))(g:gf H d y o):Tv (tB (Ih ty td)) σ H o.isSome:=λ_ r=>hy _ (hd _ ⟨d,o,rfl,g,_,rfl,r⟩)
def DO (p q r:Int->Int->Bool)(ta tb tc td:TE):TT:=λσ H Q=>∃i j k l,Ev ta σ H (.int i)/\Ev tb σ H (.int j)/\Ev tc σ H (.int k)/\Ev td σ H (.int l)/\Q (p i j&&(q j k&&r k l)) H
theorem zM {X:Cx}{a b c d:Expr}{o1 o2 o3:CmpOp}{p q r:Int->Int->Bool}{ta tb tc td:TE}{pos:Pos}(h1:jv X (compareOp o1) (qB λi j=>.bl (p i j)))(h2:jv X (compareOp o2) (qB λi j=>.bl (q i j)))(h3:jv X (compareOp o3) (qB λi j=>.bl (r i j)))
  (ha:PE X a ta)(hb:PE X b tb)(hc:PE X c tc)(hd:PE X d td)(hm:lastMarks [o1,o2,o3] [b,c,d]=false:=by with_unfolding_all rfl):PT X (.Compare a [o1,o2,o3] [b,c,d] pos) (DO p q r ta tb tc td):=by
 rintro pins s σ H Q I ⟨i,j,k,l,ea,eb,ec,ed,hq⟩;have get:∀{e:Expr} {te:TE} {v:V},PE X e te->Ev te σ H v->∀s',Inv X pins σ H s'->wpAny (model X.prog X.w) X.A (eval e X.env) (λu s2=>RelV v u/\Inv X pins σ H s2) X.xe s':=λ{e te v} he ev s' I' =>
  bB (he pins s' σ H (λx H1=>x=v/\H1=H) I' (ev _ ⟨rfl,rfl⟩)) λu s2 ⟨x,H1,I2,rx,e1,e2⟩=>by
   subst e1 e2;exact⟨rx,I2⟩
 have cmp:∀{op:CmpOp} {p:Int->Int->Bool} {i j:Int} {u v:Value},jv X (compareOp op) (qB λi j=>.bl (p i j))->RelV (.int i) u->RelV (.int j) v->∀s',Inv X pins σ H s'->wpAny (model X.prog X.w) X.A (compareOp op u v) (λc s2=>c=.bool (p i j)/\Inv X pins σ H s2) X.xe s':=λ{op p i j u v} ho ru rv s' I' =>
  bB (ho pins s' σ H _ _ u v (λx H1=>x=.bl (p i j)/\H1=H) I' ru rv ⟨i,j,rfl,rfl,rfl,rfl⟩) λc s2 ⟨x,H1,I2,rx,e1,e2⟩=>by
   subst e1 e2;exact⟨rx,I2⟩
 refine isTrue_chain (bB (get ha ea s I) λu0 s0 ⟨r0,I0⟩=>test_link (bB (get hb eb s0 I0) λu1 s1 ⟨r1,I1⟩=>bB (cmp h1 r0 r1 s1 I1) λc1 s2 ⟨e1,I2⟩=>?_)) hm;subst e1;refine Mt ?_;cases z1:p i j with
 |false=>rw[z1] at hq;exact ite_ff ⟨H,I2,hq⟩
 |true =>
  rw[z1] at hq;refine ite_tt (test_link (bB (get hc ec s2 I2) λu2 s3 ⟨r2,I3⟩=>bB (cmp h2 r1 r2 s3 I3) λc2 s4 ⟨e2,I4⟩=>?_));subst e2;refine Mt ?_;cases z2:q j k with
  |false=>rw[z2] at hq;exact ite_ff ⟨H,I4,hq⟩
  |true =>
   rw[z2] at hq;refine ite_tt (test_last (bB (get hd ed s4 I4) λu3 s5 ⟨r3,I5⟩=>bB (cmp h3 r2 r3 s5 I5) λc3 s6 ⟨e3,I6⟩=>?_));subst e3;exact Mt ⟨H,I6,hq⟩
end L2
namespace Bw
open PySem PySem.Spec PyProof.Rows L2 Tote
def CG (H:Hp)(d:Addr)(l:N3):Prop:=∃kvs,H d=some (.dK kvs)/\kvs.length<=l.length/\∀n:Nat,(cQ kvs (Sum.inl (n:Int):Key)).isSome=decide (n∈l)
theorem CG.put {kvs:List (Key×V)}{l:N3}{n:Nat}(h:kvs.length<=l.length)(hk:∀n:Nat,(cQ kvs (Sum.inl (n:Int):Key)).isSome=decide (n∈l)) :
  (putK kvs (Sum.inl (n:Int)) (V.bl true)).length<=(l++[n]).length/\∀m:Nat,(cQ (putK kvs (Sum.inl (n:Int)) (V.bl true)) (Sum.inl (m:Int):Key)).isSome=decide (m∈l++[n]):=by
 refine⟨?_,λm=>?_⟩
 · have:=gN kvs (Sum.inl (n:Int):Key) (V.bl true);rw[LA];simp;omega
 · rw[o5];by_cases e:m=n
   · subst e;rw[Lg rfl];simp
   · rw[Lf (λz=>e (by have:=Sum.inl.inj z;omega)),hk m];simp[e]
theorem Dc {b:Int}(hb:0<=b)(hb':b < 100000):Builtin.Range.small 2 b 3=true:=by
 unfold Builtin.Range.small Builtin.Range.rangeSize;simp only[Builtin.Range.rangeFitsLong,Ll,Me,Lm,L5,show ((3:Int) > 0) by decide,MX];split <;> omega
theorem G4 {m:Nat}:Builtin.Range.rangeSize 2 ((2+3*m:Nat):Int) 3=(m:Int):=by
 unfold Builtin.Range.rangeSize;simp only[show ((3:Int) > 0) by decide,MX];split <;> omega
theorem zf {R:Nat}{c a b:W}{r:List W}{fs ss:N3}:di R (c::a::b::r) fs ss=if c=cd "couple"/\1<=ay a/\ay a < ay b/\ay b<=(R:Int)/\¬(ay a).toNat∈ss/\¬(ay b).toNat∈fs/\¬(ay b).toNat∈ss
  then di R r (fs++[(ay a).toNat]) (ss++[(ay b).toNat]) else none:=rfl
theorem Ij {r:List W}{i:Nat}(h:i+3<=r.length):r.drop i=r.getD i []::r.getD (i+1) []::r.getD (i+2) []::r.drop (i+3):=by
 have g:∀j,j < r.length->r.drop j=r.getD j []::r.drop (j+1):=λj hj=>by
  rw[MB hj,LX,Lo hj];rfl
 rw[g i (by omega),g (i+1) (by omega),g (i+2) (by omega)]
section
variable {P:Program}{w:World}{K:N4}{mg:N6}{base:Heap}
def xN (K:N4):Sp:=λvs H Q _=>∃(a:Addr) (ws:List W),vs=[.ref a]/\aU K H a (sV ws)/\mK ws/\ws≠[] /\
 (bC ws=none->∀H',au H H'->Q .cj H')/\(∀hs,bC ws=some hs->∀H' x,au H H'->H x=none->H' x=some (.lst (nV hs))->Q (.ref x) H')
theorem sI {w0 n:W}{r:List W}:bC (w0::n::r)=if r.length % 3=0/\r.length<=24/\2<=ay n/\ay n<=24 then (di (ay n).toNat r [] []).map (dv (ay n).toNat) else none:=rfl
theorem wJ {ws:List W}(hne:ws≠[])(h:(!((ws.length:Int)==2+3*(((ws.length:Int) - 2) / 3))||decide (8 < ((ws.length:Int) - 2) / 3))=true):bC ws=none:=by
 match ws,hne with
 |[w0],_=>rfl
 |w0::n::r,_ =>
  rw[sI,Lf];rintro⟨z1,z2,_⟩;have el:((w0::n::r).length:Int)=2+(r.length:Int):=by simp;omega
  rw[el] at h;simp only[Me,L6,LK,Lm] at h;omega
theorem zL {ws:List W}(hne:ws≠[])(h:(ws.length:Int)=2+3*(((ws.length:Int) - 2) / 3)):∃w0 n r,ws=w0::n::r:=by
 match ws,hne with
 |[w0],_=>exact absurd h (by show ¬((1:Int)=2+3*((1 - 2) / 3));decide)
 |w0::n::r,_=>exact⟨w0,n,r,rfl⟩
theorem uf (R:Nat)(ss:N3):dv R ss=((List.range R).map λi=>i+1).filter λn=>!decide (n∈ss):=by
 unfold dv;congr 1;funext n;rw[Mm]
theorem fu:aI ["words","couples","runners","firsts","seconds","at","first","second","runner"] ["words"] (ax fC):=fs
theorem EV {dS aF:Addr}(G:GW mg)(GC:GC P w K mg dS aF){k:Nat}(FN:Fn P w K mg base bG k "number_of" ["word"] kM){f:Addr}{fd:FuncData}(F:dG K "read_race" "read_race" fC f fd):bc P w K mg base bG (k+1) f fd ["words"] (xN K):=by
 refine F.ok fu (λvs H Q E h=>?_) (λcdv A outer s H vs Q E hr h=>?_)
 · obtain⟨_,_,rfl,_⟩:=h;rfl
 · obtain⟨a,ws,rfl,hS,ok,hne,q0,q1⟩:=h;have hu:∀{X:Cx},X.A=(A.deeper (envOfC "read_race" (ax fC) s.heap.objs.size f cdv))->X.A.units+1 < cLine:=λ{X} e=>by rw[e];have:=hr.un;omega
   refine⟨_,af (aN (i:=1) fu.nd rfl (Or.inl rfl) (bH E3 (bH fH (aH aA (by rfl) G.len PySem.boot_len (aa (pv 0) ah)) aw) aw))
    (af (aS (PW.pt (eh (aC o8 (aH aA (by rfl) G.len PySem.boot_len (aa (pv 0) ah)) (bH eG aw (bH vV aw (pv 1))) (aM _)) (cO (aC kQ (pv 1) (bg GC.couples) (aM _))))) (ak (az cA)) aD)
    (af (aN (i:=2) fu.nd rfl (Or.inl rfl) (aV FN hr bf (aa (bq aQ (pv 0) aw (λ_ _=>rfl)) ah)))
    (af (aS (cF (cD b7 b7 aw (pv 2) (bg GC.runners))) (ak (az cA)) aD)
    (af (aN (i:=3) fu.nd rfl (Or.inl rfl) pf)
    (af (aN (i:=4) fu.nd rfl (Or.inr rfl) pf)
    (af (dg Mj rfl (rA rfl GC.range (aa aw (aa (aH aA (by rfl) G.len PySem.boot_len (aa (pv 0) ah)) (aa aw ah)))) (aK (i:=5) fu.nd rfl (Or.inl rfl))
     (af (aN (i:=6) fu.nd rfl (Or.inl rfl) (aV FN hr bf (aa (bq aQ (pv 0) (bH eG (pv 5) aw) (λ_ _=>rfl)) ah)))
     (af (aN (i:=7) fu.nd rfl (Or.inl rfl) (aV FN hr bf (aa (bq aQ (pv 0) (bH eG (pv 5) aw) (λ_ _=>rfl)) ah)))
     (af (aS (PW.pt (eh (aC o8 (bq aQ (pv 0) (pv 5) (λ_ _=>rfl)) bt (aM _)) (cO (cF (zM b7 nP b7 aw (pv 6) (pv 7) (pv 2)))))) (ak (az cA)) aD)
     (af (aS (PW.pt (eh (oQ (sR (hu rfl) (pv 6) (pv 4))) (eh (oQ (sR (hu rfl) (pv 7) (pv 3))) (cO (oQ (sR (hu rfl) (pv 7) (pv 4))))))) (ak (az cA)) aD)
     (af (l_ (hu rfl) (pv 3) (pv 6) lJ rfl)
     (ak (l_ (hu rfl) (pv 4) (pv 7) lJ rfl))))))))
    (ak (az (fw rfl fu.nd (rW rfl GC.range (aa aw (aa (bH eG (pv 2) aw) ah))) (bA (own:=[("runner",8)]) rfl) (λ_ _ _ _ _=>aK (i:=8) fu.nd rfl (Or.inl rfl)) (λ_ _ _ _ _=>ox (oQ (Ai (hu rfl) (pv 8) (pv 4)))) (λ_ _ _ _ _=>pv 8)))))))))),?_⟩
   refine cE (yM (lO (aZ (ag rfl) (.inl hS)) aE) aE ⟨by decide,by decide⟩) ?_;rw[dH];refine aX (gP (aL (qw (aZ (ag rfl) (.inl hS)) (lO aE (yM aE (ag rfl) (.inl ⟨by decide,by decide⟩))))) λ_=>jC (ag rfl) aE) (λh=>?_) (λh=>?_)
   · refine bU aE (q0 ?_ H (au.refl H));rw[a9,dH] at h;exact wJ hne h
   · rw[a9,dH] at h;simp only[Mp,L9,L5,LW] at h;obtain⟨h1,h2⟩:=h;obtain⟨w0,n,r,rfl⟩:=zL hne h1
     · have el:((w0::n::r).length:Int)=2+(r.length:Int):=by simp;omega
       rw[el] at h1 h2;obtain⟨m,hm⟩:∃m:Nat,r.length=3*m:=⟨r.length / 3,by omega⟩;have hm8:m<=8:=by omega
       have okn:n.length<=70000/\∀c∈n,c < 128:=ok.getD 1;refine cE (gD (wd:=n) (a_ (ag rfl) aE hS (dC (i:=1) (by simp))) okn) ?_;refine aX (e_ (cC aE (ag rfl) aE)) (λh=>?_) (λh=>?_)
       · refine bU aE (q0 ?_ H (au.refl H));rw[sI,Lf];rintro⟨_,_,z1,z2⟩;simp only[L6,MC,LW] at h;omega
       simp only[L9,Ll,Lm] at h;have hn:ay n=(((ay n).toNat:Nat):Int):=by omega
       generalize hR:(ay n).toNat=R at hn;have hre:bC (w0::n::r)=(di R r [] []).map (dv R):=by
        rw[sI,Lg ⟨by omega,by omega,h.1,h.2⟩,hR]
       rw[hn];intro d1 hd1 d2 hd2;have n12:d2≠d1:=by
        rintro rfl;rw[ae] at hd2;cases hd2
       have hd2':H d2=none:=by rwa [aq n12] at hd2
       have lenW:((w0::n::r).length:Int)=((2+3*m:Nat):Int):=by rw[el,hm];omega
       have S0:au H (upd (upd H d1 (.dK [])) d2 (.dK [])):=((au.refl H).laid hd1).laid hd2';refine qt (yS (n:=m) aE (aZ (ag rfl) (.inl (S0.seq hS))) aE ⟨by decide,by decide,?_,?_⟩ ?_)
       · rw[dH,lenW];exact Dc (by omega) (by omega)
       · rw[dH,lenW];exact G4
       refine oK (lo:=2) (c:=3) (n:=m) (λi σ H'=>∃(v5 v6 v7:Option V) (fs ss:N3),σ=[some (.ref a),some (.int ((((w0::n::r).length:Int) - 2) / 3)),some (.int (R:Nat)),some (.ref d1),some (.ref d2),v5,v6,v7,none] /\
         au H H'/\CG H' d1 fs/\CG H' d2 ss/\fs.length<=i/\ss.length<=i/\di R (r.drop (3*i)) fs ss=di R r [] [])
        ⟨none,none,none,[],[],rfl,S0,⟨[],by rw[aq n12.symm];exact ae,Ln _,λ_=>rfl⟩,⟨[],ae,Ln _,λ_=>rfl⟩,Ln _,Ln _,rfl⟩ ?_ ?_
       · rintro i σ H' hi ⟨v5,v6,v7,fs,ss,rfl,S1,⟨k1,e1,l1,p1⟩,⟨k2,e2,l2,p2⟩,lf,ls,hc⟩;have hS1:=S1.seq hS;have d3:r.drop (3*i)=r.getD (3*i) []::r.getD (3*i+1) []::r.getD (3*i+2) []::r.drop (3*(i+1)):=by
          have:=Ij (r:=r) (i:=3*i) (by omega);rw[this,show 3*i+3=3*(i+1) by omega]
         have ga:∀j,(w0::n::r).getD (2+j) []=r.getD j []:=λj=>by
          rw[show 2+j=j+1+1 by omega];rfl
         have at0:nJ (sV (w0::n::r)) (2+(i:Nat)*3)=some (.str (st (r.getD (3*i) []))):=by
          have:=dC (ws:=w0::n::r) (i:=2+3*i) (by simp;omega);rw[ga] at this;rw[show (2:Int)+(i:Nat)*3=((2+3*i:Nat):Int) by omega];exact this
         have qK:nJ (sV (w0::n::r)) (2+(i:Nat)*3+1)=some (.str (st (r.getD (3*i+1) []))):=by
          have:=dC (ws:=w0::n::r) (i:=2+(3*i+1)) (by simp;omega);rw[ga] at this;rw[show (2:Int)+(i:Nat)*3+1=((2+(3*i+1):Nat):Int) by omega];exact this
         have at2:nJ (sV (w0::n::r)) (2+(i:Nat)*3+2)=some (.str (st (r.getD (3*i+2) []))):=by
          have:=dC (ws:=w0::n::r) (i:=2+(3*i+2)) (by simp;omega);rw[ga] at this;rw[show (2:Int)+(i:Nat)*3+2=((2+(3*i+2):Nat):Int) by omega];exact this
         have ok1:(r.getD (3*i+1) []).length<=70000/\∀c∈r.getD (3*i+1) [],c < 128:=by rw[←ga];exact ok.getD _
         have ok2:(r.getD (3*i+2) []).length<=70000/\∀c∈r.getD (3*i+2) [],c < 128:=by rw[←ga];exact ok.getD _
         rw[d3,zf] at hc;generalize hA:ay (r.getD (3*i+1) [])=na at hc;generalize hB:ay (r.getD (3*i+2) [])=nb at hc;refine cE (gD (a_ (ag rfl) (lO (ag rfl) aE) hS1 qK) ok1) ?_;refine cE (gD (a_ (ag rfl) (lO (ag rfl) aE) hS1 at2) ok2) ?_;rw[hA,hB];have none_:di R r [] []=none->Q .cj H':=λz=>q0 (by rw[hre,z];rfl) H' S1;refine aX (gP (aL (qw (a_ (ag rfl) (ag rfl) hS1 at0) aE)) λ_=>e_ (λR' r'=>⟨1,na,nb,(R:Int),aE,ag rfl,ag rfl,ag rfl,r'⟩)) (λh=>?_) (λh=>?_)
         · refine bU aE (none_ ?_);rw[←hc,Lf];rintro⟨z1,z2,z3,z4,_⟩;rw[i8] at h;dsimp only at h;rw[LU z1,LU z2,LU z3,LU z4] at h;cases h
         · rw[i8] at h;simp only[Mp,L9,Ll,Lm] at h;obtain⟨z1,z2,z3,z4⟩:=h;have ea:na=((na.toNat:Nat):Int):=by omega
           have eb:nb=((nb.toNat:Nat):Int):=by omega
           have gt1:gf H' d2 (.int na) (cQ k2 (Sum.inl na)):=gf.k (k:=Sum.inl na) e2;have gt2:gf H' d1 (.int nb) (cQ k1 (Sum.inl nb)):=gf.k (k:=Sum.inl nb) e1;have gt3:gf H' d2 (.int nb) (cQ k2 (Sum.inl nb)):=gf.k (k:=Sum.inl nb) e2;have s1:(cQ k2 (Sum.inl na)).isSome=decide (na.toNat∈ss):=by rw[←p2,←ea]
           have s2:(cQ k1 (Sum.inl nb)).isSome=decide (nb.toNat∈fs):=by rw[←p1,←eb]
           have s3:(cQ k2 (Sum.inl nb)).isSome=decide (nb.toNat∈ss):=by rw[←p2,←eb]
           refine aX (gP (tE (ag rfl) (ag rfl) gt1) λ_=>gP (tE (ag rfl) (ag rfl) gt2) λ_=>tE (ag rfl) (ag rfl) gt3) (λh=>?_) (λh=>?_)
           · refine bU aE (none_ ?_);rw[←hc,Lf];rintro⟨_,_,_,_,y1,y2,y3⟩;rw[s1,s2,s3,L3 y1,L3 y2,L3 y3] at h;cases h
           · rw[s1,s2,s3] at h;simp only[Mp,LW] at h;obtain⟨y1,y2,y3⟩:=h;rw[Lg ⟨z1,z2,z3,z4,y1,y2,y3⟩] at hc;have n21:d1≠d2:=n12.symm;have pu1:=CG.put (n:=na.toNat) l1 p1;have pu2:=CG.put (n:=nb.toNat) l2 p2;rw[←ea] at pu1;rw[←eb] at pu2;refine⟨_,rfl,_,rfl,d1,_,rfl,.inl ⟨k1,Sum.inl na,e1,rfl,by rw[LG];omega,rfl⟩,?_⟩;refine⟨_,rfl,_,rfl,d2,_,rfl,.inl ⟨k2,Sum.inl nb,by rw[aq n12];exact e2,rfl,by rw[LG];omega,rfl⟩,?_⟩;refine⟨_,_,_,fs++[na.toNat],ss++[nb.toNat],rfl,λb u z=>?_,⟨_,by rw[aq n21];exact ae,pu1⟩,⟨_,ae,pu2⟩,by rw[LA];simp;omega,by rw[LA];simp;omega,hc⟩;rw[aq (ao z hd2'),aq (ao z hd1)];exact S1 b u z
       · rintro σ H' ⟨v5,v6,v7,fs,ss,rfl,S1,hF1,⟨k2,e2,l2,p2⟩,lf,ls,hc⟩;rw[M_ (by omega)] at hc;have hc:some ss=di R r [] []:=hc;rw[←hc] at hre;dsimp only;refine Jc (yI ?_);refine zb (i:=1) (j:=((R:Nat):Int)+1) aE (jJ (ag rfl) aE) ⟨by decide,by decide,by omega,by omega⟩ ?_;intro D hD;rw[show (((R:Nat):Int)+1 - 1).toNat=R by omega];refine mD (lo:=1) (n:=R) (λi H2=>au H' H2/\H2 D=some (.lst (nV (((List.range i).map λj=>j+1).filter λn=>!decide (n∈ss))))) ⟨(au.refl H').laid hD,ae⟩ ?_ ?_
         · rintro i H2 hi ⟨m1,m2⟩;refine⟨rfl,?_⟩;have gt:gf H2 d2 (.int (1+(i:Nat))) (cQ k2 (Sum.inl (1+(i:Nat):Int))):=gf.k (k:=Sum.inl (1+(i:Nat):Int)) (m1 _ _ e2);have sg:(cQ k2 (Sum.inl (1+(i:Nat):Int))).isSome=decide (i+1∈ss):=by rw[←p2];congr 3;omega
           refine⟨_,rfl,_,rfl,d2,_,rfl,gt,_,rfl,?_⟩;rw[sg];have fl:((List.range (i+1)).map λj=>j+1).filter (λn=>!decide (n∈ss))=(((List.range i).map λj=>j+1).filter λn=>!decide (n∈ss))++(if (!decide (i+1∈ss))=true then [i+1] else []):=by
            rw[List.range_succ,Lx,M9];congr 1;by_cases z:i+1∈ss
            · simp[z]
            · simp[z]
           refine gF (λh=>?_) (λh=>?_)
           · refine⟨_,rfl,_,m2,?_,λb u z=>?_,?_⟩
             · rw[aR,LG];have:=NH (λn=>!decide (n∈ss)) ((List.range i).map λj=>j+1);rw[Le,Ny] at this;omega
             · rw[aq (ao z hD)];exact m1 b u z
             · rw[ae,fl,Lg h];unfold nV;rw[Lx];show some (HO.lst (_++[V.int (1+(i:Nat))]))=some (HO.lst (_++[V.int ((i+1:Nat):Int)]));rw[show (1:Int)+(i:Nat)=((i+1:Nat):Int) by omega]
           · refine⟨m1,?_⟩;rw[fl,Lf h,Mg];exact m2
         · rintro H2 ⟨m1,m2⟩;refine q1 (dv R ss) hre H2 D (S1.trans m1) (S1.free hD) ?_;rw[m2,uf]
end
end Bw
namespace L2
open PySem PySem.Spec PyProof.Rows
theorem zC {X:Cx}(hu:X.A.units+1 < cLine):jv X (compareOp .In) (λx y H Q=>∃p xs,x=.cj/\y=.ref p/\aU X.K H p xs/\(∀v∈xs,v=.cj∨∃a ys,v=.ref a/\aU X.K H a ys)/\Q (.bl (xs.any λv=>decide (v=.cj))) H):=by
 intro pins s σ H x y v u Q I rx ry h;obtain⟨p,xs,rfl,rfl,hq,hx,q⟩:=h;cases ry;cases rx;obtain⟨its,r,pl,hz⟩:=I.list hq;have key:∀{xs:List V} {us:N8},Vals xs us->(∀v∈xs,v=.cj∨∃a ys,v=.ref a/\aU X.K H a ys)->(∀u∈us,SeqAt.EqAt X.A.in1 s u .none (u==.none))/\us.any (·==.none)=xs.any λv=>decide (v=.cj):=by
  intro xs us r
  induction r with
  |nil=>exact λ_=>⟨λu hu=>by simp at hu,rfl⟩
  |@cons v u xs us r1 r2 ih =>
   intro hx;obtain⟨ih1,ih2⟩:=ih λv hv=>hx v (Lw _ hv);have e1:SeqAt.EqAt X.A.in1 s u .none (u==.none)/\(u==.none)=decide (v=.cj):=by
    rcases hx v (L0 ..) with rfl|⟨a,ys,rfl,hs⟩
    · cases r1;exact⟨SeqAt.EqAt.same _,rfl⟩
    · cases r1;obtain⟨its2,_,pl2,_⟩:=I.list hs;refine⟨?_,rfl⟩;exact SeqAt.EqAt.list_none pl2.isList (by show X.A.units+1 < cLine;exact hu)
   refine⟨λu' hu'=>?_,?_⟩
   · rcases Li.mp hu' with rfl|h
     · exact e1.1
     · exact ih1 u' h
   · rw[MM,MM,e1.2,ih2]
 obtain⟨k1,k2⟩:=key r hx;refine SeqAt.in_listAt (·==.none) pl.isList (λw hw=>k1 w (by simpa using hw)) ⟨.bl _,H,I,rfl,?_⟩;rw[show its.toArray.any (·==.none)=its.any (·==.none) by simp,k2];exact q
end L2
namespace Bw
open PySem PySem.Spec PyProof.Rows L2 Tote
def Dn (K:N4)(H:Hp)(a:Addr)(ls:List (List W)):Prop:=∃as:List Addr,aU K H a (as.map V.ref)/\Paired (λb ws=>aU K H b (sV ws)) as ls
def DW (kvs:List (Key×V))(l:List W):Prop:=kvs.length<=l.length/\∀n:W,(cQ kvs (Sum.inr (st n):Key)).isSome=l.contains n
theorem DW.put {kvs:List (Key×V)}{l:List W}{n:W}(h:DW kvs l):DW (putK kvs (Sum.inr (st n)) (V.bl true)) (l++[n]):=by
 refine⟨?_,λm=>?_⟩
 · have:=gN kvs (Sum.inr (st n):Key) (V.bl true);have:=h.1;rw[LA];simp;omega
 · rw[o5];by_cases e:m=n
   · subst e;rw[Lg rfl];simp
   · rw[Lf (λz=>e (jK.mp (Sum.inr.inj z))),h.2 m];simp[e]
def Ir (K:N4)(C:Addr)(H H':Hp)(pl:Addr)(a:Addr)(p:aO):Prop:=∃dx fa fas,H' a=some (.ins C dx (jk (.str (st p.name)) (.str (st (cd (kindS p.kind)))) (.ref fa) (.int (p.unit:Nat))))/\fa≠pl/\H' fa=some (.lst (fas.map V.ref))/\Paired (hU K H) fas p.fields
section
variable {P:Program}{w:World}{K:N4}{mg:N6}{base:Heap}
def ug (K:N4) (C:Addr):Sp:=λvs H Q _=>∃(a b:Addr) (ls:List (List W)) (rs:N2),vs=[.ref a,.ref b]/\Dn K H a ls/\(∀ws∈ls,mK ws)/\bF K H b rs/\rs.length<=16 /\
 (iL ls rs=none->∀H',au H H'->Q .cj H')/\(∀ps,iL ls rs=some ps->∀H' x,au H H'->cV K C H' x ps->Q (.ref x) H')
theorem jQ:aI ["lines","races","pools","names","words","pool"] ["lines","races"] (ax fU):=fs
theorem Bp {dS aF C:Addr}(G:GW mg)(GC:GC P w K mg dS aF)(T:CK K mg "Pool" gZ C){k:Nat}(FP:Fn P w K mg base bG k "read_pool" ["words","races"] (wU K C)){f:Addr}{fd:FuncData}(F:dG K "read_pools" "read_pools" fU f fd) :
  bc P w K mg base bG (k+1) f fd ["lines","races"] (ug K C):=by
 refine F.ok jQ (λvs H Q E h=>?_) (λcdv A outer s H vs Q E hr h=>?_)
 · obtain⟨_,_,_,_,rfl,_⟩:=h;rfl
 · obtain⟨a,b,ls,rs,rfl,⟨as,hA,hP⟩,ok,⟨rsa,hRa,hPr⟩,hR16,q0,q1⟩:=h;have lenA:as.length=ls.length:=Paired.length hP;have hu:=vG hr;refine⟨_,af (aS (aC kQ (aH aA (by rfl) G.len PySem.boot_len (aa (pv 0) ah)) (bg GC.pools) (aM _)) (ak (az cA)) aD)
    (af (aN (i:=2) jQ.nd rfl (Or.inl rfl) (bW ah))
    (af (aN (i:=3) jQ.nd rfl (Or.inl rfl) pf)
    (af (dg Mj rfl (bK (pv 0)) (aK (i:=4) jQ.nd rfl (Or.inl rfl))
     (af (aN (i:=5) jQ.nd rfl (Or.inl rfl) (aV FP hr bf (aa (pv 4) (aa (pv 1) ah))))
     (af (aS (PW.pt (eh (aC uc (pv 5) cA (aM _)) (cO (oQ (sR hu (a7 (pv 5) rfl) (pv 3)))))) (ak (az cA)) aD)
     (af (l_ hu (pv 3) (a7 (pv 5) rfl) lJ rfl)
     (ak (dP (p_ PySem.F.plainAttrs_list PySem.F.slot_list_append PySem.F.type_list_append ij (pv 2) (aa (pv 5) ah))))))))
    (ak (az (pv 2)))))),?_⟩
   refine aX (jC (aZ (ag rfl) (.inl hA)) aE) (λh=>?_) (λh=>?_)
   · refine bU aE (q0 ?_ H (au.refl H));rw[Le,lenA] at h;unfold iL;rw[Lg (by have:=Ly h;omega)]
   rw[Le,lenA] at h;have hl:¬64 < ls.length:=by have:=LY h;omega
   have eP:iL ls rs=bY rs [] ls:=by unfold iL;rw[Lf hl]
   rw[eP] at q0 q1;refine⟨LJ _,λpl hpl=>?_⟩;intro dn hdn;have ndp:dn≠pl:=by
    rintro rfl;rw[ae] at hdn;cases hdn
   have hdn0:H dn=none:=by rwa [aq ndp] at hdn
   have S0:au H (upd (upd H pl (.lst [])) dn (.dK [])):=((au.refl H).laid hpl).laid hdn0;refine⟨_,rfl,a,rfl,⟨_,S0.seq hA⟩,cZ (K:=K) (a:=a) (xs:=as.map V.ref) (λi σ H'=>∃(v4 v5:Option V) (acc:List aO) (pas:List Addr) (kvs:List (Key×V)),σ=[some (.ref a),some (.ref b),some (.ref pl),some (.ref dn),v4,v5]/\au H H' /\
     H' pl=some (.lst (pas.map V.ref))/\H' dn=some (.dK kvs)/\DW kvs (acc.map (·.name))/\Paired (Ir K C H H' pl) pas acc/\acc.length<=i/\bY rs acc (ls.drop i)=bY rs [] ls)
    ⟨none,none,[],[],[],rfl,S0,by rw[aq ndp.symm];exact ae,ae,⟨Ln _,λ_=>rfl⟩,.nil,Ln _,rfl⟩ (λi σ H' _ ⟨_,_,_,_,_,_,S1,_⟩=>S1.seq hA) ?_ ?_⟩
   · rintro i x σ H' hi ⟨v4,v5,acc,pas,kvs,rfl,S1,e1,e2,dnm,hI,hlen,hc⟩;rw[Lj] at hi;obtain⟨ai,hai,rfl⟩:=LO.mp hi;obtain⟨ws,hws,hsq⟩:=Paired.qK hP hai;have hil:i < ls.length:=(Lr.mp hws).1;have hd:ls.drop i=ws::ls.drop (i+1):=by
      rw[MB hil];congr 1;exact LQ ((Lo hil).symm.trans hws)
     rw[hd] at hc;have hc:(match eU ws rs with
      |none=>none
      |some p=>if (acc.map (·.name)).contains p.name=true then none else bY rs (acc++[p]) (ls.drop (i+1)))=bY rs [] ls:=hc
     refine⟨_,rfl,_,rfl,ai,b,ws,rsa,rs,rfl,S1.seq hsq,ok ws (LH hws),S1.seq hRa,iV hPr S1,hR16,λhn H2 e=>?_,λp hp H2 x dx fa fas e nx nfa hx hfa hfp=>?_⟩
     · refine⟨_,rfl,rfl,_,rfl,?_⟩;rw[hn] at hc;exact q0 hc.symm H2 (S1.trans e)
     · refine⟨_,rfl,rfl,_,rfl,?_⟩;rw[hp] at hc;have hc:(if (acc.map (·.name)).contains p.name=true then none else bY rs (acc++[p]) (ls.drop (i+1)))=bY rs [] ls:=hc;have e2':=e _ _ e2;have e1':=e _ _ e1;have S2:=S1.trans e;have gt:gf H2 dn (.str (st p.name)) (cQ kvs (Sum.inr (st p.name))):=gf.k (k:=Sum.inr (st p.name)) e2';refine (tE (bo (ag rfl) hx T.cl (T.no _ (by simp)) lq) (ag rfl) gt) _ ?_;rw[dnm.2];refine gF (λh=>?_) (λh=>?_)
       · rw[Lg h] at hc;exact q0 hc.symm H2 S2
       · rw[Lf h] at hc;have nxp:x≠pl:=(ao e1 nx).symm;have nxd:x≠dn:=(ao e2 nx).symm;have nfp:fa≠pl:=(ao e1 nfa).symm;have nfd:fa≠dn:=(ao e2 nfa).symm;have lenP:pas.length=acc.length:=Paired.length hI;refine⟨_,rfl,?_⟩;refine (bo (ag rfl) hx T.cl (T.no _ (by simp)) lq) _ ⟨dn,_,rfl,.inl ⟨kvs,Sum.inr (st p.name),e2',rfl,?_,rfl⟩,?_⟩
         · have:=dnm.1;rw[Le] at this;rw[LG];omega
         refine⟨_,rfl,.inl ⟨rfl,_,aU.of (by rw[aq ndp.symm];exact e1')⟩,_,rfl,pl,_,_,rfl,rfl,by rw[aq ndp.symm];exact e1',?_,?_⟩
         · rw[Le,LG];omega
         refine⟨_,_,acc++[p],pas++[x],_,rfl,λc u z=>?_,?_,by rw[aq ndp];exact ae,?_,?_,by rw[LA];simp;omega,hc⟩
         · rw[aq (ao z hpl),aq (ao z hdn0)];exact S2 c u z
         · rw[ae,Lx];rfl
         · rw[Lx];exact dnm.put
         · have keep:∀c u,H2 c=some u->c≠pl->c≠dn->(upd (upd H2 dn (.dK (putK kvs (Sum.inr (st p.name)) (V.bl true)))) pl (.lst (pas.map V.ref++[V.ref x]))) c=some u:=λc u z n1 n2=>by
            rw[aq n1,aq n2];exact z
           refine Paired.snoc (Paired.d8 hI λc q z=>?_) ⟨dx,fa,fas,keep _ _ hx nxp nxd,nfp,keep _ _ hfa nfp nfd,?_⟩
           · obtain⟨dx',fa',fas',z1,z2,z3,z4⟩:=z;have n1:c≠pl:=dF z1 e1 (by intro q;cases q);have n2:c≠dn:=dF z1 e2 (by intro q;cases q);have n3:fa'≠dn:=dF z3 e2 (by intro q;cases q);exact⟨dx',fa',fas',keep _ _ (e _ _ z1) n1 n2,z2,keep _ _ (e _ _ z3) z2 n3,z4⟩
           · exact hfp _ hPr
   · rintro σ H' ⟨v4,v5,acc,pas,kvs,rfl,S1,e1,e2,dnm,hI,hlen,hc⟩;rw[Le,lenA,M_ (Ln _)] at hc;have hc:some acc=bY rs [] ls:=hc;refine⟨_,rfl,q1 acc hc.symm H' pl S1 ⟨pas,aU.of e1,Paired.d8 hI λc q z=>?_⟩⟩;obtain⟨dx',fa',fas',z1,z2,z3,z4⟩:=z;exact⟨dx',fa',z1,fas',aU.of z3,iV z4 S1⟩
end
theorem tZ (c:Nat):∀(l acc:W),TL.nQ [c] 0 acc l=a6 c acc l
 |[],acc=>by rw[TL.oh];rfl
 |x::r,acc=>by
  by_cases h:x=c
  · subst h;rw[TL.yg (by unfold TL.pre;simp)];show acc::TL.nQ [x] 0 [] r=(if x=x then acc::a6 x [] r else _);rw[Lg rfl,tZ x r []]
  · rw[TL.vM (TL.uG [] r h)];show TL.nQ [c] 0 (acc++[x]) r=(if x=c then _ else a6 c (acc++[x]) r);rw[Lf h,tZ c r (acc++[x])]
theorem mC {c:Nat}(hc:c < 256)(l:W):Txt.split (st l) (st [c])=(a6 c [] l).map st:=by
 refine TL.pQ ?_;rw[TL.zK (st l) (st [c]) (by rw[qv];simp) (TL.D5 (by show [c].toArray.all (· < 256)=true;simp[hc])),qv,qv,tZ,LF];symm;exact (L8 λw _=>qv w).trans (List.map_id _)
theorem ka (c:Nat):∀(l w:W),a6 c w l≠[]
 |[],_=>by simp[a6]
 |x::l,w=>by
  unfold a6;split
  · simp
  · exact ka c l _
theorem dX (c:Nat):∀(l acc:W),∀w∈a6 c acc l,w.length<=acc.length+l.length/\∀x∈w,x∈acc∨x∈l
 |[],acc,w,hw=>by
  have:w=acc:=by simpa [a6] using hw
  subst this;exact⟨by simp,λx hx=>.inl hx⟩
 |y::l,acc,w,hw=>by
  unfold a6 at hw;split at hw
  · rcases Li.mp hw with rfl|hw
    · exact⟨by simp,λx hx=>.inl hx⟩
    · obtain⟨h1,h2⟩:=dX c l [] w hw;refine⟨by simp at h1 ⊢;omega,λx hx=>?_⟩;rcases h2 x hx with h|h
      · simp at h
      · exact .inr (Lw _ h)
  · obtain⟨h1,h2⟩:=dX c l (acc++[y]) w hw;refine⟨by simp at h1 ⊢;omega,λx hx=>?_⟩;rcases h2 x hx with h|h
    · rcases L4.mp h with h|h
      · exact .inl h
      · have:x=y:=by simpa using h
        exact .inr (by simp[this])
    · exact .inr (Lw _ h)
theorem fe (c:Nat):∀(l acc:W),(a6 c acc l).length<=l.length+1
 |[],_=>by simp[a6]
 |y::l,acc=>by
  unfold a6;split
  · have:=fe c l [];simp;omega
  · have:=fe c l (acc++[y]);simp;omega
theorem BQ:Str.ofString "\n"=st [10]:=by rw[kI];rfl
theorem Bc:Str.ofString " "=st [32]:=by rw[kI];rfl
theorem Dd (l:W):Txt.endswith (st l) (st [10])=decide (l.getLast?=some 10):=by
 unfold Txt.endswith;rw[PySem.StrLaws.subAt_eq,b6,b6];show (decide (0+1<=l.length)&&((l.drop (l.length - 1)).take 1==[10]))=_;rcases List.eq_nil_or_concat l with rfl|⟨r,x,rfl⟩
 · rfl
 · rw[List.concat_eq_append,List.getLast?_concat];simp;rw[LR,L5,Lm]
theorem BW (l:W):zx (st l) none (some (-1))=st l.dropLast:=by
 unfold zx;rw[HT.ir];refine Ml (λz:N3=>(⟨z.toArray⟩:Str)) ?_;show (l.drop 0).take (HT.b8 (st l).length (st l).length (some (-1)) - 0)=l.dropLast;rw[b6,List.drop_zero,Nat.sub_zero,List.dropLast_eq_take];congr 1;unfold HT.b8;simp;omega
theorem mr {α:Type}(p:α->Bool):∀(l:List α) (n:Nat),n<=l.length->(∀j x,j < n->l[j]?=some x->p x=true)->(∀x,l[n]?=some x->p x=false)->(l.takeWhile p).length=n/\l.takeWhile p=l.take n/\l.dropWhile p=l.drop n
 |[],n,h,_,_=>by
  have:n=0:=by simpa using h
  subst this;exact⟨rfl,rfl,rfl⟩
 |x::l,0,_,_,h2=>by
  have:=h2 x rfl;simp[Nm,NS,this]
 |x::l,n+1,h,h1,h2=>by
  have hx:=h1 0 x (by omega) rfl;obtain⟨a,b,c⟩:=mr p l n (by simpa using h) (λj y hj hy=>h1 (j+1) y (by omega) hy) (λy hy=>h2 y hy);refine⟨?_,?_,?_⟩
  · rw[Nm,Lg hx,Lp,a]
  · rw[Nm,Lg hx,b];rfl
  · rw[NS,Lg hx,c];rfl
def ju (H:Hp)(D:Addr)(v:V)(ws:List W):Prop:=match bC ws with
 |none=>v=.cj
 |some hs=>∃x,v=.ref x/\x≠D/\H x=some (.lst (nV hs))
theorem q_ {H:Hp}{D:Addr}:∀{vs:List V} {ls:List (List W)},Paired (ju H D) vs ls->¬none∈ls.map bC->∃as:List Addr,vs=as.map V.ref/\Paired (λa hs=>H a=some (.lst (nV hs))) as ((ls.map bC).filterMap id)
 |_,_,.nil,_=>⟨[],rfl,.nil⟩
 |v::vs,ws::ls,.cons r t,h=>by
  obtain⟨as,e,p⟩:=q_ t λz=>h (by simp at z ⊢;exact .inr z);unfold ju at r;cases hr:bC ws with
  |none=>exact absurd (by simp[hr]) h
  |some hs =>
   rw[hr] at r;obtain⟨x,rfl,_,hx⟩:=r;refine⟨x::as,by rw[e];rfl,?_⟩;rw[Lv,hr];exact .cons hx p
theorem mR {H:Hp}{D:Addr}:∀{vs:List V} {ls:List (List W)},Paired (ju H D) vs ls->(vs.any λv=>decide (v=.cj))=decide (none∈ls.map bC)
 |_,_,.nil=>rfl
 |v::vs,ws::ls,.cons r t=>by
  rw[MM,mR t];unfold ju at r;cases hr:bC ws with
  |none =>
   rw[hr] at r;simp[hr,show v=.cj from r]
  |some hs =>
   rw[hr] at r;obtain⟨x,rfl,_⟩:=r;simp[hr]
theorem nv {K:N4}{H:Hp}{D:Addr}:∀{vs:List V} {ls:List (List W)},Paired (ju H D) vs ls->∀v∈vs,v=.cj∨∃a ys,v=.ref a/\aU K H a ys
 |_,_,.nil,v,hv=>by simp at hv
 |v::vs,ws::ls,.cons r t,u,hu=>by
  rcases Li.mp hu with rfl|hu
  · unfold ju at r;cases hr:bC ws with
    |none=>rw[hr] at r;exact .inl r
    |some hs =>
     rw[hr] at r;obtain⟨x,rfl,_,hx⟩:=r;exact .inr ⟨x,_,rfl,aU.of hx⟩
  · exact nv t u hu
end Bw
namespace L2
open PySem PySem.Spec PyProof.Rows
theorem Bl {c:TT}{tb:TS}{D:Ends}{σ:St}{H:Hp}(Pv En:St->Hp->Prop)(μ:St->Hp->Nat)(h0:Pv σ H)(hb:∀σ H,Pv σ H->∃b,Tv c σ H b/\(b=true->tb {D with nx:=λσ' H'=>Pv σ' H'/\μ σ' H' < μ σ H,ct:=λσ' H'=>Pv σ' H'/\μ σ' H' < μ σ H,bk:=D.nx} σ H)/\(b=false->En σ H))
  (mono:∀σ H Q Q',(∀b H1,Q b H1->Q' b H1)->c σ H Q->c σ H Q')(aft:∀σ H,En σ H->D.nx σ H):wL c tb D σ H:=by
 refine Cr Pv μ h0 (λσ H hp=>?_) mono;obtain⟨b,hv,q1,q2⟩:=hb σ H hp;refine hv _ ?_;cases b with
 |false=>exact t7 (aft _ _ (q2 rfl))
 |true=>exact n_ (q1 rfl)
end L2
namespace Bw
open PySem PySem.Spec PyProof.Rows L2 Tote
section
variable {P:Program}{w:World}{K:N4}{mg:N6}{base:Heap}
def xn (K:N4) (C:Addr):Sp:=λvs H Q _=>∃(a:Addr) (cs:N3),vs=[.ref a]/\aU K H a (nV cs)/\cs.length<=65536 /\
 (dE (cs.map sg)=none->∀H',au H H'->Q .cj H')/\(∀ps,dE (cs.map sg)=some ps->∀H' x,au H H'->cV K C H' x ps->Q (.ref x) H')
theorem E8 (c:Nat):sg c < 128:=by
 unfold sg;split
 · rename_i h;unfold tX isLet bX at h;simp at h;omega
 · omega
theorem DP {t:W}(h:∀c∈t,c < 128)(hl:t.length<=65536):∀ws∈(a6 10 [] t).map (a6 32 []),mK ws/\ws≠[]:=by
 intro ws hws;obtain⟨l,hl1,rfl⟩:=LM.mp hws;obtain⟨h1,h2⟩:=dX 10 t [] l hl1;have h3:=fe 32 l [];refine⟨⟨by simp at h1;omega,λw hw=>?_⟩,ka 32 l []⟩;obtain⟨h4,h5⟩:=dX 32 l [] w hw;refine⟨by simp at h1 h4;omega,λc hc=>?_⟩;rcases h5 c hc with z|z
 · simp at z
 · rcases h2 c z with z|z
   · simp at z
   · exact h c z
theorem gM:aI ["codes","text","lines","behind_races","races","line","words"] ["codes"] (ax gU):=fs
theorem DL {dS aF C:Addr}(G:GW mg)(GC:GC P w K mg dS aF){k:Nat}(FX:Fn P w K mg base bG k "text_of" ["codes"] (tN K))(FD:Fn P w K mg base bG k "is_day" ["words"] (A1 K))(FR:Fn P w K mg base bG k "read_race" ["words"] (xN K))
  (FP:Fn P w K mg base bG k "read_pools" ["lines","races"] (ug K C)){f:Addr}{fd:FuncData}(F:dG K "read_card" "read_card" gU f fd):bc P w K mg base bG (k+1) f fd ["codes"] (xn K C):=by
 refine F.ok gM (λvs H Q E h=>?_) (λcdv A outer s H vs Q E hr h=>?_)
 · obtain⟨_,_,rfl,_⟩:=h;rfl
 · obtain⟨a,cs,rfl,hS,hcs,q0,q1⟩:=h;have hu:=vG hr;refine⟨_,af (aN (i:=1) gM.nd rfl (Or.inl rfl) (aV FX hr bf (aa (pv 0) ah)))
    (af (aS (cF (hZ (Bi PySem.F.slot_str_endswith PySem.F.type_str_endswith uD (pv 1) bt))) (ak (az cA)) aD)
    (af (oS (i:=2) rfl gM.nd rfl rfl (tF rfl rfl rfl rfl) (bK (lN (cJ G8 (pv 1) ft (cT (vq pL aw))) bt)) (bA (own:=[("line",5)]) rfl) (λ_ _ _ _ _=>aK (i:=5) gM.nd rfl (Or.inl rfl)) (λ_ _ _ _ _=>cn) (λ_ _ _ _ _=>lN (pv 5) bt))
    (af (aS (cF (hZ (aV FD hr bf (aa (bq aQ (pv 2) aw (λ_ _=>rfl)) ah)))) (ak (az cA)) aD)
    (af (aN (i:=3) gM.nd rfl (Or.inl rfl) aw)
    (af (Cj Mj (PW.pt (sH (aC nP (pv 3) (aH aA (by rfl) G.len PySem.boot_len (aa (pv 2) ah)) (aM _)) (oE (aC ck (bq aQ (bq aQ (pv 2) (pv 3) (λ_ _=>rfl)) aw (λ_ _=>rfl)) bt (aM _))))) (ak (A9 (i:=3) gM.nd rfl (Or.inl rfl) aw AA)))
    (af (oS (i:=4) rfl gM.nd rfl rfl (tF rfl rfl rfl rfl) (bK (cJ fk (pv 2) (cT aw) (cT (pv 3)))) (bA (own:=[("words",6)]) rfl) (λ_ _ _ _ _=>aK (i:=6) gM.nd rfl (Or.inl rfl)) (λ_ _ _ _ _=>cn) (λ_ _ _ _ _=>aV FR hr bf (aa (pv 6) ah)))
    (af (aS (PW.pt (eh (cF (cD b7 b7 aw (aH aA (by rfl) G.len PySem.boot_len (aa (pv 4) ah)) (bg GC.races))) (cO (aC (zC hu) cA (pv 4) (by with_unfolding_all rfl))))) (ak (az cA)) aD)
    (ak (az (aV FP hr bf (aa (cJ fk (pv 2) (cT (pv 3)) ft) (aa (pv 4) ah)))))))))))),?_⟩
   refine⟨_,rfl,a,cs,rfl,hS,by omega,λH1 S1=>?_⟩;generalize hT:cs.map sg=T at q0 q1;have lenT:T.length=cs.length:=by rw[←hT,Le]
   have ascT:∀c∈T,c < 128:=λc hc=>by
    rw[←hT] at hc;obtain⟨x,_,rfl⟩:=LM.mp hc;exact E8 x
   have hz:(st T).length<=sizeLine:=by rw[b6,LG];omega
   refine⟨_,rfl,⟨_,rfl⟩,_,_,rfl,rfl,_,rfl,?_⟩;have eE:Txt.endswith (st T) (Str.ofString "\n")=decide (T.getLast?=some 10):=by rw[BQ];exact Dd T
   rw[eE];refine gF (λh=>?_) (λh=>?_)
   · refine q0 ?_ H1 S1;unfold dE;rw[Lf (by simpa using h)]
   have hE:T.getLast?=some 10:=by simpa using h
   generalize hLL:a6 10 [] T.dropLast=LL;have eS:Txt.split (zx (st T) none (some (-1))) (Str.ofString "\n")=LL.map st:=by rw[BW,BQ,mC (by decide),hLL]
   have lenD:T.dropLast.length<=65536:=by rw[List.length_dropLast];omega
   have lenLL:LL.length<=65537:=by rw[←hLL];have:=fe 10 T.dropLast [];omega
   have okL:∀l∈LL,l.length<=65536:=λl hl=>by
    rw[←hLL] at hl;have:=(dX 10 T.dropLast [] l hl).1;simp at this;omega
   have okLS:∀ws∈LL.map (a6 32 []),mK ws/\ws≠[]:=by
    rw[←hLL];exact DP (λc hc=>ascT c ((List.dropLast_sublist T).subset hc)) lenD
   generalize hLS:LL.map (a6 32 [])=LS at okLS;have eLS:oJ T=LS:=by unfold oJ;rw[hLL,hLS]
   have lenLS:LS.length=LL.length:=by rw[←hLS,Le]
   refine⟨_,rfl,_,rfl,_,rfl,_,rfl,hz,⟨_,rfl⟩,_,_,rfl,rfl,by decide +kernel,?_,λp1 hp1=>?_⟩
   · have:=nG (st T) none (some (-1));rw[b6] at this;rw[LG];omega
   rw[eS];refine⟨p1,rfl,⟨_,aU.of ae⟩,λD hD=>?_⟩;have eM:(LL.map st).map V.str=sV LL:=by unfold sV;rw[LF];rfl
   have S2:au H1 (upd H1 p1 (.lst ((LL.map st).map V.str))):=(au.refl H1).laid hp1;generalize hH2:upd H1 p1 (.lst ((LL.map st).map V.str))=H2 at hD S2;have hp2:aU K H2 p1 (sV LL):=aU.of (by rw[←hH2,ae,eM]);refine jf (K:=K) (a:=p1) (xs:=sV LL) (λi H'=>∃as:List Addr,au H2 H'/\H' D=some (.lst (as.map V.ref))/\Paired (λb ws=>b≠D/\H' b=some (.lst (sV ws))) as (LS.take i)) ⟨[],(au.refl H2).laid hD,ae,.nil⟩ (λi H' _ ⟨_,S,_⟩=>S.seq hp2) ?_ ?_
   · rintro i x H' hi ⟨as,S3,e1,hP⟩;unfold sV at hi;rw[Lj] at hi;obtain⟨l,hl,rfl⟩:=LO.mp hi;have hil:i < LL.length:=(Lr.mp hl).1;have lenA:as.length=i:=by rw[Paired.length hP,LB];omega
     have hws:LS[i]?=some (a6 32 [] l):=by rw[←hLS,Lj,hl];rfl
     refine⟨rfl,_,rfl,⟨_,rfl⟩,_,_,rfl,rfl,by decide +kernel,?_,λp hp=>?_⟩
     · have:=okL l (LH hl);rw[b6,LG];omega
     have nD:p≠D:=(ao e1 hp).symm;refine⟨_,by rw[aq nD.symm];exact e1,?_,as++[p],?_,?_,?_⟩
     · rw[Le,lenA,LG];omega
     · intro c u z;rw[aq (ao z hD),aq (ao (S3 c u z) hp)];exact S3 c u z
     · rw[ae,Lx];rfl
     · rw[take_snoc hws];refine Paired.snoc (Paired.d8 hP λb ws z=>?_) ⟨nD,?_⟩
       · refine⟨z.1,?_⟩;rw[aq z.1,aq (ao z.2 hp)];exact z.2
       · rw[aq nD,ae,Bc,mC (by decide)];unfold sV;rw[LF];rfl
   rintro H3 ⟨as,S3,e1,hP0⟩;rw[dH,←lenLS,Mb] at hP0;have hP:Paired (λb ws=>aU K H3 b (sV ws)) as LS:=Paired.d8 hP0 λb ws z=>aU.of z.2;have hA:aU K H3 D (as.map V.ref):=aU.of e1;have S13:au H H3:=S1.trans (S2.trans S3);have lenA:as.length=LS.length:=Paired.length hP;obtain⟨d,ls,hdl⟩:∃d ls,LS=d::ls:=by
    cases hq:LS with
    |nil =>
     rw[←hLS,NQ,←hLL] at hq;exact absurd hq (ka 10 _ _)
    |cons d ls=>exact⟨d,ls,rfl⟩
   have at_:∀(j:Nat) ws,LS[j]?=some ws->∃b,nJ (as.map V.ref) (j:Int)=some (.ref b)/\aU K H3 b (sV ws):=λj ws hj=>by
    obtain⟨b,hb,hs⟩:=Paired.at2 hP hj;exact⟨b,cw (by rw[Lj,hb];rfl),hs⟩
   have eC:dE T=if ik d=true then eQ [] ls else none:=by
    unfold dE;rw[Lg hE,eLS,hdl]
   obtain⟨b0,hb0,hs0⟩:=at_ 0 d (by rw[hdl];rfl);refine (a_ (ag rfl) aE hA hb0) _ ⟨b0,d,rfl,hs0,(okLS d (by rw[hdl];simp)).1,λH4 S4=>⟨_,rfl,?_⟩⟩;have S14:=S13.trans S4;refine gF (λh=>?_) (λh=>?_)
   · refine q0 ?_ H4 S14;rw[eC,Lf (by simpa using h)]
   rw[Lg (by simpa using h)] at eC;refine cE aE ?_;have hA4:=S4.seq hA;refine Bl (λσ H'=>∃b:Nat,σ=[some (.ref a),some (.str (st T)),some (.ref D),some (.int (b:Nat)),none,none,none]/\H'=H4/\1<=b/\b<=LS.length/\∀j ws,1<=j->j < b->LS[j]?=some ws->aT ws=true)
    (λσ H'=>∃b:Nat,σ=[some (.ref a),some (.str (st T)),some (.ref D),some (.int (b:Nat)),none,none,none]/\H'=H4/\1<=b/\b<=LS.length/\(∀j ws,1<=j->j < b->LS[j]?=some ws->aT ws=true)/\∀ws,LS[b]?=some ws->aT ws=false)
    (λ(σ:L2.St) (_:Hp)=>match σ[3]? with|some (some (V.int z))=>LS.length - z.toNat|_=>0) ⟨1,rfl,rfl,Ln _,by rw[hdl];simp,λj ws h1 h2=>by omega⟩ ?_ ?_ ?_
   · rintro σ H' ⟨b,rfl,rfl,hb1,hb2,hb3⟩;have race0:∀ws,LS[b]?=some ws->∀ba,aU K H' ba (sV ws)->nJ (as.map V.ref) (b:Int)=some (.ref ba)->Ev (kG JK (kG (zQ K) (kG (zQ K) (cH 2) (cH 3)) (tC (.int 0))) (tC (.str (Str.ofString "race")))) [some (.ref a),some (.str (st T)),some (.ref D),some (.int (b:Nat)),none,none,none] H' (.bl (aT ws)):=λws hws ba hsb hba=>by
      have hne:=(okLS ws (LH hws)).2;have:=b9 (a_ (a_ (ag (n:=2) (σ:=[some (.ref a),some (.str (st T)),some (.ref D),some (.int (b:Nat)),none,none,none]) rfl) (ag (n:=3) rfl) hA4 hba) (aE (v:=.int ((0:Nat):Int))) hsb (dC (i:=0) (Mi.mpr hne))) (aE (v:=.str (Str.ofString "race")));rw[i8] at this;have e:decide (ws.getD 0 []=cd "race")=aT ws:=by
       unfold aT;cases ws with
       |nil=>exact absurd rfl hne
       |cons x r =>
        show decide (x=cd "race")=(x==cd "race");rw[LR,Lm,L5]
      rw[e] at this;exact this
     by_cases hlt:b < LS.length
     · obtain⟨ws,hws⟩:∃ws,LS[b]?=some ws:=⟨_,Lo hlt⟩;obtain⟨ba,hba,hsb⟩:=at_ b ws hws;refine⟨_,oR (jC (ag rfl) (aZ (ag rfl) (.inl hA4))) λ_=>aL (race0 ws hws ba (S4.seq hsb) hba),λh=>?_,λh=>?_⟩
       · rw[Ll] at h;refine⟨_,rfl,_,_,rfl,rfl,⟨⟨b+1,rfl,rfl,by omega,by omega,λj ws' h1 h2 h3=>?_⟩,?_⟩⟩
         · by_cases e:j=b
           · subst e;rw[hws] at h3;cases h3;exact h.2
           · exact hb3 j ws' h1 (by omega) h3
         · show LS.length - ((b:Int)+1).toNat < LS.length - ((b:Nat):Int).toNat;omega
       · have hf:aT ws=false:=by
          rw[MC] at h;rcases h with h|h
          · rw[Le,lenA] at h;have:=LY h;omega
          · exact h
         exact⟨b,rfl,rfl,hb1,hb2,hb3,λws' z=>by rw[hws] at z;cases z;exact hf⟩
     · refine⟨_,oR (c:=false) (jC (ag rfl) (aZ (ag rfl) (.inl hA4))) λh=>?_,λh=>?_,λ_=>?_⟩
       · rw[Le,lenA] at h;have:=Ly h;omega
       · rw[Bool.and_false] at h;cases h
       · exact⟨b,rfl,rfl,hb1,hb2,hb3,λws' z=>by rw[Mh (by omega)] at z;cases z⟩
   · rintro σ H' Q1 Q2 hm ⟨v,e,v2,e2,p,ys,e3,s,i,j,e4,e5,k,e6,hk⟩;refine⟨v,e,v2,e2,p,ys,e3,s,i,j,e4,e5,k,e6,?_⟩;cases k with
     |false =>
      rw[Lf LC] at hk;exact t7 (hm _ _ hk)
     |true =>
      rw[Lg rfl] at hk;obtain⟨x1,f1,x2,f2,p',xs',i',v',g1,g2,g3,g4,p2,xs2,i2,v3,g5,g6,g7,g8,g9,k2,g10,hq⟩:=hk;exact n_ ⟨x1,f1,x2,f2,p',xs',i',v',g1,g2,g3,g4,p2,xs2,i2,v3,g5,g6,g7,g8,g9,k2,g10,hm _ _ hq⟩
   rintro σ H' ⟨b,rfl,e4,hb1,hb2,hb3,hb4⟩;subst e4;obtain⟨tw1,tw2,tw3⟩:=mr aT ls (b - 1) (by rw[hdl] at hb2;simp at hb2;omega) (λj x hj hx=>hb3 (j+1) x (by omega) (by omega) (by rw[hdl];exact hx)) (λx hx=>hb4 x (by rw[hdl,show b=b - 1+1 by omega];exact hx));have eR:=pX ls [] (by simp);rw[tw1,tw2,tw3] at eR;refine⟨_,rfl,_,rfl,_,rfl,_,rfl,D,as.map V.ref,rfl,hA4,λp2 hp2=>⟨p2,rfl,⟨_,aU.of ae⟩,λR hR=>?_⟩⟩;have eCut:fA (as.map V.ref) (some 1) (some (b:Int))=((as.drop 1).take (b - 1)).map V.ref:=by
    have:=yA (xs:=as.map V.ref) (i:=1) (j:=b) (by rw[Le,lenA];exact hb2);rw[List.map_take,NL];exact this
   have S5:au H' (upd H' p2 (.lst (fA (as.map V.ref) (some 1) (some (b:Int))))):=(au.refl H').laid hp2;have hp5:aU K (upd H' p2 (.lst (fA (as.map V.ref) (some 1) (some (b:Int))))) p2 (((as.drop 1).take (b - 1)).map V.ref):=aU.of (by rw[ae,eCut]);generalize upd H' p2 (.lst (fA (as.map V.ref) (some 1) (some (b:Int))))=H5 at hR S5 hp5;have hPr:Paired (λb ws=>aU K H3 b (sV ws)) ((as.drop 1).take (b - 1)) (ls.take (b - 1)):=by
    have:=Paired.tk (b - 1) (Paired.dp 1 hP);rw[hdl] at this;exact this
   have okls:∀ws∈ls.take (b - 1),mK ws/\ws≠[]:=λws z=>okLS ws (by rw[hdl];exact Lw _ (MV z));have lenR:((as.drop 1).take (b - 1)).length=(ls.take (b - 1)).length:=Paired.length hPr;refine jf (K:=K) (a:=p2) (xs:=((as.drop 1).take (b - 1)).map V.ref) (λi H6=>∃vs:List V,au H5 H6/\H6 R=some (.lst vs)/\Paired (ju H6 R) vs ((ls.take (b - 1)).take i)) ⟨[],(au.refl H5).laid hR,ae,.nil⟩ (λi H6 _ ⟨_,S,_⟩=>S.seq hp5) ?_ ?_
   · rintro i x H6 hi ⟨vs,S6,e1,hV⟩;rw[Lj] at hi;obtain⟨ba,hba,rfl⟩:=LO.mp hi;obtain⟨ws,hws,hsb⟩:=Paired.qK hPr hba;have hil:i < (ls.take (b - 1)).length:=(Lr.mp hws).1;have lenV:vs.length=i:=by rw[Paired.length hV,LB];omega
     have okw:=okls ws (LH hws);have lenls:ls.length<=65537:=by have:=lenLS;rw[hdl] at this;simp at this;omega
     have small:vs.length < sizeLine:=by
      rw[lenV,LG];have:=List.length_take_le (b - 1) ls;have:=LB (i:=b - 1) (l:=ls);omega
     have keepV:∀H7,au H6 H7->∀(y:V),Paired (ju (upd H7 R (.lst (vs++[y]))) R) vs ((ls.take (b - 1)).take i):=λH7 e y=>Paired.d8 hV λv ws' z=>by
      unfold ju at z ⊢;cases hr:bC ws' with
      |none=>rw[hr] at z;exact z
      |some hs =>
       rw[hr] at z;obtain⟨x,ex,nx,hx⟩:=z;exact⟨x,ex,nx,by rw[aq nx];exact e _ _ hx⟩
     refine⟨rfl,_,rfl,ba,ws,rfl,S6.seq (S5.seq (S4.seq hsb)),okw.1,okw.2,λhn H7 e=>?_,λhs hn H7 x e nx hx=>?_⟩
     · refine⟨vs,e _ _ e1,small,vs++[.cj],λc u z=>?_,ae,?_⟩
       · rw[aq (ao z hR)];exact e _ _ (S6 c u z)
       · rw[take_snoc hws];refine Paired.snoc (keepV H7 e _) ?_;unfold ju;rw[hn]
     · have nR:x≠R:=(ao e1 nx).symm;refine⟨vs,e _ _ e1,small,vs++[.ref x],λc u z=>?_,ae,?_⟩
       · rw[aq (ao z hR)];exact e _ _ (S6 c u z)
       · rw[take_snoc hws];refine Paired.snoc (keepV H7 e _) ?_;unfold ju;rw[hn];exact⟨x,rfl,nR,by rw[aq nR];exact hx⟩
   rintro H6 ⟨vs,S6,e1,hV⟩;rw[Le,lenR,Mb] at hV;have lenV:vs.length=b - 1:=by
    rw[Paired.length hV,LB];rw[hdl] at hb2;simp at hb2;omega
   have S46:au H' H6:=S5.trans S6;have S16:au H H6:=S14.trans S46;refine aX (gP (e_ (cC aE (aZ (ag rfl) (.inl (aU.of e1))) aE)) λ_=>aL (λR' r'=>⟨_,rfl,R,vs,rfl,rfl,aU.of e1,nv hV,r'⟩)) (λh=>?_) (λh=>?_)
   · refine bU aE (q0 ?_ H6 S16);rw[eC,eR,Lf];rintro⟨z1,z2,z3⟩;rw[lenV,mR hV,L3 z3] at h;simp only[Nr,L6,MC,LW] at h;simp only[MO] at z1 z2;omega
   · rw[lenV,mR hV] at h;simp only[Mp,L9,Ll,Lm,LW] at h;obtain⟨⟨z1,z2⟩,z3⟩:=h;rw[Lg ⟨by simp only[MO];omega,by simp only[MO];omega,z3⟩,L_] at eR;obtain⟨ras,ev,hPa⟩:=q_ hV z3;subst ev;have hA6:=S46.seq hA4;refine⟨_,rfl,_,rfl,_,rfl,D,as.map V.ref,rfl,hA6,λp3 hp3=>?_⟩;have S7:au H6 (upd H6 p3 (.lst (fA (as.map V.ref) (some (b:Int)) none))):=(au.refl H6).laid hp3;have eCut2:fA (as.map V.ref) (some (b:Int)) none=(as.drop b).map V.ref:=by
      unfold fA;rw[HT.je,HT.ir,Le,lenA,Nd hb2,NL];refine Ma ?_;rw[L7,Le,lenA];exact Ln _
     refine⟨_,rfl,p3,R,ls.drop (b - 1),((ls.take (b - 1)).map bC).filterMap id,rfl,⟨as.drop b,aU.of (by rw[ae,eCut2]),?_⟩,?_,⟨ras,S7.seq (aU.of e1),Paired.d8 hPa λc hs z=>S7.seq (aU.of z)⟩,?_,?_,?_⟩
     · have:=Paired.dp b hP;rw[show LS.drop b=ls.drop (b - 1) by rw[hdl,show b=b - 1+1 by omega];rfl] at this;exact Paired.d8 this λc ws z=>S7.seq (S46.seq (S4.seq z))
     · intro ws z;exact (okLS ws (by rw[hdl];exact Lw _ (MN z))).1
     · have:=List.length_filterMap_le id ((ls.take (b - 1)).map bC);rw[Le,LB] at this;omega
     · intro hn H8 S8;exact q0 (by rw[eC,eR];exact hn) H8 (S16.trans (S7.trans S8))
     · intro ps hs H8 x S8 hx;exact q1 ps (by rw[eC,eR];exact hs) H8 x (S16.trans (S7.trans S8)) hx
end
end Bw
namespace L2
open PySem PySem.Spec PyProof.Rows
def aP (a:Addr)(H H':Hp):Prop:=∀b o,H b=some o->b≠a->H' b=some o
section
variable {a:Addr}{H H1 H2:Hp}
theorem aP.refl (a:Addr) (H:Hp):aP a H H:=λ_ _ h _=>h
theorem aP.trans (x:aP a H H1)(y:aP a H1 H2):aP a H H2:=λb o h n=>y b o (x b o h n) n
theorem au.x (e:au H H1):aP a H H1:=λb o h _=>e b o h
theorem aP.upd {o:HO}(x:aP a H H1):aP a H (upd H1 a o):=λb u h n=>by rw[aq n];exact x b u h n
theorem aP.laid {p:Addr}{o:HO}(x:aP a H H1)(h:H p=none):aP a H (L2.upd H1 p o):=λb u q n=>by
 rw[aq (ao q h)];exact x b u q n
theorem aP.seq {K:N4}{C dx b:Addr}{fs:List (Str×V)}{xs:List V}(e:aP a H H1)(ha:H a=some (.ins C dx fs))(h:aU K H b xs):aU K H1 b xs:=by
 rcases h with (h|⟨o,h⟩)|h
 · exact .inl (.inl (e _ _ h (dF h ha (by intro z;cases z))))
 · exact .inl (.inr ⟨o,e _ _ h (dF h ha (by intro z;cases z))⟩)
 · exact .inr h
theorem aP.tup {K:N4}{C dx b:Addr}{fs:List (Str×V)}{xs:List V}(e:aP a H H1)(ha:H a=some (.ins C dx fs))(h:bZ K H b xs):bZ K H1 b xs:=by
 rcases h with (h|⟨o,h⟩)|h
 · exact .inl (.inl (e _ _ h (dF h ha (by intro z;cases z))))
 · exact .inl (.inr ⟨o,e _ _ h (dF h ha (by intro z;cases z))⟩)
 · exact .inr h
theorem aP.free (e:aP a H H1){l:Addr}(h:H1 l=none)(hl:l≠a):H l=none:=by
 cases q:H l with
 |none=>rfl
 |some o =>
  rw[e l o q hl] at h;cases h
end
end L2
namespace Bw
open PySem PySem.Spec PyProof.Rows L2 Tote
theorem p9 {f:Str}{v x:V}{r:List (Str×V)}:d_ f v ((f,x)::r)=(f,v)::r:=by
 show (if f=f then (f,v)::r else _)=_;rw[Lg rfl]
def Flt (P:Program)(w:World)(K:N4)(mg:N6)(base:Heap)(C:Addr):Prop :=
 ∃(N fI:Addr) (fd:FuncData),qm K C N fI/\Binds K fd ["self","kind","place"] []/\bc P w K mg base bG 1 fI fd ["self","kind","place"] (HA C)/\mg "Fault"=some (.ref C)
theorem fL {X:Cx}{C:Addr}{E:XK}{np cpos pos:Pos}{e:Expr}{es:List Expr}{t:TA}(FL:Flt X.prog X.w X.K X.mg X.base C)(O:lK X)(hr:cX 2 X.A)(ha:PA (X.iw (XF X C E)) (e::es) t)(hg:Gl X "Fault":=by rfl)
  (he:starEach (e::es) X.env=(false,eval e X.env)::starEach es X.env:=by rfl)(hpl:(backTo cpos (starEach es X.env)).any (·.1)=false:=by rfl):PS (X.iw (XF X C E)) (.Raise (some (.Call (.Name "Fault" np) (e::es) [] cpos)) none pos) (JY C E t):=by
 obtain⟨N,fI,fd,Z,hb,F,hm⟩:=FL;exact AU O Z F hr hb hg hm ha (by decide) he hpl
section
variable {P:Program}{w:World}{K:N4}{mg:N6}{base:Heap}
theorem zh:aI ["self","kind","place"] ["self","kind","place"] (ax fO):=fs
theorem zz {C N fI:Addr}(Z:qm K C N fI){f:Addr}{fd:FuncData}(F:dG K "__init__" "Fault.__init__" fO f fd):bc P w K mg base bG 1 f fd ["self","kind","place"] (HA C):=by
 refine F.ok zh (λvs H Q E h=>?_) (λcdv A outer s H vs Q E hr h=>?_)
 · obtain⟨_,_,_,_,rfl,_⟩:=h;rfl
 · obtain⟨a,t,k,p,rfl,ha,q⟩:=h;refine⟨_,af (yP Z Z.fK Z.J4 K4 (pv 0) (pv 1) rfl) (ak (yP Z Z.fP Z.J7 K_ (pv 0) (pv 2) rfl)),?_⟩;refine⟨_,rfl,_,rfl,a,t,rfl,.inl ⟨ha,λdx hdx ne=>?_⟩⟩;refine⟨_,rfl,_,rfl,a,t,rfl,.inr ⟨dx,_,ae,by rw[aq ne];exact ae,ne,by show 1 < 1000;decide,?_⟩⟩;have e:d_ "place" (V.int p) [(("kind":Str),V.int k)]=ff k p:=by
    rw[bh (by decide +kernel),bS];rfl
   rw[e];have e2:upd (upd (upd H dx (rq dx [(("kind":Str),V.int k)])) a (tI a C t (some dx))) dx (rq dx (ff k p))=upd (upd H dx (rq dx (ff k p))) a (tI a C t (some dx)):=by
    funext b;by_cases h1:b=dx
    · subst h1;rw[ae,aq ne,ae]
    · rw[aq h1];by_cases h2:b=a
      · subst h2;rw[ae,ae]
      · rw[aq h2,aq h2,aq h1,aq h1]
   rw[e2];exact q dx hdx ne
end
def uJ (pl n h s t r m:V):List (Str×V):=[("pool",pl),("pool_number",n),("how",h),("stake",s),("sets",t),("rows",r),("many",m)]
abbrev rF:List Str:=["pool","pool_number","how","stake","sets","rows","many"]
def bV (wl m p np e:V):List (Str×V):=[("words",wl),("met",m),("place",p),("next_place",np),("line_end",e)]
abbrev cq:List Str:=["words","met","place","next_place","line_end"]
section
variable {a b c d e v:V}
theorem iP:(bV a b c d e).lookup ("words":Str)=some a:=bT
theorem jg:(bV a b c d e).lookup ("met":Str)=some b:=by unfold bV;rw[bb (by decide +kernel)];exact bT
theorem bN:(bV a b c d e).lookup ("place":Str)=some c:=by unfold bV;rw[bb (by decide +kernel),bb (by decide +kernel)];exact bT
theorem jF:(bV a b c d e).lookup ("next_place":Str)=some d:=by unfold bV;rw[bb (by decide +kernel),bb (by decide +kernel),bb (by decide +kernel)];exact bT
theorem wV:(bV a b c d e).lookup ("line_end":Str)=some e:=by unfold bV;rw[bb (by decide +kernel),bb (by decide +kernel),bb (by decide +kernel),bb (by decide +kernel)];exact bT
theorem CV:d_ "met" v (bV a b c d e)=bV a v c d e:=by unfold bV;rw[bh (by decide +kernel),p9]
theorem Aj:d_ "place" v (bV a b c d e)=bV a b v d e:=by unfold bV;rw[bh (by decide +kernel),bh (by decide +kernel),p9]
theorem AM:d_ "next_place" v (bV a b c d e)=bV a b c v e:=by unfold bV;rw[bh (by decide +kernel),bh (by decide +kernel),bh (by decide +kernel),p9]
end
def aY (K:N4)(C:Addr)(H:Hp)(a:Addr)(e:Nat)(l:List Word)(pl:Nat):Prop :=
 ∃(dx wl:Addr) (all:List W) (m np:Nat),H a=some (.ins C dx (bV (.ref wl) (.int (m:Nat)) (.int (pl:Nat)) (.int (np:Nat)) (.int (e:Nat))))/\aU K H wl (sV all)/\(mK all/\all≠[])/\m<=all.length/\all.drop m=og l/\Placed np l
theorem aY.same {K:N4}{C:Addr}{H H':Hp}{a:Addr}{e:Nat}{l:List Word}{pl:Nat}(h:aY K C H a e l pl)(s:au H H'):aY K C H' a e l pl:=by
 obtain⟨dx,wl,all,m,np,h1,h2,r⟩:=h;exact⟨dx,wl,all,m,np,s _ _ h1,s.seq h2,r⟩
structure GB (K:N4)(mg:N6)(aW:Addr):Prop where
 ended:Gv mg "NOT_ENDED" (.int 1)
 byte:Gv mg "BAD_BYTE" (.int 2)
 word:Gv mg "BAD_WORD" (.int 3)
 num:Gv mg "BAD_NUMBER" (.int 4)
 pool:Gv mg "NO_POOL" (.int 5)
 comb:Gv mg "NO_COMBINATION" (.int 6)
 Kf:Gv mg "TOO_DEAR" (.int 7)
 more:Gv mg "MORE_BYTES" (.int 8)
 nl:Gv mg "LINE_END" (.int 10)
 blank:Gv mg "BLANK" (.int 32)
 stake:Gv mg "MOST_STAKE" (.int 1000000)
 cost:Gv mg "MOST_COST" (.int 2147483647)
 on:Gv mg "ON" (.int 0)
 box:Gv mg "BOX" (.int 1)
 IW:Gv mg "WAYS" (.ref aW)
 yG:∀H,bZ K H aW [.str (Str.ofString "on"),.str (Str.ofString "box"),.str (Str.ofString "key")]
 IM:∃o,K.lookup aW=some o/\o.cls=.type "tuple"/\o.dict=none
 enum:mg "enumerate"=none
 any:mg "any"=none
section
variable {X:Cx}{CX:lR}{k:Nat}{m:Str}{ps:List Str}{sp:Sp}{E:XK}{pos apos:Pos}{o e:Expr}{es:List Expr}{ta:TE}{t:TA}{C:Addr}
theorem jY {pl:Sem Bool} (F:pP X.prog X.w X.K X.mg X.base CX k C m ps sp) (c:yy X.K C) (he:PE X o ta) (hr:cX k X.A) (hx:Passes CX X E)
  (ht:eval (.Call (.Attribute o m apos) [] [] pos) X.env=(do
   let ov ←eval o X.env
   standAt apos.atName
   let (f,first) ←holding [ov] (getMethod ov m pl)
   callWith pos f first (backTo pos (starEach [] X.env)) (backToKw pos (keywordEach [] X.env))):=by rfl):PE X (.Call (.Attribute o m apos) [] [] pos) (uB C m sp [] E ta eZ):=by
 obtain⟨f,fd,hm,hb,F⟩:=F;exact Cq he c hm F hr hb .nil hx ht
theorem kX {pl:Sem Bool}(F:pP X.prog X.w X.K X.mg X.base CX k C m ps sp)(c:yy X.K C)(he:PE X o ta)(hr:cX k X.A)(hx:Passes CX X E)(ha:PA X (e::es) t)
  (hst:starEach (e::es) X.env=(false,eval e X.env)::starEach es X.env:=by rfl)(hpl:(backTo pos (starEach es X.env)).any (·.1)=false:=by rfl)
  (ht:eval (.Call (.Attribute o m apos) (e::es) [] pos) X.env=(do
   let ov ←eval o X.env
   standAt apos.atName
   let (f,first) ←holding [ov] (getMethod ov m pl)
   callWith pos f first (backTo pos (starEach (e::es) X.env)) (backToKw pos (keywordEach [] X.env))):=by rfl):PE X (.Call (.Attribute o m apos) (e::es) [] pos) (uB C m sp [] E ta t):=by
 obtain⟨f,fd,hm,hb,F⟩:=F;exact Eu he c hm F hr hb .nil hx ha hst hpl ht
end
section
variable {P:Program}{w:World}{K:N4}{mg:N6}{base:Heap}
def ql (K:N4) (C:Addr):Sp:=λvs H Q _=>∃(x dx:Addr) (l:W),vs=[.ref x,.str (st l)]/\H x=some (.ins C dx [])/\l.length<=70000 /\
 ∀H' wl,aP x H H'->H wl=none->H' wl=some (.lst (sV (a6 32 [] l)))->H' x=some (.ins C dx (bV (.ref wl) (.int ((0:Nat):Int)) (.int ((0:Nat):Int)) (.int ((0:Nat):Int)) (.int (l.length:Nat))))->Q .cj H'
theorem zR:aI ["self","line"] ["self","line"] (ax fN):=fs
theorem zD {C:Addr}(G:GW mg)(T:CK K mg "Words" cq C){f:Addr}{fd:FuncData}(F:dG K "__init__" "Words.__init__" fN f fd):bc P w K mg base bG 1 f fd ["self","line"] (ql K C):=by
 refine F.ok zR (λvs H Q E h=>?_) (λcdv A outer s H vs Q E hr h=>?_)
 · obtain⟨_,_,_,rfl,_⟩:=h;rfl
 · obtain⟨x,dx,l,rfl,hx,hl,q⟩:=h;refine⟨_,af (cB (pv 0) (lN (pv 1) bt) rfl) (af (cB (pv 0) aw rfl) (af (cB (pv 0) aw rfl) (af (cB (pv 0) aw rfl) (ak (cB (pv 0) (aH fM (by rfl) G.len PySem.boot_len (aa (pv 1) ah)) rfl))))),?_⟩;refine⟨_,rfl,⟨_,rfl⟩,_,_,rfl,rfl,by decide +kernel,by rw[b6,LG];omega,λwl hwl=>?_⟩;have nx:wl≠x:=(ao hx hwl).symm;rw[Bc,mC (by decide)];refine⟨_,rfl,x,C,dx,[],rfl,by rw[aq nx.symm];exact hx,T.cl,T.no _ (by simp),(by show 0 < 1000;decide),?_⟩;refine⟨_,rfl,x,C,dx,_,rfl,ae,T.cl,T.no _ (by simp),(by show 1 < 1000;decide),?_⟩;refine⟨_,rfl,x,C,dx,_,rfl,ae,T.cl,T.no _ (by simp),(by repeat (first|rw[bS]|rw[bh (by decide +kernel)]);show 2 < 1000;decide),?_⟩;refine⟨_,rfl,x,C,dx,_,rfl,ae,T.cl,T.no _ (by simp),(by repeat (first|rw[bS]|rw[bh (by decide +kernel)]);show 3 < 1000;decide),?_⟩;refine⟨_,rfl,_,rfl,by rw[b6,LG];omega,_,rfl,x,C,dx,_,rfl,ae,T.cl,T.no _ (by simp),(by repeat (first|rw[bS]|rw[bh (by decide +kernel)]);show 4 < 1000;decide),?_⟩;rw[cI,cI,cI,cI]
   repeat (first|rw[bS]|rw[bh (by decide +kernel)])
   refine q _ wl (λb u z n=>?_) hwl ?_ ?_
   · rw[aq n,aq (ao z hwl)];exact z
   · rw[aq nx,ae];unfold sV;rw[LF];rfl
   · rw[ae,b6];rfl
def mU (K:N4)(CW CF:Addr):Sp:=λvs H Q E=>∃(a:Addr) (e:Nat) (l:List Word) (pl:Nat),vs=[.ref a]/\aY K CW H a e l pl/\(l=[]->Rz CF E 3 (e:Nat))/\(∀w r,l=w::r->∀H',aP a H H'->aY K CW H' a e r w.at_->((tx w.w).length<=70000/\∀c∈tx w.w,c < 128)->Q (.str (st (tx w.w))) H')
theorem yq:aI ["self","word"] ["self"] (ax fY):=fs
theorem DD {CW CF aW:Addr}(G:GW mg)(B:GB K mg aW)(T:CK K mg "Words" cq CW)(FL:Flt P w K mg base CF){f:Addr}{fd:FuncData}(F:dG K "take" "Words.take" fY f fd):bc P w K mg base (fh P w CF) 3 f fd ["self"] (mU K CW CF):=by
 refine F.xU yq (λvs H Q E h=>?_) (λcdv A outer s H vs Q E hr h=>?_)
 · obtain⟨_,_,_,_,rfl,_⟩:=h;rfl
 · obtain⟨a,e,l,pl,rfl,⟨dx,wl,all,m,np,ha,hw,ok,hm,hd,hp⟩,q0,q1⟩:=h;refine⟨_,af (aS (aC ck (a7 (pv 0) rfl) (aH aA (by rfl) G.len PySem.boot_len (aa (a7 (pv 0) rfl) ah)) (aM _)) (ak (fL FL aJ hr (aa (bg B.word) (aa (a7 (pv 0) rfl) ah)))) aD)
    (af (aN (i:=1) yq.nd rfl (Or.inl rfl) (bq aQ (a7 (pv 0) rfl) (a7 (pv 0) rfl) (λ_ _=>rfl)))
    (af (rb (pv 0) aw Bz)
    (af (cB (pv 0) (a7 (pv 0) rfl) rfl)
    (af (rb (pv 0) (bH eG (aH fM (by rfl) G.len PySem.boot_len (aa (pv 1) ah)) aw) Bz)
    (ak (az (pv 1))))))),?_⟩
   have no:=λf (h:f∈cq)=>T.no f h;refine aX (aL (b9 (bo (ag rfl) ha T.cl (no _ (by simp)) jg) (aZ (bo (ag rfl) ha T.cl (no _ (by simp)) iP) (.inl hw)))) (λh=>?_) (λh=>?_)
   · rw[a9,dH] at h;have hml:m=all.length:=by have:=MI h;omega
     refine (bo (ag rfl) ha T.cl (no _ (by simp)) wV) _ ⟨3,_,rfl,q0 ?_⟩;rw[hml,M7] at hd;cases l with
     |nil=>rfl
     |cons w r=>cases hd
   · rw[a9,dH] at h;have hml:m < all.length:=by
      have:m≠all.length:=λz=>by rw[z] at h;simp at h
      omega
     cases l with
     |nil =>
      have:=Ml List.length hd;rw[L7] at this;simp[og] at this;omega
     |cons wd r =>
      have hd':all[m]?=some (tx wd.w)/\all.drop (m+1)=og r:=by
       rw[MB hml] at hd;have hd:all[m]::all.drop (m+1)=tx wd.w::og r:=hd;injection hd with h1 h2;exact⟨by rw[Lo hml,h1],h2⟩
      obtain⟨hp1,hp2⟩:=hp;have okw:=ok.1.2 _ (LH hd'.1);refine cE (a_ (bo (ag rfl) ha T.cl (no _ (by simp)) iP) (bo (ag rfl) ha T.cl (no _ (by simp)) jg) hw (cw (Ct hd'.1))) ?_;refine⟨_,rfl,a,CW,dx,_,_,rfl,ha,T.cl,no _ (by simp),jg,_,_,rfl,rfl,dx,_,ha,(by show 5 < 1000;decide),?_⟩;rw[CV];refine⟨_,rfl,a,CW,dx,_,_,rfl,ae,T.cl,no _ (by simp),jF,_,rfl,a,CW,dx,_,rfl,ae,T.cl,no _ (by simp),(by show 5 < 1000;decide),?_⟩;rw[Aj,cI];refine⟨_,rfl,a,CW,dx,_,_,rfl,ae,T.cl,no _ (by simp),jF,?_⟩;refine (jJ (t8 (ag rfl) (by rw[b6,LG];omega)) aE) _ ⟨_,_,rfl,rfl,dx,_,ae,(by show 5 < 1000;decide),?_⟩;rw[AM,cI];refine⟨_,rfl,?_⟩;refine q1 wd r rfl _ (aP.refl a H).upd ⟨dx,wl,all,m+1,np+(tx wd.w).length+1,?_,(aP.refl a H).upd.seq ha hw,ok,by omega,hd'.2,by rw[iq];exact hp2⟩ okw;rw[ae,hp1,b6];have e1:((m:Nat):Int)+1=((m+1:Nat):Int):=by omega
      have e2:((np:Nat):Int)+(((tx wd.w).length:Nat)+1)=((np+(tx wd.w).length+1:Nat):Int):=by omega
      rw[e1,e2]
end
theorem oo {f:Str}:∀{fs:List (Str×V)},¬f∈fs.map (·.1)->fs.lookup f=none
 |[],_=>rfl
 |(g,v)::r,h=>by
  rw[bb (λe=>h (by simp[e]))];exact oo λz=>h (by simp at z ⊢;exact .inr z)
theorem cy {a b c d e:V}{f:Str}(h:¬f∈cq):(bV a b c d e).lookup f=none:=oo h
theorem aY.obj {K:N4}{C:Addr}{H:Hp}{a:Addr}{e:Nat}{l:List Word}{pl:Nat}(h:aY K C H a e l pl):∃dx wl m np,H a=some (.ins C dx (bV wl m (.int (pl:Nat)) np (.int (e:Nat)))):=by
 obtain⟨dx,wl,all,m,np,h1,_⟩:=h;exact⟨dx,_,_,_,h1⟩
section
variable {P:Program}{w:World}{K:N4}{mg:N6}{base:Heap}
def mQ (kn:List String) (w:Word):Prop:=∃s∈kn,tx w.w=cd s
def pC (K:N4)(CW CF:Addr):Sp:=λvs H Q E=>∃(a t:Addr) (kn:List String) (e:Nat) (l:List Word) (pl:Nat),vs=[.ref a,.ref t]/\aY K CW H a e l pl/\bZ K H t (kn.map λs=>V.str (Str.ofString s))/\(l=[]->Rz CF E 3 (e:Nat)) /\
 (∀w r,l=w::r->¬mQ kn w->Rz CF E 3 (w.at_:Nat))/\(∀w r,l=w::r->mQ kn w->∀H',aP a H H'->aY K CW H' a e r w.at_->Q (.str (st (tx w.w))) H')
theorem CI {kn:List String}{w:W}:n9 (.str (st w)) (kn.map λs=>V.str (Str.ofString s))=decide (∃s∈kn,w=cd s):=by
 rw[LR,Lm];unfold n9;rw[ND,MR];have key:∀s:String,rO (V.str (Str.ofString s)) (V.str (st w))=true↔w=cd s:=λs=>by
  show (Str.ofString s==st w)=true↔_;rw[L5,kI,jK];exact⟨λz=>z.symm,λz=>z.symm⟩
 exact⟨λ⟨s,h1,h2⟩=>⟨s,h1,(key s).mp h2⟩,λ⟨s,h1,h2⟩=>⟨s,h1,(key s).mpr h2⟩⟩
theorem Dl (kn:List String):(kn.map λs=>V.str (Str.ofString s)).all dJ=true:=by
 rw[Nl,LI];intro _ _;rfl
theorem CA:aI ["self","known","word"] ["self","known"] (ax cp):=fs
theorem FG {CW CF aW:Addr}(B:GB K mg aW)(T:CK K mg "Words" cq CW)(FL:Flt P w K mg base CF){k:Nat}(hk:2<=k)(FT:pP P w K mg base (fh P w CF) k CW "take" ["self"] (mU K CW CF)){f:Addr}{fd:FuncData}(F:dG K "take_one_of" "Words.take_one_of" cp f fd) :
  bc P w K mg base (fh P w CF) (k+1) f fd ["self","known"] (pC K CW CF):=by
 refine F.xU CA (λvs H Q E h=>?_) (λcdv A outer s H vs Q E hr h=>?_)
 · obtain⟨_,_,_,_,_,_,rfl,_⟩:=h;rfl
 · obtain⟨a,t,kn,e,l,pl,rfl,hW,hT,q0,q1,q2⟩:=h;refine⟨_,af (aN (i:=2) CA.nd rfl (Or.inl rfl) (jY FT T.cl (pv 0) hr (bR aJ rfl rfl)))
    (af (aS (aC eK (pv 2) (pv 1) (by with_unfolding_all rfl)) (ak (fL FL aJ (hr.mono hk) (aa (bg B.word) (aa (a7 (pv 0) rfl) ah)))) aD)
    (ak (az (pv 2)))),?_⟩
   obtain⟨dx,wl,m,np,ha⟩:=hW.obj;refine⟨_,rfl,a,dx,_,rfl,ha,cy (by decide +kernel),a,e,l,pl,rfl,hW,q0,λwd r hl H1 S1 hW1 okw=>?_⟩;obtain⟨dx1,wl1,m1,np1,ha1⟩:=hW1.obj;refine aX (aL (mB (ag rfl) (ag rfl) (.inr (S1.tup ha hT)) rfl (Dl kn))) (λh=>?_) (λh=>?_)
   · have h:(!n9 (.str (st (tx wd.w))) (kn.map λs=>V.str (Str.ofString s)))=true:=h;rw[CI,L6,LW] at h;exact (bo (ag rfl) ha1 T.cl (T.no _ (by simp)) bN) _ ⟨3,_,rfl,q1 wd r hl h⟩
   · have h:(!n9 (.str (st (tx wd.w))) (kn.map λs=>V.str (Str.ofString s)))=false:=h;rw[CI,L9,Lm] at h;exact⟨_,rfl,q2 wd r hl h H1 S1 hW1⟩
def AS (K:N4)(CW CF:Addr):Sp:=λvs H Q E=>∃(a:Addr) (e:Nat) (l:List Word) (pl:Nat),vs=[.ref a]/\aY K CW H a e l pl/\(∀w r,l=w::r->Rz CF E 3 (w.at_:Nat))/\(l=[]->Q .cj H)
theorem GF:aI ["self"] ["self"] (ax ej):=fs
theorem He {CW CF aW:Addr}(G:GW mg)(B:GB K mg aW)(T:CK K mg "Words" cq CW)(FL:Flt P w K mg base CF){f:Addr}{fd:FuncData}(F:dG K "finish" "Words.finish" ej f fd):bc P w K mg base (fh P w CF) 3 f fd ["self"] (AS K CW CF):=by
 refine F.xU GF (λvs H Q E h=>?_) (λcdv A outer s H vs Q E hr h=>?_)
 · obtain⟨_,_,_,_,rfl,_⟩:=h;rfl
 · obtain⟨a,e,l,pl,rfl,⟨dx,wl,all,m,np,ha,hw,ok,hm,hd,hp⟩,q1,q0⟩:=h;refine⟨_,ak (aS (aC nP (a7 (pv 0) rfl) (aH aA (by rfl) G.len PySem.boot_len (aa (a7 (pv 0) rfl) ah)) (aM _)) (ak (fL FL aJ hr (aa (bg B.word) (aa (a7 (pv 0) rfl) ah)))) aD),?_⟩;refine aX (jC (bo (ag rfl) ha T.cl (T.no _ (by simp)) jg) (aZ (bo (ag rfl) ha T.cl (T.no _ (by simp)) iP) (.inl hw))) (λh=>?_) (λh=>?_)
   · rw[dH] at h;have hml:m < all.length:=by have:=Ly h;omega
     cases l with
     |nil =>
      have:=Ml List.length hd;rw[L7] at this;simp[og] at this;omega
     |cons wd r =>
      refine (bo (ag rfl) ha T.cl (T.no _ (by simp)) jF) _ ⟨3,_,rfl,?_⟩;rw[←hp.1];exact q1 wd r rfl
   · rw[dH] at h;have hml:m=all.length:=by have:=LY h;omega
     refine q0 ?_;rw[hml,M7] at hd;cases l with
     |nil=>rfl
     |cons w r=>cases hd
def tW (K:N4)(CW CF:Addr):Sp:=λvs H Q E=>∃(a:Addr) (u:Nat) (e:Nat) (l:List Word) (pl:Nat),vs=[.ref a,.int (u:Nat)]/\1<=u/\aY K CW H a e l pl/\(l=[]->Rz CF E 3 (e:Nat)) /\
 (∀w r,l=w::r->¬(1<=ay (tx w.w)/\ay (tx w.w)<=1000000/\ay (tx w.w) % (u:Int)=0)->Rz CF E 4 (w.at_:Nat)) /\
 (∀w r,l=w::r->(1<=ay (tx w.w)/\ay (tx w.w)<=1000000/\ay (tx w.w) % (u:Int)=0)->∀H',aP a H H'->aY K CW H' a e r w.at_->Q (.int (ay (tx w.w))) H')
theorem u5:aI ["words","unit","stake"] ["words","unit"] (ax fW):=fs
theorem AZ {CW CF aW:Addr}(B:GB K mg aW)(T:CK K mg "Words" cq CW)(FL:Flt P w K mg base CF){k:Nat}(hk:2<=k)(FT:pP P w K mg base (fh P w CF) k CW "take" ["self"] (mU K CW CF))(FN:Fn P w K mg base bG k "number_of" ["word"] kM)
  {f:Addr}{fd:FuncData}(F:dG K "take_stake" "take_stake" fW f fd):bc P w K mg base (fh P w CF) (k+1) f fd ["words","unit"] (tW K CW CF):=by
 refine F.xU u5 (λvs H Q E h=>?_) (λcdv A outer s H vs Q E hr h=>?_)
 · obtain⟨_,_,_,_,_,rfl,_⟩:=h;rfl
 · obtain⟨a,u,e,l,pl,rfl,hu1,hW,q0,q1,q2⟩:=h;refine⟨_,af (aN (i:=2) u5.nd rfl (Or.inl rfl) (aV FN hr bf (aa (jY FT T.cl (pv 0) hr (bR aJ rfl rfl)) ah)))
    (af (aS (PW.pt (eh (cF (cD b7 b7 aw (pv 2) (bg B.stake))) (cO (aC o8 (bH G6 (pv 2) (pv 1)) aw (aM _))))) (ak (fL FL aJ (hr.mono hk) (aa (bg B.num) (aa (a7 (pv 0) rfl) ah)))) aD)
    (ak (az (pv 2)))),?_⟩
   obtain⟨dx,wl,m,np,ha⟩:=hW.obj;refine⟨_,rfl,a,dx,_,rfl,ha,cy (by decide +kernel),a,e,l,pl,rfl,hW,q0,λwd r hl H1 S1 hW1 okw=>?_⟩;obtain⟨dx1,wl1,m1,np1,ha1⟩:=hW1.obj;refine⟨tx wd.w,rfl,okw.1,okw.2,?_⟩;refine aX (gP (e_ (cC aE (ag rfl) aE)) λ_=>aL (qw (yM (ag rfl) (ag rfl) (by show (0:Int) < (u:Int);omega)) aE)) (λh=>?_) (λh=>?_)
   · refine (bo (ag rfl) ha1 T.cl (T.no _ (by simp)) bN) _ ⟨4,_,rfl,q1 wd r hl λz=>?_⟩;rw[a9] at h;simp[z.1,z.2.1,z.2.2] at h
   · rw[a9] at h;simp only[Mp,L9,Ll,Lm,L5] at h;exact⟨_,rfl,q2 wd r hl ⟨h.1.1,h.1.2,h.2⟩ H1 S1 hW1⟩
end
theorem aY.put {K:N4}{C:Addr}{H:Hp}{a p:Addr}{e:Nat}{l:List Word}{pl:Nat}{xs ys:List V}(h:aY K C H a e l pl)(hp:H p=some (.lst xs))(hn:∀v∈xs,∀s,v≠.str s):aY K C (upd H p (.lst ys)) a e l pl:=by
 obtain⟨dx,wl,all,m,np,h1,h2,⟨ok,ne⟩,r⟩:=h;have nap:a≠p:=dF h1 hp (by intro z;cases z);refine⟨dx,wl,all,m,np,by rw[aq nap];exact h1,?_,⟨ok,ne⟩,r⟩;rcases h2 with (h2|⟨o,h2⟩)|h2
 · refine .inl (.inl ?_);rw[aq]
   · exact h2
   · rintro rfl;rw[hp] at h2;injection h2 with h2;injection h2 with h2;subst h2;cases all with
     |nil=>exact ne rfl
     |cons w r=>exact hn _ (L0 ..) _ rfl
 · refine .inl (.inr ⟨o,?_⟩);rw[aq (dF h2 hp (by intro z;cases z))];exact h2
 · exact .inr h2
theorem GL {ns:N3}:∀v∈nV ns,∀s,v≠V.str s:=λv hv s=>by
 obtain⟨n,_,rfl⟩:=LM.mp hv;intro z;cases z
theorem Dr {as:List Addr}:∀v∈as.map V.ref,∀s,v≠V.str s:=λv hv s=>by
 obtain⟨n,_,rfl⟩:=LM.mp hv;intro z;cases z
theorem f_ (ns:N3):(nV ns).all dJ=true:=by
 unfold nV;rw[Nl,LI];intro _ _;rfl
theorem nN {ns:N3}{i:Int}:n9 (.int i) (nV ns)=decide (∃n∈ns,i=(n:Int)):=by
 rw[LR,Lm];unfold n9 nV;rw[ND,MR];have key:∀n:Nat,rO (V.int (n:Nat)) (V.int i)=true↔i=(n:Int):=λn=>by
  show (((n:Nat):Int)==i)=true↔_;rw[L5];exact⟨λz=>z.symm,λz=>z.symm⟩
 exact⟨λ⟨s,h1,h2⟩=>⟨s,h1,(key s).mp h2⟩,λ⟨s,h1,h2⟩=>⟨s,h1,(key s).mpr h2⟩⟩
theorem ES {ns:N3}{x:Nat}(h:ns.getLast?=some x):nJ (nV ns) (-1)=some (.int (x:Nat)):=by
 have hne:ns≠[]:=by rintro rfl;cases h
 have hl:0 < ns.length:=Mi.mpr hne;have hx:(nV ns)[ns.length - 1]?=some (.int (x:Nat)):=by
  unfold nV;rw[Lj,←List.getLast?_eq_getElem?,h];rfl
 unfold nJ Ep;rw[Lf (by decide),aR,Lg (by omega)];show (nV ns)[_]?=_;rw[←hx];congr 1;omega
theorem yp {t:TT}{σ:L2.St}{H:Hp}{b c:Bool}(h:Tv t σ H b)(e:b=c):Tv t σ H c:=e ▸ h
theorem zI {fld:N3}{pt:W}:(!decide (∃n∈fld,ay pt=(n:Int)))=!decide (Fits fld [] pt):=by
 congr 1;rw[M0];exact⟨λ⟨n,h1,h2⟩=>⟨n,h2,h1,λ_ z=>by cases z⟩,λ⟨n,h1,h2,_⟩=>⟨n,h2,h1⟩⟩
theorem zG {fld acc:N3}{pt:W}{x:Nat}(h:acc.getLast?=some x):(!decide (∃n∈fld,ay pt=(n:Int))||(true&&decide (ay pt<=((x:Nat):Int))))=!decide (Fits fld acc pt):=by
 rw[Bool.true_and,LR];simp only[Me,L6,Lm,LW];constructor
 · rintro (z|z) ⟨n,h1,h2,h3⟩
   · exact z ⟨n,h2,h1⟩
   · have:=h3 x h;omega
 · intro z;by_cases q:∃n∈fld,ay pt=(n:Int)
   · obtain⟨n,h1,h2⟩:=q;refine .inr ?_;by_cases q2:ay pt<=((x:Nat):Int)
     · exact q2
     · exact absurd ⟨n,h2,h1,λy hy=>by rw[h] at hy;injection hy with hy;omega⟩ z
   · exact .inl q
theorem Gd:Str.ofString ","=st [44]:=by rw[kI];rfl
section
variable {P:Program}{w:World}{K:N4}{mg:N6}{base:Heap}
def vp (K:N4) (CW CF:Addr):Sp:=λvs H Q E=>∃(a f:Addr) (fd:N3) (e:Nat) (l:List Word) (pl:Nat),vs=[.ref a,.ref f]/\aY K CW H a e l pl/\aU K H f (nV fd)/\(∀x∈fd,x<=24) /\
 (∀t,setIn e fd l=.error t->Rz CF E (t.kind:Nat) (t.place:Nat)) /\
 (∀s p r,setIn e fd l=.ok ((s,p),r)->∀H' x,aP a H H'->H x=none->H' x=some (.lst (nV s))->aY K CW H' a e r p->Q (.ref x) H')
theorem sE:aI ["words","field","numbers","part","number"] ["words","field"] (ax iQ):=fs
theorem Hs {CW CF aW:Addr}(G:GW mg)(B:GB K mg aW)(T:CK K mg "Words" cq CW)(FL:Flt P w K mg base CF){k:Nat}(hk:2<=k)(FT:pP P w K mg base (fh P w CF) k CW "take" ["self"] (mU K CW CF))(FN:Fn P w K mg base bG k "number_of" ["word"] kM)
  {f:Addr}{fd:FuncData}(F:dG K "take_set" "take_set" iQ f fd):bc P w K mg base (fh P w CF) (k+1) f fd ["words","field"] (vp K CW CF):=by
 refine F.xU sE (λvs H Q E h=>?_) (λcdv A outer s H vs Q E hr h=>?_)
 · obtain⟨_,_,_,_,_,_,rfl,_⟩:=h;rfl
 · obtain⟨a,fa,fld,e,l,pl,rfl,hW,hF,hf24,q0,q1⟩:=h;refine⟨_,af (aN (i:=2) sE.nd rfl (Or.inl rfl) (bW ah))
    (af (dg (yB aJ) rfl (bK (lN (jY FT T.cl (pv 0) hr (bR aJ rfl rfl)) bt)) (aK (i:=3) sE.nd rfl (Or.inl rfl))
     (af (aN (i:=4) sE.nd rfl (Or.inl rfl) (aV FN hr bf (aa (pv 3) ah)))
     (af (aS (PW.pt (eh (aC eK (pv 4) (pv 1) (by with_unfolding_all rfl)) (cO (PW.pt (sH (aC kQ (aH aA (by rfl) G.len PySem.boot_len (aa (pv 2) ah)) aw (aM _)) (oE (aC b7 (pv 4) (bq aQ (pv 2) (vq pL aw) (λ_ _=>rfl)) (aM _)))))))) (ak (fL FL aJ (hr.mono hk) (aa (bg B.num) (aa (a7 (pv 0) rfl) ah)))) aD)
     (ak (dP (p_ PySem.F.plainAttrs_list PySem.F.slot_list_append PySem.F.type_list_append ij (pv 2) (aa (pv 4) ah)))))))
    (ak (az (pv 2)))),?_⟩
   refine⟨LJ _,λp hp=>?_⟩;have S0:au H (upd H p (.lst [])):=(au.refl H).laid hp;have hW0:=hW.same S0;obtain⟨dx,wl,m,np,ha⟩:=hW0.obj;refine⟨_,rfl,a,dx,_,rfl,ha,cy (by decide +kernel),a,e,l,pl,rfl,hW0,λz=>?_,λwd r hl H1 S1 hW1 okw=>?_⟩
   · subst z;exact q0 _ zN
   subst hl;rw[oF hf24] at q0 q1;refine⟨⟨_,rfl⟩,_,_,rfl,rfl,by decide +kernel,by rw[b6,LG];have:=okw.1;omega,λsl hsl=>?_⟩;rw[Gd,mC (by decide)];have nap:a≠p:=ao (hW.obj.choose_spec.choose_spec.choose_spec.choose_spec) hp;have e1:H1 p=some (.lst []):=S1 p _ ae nap.symm;have nsp:sl≠p:=by
    rintro rfl;rw[e1] at hsl;cases hsl
   have SX1:aP a H H1:=S0.x.trans S1;have hslH:H sl=none:=SX1.free hsl (by
    rintro rfl;rw[hW1.obj.choose_spec.choose_spec.choose_spec.choose_spec] at hsl;cases hsl)
   have eP:List.map (λx=>V.str x) (List.map st (a6 44 [] (tx wd.w)))=sV (a6 44 [] (tx wd.w)):=by
    unfold sV;rw[LF];rfl
   rw[eP];unfold setM at q0 q1;have hpl:(a6 44 [] (tx wd.w)).length<=70001:=by
    have:=fe 44 (tx wd.w) [];have:=okw.1;omega
   have hpo:∀v∈a6 44 [] (tx wd.w),v.length<=70000/\∀c∈v,c < 128:=λv hv=>by
    obtain⟨z1,z2⟩:=dX 44 (tx wd.w) [] v hv;refine⟨by simp at z1;have:=okw.1;omega,λc hc=>?_⟩;rcases z2 c hc with z|z
    · cases z
    · exact okw.2 c z
   generalize a6 44 [] (tx wd.w)=ps at q0 q1 hpl hpo;obtain⟨dh,wh,mh,nh,hah⟩:=hW.obj;refine⟨sl,rfl,⟨_,aU.of ae⟩,cZ (K:=K) (a:=sl) (xs:=sV ps) (λi σ H'=>∃(v3 v4:Option V) (acc:N3),σ=[some (.ref a),some (.ref fa),some (.ref p),v3,v4]/\aP a H H'/\aY K CW H' a e r wd.at_ /\
     H' p=some (.lst (nV acc))/\H' sl=some (.lst (sV ps))/\acc.length<=i/\i<=ps.length/\jl fld (ps.drop i) acc=jl fld ps [])
    ⟨none,none,[],rfl,SX1.laid hslH,hW1.same ((au.refl H1).laid hsl),by rw[aq nsp.symm];exact e1,ae,Ln _,LJ _,rfl⟩ (λi σ H' _ ⟨_,_,_,_,_,_,_,z,_⟩=>aU.of z) ?_ ?_⟩
   · rintro i x σ H' hi ⟨v3,v4,acc,rfl,SX,hW',e2,e3,hal,hil,hc⟩;have hil:i < ps.length:=by
      have:=(Lr.mp hi).1
      rwa [dH] at this
     have hx:x=.str (st ps[i]):=by
      rw[Ct (Lo hil)] at hi;exact (LQ hi).symm
     subst hx;have okp:=hpo ps[i] (M6 hil);rw[MB hil] at hc;generalize ps[i]=pt at hc okp;have hc:(if Fits fld acc pt then jl fld (ps.drop (i+1)) (acc++[(ay pt).toNat]) else none)=jl fld ps []:=hc;obtain⟨dx',wl',m',np',ha'⟩:=hW'.obj;refine cE (gD (wd:=pt) (ag rfl) okp) ?_;have hF':=SX.seq hah hF;have fail:¬Fits fld acc pt->Rz CF E 4 (wd.at_:Nat):=λz=>by
      rw[Lf z] at hc;rw[←hc] at q0;exact q0 _ rfl
     dsimp only;refine aX (b:=!decide (Fits fld acc pt)) ?_ (λh=>?_) (λh=>?_)
     · cases hl:acc.getLast? with
       |none =>
        have:acc=[]:=by simpa using hl
        subst this;refine yp (gP (aL (mB (ag rfl) (ag rfl) (.inl hF') rfl (f_ fld))) λ_=>oR (c:=false) (jC (aZ (ag rfl) (.inl (aU.of e2))) aE) λz=>absurd z (by decide)) ?_;rw[Bool.and_false,Nr,←zI,←nN];rfl
       |some y =>
        have hne:0 < acc.length:=by
         cases acc with
         |nil=>cases hl
         |cons _ _=>exact Nat.succ_pos _
        refine yp (gP (aL (mB (ag rfl) (ag rfl) (.inl hF') rfl (f_ fld))) λ_=>oR (jC (aZ (ag rfl) (.inl (aU.of e2))) aE) λz=>jC (ag rfl) (a_ (ag rfl) (tM aE) (aU.of e2) (ES hl))) ?_;rw[←zG hl,←nN,aR];rw[show decide ((acc.length:Int) > 0)=true from LU (by omega)];rfl
     · exact (bo (ag rfl) ha' T.cl (T.no _ (by simp)) bN) _ ⟨4,_,rfl,fail (by simpa using h)⟩
     · have hfit:Fits fld acc pt:=by simpa using h
       rw[Lg hfit] at hc;obtain⟨n,hn,_⟩:=hfit;have en:(ay pt).toNat=n:=by omega
       rw[en] at hc;have eA:nV acc++[V.int (n:Nat)]=nV (acc++[n]):=by
        unfold nV;rw[Lx];rfl
       rw[hn];refine⟨_,rfl,.inl ⟨rfl,_,aU.of e2⟩,_,rfl,p,_,_,rfl,rfl,e2,by rw[aR,LG];omega,?_⟩;rw[eA];exact⟨_,_,acc++[n],rfl,SX.laid hp,hW'.put e2 GL,ae,by rw[aq nsp];exact e3,by rw[LA];simp;omega,hil,hc⟩
   · rintro σ H' ⟨v3,v4,acc,rfl,SX,hW',e2,e3,hal,hil,hc⟩;rw[dH,M7] at hc;have hc:some acc=jl fld ps []:=hc;rw[←hc] at q1;exact⟨_,rfl,q1 _ _ _ rfl _ _ SX hp e2 hW'⟩
end
theorem jB {C:Addr}{E:XK}{tp:TE}{D:Ends}{σ:L2.St}{H:Hp}{k p:Int}(h:Ev tp σ H (.int p))(q:Rz C E k p):JY C E (cU (tC (.int k)) (cU tp eZ)) D σ H:=h _ ⟨k,p,rfl,q⟩
section
variable {P:Program}{w:World}{K:N4}{mg:N6}{base:Heap}
theorem lZ {CW CF:Addr} {H:Hp} {Q:VK} {E:XK} {a t:Addr} {e:Nat} {l:List Word} {pl:Nat} {s:String} (hp:plainT s=true) (hW:aY K CW H a e l pl) (hT:bZ K H t [V.str (Str.ofString s)]) (q0:∀x,must e s l=.error x->Rz CF E (x.kind:Nat) (x.place:Nat))
  (q1:∀r,must e s l=.ok r->∀H' v pl',aP a H H'->aY K CW H' a e r pl'->Q v H'):pC K CW CF [.ref a,.ref t] H Q E:=by
 have one:∀wd:Word,mQ [s] wd↔wd.w=ascii s:=λwd=>by
  rw[←bp _ hp];unfold mQ;exact⟨λ⟨x,h1,h2⟩=>by rw[Ls] at h1;subst h1;exact h2,λh=>⟨s,List.mem_singleton_self s,h⟩⟩
 refine⟨a,t,[s],e,l,pl,rfl,hW,hT,λz=>?_,λwd r hl hn=>?_,λwd r hl ho H' S h'=>?_⟩
 · subst z;exact q0 _ Ck
 · subst hl;refine q0 ⟨3,wd.at_⟩ ?_;rw[rY,Lf (λz=>hn ((one wd).mpr z))]
 · subst hl;refine q1 r ?_ H' _ _ S h';rw[rY,Lg ((one wd).mp ho)]
def DM (K:N4)(CW CF:Addr)(a:Addr)(e:Nat)(H:Hp)(Q:VK)(E:XK)(x:Got):Prop:=(∀t,x=.error t->Rz CF E (t.kind:Nat) (t.place:Nat)) /\
 ∀s r,x=.ok (s,r)->∀H' y pl,aP a H H'->lB H' y s->aY K CW H' a e r pl->Q (.ref y) H'
def BP (K:N4)(CW CF:Addr):Sp:=λvs H Q E=>∃(a f:Addr) (fd:N3) (k e:Nat) (l:List Word) (pl:Nat),vs=[.ref a,.ref f,.int (k:Nat)]/\aY K CW H a e l pl/\aU K H f (nV fd)/\(∀x∈fd,x<=24)/\DM K CW CF a e H Q E (xJ e k fd l)
theorem A8:aI ["words","field","size","numbers"] ["words","field","size"] (ax iN):=fs
theorem HH {CW CF aW:Addr}(G:GW mg)(B:GB K mg aW)(T:CK K mg "Words" cq CW)(FL:Flt P w K mg base CF){k:Nat}(hk:2<=k)(FS:Fn P w K mg base (fh P w CF) k "take_set" ["words","field"] (vp K CW CF))
  {f:Addr}{fd:FuncData}(F:dG K "take_box" "take_box" iN f fd):bc P w K mg base (fh P w CF) (k+1) f fd ["words","field","size"] (BP K CW CF):=by
 refine F.xU A8 (λvs H Q E h=>?_) (λcdv A outer s H vs Q E hr h=>?_)
 · obtain⟨_,_,_,_,_,_,_,rfl,_⟩:=h;rfl
 · obtain⟨a,fa,fld,sz,e,l,pl,rfl,hW,hF,hf24,q0,q1⟩:=h;refine⟨_,af (aN (i:=3) A8.nd rfl (Or.inl rfl) (aV FS hr (bR aJ rfl rfl) (aa (pv 0) (aa (pv 1) ah))))
    (af (aS (aC nP (aH aA (by rfl) G.len PySem.boot_len (aa (pv 3) ah)) (pv 2) (aM _)) (ak (fL FL aJ (hr.mono hk) (aa (bg B.num) (aa (a7 (pv 0) rfl) ah)))) aD)
    (ak (az (bW (aa (pv 3) ah))))),?_⟩
   unfold xJ at q0 q1;refine⟨_,rfl,_,rfl,a,fa,fld,e,l,pl,rfl,hW,hF,hf24,λt ht=>?_,λst p r hst H1 x S1 hx hx1 hW1=>?_⟩
   · rw[ht] at q0;exact q0 _ rfl
   rw[hst] at q0 q1;obtain⟨dx1,wl1,m1,np1,ha1⟩:=hW1.obj;obtain⟨_,_,wd,_,hpl,_⟩:=c_ hf24 hst;refine aX (jC (aZ (ag rfl) (.inl (aU.of hx1))) (ag rfl)) (λh=>?_) (λh=>?_)
   · rw[aR] at h;have h:=Ly h;have q0:=q0 ⟨4,p⟩ (by show (if sz<=st.length then _ else _)=_;rw[Lf (by omega)]);exact (bo (ag rfl) ha1 T.cl (T.no _ (by simp)) bN) _ ⟨4,_,rfl,q0⟩
   · rw[aR] at h;have h:=LY h;have q1:=q1 [st] r (by show (if sz<=st.length then _ else _)=_;rw[Lg (by omega)]);refine⟨_,rfl,(by show 1<=sizeLine;decide),λy hy=>q1 _ y p (λb u z n=>?_) ⟨[x],ae,.cons ?_ .nil⟩ (hW1.same ((au.refl H1).laid hy))⟩
     · have:=S1 b u z n;rw[aq (ao this hy)];exact this
     · rw[aq (ao hx1 hy)];exact hx1
theorem bJ.Jd {fd s:N3}(g:bJ fd s)(h:∀x∈fd,x<=24):s.length<=25:=by
 have:=hX (m:=List.range 25) g.rise.nodup λx hx=>M3.mpr (by have:=h x (g.sub x hx);omega);simpa using this
def AN (K:N4)(CW CF:Addr):Sp:=λvs H Q E=>∃(a f:Addr) (fd:N3) (k e:Nat) (l:List Word) (pl:Nat),vs=[.ref a,.ref f,.int (k:Nat)]/\aY K CW H a e l pl/\aU K H f (nV fd)/\(∀x∈fd,x<=24)/\DM K CW CF a e H Q E (xD e k fd l)
theorem pM:aI ["words","field","size","bankers","others","number"] ["words","field","size"] (ax iO):=fs
theorem FY {CW CF aW:Addr}(G:GW mg)(B:GB K mg aW)(T:CK K mg "Words" cq CW)(FL:Flt P w K mg base CF){k:Nat}(hk:2<=k)(FS:Fn P w K mg base (fh P w CF) k "take_set" ["words","field"] (vp K CW CF))(FO:pP P w K mg base (fh P w CF) k CW "take_one_of" ["self","known"] (pC K CW CF))
  {f:Addr}{fd:FuncData}(F:dG K "take_key" "take_key" iO f fd):bc P w K mg base (fh P w CF) (k+1) f fd ["words","field","size"] (AN K CW CF):=by
 refine F.xU pM (λvs H Q E h=>?_) (λcdv A outer s H vs Q E hr h=>?_)
 · obtain⟨_,_,_,_,_,_,_,rfl,_⟩:=h;rfl
 · obtain⟨a,fa,fld,sz,e,l,pl,rfl,hW,hF,hf24,q0,q1⟩:=h;refine⟨_,af (aN (i:=3) pM.nd rfl (Or.inr rfl) (aV FS hr (bR aJ rfl rfl) (aa (pv 0) (aa (pv 1) ah))))
    (af (aS (aC kQ (aH aA (by rfl) G.len PySem.boot_len (aa (pv 3) ah)) (bH fH (pv 2) aw) (aM _)) (ak (fL FL aJ (hr.mono hk) (aa (bg B.num) (aa (a7 (pv 0) rfl) ah)))) aD)
    (af (dP (kX FO T.cl (pv 0) hr (bR aJ rfl rfl) (aa (dm (aa bt ah)) ah)))
    (af (aN (i:=4) pM.nd rfl (Or.inl rfl) (aV FS hr (bR aJ rfl rfl) (aa (pv 0) (aa (pv 1) ah))))
    (af (aS (PW.pt (eh (hZ (aH (Ax rfl) (by rfl) B.any (by decide +kernel) (aa (fw (te:=kG (FU K false) (cH 5) (cH 3)) rfl pM.nd (bK (pv 4)) (bA (own:=[("number",5)]) rfl) (λ_ _ _ _ _=>aK (i:=5) pM.nd rfl (Or.inl rfl)) (λ_ _ _ _ _=>cn)
      (λ_ _ _ _ _=>fm gc (pv 5) (pv 3) (by with_unfolding_all rfl))) ah)))
      (cO (aC nP (bH eG (aH aA (by rfl) G.len PySem.boot_len (aa (pv 3) ah)) (aH aA (by rfl) G.len PySem.boot_len (aa (pv 4) ah))) (pv 2) (aM _))))) (ak (fL FL aJ (hr.mono hk) (aa (bg B.num) (aa (a7 (pv 0) rfl) ah)))) aD)
    (ak (az (bW (aa (pv 3) (aa (pv 4) ah))))))))),?_⟩
   unfold xD at q0 q1;obtain⟨d0,w0,m0,n0,ha0⟩:=hW.obj;refine⟨_,rfl,_,rfl,a,fa,fld,e,l,pl,rfl,hW,hF,hf24,λt ht=>?_,λsa p r hsa H1 x S1 hx hx1 hW1=>?_⟩
   · rw[ht] at q0;exact q0 _ rfl
   rw[hsa] at q0 q1;obtain⟨dx1,wl1,m1,np1,ha1⟩:=hW1.obj;obtain⟨ga,_⟩:=c_ hf24 hsa;have q0:∀t,rC e sz fld sa p r=.error t->Rz CF E (t.kind:Nat) (t.place:Nat):=q0;have q1:∀s u,rC e sz fld sa p r=.ok (s,u)->_:=q1;unfold rC at q0 q1;have nxa:x≠a:=(ao ha0 hx).symm;refine aX (jC (aZ (ag rfl) (.inl (aU.of hx1))) (qh (ag rfl) aE)) (λh=>?_) (λh=>?_)
   · rw[aR] at h;have h:=Ly h;rw[Lf (by omega)] at q0;exact (bo (ag rfl) ha1 T.cl (T.no _ (by simp)) bN) _ ⟨4,_,rfl,q0 _ rfl⟩
   rw[aR] at h;have h:=LY h;rw[Lg (by omega)] at q0 q1;refine⟨_,rfl,a,dx1,_,rfl,ha1,cy (by decide +kernel),(by show 1<=sizeLine;decide),λt ht=>?_⟩;have St:au H1 (upd H1 t (.tup [V.str (Str.ofString "with")])):=(au.refl H1).laid ht;show eZ _ _ _;unfold eZ;dsimp only [Mg];refine lZ (s:="with") (by decide +kernel) (hW1.same St) (bZ.of ae) (λy hy=>?_) (λm hm H2 v pl2 S2 hW2=>?_)
   · rw[hy] at q0;exact q0 _ rfl
   rw[hm] at q0 q1;have q0:∀t,sr e sz fld sa m=.error t->Rz CF E (t.kind:Nat) (t.place:Nat):=q0;have q1:∀s u,sr e sz fld sa m=.ok (s,u)->_:=q1;unfold sr at q0 q1;have S02:aP a H H2:=(S1.trans St.x).trans S2;have hx2:H2 x=some (.lst (nV sa)):=S2 _ _ (St _ _ hx1) nxa;refine⟨_,rfl,_,rfl,a,fa,fld,e,m,pl2,rfl,hW2,S02.seq ha0 hF,hf24,λt ht=>?_,λsb p2 r2 hsb H3 y S3 hy hy3 hW3=>?_⟩
   · rw[ht] at q0;exact q0 _ rfl
   rw[hsb] at q0 q1;have q0:∀t,(if (∀x∈sb,¬x∈sa)/\sz<=sa.length+sb.length then (Except.ok ([sa,sb],r2):Got) else .error ⟨4,p2⟩)=.error t->Rz CF E (t.kind:Nat) (t.place:Nat):=q0;have q1:∀s u,(if (∀x∈sb,¬x∈sa)/\sz<=sa.length+sb.length then (Except.ok ([sa,sb],r2):Got) else .error ⟨4,p2⟩)=.ok (s,u)->_:=q1;obtain⟨gb,_⟩:=c_ hf24 hsb;have hx3:H3 x=some (.lst (nV sa)):=S3 _ _ hx2 nxa;have S03:aP a H H3:=S02.trans S3;obtain⟨dx3,wl3,m3,np3,ha3⟩:=hW3.obj;have lb:sb.length<=25:=gb.Jd hf24;refine⟨_,rfl,y,rfl,⟨_,aU.of hy3⟩,λD hD=>jf (K:=K) (a:=y) (xs:=nV sb) (λi H'=>au H3 H'/\H' D=some (.lst ((sb.take i).map λn=>V.bl (decide (n∈sa))))) ⟨(au.refl H3).laid hD,ae⟩ (λi H' _ h=>aU.of (h.1 _ _ hy3)) ?_ ?_⟩
   · rintro i v H' hi ⟨k1,k2⟩;obtain⟨n,hn,rfl⟩:∃n,sb[i]?=some n/\V.int (n:Nat)=v:=by
      unfold nV at hi;rw[Lj] at hi;exact LO.mp hi
     refine⟨rfl,?_⟩;refine (mB (neg:=false) (ag rfl) (ag rfl) (.inl (aU.of (k1 _ _ hx3))) rfl (f_ sa)) _ ⟨_,k2,?_,?_⟩
     · rw[Le,LB,LG];omega
     · refine⟨λb u z=>?_,?_⟩
       · rw[aq (ao z hD)];exact k1 b u z
       · have e1:n9 (V.int (n:Nat)) (nV sa)=decide (n∈sa):=by
          rw[nN,M0]
          exact⟨λ⟨m,h1,h2⟩=>by have:n=m:=by omega
                               subst this;exact h1,λh=>⟨n,h,rfl⟩⟩
         rw[ae,take_snoc hn,Lx];show some (HO.lst (_++[V.bl (n9 (V.int (n:Nat)) (nV sa))]))=_;rw[e1];rfl
   · rintro H' ⟨k1,k2⟩;have k2:H' D=some (.lst ((sb.take (nV sb).length).map λn=>V.bl (decide (n∈sa)))):=k2;rw[aR,Mb] at k2;refine⟨D,sb.map λn=>decide (n∈sa),rfl,aU.of (by rw[k2,LF];rfl),_,rfl,?_⟩;have eA:((sb.map λn=>decide (n∈sa)).any id)=!decide (∀x∈sb,¬x∈sa):=by
      rw[LR,ND];simp
     rw[eA];have hx4:=k1 _ _ hx3;have hy4:=k1 _ _ hy3;have ha4:=k1 _ _ ha3;have hW4:=hW3.same k1;refine gF (λh=>?_) (λh=>?_)
     · have h:¬∀x∈sb,¬x∈sa:=by simpa using h
       rw[Lf (λz=>h z.1)] at q0;refine n_ ?_;exact jB (bo (ag rfl) ha4 T.cl (T.no _ (by simp)) bN) (q0 _ rfl)
     · have hall:∀x∈sb,¬x∈sa:=by simpa using h
       refine aX (jC (jJ (aZ (ag rfl) (.inl (aU.of hx4))) (aZ (ag rfl) (.inl (aU.of hy4)))) (ag rfl)) (λh=>?_) (λh=>?_)
       · rw[aR,aR] at h;have h:=Ly h;rw[Lf (λz=>by have:=z.2;omega)] at q0;exact jB (bo (ag rfl) ha4 T.cl (T.no _ (by simp)) bN) (q0 _ rfl)
       · rw[aR,aR] at h;have h:=LY h;rw[Lg ⟨hall,by omega⟩] at q1;refine⟨_,rfl,_,rfl,(by show 2<=sizeLine;decide),λu hu=>q1 _ _ rfl _ u p2 (λb o z n=>?_) ⟨[x,y],ae,.cons ?_ (.cons ?_ .nil)⟩ (hW4.same ((au.refl H').laid hu))⟩
         · have:=k1 b o (S03 b o z n);rw[aq (ao this hu)];exact this
         · rw[aq (ao hx4 hu)];exact hx4
         · rw[aq (ao hy4 hu)];exact hy4
end
theorem Al {e:Nat}{h:N3}{t acc:N2}{l:List Word}:jn e (h::t) acc l=match (if 0 < acc.length then must e "/" l else .ok l) with
  |.error x=>.error x
  |.ok m=>match setIn e h m with
   |.error x=>.error x
   |.ok s=>jn e t (acc++[s.1.1]) s.2:=rfl
section
variable {P:Program}{w:World}{K:N4}{mg:N6}{base:Heap}
def FQ (K:N4) (CW CF:Addr):Sp:=λvs H Q E=>∃(a f:Addr) (fs:N2) (e:Nat) (l:List Word) (pl:Nat),vs=[.ref a,.ref f]/\aY K CW H a e l pl/\bF K H f fs/\fs.length<=24/\(∀fd∈fs,∀x∈fd,x<=24)/\DM K CW CF a e H Q E (jn e fs [] l)
theorem B8:aI ["words","fields","sets","field"] ["words","fields"] (ax kj):=fs
theorem Ip {CW CF aW:Addr}(G:GW mg)(B:GB K mg aW)(T:CK K mg "Words" cq CW)(FL:Flt P w K mg base CF){k:Nat}(hk:2<=k)(FS:Fn P w K mg base (fh P w CF) k "take_set" ["words","field"] (vp K CW CF))(FO:pP P w K mg base (fh P w CF) k CW "take_one_of" ["self","known"] (pC K CW CF))
  {f:Addr}{fd:FuncData}(F:dG K "take_on" "take_on" kj f fd):bc P w K mg base (fh P w CF) (k+1) f fd ["words","fields"] (FQ K CW CF):=by
 refine F.xU B8 (λvs H Q E h=>?_) (λcdv A outer s H vs Q E hr h=>?_)
 · obtain⟨_,_,_,_,_,_,rfl,_⟩:=h;rfl
 · obtain⟨a,fa,fs,e,l,pl,rfl,hW,⟨fas,hFa,hFp⟩,hfl,hf24,q0,q1⟩:=h;refine⟨_,af (aN (i:=2) B8.nd rfl (Or.inl rfl) (bW ah))
    (af (dg (yB aJ) rfl (bK (pv 1)) (aK (i:=3) B8.nd rfl (Or.inl rfl))
     (af (aS (aC kQ (aH aA (by rfl) G.len PySem.boot_len (aa (pv 2) ah)) aw (aM _)) (ak (dP (kX FO T.cl (pv 0) hr (bR aJ rfl rfl) (aa (dm (aa bt ah)) ah)))) aD)
     (ak (dP (p_ PySem.F.plainAttrs_list PySem.F.slot_list_append PySem.F.type_list_append ij (pv 2) (aa (aV FS hr (bR aJ rfl rfl) (aa (pv 0) (aa (pv 3) ah))) ah))))))
    (ak (az (pv 2)))),?_⟩
   obtain⟨d0,w0,m0,n0,ha0⟩:=hW.obj;have lenF:fas.length=fs.length:=Paired.length hFp;refine⟨LJ _,λp hp=>?_⟩;have S0:au H (upd H p (.lst [])):=(au.refl H).laid hp;have npa:a≠p:=ao ha0 hp;refine⟨_,rfl,fa,rfl,⟨_,S0.seq hFa⟩,cZ (K:=K) (a:=fa) (xs:=fas.map V.ref) (λi σ H'=>∃(v3:Option V) (acc:N2) (sas:List Addr) (l':List Word) (pl':Nat),σ=[some (.ref a),some (.ref fa),some (.ref p),v3]/\aP a H H'/\aY K CW H' a e l' pl' /\
     H' p=some (.lst (sas.map V.ref))/\Paired (λb ns=>b≠p/\H' b=some (.lst (nV ns))) sas acc/\acc.length=i/\i<=fs.length/\jn e (fs.drop i) acc l'=jn e fs [] l)
    ⟨none,[],[],l,pl,rfl,S0.x,hW.same S0,ae,.nil,rfl,LJ _,rfl⟩ (λi σ H' _ ⟨_,_,_,_,_,_,SX,_⟩=>SX.seq ha0 hFa) ?_ ?_⟩
   · rintro i x σ H' hi ⟨v3,acc,sas,l',pl',rfl,SX,hW',e2,hP,hal,hil,hc⟩;rw[Lj] at hi;obtain⟨fi,hfi,rfl⟩:=LO.mp hi;obtain⟨fl,hfl2,hFi⟩:=Paired.qK hFp hfi;have hil:i < fs.length:=(Lr.mp hfl2).1;have hd:fs.drop i=fl::fs.drop (i+1):=by
      rw[MB hil];congr 1;exact LQ ((Lo hil).symm.trans hfl2)
     rw[hd,Al] at hc;have f24:=hf24 fl (LH hfl2);obtain⟨d1,w1,m1,n1,ha1⟩:=hW'.obj;have lenP:sas.length=acc.length:=Paired.length hP;dsimp only;refine aX (b:=decide (0 < acc.length)) (yp (jC (aZ (ag rfl) (.inl (aU.of e2))) aE) ?_) (λh=>?goA) (λh=>?goB)
     · rw[Le,lenP,M0];omega
     case' goA =>
      have h:=Ly h;rw[Lg h] at hc;refine⟨_,rfl,a,d1,_,rfl,ha1,cy (by decide +kernel),(by show 1<=sizeLine;decide),λt ht=>?_⟩;have St:au H' (upd H' t (.tup [V.str (Str.ofString "/")])):=(au.refl H').laid ht;show eZ _ _ _;unfold eZ;dsimp only [Mg];refine lZ (s:="/") (by decide +kernel) (hW'.same St) (bZ.of ae) (λy hy=>?_) (λm hm H2 v pl2 S2 hW2=>?_)
      · rw[hy] at hc;exact q0 _ hc.symm
      rw[hm] at hc;have SX2:aP a H H2:=(SX.trans St.x).trans S2;have e22:H2 p=some (.lst (sas.map V.ref)):=S2 _ _ (St _ _ e2) npa.symm;have hP2:Paired (λb ns=>b≠p/\H2 b=some (.lst (nV ns))) sas acc:=Paired.d8 hP λb ns z=>⟨z.1,S2 _ _ (St _ _ z.2) (dF z.2 ha1 (by intro q;cases q))⟩;clear e2 hP hW' ha1 St S2 SX
     case' goB =>
      have h:=LY h;rw[Lf h] at hc;obtain⟨H2,hH2⟩:∃H2,H2=H':=⟨_,rfl⟩;obtain⟨m,hm⟩:∃m,m=l':=⟨_,rfl⟩;obtain⟨pl2,hpl2⟩:∃m,m=pl':=⟨_,rfl⟩;rw[←hm] at hc hW';rw[←hpl2] at hW';rw[←hH2] at hW' e2 hP SX;rw[←hH2];have hW2:=hW';have SX2:=SX;have e22:=e2;have hP2:=hP
     all_goals
      dsimp only at hc;obtain⟨d2,w2,m2,n2,ha2⟩:=hW2.obj;refine⟨_,rfl,.inl ⟨rfl,_,aU.of e22⟩,?_⟩;refine⟨_,rfl,_,rfl,a,fi,fl,e,m,pl2,rfl,hW2,SX2.seq ha0 hFi,f24,λt ht=>?_,λst q r hst H3 x S3 hx hx3 hW3=>?_⟩
      · rw[ht] at hc;exact q0 _ hc.symm
      rw[hst] at hc;dsimp only at hc;have nxp:x≠p:=(ao e22 hx).symm;have e3:H3 p=some (.lst (sas.map V.ref)):=S3 _ _ e22 npa.symm;refine⟨p,_,_,rfl,rfl,e3,by rw[Le,LG];omega,?_⟩;refine⟨_,acc++[st],sas++[x],r,q,rfl,(SX2.trans S3).laid hp,hW3.put e3 Dr,?_,?_,by simp[hal],hil,hc⟩
      · rw[ae,Lx];rfl
      · refine Paired.snoc (Paired.d8 hP2 λb ns z=>⟨z.1,?_⟩) ⟨nxp,by rw[aq nxp];exact hx3⟩;rw[aq z.1];exact S3 _ _ z.2 (dF z.2 ha2 (by intro q;cases q))
   · rintro σ H' ⟨v3,acc,sas,l',pl',rfl,SX,hW',e2,hP,hal,hil,hc⟩;rw[Le,lenF,M7] at hc;exact⟨_,rfl,q1 _ _ hc.symm _ _ pl' SX ⟨sas,e2,Paired.d8 hP λb ns z=>z.2⟩ hW'⟩
end
section
variable {P:Program}{w:World}{K:N4}{mg:N6}{base:Heap}
theorem Em {H:Hp} {fa:Addr} {p:aO} (o:DV p) (h:bF K H fa p.fields):∃(as:List Addr) (b:Addr),aU K H fa (as.map V.ref)/\as.length=p.fields.length/\nJ (as.map V.ref) 0=some (V.ref b)/\aU K H b (nV (p.fields.getD 0 []))/\∀x∈p.fields.getD 0 [],x<=24:=by
 obtain⟨as,h1,h2⟩:=h;have hl:0 < p.fields.length:=Mi.mpr o.ne;obtain⟨b,hb,hI⟩:=Paired.at2 h2 (Lo hl);have eg:p.fields.getD 0 []=p.fields[0]:=by rw[LX,Lo hl];rfl
 refine⟨as,b,h1,Paired.length h2,?_,by rw[eg];exact hI,by rw[eg];exact o.hi _ (M6 hl)⟩;exact cw (j:=0) (by rw[Lj,hb];rfl)
def xC (K:N4)(CW CF CP:Addr):Sp:=λvs H Q E=>∃(a b:Addr) (p:aO) (how e:Nat) (l:List Word) (pl:Nat),vs=[.ref a,.ref b,.int (how:Nat)]/\aY K CW H a e l pl/\de K CP H b p/\DV p/\DM K CW CF a e H Q E (fz e p how l)
theorem xY:aI ["words","pool","how","size"] ["words","pool","how"] (ax gW):=fs
theorem Dy {CW CF CP aW:Addr}(G:GW mg)(B:GB K mg aW)(TP:CK K mg "Pool" gZ CP){k:Nat}(FO:Fn P w K mg base (fh P w CF) k "take_on" ["words","fields"] (FQ K CW CF))(FB:Fn P w K mg base (fh P w CF) k "take_box" ["words","field","size"] (BP K CW CF))(FK:Fn P w K mg base (fh P w CF) k "take_key" ["words","field","size"] (AN K CW CF))
  {f:Addr}{fd:FuncData}(F:dG K "take_sets" "take_sets" gW f fd):bc P w K mg base (fh P w CF) (k+1) f fd ["words","pool","how"] (xC K CW CF CP):=by
 refine F.xU xY (λvs H Q E h=>?_) (λcdv A outer s H vs Q E hr h=>?_)
 · obtain⟨_,_,_,_,_,_,_,rfl,_⟩:=h;rfl
 · obtain⟨a,b,p,how,e,l,pl,rfl,hW,⟨dx,fa,hb,hF⟩,o,g⟩:=h;refine⟨_,af (aS (aC ck (pv 2) (bg B.on) (aM _)) (ak (az (aV FO hr (bR aJ rfl rfl) (aa (pv 0) (aa (a7 (pv 1) rfl) ah))))) aD)
    (af (aN (i:=3) xY.nd rfl (Or.inl rfl) (aH aA (by rfl) G.len PySem.boot_len (aa (a7 (pv 1) rfl) ah)))
    (af (aS (aC ck (pv 2) (bg B.box) (aM _)) (ak (az (aV FB hr (bR aJ rfl rfl) (aa (pv 0) (aa (bq aQ (a7 (pv 1) rfl) aw (λ_ _=>rfl)) (aa (pv 3) ah)))))) aD)
    (ak (az (aV FK hr (bR aJ rfl rfl) (aa (pv 0) (aa (bq aQ (a7 (pv 1) rfl) aw (λ_ _=>rfl)) (aa (pv 3) ah)))))))),?_⟩
   unfold fz at g;obtain⟨as,b0,h1,h2,h3,h4,h5⟩:=Em o hF;have evF:∀{σ:L2.St},σ[1]?=some (some (V.ref b))->Ev (ux K (cH 1) "fields") σ H (.ref fa):=λz=>bo (ag z) hb TP.cl (TP.no _ (by simp)) mE;refine aX (aL (b9 (ag rfl) aE)) (λh=>?_) (λh=>?_)
   · rw[a9] at h;have h:how=0:=by have:=MI h;omega
     rw[Lg h] at g;refine⟨_,rfl,evF rfl _ ⟨a,fa,p.fields,e,l,pl,rfl,hW,hF,o.len,o.hi,g⟩⟩
   · rw[a9] at h;have h:¬how=0:=λz=>by rw[z] at h;cases h
     rw[Lf h] at g;refine cE (aZ (evF rfl) (.inl h1)) ?_;rw[Le,h2];refine aX (aL (b9 (ag rfl) aE)) (λh=>?_) (λh=>?_)
     · rw[a9] at h;have h:how=1:=by have:=MI h;omega
       rw[Lg h] at g;refine⟨_,rfl,(a_ (evF rfl) aE h1 h3) _ ⟨_,rfl,⟨a,b0,_,_,e,l,pl,rfl,hW,h4,h5,g⟩⟩⟩
     · rw[a9] at h;have h:¬how=1:=λz=>by rw[z] at h;cases h
       rw[Lf h] at g;refine⟨_,rfl,(a_ (evF rfl) aE h1 h3) _ ⟨_,rfl,⟨a,b0,_,_,e,l,pl,rfl,hW,h4,h5,g⟩⟩⟩
end
end Bw
namespace L2
open PySem PySem.Spec PyProof.Rows
theorem uo {prog:Program}{w:World}{A:Around}{a:Addr}{u0 u1 u2 uy:Value}{n:Nat}{E:N5}{Q:N5}{s:Shared}{o:Obj}(ho:s.heap.get? a=some o)(hc:o.cls=.type "tuple")(hd:o.data=.seq #[u0,u1,u2] n)
  {b0 b1 b2:Bool}(e0:SeqAt.EqAt A s u0 uy b0)(e1:SeqAt.EqAt A s u1 uy b1)(e2:SeqAt.EqAt A s u2 uy b2){j:Nat}(hj:(b0=true/\j=0)∨(b0=false/\((b1=true/\j=1)∨(b1=false/\b2=true/\j=2))))
  (q:Q (.int (j:Nat) s.toks) {s with toks:=s.toks+1}):wpAny (model prog w) A (Builtin.«tuple.index» {pos:=[.ref a,uy]}) (λfin s'=>∃v,fin=Fin.done (Flow.ret v)/\Q v s') E s:=by
 show wpAny _ _ (selfAndSome "tuple.index" "index" 1 3 {pos:=[.ref a,uy]} >>= _) _ E s;refine Ld (m:=selfAndSome "tuple.index" "index" 1 3 {pos:=[.ref a,uy]}) ?_;have h1:selfAndSome "tuple.index" "index" 1 3 {pos:=[.ref a,uy]}=pure (.ref a,[uy]):=by rfl
 rw[h1];refine Lk ?_;refine Ld (m:=Builtin.Tuple.tupleItemsOf (.ref a)) (tupleItemsOf_ (items:=#[u0,u1,u2]) ⟨_,ho,hc,n,hd⟩ ?_);refine Ld (m:=pure 0) (Lk ?_);refine Ld (m:=pure 3) (Lk ?_);refine Ld ?_;rw[Std.Legacy.Range.forIn_eq_forIn_range'];have hr:List.range' [:min 3 #[u0,u1,u2].size].start [:min 3 #[u0,u1,u2].size].size [:min 3 #[u0,u1,u2].size].step=[0,1,2]:=by
  show List.range' 0 ((min 3 3 - 0+1 - 1) / 1) 1=[0,1,2];decide
 rw[hr];have fin:∀(i:Nat),i=j->∀{R:ForInStep (Option PySem.Fin×Unit)->Shared->Prop},(∀v s',v=Value.int (j:Nat) s.toks->s'={s with toks:=s.toks+1}->R (.done (some (.done (.ret v)),())) s')->wpAny (model prog w) A (do let x ←retInt (i:Nat);pure (ForInStep.done (some x,()))) R E s:=λi hi R hR=>by
  subst hi;exact Ld (Ld (wpAny_mkInt (Lk (Lk (hR _ _ rfl rfl)))))
 rw[List.forIn_cons];refine Ld (Ld (e0 _ _ _ _ ?_));rcases hj with ⟨rfl,rfl⟩|⟨rfl,hj⟩
 · exact fin 0 rfl λv s' hv hs=>Lk (Lk ⟨v,rfl,by rw[hv,hs];exact q⟩)
 refine Lk ?_;show wpAny _ _ (forIn [1,2] _ _) _ _ _;rw[List.forIn_cons];refine Ld (Ld (e1 _ _ _ _ ?_));rcases hj with ⟨rfl,rfl⟩|⟨rfl,rfl,rfl⟩
 · exact fin 1 rfl λv s' hv hs=>Lk (Lk ⟨v,rfl,by rw[hv,hs];exact q⟩)
 refine Lk ?_;show wpAny _ _ (forIn [2] _ _) _ _ _;rw[List.forIn_cons];refine Ld (Ld (e2 _ _ _ _ ?_));exact fin 2 rfl λv s' hv hs=>Lk (Lk ⟨v,rfl,by rw[hv,hs];exact q⟩)
section
variable {X:Cx}
def HW (K:N4):V->List V->Hp->VK->Prop:=λx xs H Q=>∃(a:Addr) (y0 y1 y2 y:V) (j:Nat),x=V.ref a/\xs=[y]/\bZ K H a [y0,y1,y2]/\dJ y=true/\[y0,y1,y2].all dJ=true /\
 ((rO y0 y=true/\j=0)∨(rO y0 y=false/\((rO y1 y=true/\j=1)∨(rO y1 y=false/\rO y2 y=true/\j=2))))/\Q (.int (j:Nat)) H
theorem EW:Bu X "tuple.index" (HW X.K):=by
 intro pins s σ H x xs v us Q I rx rxs h;obtain⟨a,y0,y1,y2,y,j,rfl,rfl,hs,fy,fys,hj,q⟩:=h;cases rx;obtain⟨uy,rfl,ry⟩:=rxs.one;obtain⟨its,rv,⟨o,ho,hc,n,hd⟩,hz⟩:=I.tuple hs;have rv0:=rv;cases rv with
 |cons r0 rv=>cases rv with
  |cons r1 rv=>cases rv with
   |cons r2 rv =>
    cases rv;have key:=λ(A:Around) (u:Value) (hu:u∈_)=>gj (A:=A) (s:=s) ry fy rv0 fys u hu;have f0:dJ y0=true:=LI.mp fys _ (by simp);have f1:dJ y1=true:=LI.mp fys _ (by simp);have f2:dJ y2=true:=LI.mp fys _ (by simp);rw[←lr r0 f0,←lr r1 f1,←lr r2 f2] at hj;exact MA PySem.F.slot_tuple_index ⟨_,ho,hc⟩ PySem.F.entry_tuple_index
     (uo ho hc hd (key _ _ (by simp)) (key _ _ (by simp)) (key _ _ (by simp)) hj ⟨.int (j:Nat),H,I.tok _,⟨_,rfl⟩,q⟩) (PySem.F.args_tuple_index_2 _ _)
end
end L2
namespace Bw
open PySem PySem.Spec PyProof.Rows L2 Tote
section
variable {P:Program}{w:World}{K:N4}{mg:N6}{base:Heap}
def A4 (K:N4) (CW CF CP:Addr):Sp:=λvs H Q E=>∃(a b:Addr) (p:aO) (e:Nat) (l:List Word) (pl:Nat),vs=[.ref a,.ref b]/\aY K CW H a e l pl/\de K CP H b p/\(l=[]->Rz CF E 3 (e:Nat)) /\
 (∀w r,l=w::r->jj p w.w=none->Rz CF E 3 (w.at_:Nat))/\(∀w r how,l=w::r->jj p w.w=some how->∀H',aP a H H'->aY K CW H' a e r w.at_->Q (.int (how:Nat)) H')
theorem HC:aI ["words","pool"] ["words","pool"] (ax iT):=fs
theorem B9 {k:Tote.Kind}:n9 (.str (st (cd (kindS k)))) [V.str (Str.ofString "order"),V.str (Str.ofString "any")]=(k==.order||k==.any):=by
 have:=CI (kn:=["order","any"]) (w:=cd (kindS k));rw[show [V.str (Str.ofString "order"),V.str (Str.ofString "any")]=(["order","any"].map λs=>V.str (Str.ofString s)) from rfl,this];cases k <;> decide
theorem Hy {CW CF CP aW:Addr}(B:GB K mg aW)(T:CK K mg "Words" cq CW)(TP:CK K mg "Pool" gZ CP){k:Nat}(FO:pP P w K mg base (fh P w CF) k CW "take_one_of" ["self","known"] (pC K CW CF))
  {f:Addr}{fd:FuncData}(F:dG K "take_how" "take_how" iT f fd):bc P w K mg base (fh P w CF) (k+1) f fd ["words","pool"] (A4 K CW CF CP):=by
 refine F.xU HC (λvs H Q E h=>?_) (λcdv A outer s H vs Q E hr h=>?_)
 · obtain⟨_,_,_,_,_,_,rfl,_⟩:=h;rfl
 · obtain⟨a,b,p,e,l,pl,rfl,hW,⟨dx,fa,hb,hF⟩,q0,q1,q2⟩:=h;refine⟨_,af (aS (aC gc (a7 (pv 1) rfl) (dm (aa bt (aa bt ah))) (by with_unfolding_all rfl))
     (ak (az (p_ PySem.F.plainAttrs_tuple PySem.F.slot_tuple_index PySem.F.type_tuple_index EW (bg B.IW) (aa (kX FO T.cl (pv 0) hr (bR aJ rfl rfl) (aa (bg B.IW) ah)) ah)))) aD)
    (af (dP (kX FO T.cl (pv 0) hr (bR aJ rfl rfl) (aa (dm (aa bt ah)) ah)))
    (ak (az (bg B.on)))),?_⟩
   obtain⟨d0,w0,m0,n0,ha0⟩:=hW.obj;refine (bo (ag rfl) hb TP.cl (TP.no _ (by simp)) jc) _ ⟨(by show 2<=sizeLine;decide),λt ht=>⟨t,_,rfl,.inr (bZ.of ae),rfl,rfl,?_⟩⟩;have S0:au H (upd H t (.tup [V.str (Str.ofString "order"),V.str (Str.ofString "any")])):=(au.refl H).laid ht;have hW0:=hW.same S0;have ha1:=S0 _ _ ha0;refine⟨_,rfl,?_⟩;show if n9 (.str (st (cd (kindS p.kind)))) [V.str (Str.ofString "order"),V.str (Str.ofString "any")]=true then _ else _;rw[B9];refine gF (λh=>?_) (λh=>?_)
   · have hmx:cP p=true:=h;have eqW:∀(x:String) (v:W),rO (V.str (Str.ofString x)) (V.str (st v))=decide (v=cd x):=λx v=>by
      show (Str.ofString x==st v)=_;rw[LR,L5,Lm,kI,jK];exact⟨λz=>z.symm,λz=>z.symm⟩
     refine⟨.inr (.inl ⟨rfl,B.IM⟩),_,rfl,a,d0,_,rfl,ha1,cy (by decide +kernel),a,aW,["on","box","key"],e,l,pl,rfl,hW0,B.yG _,q0,λwd r hl hn=>?_,λwd r hl ho H' S h'=>?_⟩
     · refine q1 wd r hl ?_;unfold jj;have no:∀x∈["on","box","key"],plainT x=true->¬wd.w=ascii x:=λx hx hp z=>hn ⟨x,hx,(bp _ hp).mpr z⟩;rw[Lf (no _ (by simp) (by decide +kernel)),Lf (λz=>no _ (by simp) (by decide +kernel) z.1),Lf (λz=>no _ (by simp) (by decide +kernel) z.1)]
     · have on_:=bp (s:="on") wd.w (by decide +kernel);have box_:=bp (s:="box") wd.w (by decide +kernel);have key_:=bp (s:="key") wd.w (by decide +kernel);have S2:aP a H H':=S0.x.trans S;have q2:=λhow hh=>q2 wd r how hl hh H' S2 h';unfold jj at q2;by_cases c0:wd.w=ascii "on"
       · rw[Lg c0] at q2;exact⟨aW,_,_,_,_,0,rfl,rfl,B.yG _,rfl,rfl,.inl ⟨by rw[eqW];exact LU (on_.mpr c0),rfl⟩,q2 0 rfl⟩
       · rw[Lf c0] at q2;have c0':¬tx wd.w=cd "on":=λz=>c0 (on_.mp z);by_cases c1:wd.w=ascii "box"
         · rw[Lg ⟨c1,hmx⟩] at q2;exact⟨aW,_,_,_,_,1,rfl,rfl,B.yG _,rfl,rfl,.inr ⟨by rw[eqW];exact L3 c0',.inl ⟨by rw[eqW];exact LU (box_.mpr c1),rfl⟩⟩,q2 1 rfl⟩
         · rw[Lf (λz=>c1 z.1)] at q2;have c1':¬tx wd.w=cd "box":=λz=>c1 (box_.mp z);have c2':tx wd.w=cd "key":=by
            obtain⟨x,hx,hw⟩:=ho;simp only[Li,M1,or_false] at hx;rcases hx with rfl|rfl|rfl
            · exact absurd hw c0'
            · exact absurd hw c1'
            · exact hw
           rw[Lg ⟨key_.mp c2',hmx⟩] at q2;exact⟨aW,_,_,_,_,2,rfl,rfl,B.yG _,rfl,rfl,.inr ⟨by rw[eqW];exact L3 c0',.inr ⟨by rw[eqW];exact L3 c1',by rw[eqW];exact LU c2',rfl⟩⟩,q2 2 rfl⟩
   · have hmx:cP p=false:=by
      unfold cP;simpa using h
     refine⟨_,rfl,a,d0,_,rfl,ha1,cy (by decide +kernel),(by show 1<=sizeLine;decide),λt2 ht2=>?_⟩;have St:au H (upd (upd H t (.tup [V.str (Str.ofString "order"),V.str (Str.ofString "any")])) t2 (.tup [V.str (Str.ofString "on")])):=S0.trans ((au.refl _).laid ht2);show eZ _ _ _;unfold eZ;dsimp only [Mg];have one:∀wd:Word,mQ ["on"] wd↔wd.w=ascii "on":=λwd=>by
      rw[←bp _ (by decide +kernel)];unfold mQ;exact⟨λ⟨x,h1,h2⟩=>by rw[Ls] at h1;subst h1;exact h2,λh=>⟨_,List.mem_singleton_self _,h⟩⟩
     refine⟨a,t2,["on"],e,l,pl,rfl,hW.same St,bZ.of ae,q0,λwd r hl hn=>?_,λwd r hl ho H' S h'=>?_⟩
     · refine q1 wd r hl ?_;unfold jj;rw[Lf (λz=>hn ((one wd).mpr z)),Lf (λz=>by rw[hmx] at z;cases z.2),Lf (λz=>by rw[hmx] at z;cases z.2)]
     · refine q2 wd r 0 hl ?_ H' (St.x.trans S) h';unfold jj;rw[Lg ((one wd).mp ho)]
end
end Bw
namespace L2
open PySem PySem.Spec PyProof.Rows
theorem uM {K:N4}{a:Addr}{xs:List V}{g:TG}{tb:TS}{D:Ends}{σ:L2.St}{H:Hp}(Pv:Nat->L2.St->Hp->Prop)(h0:Pv 0 σ H)(hl:∀i σ H,i<=xs.length->Pv i σ H->aU K H a xs)
  (hs:∀i x σ H T,xs[i]?=some x->Pv i σ H->H T=none->g (.ref T) σ (upd H T (.tup [.int (i:Nat),x])) λσ2 H2=>tb {D with nx:=Pv (i+1),ct:=Pv (i+1),bk:=D.nx} σ2 H2)(hd:∀σ H,Pv xs.length σ H->D.nx σ H) :
  ∃W:Nat->Nat->L2.St->Hp->Prop,(∃m,W 0 m σ H)/\∀i m σ H,W i m σ H ->
   ((Fl K a).stop i H/\D.nx σ H)∨((Fl K a).go i H/\∃N:L2.St->Hp->Prop,(∀σ' H',N σ' H'->∃m',m' < m/\W (i+1) m' σ' H')/\∀x H',(Fl K a).vS i H x H'->g x σ H' λσ2 H2=>tb {D with nx:=N,ct:=N,bk:=D.nx} σ2 H2):=by
 refine⟨λi m σ H=>m=xs.length - i/\i<=xs.length/\Pv i σ H,⟨xs.length,by simp,LJ _,h0⟩,?_⟩;rintro i m σ H ⟨rfl,hi,p⟩;have q:=hl i σ H hi p;by_cases hlt:i < xs.length
 · refine .inr ⟨⟨xs,xs[i],q,by simp[hlt]⟩,Pv (i+1),λσ' H' p'=>⟨xs.length - (i+1),by omega,rfl,hlt,p'⟩,λx H' y=>?_⟩;obtain⟨T,v,rfl,hT,rfl,hx⟩:=y;exact hs i v σ _ T (hx xs q) p hT
 · have e:i=xs.length:=by omega
   subst e;exact .inl ⟨⟨xs,q,Ln _⟩,hd σ H p⟩
end L2
namespace Bw
open PySem PySem.Spec PyProof.Rows L2 Tote
section
variable {K:N4}{CW CP:Addr}{H H':Hp}{a b:Addr}
theorem aP.lists {dx:Addr} {fs:List (Str×V)} {rs:N2} (S:aP a H H') (ha:H a=some (.ins CW dx fs)) (h:bF K H b rs):bF K H' b rs:=by
 obtain⟨as,h1,h2⟩:=h;exact⟨as,S.seq ha h1,Paired.d8 h2 λ_ _ z=>S.seq ha z⟩
theorem Bv {C dx C' dx':Addr}{fs fs':List (Str×V)}(h:fs.length≠fs'.length):HO.ins C dx fs≠HO.ins C' dx' fs':=by
 intro z;injection z with _ _ z;exact h (by rw[z])
theorem de.jR {dx:Addr}{v0 v1 v2 v3 v4:V}{p:aO}(h:de K CP H b p)(S:aP a H H')(ha:H a=some (.ins CW dx (bV v0 v1 v2 v3 v4))):de K CP H' b p:=by
 obtain⟨d,fa,h1,h2⟩:=h;exact⟨d,fa,S _ _ h1 (dF h1 ha (Bv (by show 4≠5;decide))),aP.lists S ha h2⟩
theorem cV.jR {dx:Addr}{v0 v1 v2 v3 v4:V}{ps:List aO}(h:cV K CP H b ps)(S:aP a H H')(ha:H a=some (.ins CW dx (bV v0 v1 v2 v3 v4))):cV K CP H' b ps:=by
 obtain⟨as,h1,h2⟩:=h;exact⟨as,S.seq ha h1,Paired.d8 h2 λ_ _ z=>de.jR z S ha⟩
end
section
variable {P:Program}{w:World}{K:N4}{mg:N6}{base:Heap}
def tQ (K:N4) (CW CF CP:Addr):Sp:=λvs H Q E=>∃(a b:Addr) (ps:List aO) (e:Nat) (l:List Word) (pl:Nat),vs=[.ref b,.ref a]/\aY K CW H a e l pl/\cV K CP H b ps/\(l=[]->Rz CF E 3 (e:Nat)) /\
 (∀w r,l=w::r->dO ps (tx w.w)=none->Rz CF E 5 (w.at_:Nat))/\(∀w r i,l=w::r->dO ps (tx w.w)=some i->∀H',aP a H H'->aY K CW H' a e r w.at_->Q (.int (i:Nat)) H')
theorem lM:aI ["pools","words","name","number","pool"] ["pools","words"] (ax gS):=fs
theorem AB {CW CF CP aW:Addr}(B:GB K mg aW)(T:CK K mg "Words" cq CW)(TP:CK K mg "Pool" gZ CP)(FL:Flt P w K mg base CF){k:Nat}(hk:2<=k)(FT:pP P w K mg base (fh P w CF) k CW "take" ["self"] (mU K CW CF))
  {f:Addr}{fd:FuncData}(F:dG K "take_pool" "take_pool" gS f fd):bc P w K mg base (fh P w CF) (k+1) f fd ["pools","words"] (tQ K CW CF CP):=by
 refine F.xU lM (λvs H Q E h=>?_) (λcdv A outer s H vs Q E hr h=>?_)
 · obtain⟨_,_,_,_,_,_,rfl,_⟩:=h;rfl
 · obtain⟨a,b,ps,e,l,pl,rfl,hW,hPs,q0,q1,q2⟩:=h;refine⟨_,af (aN (i:=2) lM.nd rfl (Or.inl rfl) (jY FT T.cl (pv 1) hr (bR aJ rfl rfl)))
    (af (dg (yB aJ) rfl (sS rfl B.enum (aa (pv 0) ah)) (lD rfl (b_ (aK (i:=3) lM.nd rfl (Or.inl rfl)) (b_ (aK (i:=4) lM.nd rfl (Or.inl rfl)) iW)))
     (ak (aS (aC ck (a7 (pv 4) rfl) (pv 2) (aM _)) (ak (az (pv 3))) aD)))
    (ak (fL FL aJ (hr.mono hk) (aa (bg B.pool) (aa (a7 (pv 1) rfl) ah))))),?_⟩
   obtain⟨d0,w0,m0,n0,ha0⟩:=hW.obj;refine⟨_,rfl,a,d0,_,rfl,ha0,cy (by decide +kernel),a,e,l,pl,rfl,hW,q0,λwd r hl H1 S1 hW1 okw=>?_⟩;have hPs1:=cV.jR hPs S1 ha0;obtain⟨as,hA,hP⟩:=hPs1;have q1:=q1 wd r hl;have q2:=λi=>q2 wd r i hl;generalize tx wd.w=nm at q1 q2;refine⟨_,rfl,b,_,rfl,hA,uM (K:=K) (a:=b) (xs:=as.map V.ref) (λi σ H'=>∃(v3 v4:Option V),σ=[some (.ref b),some (.ref a),some (.str (st nm)),v3,v4]/\au H1 H'/\∀j p,j < i->ps[j]?=some p->¬p.name=nm)
    ⟨none,none,rfl,au.refl H1,λj p hj=>absurd hj (Nat.not_lt_zero j)⟩ (λi σ H' _ ⟨_,_,_,S,_⟩=>S.seq hA) ?_ ?_⟩
   · rintro i x σ H' tt hi ⟨v3,v4,rfl,S2,hno⟩ hT;rw[Lj] at hi;obtain⟨ai,hai,rfl⟩:=LO.mp hi;obtain⟨p,hp,d,fa,hpa,_⟩:=Paired.qK hP hai;have S3:au H1 (upd H' tt (.tup [.int (i:Nat),.ref ai])):=S2.trans ((au.refl H').laid hT);refine⟨tt,_,rfl,bZ.of ae,rfl,_,_,rfl,_,_,rfl,rfl,?_⟩;refine aX (aL (b9 (bo (ag rfl) (S3 _ _ hpa) TP.cl (TP.no _ (by simp)) lq) (ag rfl))) (λh=>?_) (λh=>?_)
     · have h:p.name=nm:=by
        have:=Ly h;injection this with this;exact jK.mp this
       refine⟨_,rfl,q2 i ?_ _ (S1.trans S3.x) (hW1.same S3)⟩;unfold dO;rw[Nv];obtain⟨hil,hpe⟩:=Lr.mp hp;refine⟨hil,by rw[hpe,h];exact beq_self_eq_true _,λj hj=>?_⟩;have:=hno j _ hj (Lo (by omega));simpa using this
     · have h:¬p.name=nm:=λz=>by
        have:=LY h;exact this (by rw[z])
       refine⟨_,_,rfl,S3,λj p' hj hp'=>?_⟩;by_cases hji:j=i
       · subst hji;rw[hp] at hp';injection hp' with hp';subst hp';exact h
       · exact hno j p' (by omega) hp'
   · rintro σ H' ⟨v3,v4,rfl,S2,hno⟩;obtain⟨d1,w1,m1,n1,ha1⟩:=hW1.obj;dsimp only;refine jB (bo (ag rfl) (S2 _ _ ha1) T.cl (T.no _ (by simp)) bN) (q1 ?_);unfold dO;rw[List.findIdx?_eq_none_iff];intro p hp;obtain⟨j,hj⟩:=List.mem_iff_getElem?.mp hp;have hjl:=(Lr.mp hj).1;have:=hno j p (by rw[Le,Paired.length hP];exact hjl) hj;simpa using this
end
def ph:Bool->Nat->N3->Option Nat
 |_,_,[]=>none
 |gap,p,c::r=>if ¬(32<=c/\c<=126) then some p else if c=32/\(gap=true∨r=[]) then some p else ph (c==32) (p+1) r
def vD (cs:N3):Option Nat:=if cs=[] then some 0 else ph true 0 cs
theorem tS:∀(l:Bytes) (gap:Bool) (p:Nat),gap=false∨l≠[]->badByte gap p l=ph gap p (l.map UInt8.toNat)
 |[],gap,p,h=>by
  have:gap=false:=by simpa using h
  subst this;rfl
 |c::r,gap,p,_=>by
  have e32:c=32↔c.toNat=32:=⟨λz=>by rw[z];rfl,λz=>jx z⟩;have elt:(c < 32∨126 < c)↔¬(32<=c.toNat/\c.toNat<=126):=by
   rw[UInt8.lt_iff_toNat_lt,UInt8.lt_iff_toNat_lt];show c.toNat < 32∨126 < c.toNat↔_;omega
  show (if c < 32∨126 < c then some p else if c=32 then (if gap=true then some p else if r.isEmpty=true then some p else badByte true (p+1) r) else badByte false (p+1) r) =
   if ¬(32<=c.toNat/\c.toNat<=126) then some p else if c.toNat=32/\(gap=true∨r.map UInt8.toNat=[]) then some p else ph (c.toNat==32) (p+1) (r.map UInt8.toNat)
  by_cases h1:c < 32∨126 < c
  · rw[Lg h1,Lg (elt.mp h1)]
  · rw[Lf h1,Lf (λz=>h1 (elt.mpr z))];by_cases h2:c=32
    · have h2':=e32.mp h2;rw[Lg h2,h2'];by_cases h3:gap=true
      · rw[Lg h3,Lg ⟨rfl,.inl h3⟩]
      · rw[Lf h3];cases r with
        |nil=>rw[Lg (show ([]:Bytes).isEmpty=true from rfl),Lg ⟨rfl,.inr rfl⟩]
        |cons d r =>
         rw[Lf (by simp),Lf (by rintro⟨_,z|z⟩;exact h3 z;cases z)];exact tS (d::r) true (p+1) (.inr (by simp))
    · have h2':¬c.toNat=32:=λz=>h2 (e32.mpr z);rw[Lf h2,Lf (λz=>h2' z.1)];have:(c.toNat==32)=false:=by simpa using h2'
      rw[this];exact tS r false (p+1) (.inl rfl)
theorem EB (l:Bytes):badByte true 0 l=vD (l.map UInt8.toNat):=by
 unfold vD;cases l with
 |nil=>rfl
 |cons c r =>
  rw[Lf (by simp)];exact tS (c::r) true 0 (.inr (by simp))
theorem Jy {ns:N3}{i:Nat}(h:i < ns.length):nJ (nV ns) ((i:Nat):Int)=some (.int (ns[i]:Nat)):=cw (by unfold nV;rw[Lj,Lo h];rfl)
section
variable {P:Program}{w:World}{K:N4}{mg:N6}{base:Heap}
def vW (K:N4) (CF:Addr):Sp:=λvs H Q E=>∃(a:Addr) (cs:N3),vs=[.ref a]/\aU K H a (nV cs)/\(∀i,vD cs=some i->Rz CF E 2 (i:Nat))/\(vD cs=none->∀H',au H H'->Q .cj H')
theorem tK:aI ["line","place","code"] ["line"] (ax fS):=fs
theorem De {CF aW:Addr}(G:GW mg)(B:GB K mg aW)(FL:Flt P w K mg base CF)
  {f:Addr}{fd:FuncData}(F:dG K "check_line" "check_line" fS f fd):bc P w K mg base (fh P w CF) 3 f fd ["line"] (vW K CF):=by
 refine F.xU tK (λvs H Q E h=>?_) (λcdv A outer s H vs Q E hr h=>?_)
 · obtain⟨_,_,rfl,_⟩:=h;rfl
 · obtain⟨a,cs,rfl,hS,q0,q1⟩:=h;refine⟨_,af (aS (aC ck (aH aA (by rfl) G.len PySem.boot_len (aa (pv 0) ah)) aw (aM _)) (ak (fL FL aJ hr (aa (bg B.byte) (aa aw ah)))) aD)
    (ak (dg (yB aJ) rfl (sS rfl B.enum (aa (pv 0) ah)) (lD rfl (b_ (aK (i:=1) tK.nd rfl (Or.inl rfl)) (b_ (aK (i:=2) tK.nd rfl (Or.inl rfl)) iW)))
     (af (aS (cF (cD b7 b7 aw (pv 2) aw)) (ak (fL FL aJ hr (aa (bg B.byte) (aa (pv 1) ah)))) aD)
     (ak (aS (PW.pt (sH (aC ck (pv 2) (bg B.blank) (aM _)) (oE (PW.pt (eh (aC gc (pv 1) (dm (aa aw (aa (bH fH (aH aA (by rfl) G.len PySem.boot_len (aa (pv 0) ah)) aw) ah))) (by with_unfolding_all rfl))
      (cO (aC ck (bq aQ (pv 0) (bH fH (pv 1) aw) (λ_ _=>rfl)) (bg B.blank) (aM _)))))))) (ak (fL FL aJ hr (aa (bg B.byte) (aa (pv 1) ah)))) aD))))),?_⟩
   refine aX (aL (b9 (aZ (ag rfl) (.inl hS)) aE)) (λh=>?_) (λh=>?_)
   · rw[a9,aR] at h;have h:cs=[]:=by
      have:=MI h;exact M5.mp (by omega)
     exact jB aE (q0 0 (by unfold vD;rw[Lg h]))
   rw[a9,aR] at h;have hne:cs≠[]:=λz=>by rw[z] at h;cases h
   have eL:vD cs=ph true 0 cs:=by unfold vD;rw[Lf hne]
   rw[eL] at q0 q1;refine⟨_,rfl,a,_,rfl,hS,uM (K:=K) (a:=a) (xs:=nV cs) (λi σ H'=>∃(v1 v2:Option V) (gap:Bool),σ=[some (.ref a),v1,v2]/\au H H'/\(gap=true↔i=0∨cs[i - 1]?=some 32)/\ph gap i (cs.drop i)=ph true 0 cs)
    ⟨none,none,true,rfl,au.refl H,by simp,rfl⟩ (λi σ H' _ ⟨_,_,_,_,S,_⟩=>S.seq hS) ?_ ?_⟩
   · rintro i x σ H' tt hi ⟨v1,v2,gap,rfl,S2,hg,hc⟩ hT;have hil:i < cs.length:=by
      have:=(Lr.mp hi).1
      rwa [aR] at this
     have hx:x=.int (cs[i]:Nat):=by
      unfold nV at hi;rw[Lj,Lo hil] at hi;exact (LQ hi).symm
     subst hx;have hci:cs[i]?=some cs[i]:=Lo hil;rw[MB hil] at hc;have hlast:cs.drop (i+1)=[]↔i=cs.length - 1:=by
      rw[List.drop_eq_nil_iff];omega
     generalize hcc:cs[i]=c at hc hci;have hc:(if ¬(32<=c/\c<=126) then some i else if c=32/\(gap=true∨cs.drop (i+1)=[]) then some i else ph (c==32) (i+1) (cs.drop (i+1)))=ph true 0 cs:=hc;have S3:au H (upd H' tt (.tup [.int (i:Nat),.int (c:Nat)])):=S2.trans ((au.refl H').laid hT);refine⟨tt,_,rfl,bZ.of ae,rfl,_,_,rfl,_,_,rfl,rfl,?_⟩;refine aX (e_ (cC aE (ag rfl) aE)) (λh=>?_) (λh=>?_)
     · simp only[L6,MC,LW] at h;rw[Lg (by omega)] at hc;exact jB (ag rfl) (q0 i hc.symm)
     simp only[L9,Ll,Lm] at h;rw[Lf (by omega)] at hc;have go:c=32->(gap=true∨cs.drop (i+1)=[])->Rz CF E 2 (i:Nat):=λz1 z2=>by
      rw[Lg ⟨z1,z2⟩] at hc;exact q0 i hc.symm
     have on:∀H4,au H H4->¬(c=32/\(gap=true∨cs.drop (i+1)=[]))->∃(v1 v2:Option V) (gap:Bool),[some (V.ref a),some (V.int (i:Nat)),some (V.int (c:Nat))]=[some (V.ref a),v1,v2]/\au H H4/\(gap=true↔i+1=0∨cs[i+1 - 1]?=some 32)/\ph gap (i+1) (cs.drop (i+1))=ph true 0 cs:=λH4 S4 hn=>by
      rw[Lf hn] at hc;refine⟨_,_,(c==32),rfl,S4,?_,hc⟩;rw[show i+1 - 1=i by omega,hci,L5];constructor
      · intro z;exact .inr (by rw[z])
      · rintro (z|z)
        · omega
        · exact LQ z
     refine (aL (b9 (ag rfl) aE)) _ ?_;refine gF (λh1=>?_) (λh1=>?_)
     · have h1:c=32:=by
        rw[a9] at h1;have:=MI h1;omega
       refine⟨_,rfl,(qh (aZ (ag rfl) (.inl (S3.seq hS))) aE) _ ⟨(by show 2<=sizeLine;decide),λt ht=>⟨t,_,rfl,.inr (bZ.of ae),rfl,rfl,_,rfl,?_⟩⟩⟩;rw[aR];have S4:=S3.trans ((au.refl _).laid ht (o:=.tup [V.int 0,V.int ((cs.length:Int) - 1)]));have eI:n9 (V.int (i:Nat)) [V.int 0,V.int ((cs.length:Int) - 1)]=decide (i=0∨i=cs.length - 1):=by
        show ((0:Int)==(i:Nat)||((cs.length:Int) - 1==(i:Nat)||false))=_;rw[LR];simp only[Me,L5,Lm,Nr];omega
       show if n9 (V.int (i:Nat)) [V.int 0,V.int ((cs.length:Int) - 1)]=true then _ else _;rw[eI];refine gF (λh2=>?_) (λh2=>?_)
       · refine n_ ?_;refine jB (ag rfl) (go h1 ?_);rcases Ly h2 with z|z
         · exact .inl (hg.mpr (.inl z))
         · exact .inr (hlast.mpr z)
       · have h2:¬(i=0∨i=cs.length - 1):=λz=>h2 (LU z);have hi0:0 < i:=by omega
         refine aX (aL (b9 (a_ (ag rfl) (qh (ag rfl) aE) (S4.seq hS) (by rw[show (((i:Nat):Int) - 1)=((i - 1:Nat):Int) by omega];exact Jy (by omega))) aE)) (λh3=>?_) (λh3=>?_)
         · refine jB (ag rfl) (go h1 (.inl (hg.mpr (.inr ?_))));rw[a9] at h3;have:=MI h3;rw[Lo (by omega)];congr 1;omega
         · refine on _ S4 ?_;rintro⟨_,z|z⟩
           · rcases hg.mp z with z|z
             · omega
             · rw[Lo (by omega)] at z;have z:=LQ z;rw[a9,z] at h3;cases h3
           · have:=hlast.mp z;omega
     · have h1:¬c=32:=λz=>by
        rw[a9,z] at h1;exact h1 rfl
       refine t7 ?_;exact on _ S3 λz=>h1 z.1
   · rintro σ H' ⟨v1,v2,gap,rfl,S2,hg,hc⟩;rw[aR,M7] at hc;exact q1 hc.symm H' S2
end
end Bw
namespace L2
open PySem PySem.Spec PyProof.Rows
theorem om {K:N4}{a:Addr}{xs:List V}{g:TG}{te:TE}{vs:N3}{σ:St}{H1:Hp}{D:Addr}{Qd:Hp->Prop}(F:Nat->V->Hp->Prop)(mono:∀i y H H',(∀b u,b≠D->H b=some u->H' b=some u)->F i y H->F i y H')(hA:aU K H1 a xs)(hD:H1 D=none)(hz:xs.length<=100000)
  (hs:∀i x H',xs[i]?=some x->au H1 H'->(∃acc,H' D=some (.lst acc))->∀R:VK,(∀y H4,au H' H4->F i y H4->R y H4)->g x (wipe σ vs) H' λσ2 H2=>wipe σ2 vs=wipe σ vs/\te σ2 H2 R)
  (hd:∀ys H',au H1 H'->H' D=some (.lst ys)->ys.length=xs.length->(∀i y,ys[i]?=some y->F i y H')->Qd H') :
  ∃W:Nat->Nat->Hp->Prop,(∃m,W 0 m (upd H1 D (.lst [])))/\∀i m H,W i m H ->
   ((Cp K a).stop i H/\Qd H)∨((Cp K a).go i H/\∃Nx:Hp->Prop,(∀H',Nx H'->∃m',m' < m/\W (i+1) m' H')/\∀x H',(Cp K a).vS i H x H'->g x (wipe σ vs) H' λσ2 H2=>wipe σ2 vs=wipe σ vs/\Bh σ2 H2 λb H3 =>
    if b=true then te σ2 H3 λy H4=>∃acc,H4 D=some (.lst acc)/\acc.length < sizeLine/\Nx (upd H4 D (.lst (acc++[y]))) else Nx H3):=by
 refine jf (tt:=Bh) (xs:=xs) (λi H'=>au H1 H'/\∃ys,H' D=some (.lst ys)/\ys.length=i/\∀j y,ys[j]?=some y->F j y H') ⟨(au.refl H1).laid hD,[],ae,rfl,λj y h=>by simp at h⟩ (λi H' _ h=>h.1.seq hA) ?_ ?_
 · rintro i x H' hx ⟨S,ys,e,l,f⟩;refine hs i x H' hx S ⟨ys,e⟩ _ λy H4 S4 fy=>⟨ys,S4 _ _ e,?_,?_,ys++[y],ae,by rw[LA,l];rfl,?_⟩
   · have:=(Lr.mp hx).1;rw[LG];omega
   · intro b u z;rw[aq (ao z hD)];exact S4 b u (S b u z)
   · have up:∀b u,b≠D->H4 b=some u->(upd H4 D (.lst (ys++[y]))) b=some u:=λb u n z=>by rw[aq n];exact z
     intro j v h;by_cases z:j < ys.length
     · rw[List.getElem?_append_left z] at h;exact mono j v _ _ (λb u n z=>up b u n (S4 b u z)) (f j v h)
     · rw[NZ (by omega)] at h;have:j - ys.length=0:=by
        have:=(Lr.mp h).1;rw[Ms] at this;omega
       rw[this] at h;cases h;have:j=i:=by omega
       subst this;exact mono j _ _ _ up fy
 · rintro H' ⟨S,ys,e,l,f⟩;exact hd ys H' S e l f
theorem qi {xs:List V}{n:Nat}:fA xs (some ((n:Nat):Int)) none=xs.drop n:=by
 unfold fA;rw[HT.je,HT.ir];by_cases h:n<=xs.length
 · rw[Nd h];exact Ma (by rw[L7];omega)
 · rw[Nat.min_eq_right (by omega),M_ (by omega:xs.length<=n),M7];simp
theorem oG {xs:List V}{n:Nat}:fA xs none (some ((n:Nat):Int))=xs.take n:=by
 unfold fA;rw[HT.je,HT.ir,List.drop_zero,Nat.sub_zero];by_cases h:n<=xs.length
 · rw[Nd h]
 · rw[Nat.min_eq_right (by omega),Ma (Ln _),Ma (by omega)]
end L2
namespace Bw
open PySem PySem.Spec PyProof.Rows L2 Tote
structure GN (mg:N6):Prop where
 range:mg "range"=none
 list:mg "list"=none
 tuple:mg "tuple"=none
 sorted:mg "sorted"=none
 sum:mg "sum"=none
 runners:Gv mg "MOST_RUNNERS" (.int 24)
 zip:mg "zip"=none
 set:mg "set"=none
theorem zX (l:N3)(x:Nat):product (l++[x])=product l*x:=by
 unfold product;rw[List.foldl_append];rfl
theorem BY {n:Nat}{l:N3}:n9 (V.int (n:Nat)) (nV l)=l.contains n:=by
 rw[nN,LR,Lm,Mm,Lm]
 exact⟨λ⟨m,h1,h2⟩=>by have:n=m:=by omega
                      subst this;exact h1,λh=>⟨n,h,rfl⟩⟩
theorem Ej {l:N3}{x:Nat}:nV (l++[x])=nV l++[V.int (x:Nat)]:=by
 unfold nV;rw[Lx];rfl
theorem yW {l:N3}{i:Nat}{v:V}(h:(nV l)[i]?=some v):∃n,l[i]?=some n/\v=V.int (n:Nat):=by
 unfold nV at h;rw[Lj] at h;obtain⟨n,h1,h2⟩:=LO.mp h;exact⟨n,h1,h2.symm⟩
theorem jP {l:List Addr}{i:Nat}{v:V}(h:(l.map V.ref)[i]?=some v):∃n,l[i]?=some n/\v=V.ref n:=by
 rw[Lj] at h;obtain⟨n,h1,h2⟩:=LO.mp h;exact⟨n,h1,h2.symm⟩
section
variable {P:Program}{w:World}{K:N4}{mg:N6}{base:Heap}
def AD (K:N4):Sp:=λvs H Q _=>∃(a:Addr) (ns:N3),vs=[.ref a]/\aU K H a (nV ns)/\(∀n∈ns,n < 1000000)/\∀H',au H H'->Q (.int (product ns:Nat)) H'
theorem ot:aI ["numbers","product","number"] ["numbers"] (ax fZ):=fs
theorem DZ {f:Addr}{fd:FuncData}(F:dG K "product_of" "product_of" fZ f fd):bc P w K mg base bG 1 f fd ["numbers"] (AD K):=by
 refine F.ok ot (λvs H Q E h=>?_) (λcdv A outer s H vs Q E hr h=>?_)
 · obtain⟨_,_,rfl,_⟩:=h;rfl
 · obtain⟨a,ns,rfl,hS,hn,q⟩:=h;refine⟨_,af (aN (i:=1) ot.nd rfl (Or.inl rfl) aw)
    (af (dg Mj rfl (bK (pv 0)) (aK (i:=2) ot.nd rfl (Or.inl rfl)) (ak (A9 (i:=1) ot.nd rfl (Or.inl rfl) (pv 2) DB)))
    (ak (az (pv 1)))),?_⟩
   refine cE aE ?_;refine⟨_,rfl,a,rfl,⟨_,hS⟩,cZ (K:=K) (a:=a) (xs:=nV ns) (λi σ H'=>∃v2:Option V,σ=[some (.ref a),some (.int (product (ns.take i):Nat)),v2]/\au H H') ⟨none,rfl,au.refl H⟩ (λi σ H' _ ⟨_,_,S⟩=>S.seq hS) ?_ ?_⟩
   · rintro i x σ H' hi ⟨v2,rfl,S⟩;obtain⟨n,hni,rfl⟩:=yW hi;have:=hn n (LH hni);refine⟨_,rfl,_,rfl,_,_,rfl,rfl,.inr ⟨by omega,by omega⟩,some (.int (n:Nat)),?_,S⟩;rw[take_snoc hni,zX,Int.natCast_mul];rfl
   · rintro σ H' ⟨v2,rfl,S⟩;rw[aR,Mb];exact⟨_,rfl,q H' S⟩
def tP (K:N4):Sp:=λvs H Q _=>∃(a t:Addr) (ns s:N3),vs=[.ref a,.ref t]/\aU K H a (nV ns)/\bZ K H t (nV s)/\ns.length<=1000/\∀H' x,au H H'->H x=none->H' x=some (.lst (nV (gu s ns)))->Q (.ref x) H'
theorem ue:aI ["numbers","taken","number"] ["numbers","taken"] (ax j_):=fs
theorem DG {f:Addr}{fd:FuncData}(F:dG K "without" "without" j_ f fd):bc P w K mg base bG 1 f fd ["numbers","taken"] (tP K):=by
 refine F.ok ue (λvs H Q E h=>?_) (λcdv A outer s H vs Q E hr h=>?_)
 · obtain⟨_,_,_,_,rfl,_⟩:=h;rfl
 · obtain⟨a,t,ns,s,rfl,hA,hT,hl,q⟩:=h;refine⟨_,ak (az (fw (te:=cH 2) (tt:=pH (kG (FU K true) (cH 2) (cH 1))) rfl ue.nd (bK (pv 0)) (bA (own:=[("number",2)]) rfl) (λ_ _ _ _ _=>aK (i:=2) ue.nd rfl (Or.inl rfl)) (λ_ _ _ _ _=>ox (aC eK (pv 2) (pv 1) (by with_unfolding_all rfl))) (λ_ _ _ _ _=>pv 2))),?_⟩;refine⟨_,rfl,a,rfl,⟨_,hA⟩,λD hD=>jf (K:=K) (a:=a) (xs:=nV ns) (λi H'=>au H H'/\H' D=some (.lst (nV (gu s (ns.take i))))) ⟨(au.refl H).laid hD,ae⟩ (λi H' _ h=>h.1.seq hA) ?_ ?_⟩
   · rintro i v H' hi ⟨k1,k2⟩;obtain⟨n,hn,rfl⟩:=yW hi;refine⟨rfl,?_⟩;refine (aL (mB (neg:=true) (ag rfl) (ag rfl) (.inr (k1.tup hT)) rfl (f_ s))) _ ?_;show if (!n9 (V.int (n:Nat)) (nV s))=true then _ else _;rw[BY];have e:gu s (ns.take (i+1))=gu s (ns.take i)++if (!s.contains n)=true then [n] else []:=by
      unfold gu;rw[take_snoc hn,M9];congr 1;simp[Mr]
     refine gF (λh=>?_) (λh=>?_)
     · rw[Lg h] at e;refine⟨_,rfl,_,k2,?_,?_,?_⟩
       · have:(gu s (ns.take i)).length<=(ns.take i).length:=NH ..;rw[LB] at this;rw[aR,LG];omega
       · intro b u z;rw[aq (ao z hD)];exact k1 b u z
       · rw[ae,e,Ej]
     · rw[Lf h,Mg] at e;exact⟨k1,by rw[e];exact k2⟩
   · rintro H' ⟨k1,k2⟩;have k2:H' D=some (.lst (nV (gu s (ns.take (nV ns).length)))):=k2;rw[aR,Mb] at k2;exact q H' D k1 hD k2
def ua (K:N4):Sp:=λvs H Q _=>∃(a t:Addr) (ss:N2) (s:N3),vs=[.ref a,.ref t]/\bF K H a ss/\bZ K H t (nV s)/\ss.length<=6/\s.length<=ss.length/\∀H',au H H'->Q (.bl (iy ss s)) H'
theorem oj:aI ["sets","start","number","numbers"] ["sets","start"] (ax oa):=fs
theorem DN (G:GW mg)(N:GN mg){f:Addr}{fd:FuncData}(F:dG K "is_of" "is_of" oa f fd):bc P w K mg base bG 1 f fd ["sets","start"] (ua K):=by
 refine F.ok oj (λvs H Q E h=>?_) (λcdv A outer s H vs Q E hr h=>?_)
 · obtain⟨_,_,_,_,rfl,_⟩:=h;rfl
 · obtain⟨a,t,ss,s,rfl,⟨as,hA,hP⟩,hT,h6,hl,q⟩:=h;refine⟨_,ak (az (aH (xm rfl) (by rfl) G.all PyProof.Rows.boot_all (aa (fw (g:=ER K 2 (pR (gG 2) (pR (gG 3) Ea))) (te:=kG (FU K false) (cH 2) (cH 3)) rfl oj.nd (D6 rfl N.zip (aa (pv 1) (aa (pv 0) ah))) (bA (own:=[("number",2),("numbers",3)]) rfl)
    (λ_ _ _ _ _=>lD rfl (b_ (aK (i:=2) oj.nd rfl (Or.inl rfl) (Or.inr rfl)) (b_ (aK (i:=3) oj.nd rfl (Or.inl rfl) (Or.inr rfl)) iW))) (λ_ _ _ _ _=>cn) (λ_ _ _ _ _=>fm gc (pv 2) (pv 3) (by with_unfolding_all rfl))) ah))),?_⟩
   have lenA:as.length=ss.length:=Paired.length hP;refine⟨_,rfl,_,rfl,t,a,nV s,as.map V.ref,rfl,hT,hA,λD hD=>Ie (K:=K) (a:=t) (b:=a) (xs:=nV s) (ys:=as.map V.ref) (by rw[aR,Le];omega) (λi H'=>au H H'/\H' D=some (.lst (((s.zip ss).take i).map λz=>V.bl (z.2.contains z.1)))) ⟨(au.refl H).laid hD,ae⟩ (λi H' _ h=>⟨h.1.tup hT,h.1.seq hA⟩) ?_ ?_⟩
   · rintro i x y H' T hx hy ⟨k1,k2⟩ hT';obtain⟨n,hn,rfl⟩:=yW hx;obtain⟨ai,hai,rfl⟩:=jP hy;obtain⟨si,hsi,hI⟩:=Paired.qK hP hai;have hT2:au H' (upd H' T (.tup [.int (n:Nat),.ref ai])):=(au.refl H').laid hT';have nTD:D≠T:=ao k2 hT';refine⟨T,_,rfl,bZ.of ae,rfl,_,_,rfl,_,_,rfl,rfl,rfl,?_⟩;refine (mB (neg:=false) (ag rfl) (ag rfl) (.inl ((k1.trans hT2).seq hI)) rfl (f_ si)) _ ⟨_,by rw[aq nTD];exact k2,?_,?_,?_⟩
     · have:=(Lr.mp hn).1;rw[Le,LB,LG];omega
     · intro b u z;rw[aq (ao z hD)];exact hT2 b u (k1 b u z)
     · have ez:(s.zip ss)[i]?=some (n,si):=by rw[List.getElem?_zip_eq_some];exact⟨hn,hsi⟩
       rw[ae,take_snoc ez,Lx];show some (HO.lst (_++[V.bl (n9 (V.int (n:Nat)) (nV si))]))=_;rw[BY];rfl
   · rintro H' ⟨k1,k2⟩;have k2:H' D=some (.lst (((s.zip ss).take (nV s).length).map λz=>V.bl (z.2.contains z.1))):=k2;rw[aR,Ma (by rw[List.length_zip];omega)] at k2;refine⟨D,(s.zip ss).map λz=>z.2.contains z.1,rfl,aU.of (by rw[k2,LF];rfl),?_⟩;have e:((s.zip ss).map λz=>z.2.contains z.1).all id=iy ss s:=by unfold iy;rw[Nl];rfl
     rw[e];exact q H' k1
end
end Bw
namespace L2
open PySem PySem.Spec PyProof.Rows
def IG (K:N4):V->V->Hp->VK->Prop:=λo i H Q=>∃(p:Addr) (xs:List V) (k:Nat) (v:V),o=.ref p/\i=.int (k:Nat)/\aU K H p xs/\xs[k]?=some v/\Q v H
theorem BR {X:Cx}:Jm X (IG X.K):=by
 intro pins s σ H o i ov iv Q I ro ri h;obtain⟨p,xs,k,v,rfl,rfl,hq,he,q⟩:=h;cases ro;obtain⟨t,rfl⟩:=ri;obtain⟨its,r,pl,hz⟩:=I.list hq;obtain⟨w,ew,rw'⟩:=r.get he;have hl:=r.length;have hk:=(Lr.mp he).1;have hn:=lh;exact wpAny_getItem_list pl.isList (by omega) (by omega) (by simpa using ew) ⟨v,H,I,rw',q⟩
theorem DK {K:N4}{a:Addr}{xs:List V}{g:TG}{tt:TT}{te:TE}{vs:N3}{σ:L2.St}{H1:Hp}{D:Addr}{Qd:Hp->Prop}(Pv:Nat->Hp->Prop)(h0:Pv 0 (upd H1 D (.lst [])))(hl:∀i H,i<=xs.length->Pv i H->aU K H a xs)
  (hs:∀i x H T,xs[i]?=some x->Pv i H->H T=none->g (.ref T) (wipe σ vs) (upd H T (.tup [.int (i:Nat),x])) λσ2 H2=>wipe σ2 vs=wipe σ vs/\tt σ2 H2 λb H3 =>
   if b=true then te σ2 H3 λy H4=>∃acc,H4 D=some (.lst acc)/\acc.length < sizeLine/\Pv (i+1) (upd H4 D (.lst (acc++[y]))) else Pv (i+1) H3) (hd:∀H,Pv xs.length H->Qd H) :
  ∃W:Nat->Nat->Hp->Prop,(∃m,W 0 m (upd H1 D (.lst [])))/\∀i m H,W i m H ->
   ((Fl K a).stop i H/\Qd H)∨((Fl K a).go i H/\∃Nx:Hp->Prop,(∀H',Nx H'->∃m',m' < m/\W (i+1) m' H')/\∀x H',(Fl K a).vS i H x H'->g x (wipe σ vs) H' λσ2 H2=>wipe σ2 vs=wipe σ vs/\tt σ2 H2 λb H3 =>
    if b=true then te σ2 H3 λy H4=>∃acc,H4 D=some (.lst acc)/\acc.length < sizeLine/\Nx (upd H4 D (.lst (acc++[y]))) else Nx H3):=by
 refine⟨λi m H=>m=xs.length - i/\i<=xs.length/\Pv i H,⟨xs.length,by simp,LJ _,h0⟩,?_⟩;rintro i m H ⟨rfl,hi,p⟩;have q:=hl i H hi p;by_cases hlt:i < xs.length
 · refine .inr ⟨⟨xs,xs[i],q,by simp[hlt]⟩,Pv (i+1),λH' p'=>⟨xs.length - (i+1),by omega,rfl,hlt,p'⟩,λx H' y=>?_⟩;obtain⟨T,v,rfl,hT,rfl,hx⟩:=y;exact hs i v _ T (hx xs q) p hT
 · have e:i=xs.length:=by omega
   subst e;exact .inl ⟨⟨xs,q,Ln _⟩,hd H p⟩
end L2
namespace Bw
open PySem PySem.Spec PyProof.Rows L2 Tote
theorem Aw {σ:L2.St}{H:Hp}{ta tb:TE}{i j:Int}(ha:Ev ta σ H (.int i))(hb:Ev tb σ H (.int j))(h:EJ i j):Ev (kG (rI EJ λi j=>.int (i*2 ^ j.toNat)) ta tb) σ H (.int (i*2 ^ j.toNat)):=λ_ r=>ha _ (hb _ ⟨i,j,rfl,rfl,h,r⟩)
theorem qg:∀l:N3,(l.map λn=>((n:Nat):Int)).sum=((l.sum:Nat):Int)
 |[]=>rfl
 |n::l=>by rw[Lv,ML,ML,qg l,Int.natCast_add]
section
variable {P:Program}{w:World}{K:N4}{mg:N6}{base:Heap}
def Fv (K:N4):Sp:=λvs H Q _=>∃(a:Addr) (ss:N2),vs=[.ref a]/\bF K H a ss/\CS ss/\∀H',au H H'->Q (.int (dk ss lA:Nat)) H'
theorem fF:aI ["sets","full","ways","number","bits","mask","place","numbers","bit"] ["sets"] (ax cW):=fs
theorem Hb {aW:Addr}(G:GW mg)(B:GB K mg aW)(N:GN mg){f:Addr}{fd:FuncData}(F:dG K "count_different" "count_different" cW f fd):bc P w K mg base bG 1 f fd ["sets"] (Fv K):=by
 refine F.ok fF (λvs H Q E h=>?_) (λcdv A outer s H vs Q E hr h=>?_)
 · obtain⟨_,_,rfl,_⟩:=h;rfl
 · obtain⟨a,ss,rfl,hL,hS,q⟩:=h;refine⟨_,af (aN (i:=1) fF.nd rfl (Or.inl rfl) (bH fH (bH Cw aw (aH aA (by rfl) G.len PySem.boot_len (aa (pv 0) ah))) aw))
    (af (aN (i:=2) fF.nd rfl (Or.inr rfl) (bH xu (bW (aa aw ah)) (fw rfl fF.nd (gd rfl N.range (aa (pv 1) ah)) (bA (own:=[("mask",5)]) rfl) (λ_ _ _ _ _=>aK (i:=5) fF.nd rfl (Or.inl rfl)) (λ_ _ _ _ _=>cn) (λ_ _ _ _ _=>aw))))
    (af (dg Mj rfl (rW rfl N.range (aa aw (aa (bH eG (bg N.runners) aw) ah))) (aK (i:=3) fF.nd rfl (Or.inr rfl))
     (af (oS (i:=4) (te:=kG (rI EJ λi j=>.int (i*2 ^ j.toNat)) (tC (.int 1)) (cH 6)) (tt:=pH (kG (FU K false) (cH 3) (cH 7))) (g:=ER K 2 (pR (gG 6) (pR (gG 7) Ea))) rfl fF.nd rfl rfl (tF rfl rfl rfl rfl) (sS rfl B.enum (aa (pv 0) ah)) (bA (own:=[("place",6),("numbers",7)]) rfl) (λ_ _ _ _ _=>lD rfl (b_ (aK (i:=6) fF.nd rfl (Or.inl rfl) (Or.inr rfl)) (b_ (aK (i:=7) fF.nd rfl (Or.inl rfl) (Or.inr rfl)) iW)))
       (λ_ _ _ _ _=>ox (aC gc (pv 3) (pv 7) (by with_unfolding_all rfl))) (λ_ _ _ _ _=>bH Cw aw (pv 6)))
     (ak (dg Mj rfl (rA rfl N.range (aa (pv 1) (aa aw (aa (vq pL aw) ah)))) (aK (i:=5) fF.nd rfl (Or.inr rfl))
      (ak (EF (pv 2) (pv 5) BR (aH (xw rfl) (by rfl) N.sum (by decide +kernel) (aa (fw (te:=kG (zQ K) (cH 2) (kG (qB λi j=>.int (i - j)) (cH 5) (cH 8))) rfl fF.nd (bK (pv 4)) (bA (own:=[("bit",8)]) rfl) (λ_ _ _ _ _=>aK (i:=8) fF.nd rfl (Or.inl rfl))
       (λ_ _ _ _ _=>ox (aC o8 (bH Gy (pv 5) (pv 8)) aw (aM _))) (λ_ _ _ _ _=>bq aQ (pv 2) (bH fH (pv 5) (pv 8)) (λ_ _=>rfl))) ah)) AA set_list))))))
    (ak (az (bq aQ (pv 2) (pv 1) (λ_ _=>rfl)))))),?_⟩
   obtain⟨as,hA,hP⟩:=hL;have lenA:as.length=ss.length:=Paired.length hP;have h6:=hS.len;have hpow:0 < 2 ^ ss.length:=Nat.pow_pos (by decide);have hp64:2 ^ ss.length<=64:=L1 (Ng (by decide) h6) (by decide);obtain⟨f,hf⟩:∃f,f=2 ^ ss.length - 1:=⟨_,rfl⟩;have ef:(1:Int)*2 ^ ((as.map V.ref).length:Int).toNat - 1=((f:Nat):Int):=by
    rw[Le,lenA,LZ,hf,Int.one_mul];have:((2 ^ ss.length:Nat):Int)=2 ^ ss.length:=by rw[Int.natCast_pow];rfl
    omega
   have nd:∀s∈ss,s.Nodup:=λs hs=>(hS.good s hs).1.nodup;refine cE (qh (Aw aE (aZ (ag rfl) (.inl hA)) ⟨by omega,by rw[Le];omega,by decide⟩) aE) ?_;rw[ef];refine⟨by show 1<=sizeLine;decide,λp1 hp1=>?_⟩;refine yI (tD (ag rfl) (by omega) (by omega) λD0 hD0=>?_);have n10:p1≠D0:=by
    rintro rfl;rw[ae] at hD0;cases hD0
   have hD0':H D0=none:=by rwa [aq n10.symm] at hD0
   rw[LZ];refine mD (lo:=0) (n:=f) (λi H'=>au H H'/\H' p1=some (.lst [V.int 1])/\H' D0=some (.lst (nV (List.replicate i 0)))) ⟨((au.refl H).laid hp1).laid hD0',by rw[aq n10];exact ae,ae⟩ ?_ ?_
   · rintro i H' hi ⟨k0,k1,k2⟩;refine⟨rfl,?_⟩;refine⟨_,k2,by rw[aR,LN,LG];omega,λb u z=>?_,by rw[aq n10];exact k1,?_⟩
     · rw[aq (ao z hD0')];exact k0 b u z
     · rw[ae,List.replicate_succ'];unfold nV;rw[Lx];rfl
   rintro H1 ⟨S1,e1,e0⟩;refine⟨p1,D0,_,_,rfl,rfl,e1,e0,?_,λwy hwy=>?_⟩
   · show 1+_<=_;rw[aR,LN,LG];omega
   have ewy:[V.int 1]++nV (List.replicate f 0)=nV (tab ss 1 f):=by
    rw[hf,←zU];unfold nV;rw[Lx];rfl
   rw[ewy];have hwyH:H wy=none:=by
    cases hz:H wy with
    |none=>rfl
    |some o=>rw[S1 wy o hz] at hwy;cases hwy
   have S2:au H (upd H1 wy (.lst (nV (tab ss 1 f)))):=λb u z=>by
    rw[aq (ao z hwyH)];exact S1 b u z
   refine qt (zb aE (jJ aE aE) (by omega) ?_);refine mT (lo:=1) (n:=((24:Int)+1 - 1).toNat) (λi σ H'=>∃v3 v4 v5:Option V,σ=[some (.ref a),some (.int (f:Nat)),some (.ref wy),v3,v4,v5,none,none,none]/\au H H'/\H' wy=some (.lst (nV (tab ss (i+1) f))))
    ⟨none,none,none,rfl,S2,ae⟩ ?_ ?_
   · rintro i σ H2 hi ⟨v3,v4,v5,rfl,S3,e3⟩;have hi:i < 24:=hi;have ex:(1:Int)+(i:Nat)=((i+1:Nat):Int):=by omega
     rw[ex];obtain⟨x,hx⟩:∃x,x=i+1:=⟨_,rfl⟩;rw[←hx] at e3 ⊢;refine⟨_,rfl,a,_,rfl,S3.seq hA,λD hD=>DK (K:=K) (a:=a) (xs:=as.map V.ref) (λj H'=>au H2 H'/\H' D=some (.lst (nV (bitsOf x 1 (ss.take j))))) ⟨(au.refl H2).laid hD,ae⟩ (λj H' _ h=>(S3.trans h.1).seq hA) ?_ ?_⟩
     · rintro j v H' T hj ⟨k1,k2⟩ hT;rw[Lj] at hj;obtain⟨aj,haj,rfl⟩:=LO.mp hj;obtain⟨sj,hsj,hI⟩:=Paired.qK hP haj;have hjl:j < ss.length:=(Lr.mp hsj).1;have nTD:D≠T:=ao k2 hT;have k1':au H2 (upd H' T (.tup [.int (j:Nat),.ref aj])):=k1.trans ((au.refl H').laid hT);have eb:=rB x (ss.take j) 1 sj;rw[←take_snoc hsj] at eb;refine⟨T,_,rfl,bZ.of ae,rfl,_,_,rfl,_,_,rfl,rfl,rfl,?_⟩;refine (aL (mB (neg:=false) (ag rfl) (ag rfl) (.inl ((S3.trans k1').seq hI)) rfl (f_ sj))) _ ?_;have eI:n9 (V.int (x:Nat)) (nV sj)=sj.contains x:=by
        rw[nN,LR,Lm,Mm,Lm]
        exact⟨λ⟨m,h1,h2⟩=>by have:x=m:=by omega
                             subst this;exact h1,λh=>⟨x,h,rfl⟩⟩
       show if n9 (V.int (x:Nat)) (nV sj)=true then _ else _;rw[eI];refine gF (λh=>?_) (λh=>?_)
       · rw[Lg h] at eb;refine (Aw aE (ag rfl) ⟨by omega,by omega,by decide⟩) _ ⟨_,by rw[aq nTD];exact k2,?_,?_,?_⟩
         · rw[aR];have:=pE x (ss.take j) 1;rw[LB] at this;rw[LG];omega
         · intro b u z;rw[aq (ao z hD)];exact k1' b u z
         · rw[ae,eb];have e2:(1:Int)*2 ^ ((j:Nat):Int).toNat=((1*2 ^ (ss.take j).length:Nat):Int):=by
            rw[LZ,LB,Nd (by omega),Int.one_mul,Nat.one_mul,Int.natCast_pow];rfl
           rw[e2];unfold nV;rw[Lx];rfl
       · rw[Lf h,Mg] at eb;exact⟨k1',by rw[aq nTD,eb];exact k2⟩
     rintro H3 ⟨k1,k2⟩;have k2:H3 D=some (.lst (nV (bitsOf x 1 (ss.take (as.map V.ref).length)))):=k2;rw[Le,lenA,Mb] at k2;obtain⟨bits,hbits⟩:∃bits,bits=bitsOf x 1 ss:=⟨_,rfl⟩;rw[←hbits] at k2;have nDw:D≠wy:=by
      rintro rfl;rw[e3] at hD;cases hD
     have e4:=k1 _ _ e3;have S4:=S3.trans k1;have hDH:H D=none:=by
      cases hz:H D with
      |none=>rfl
      |some o=>rw[S3 D o hz] at hD;cases hD
     refine qt (yS (n:=f) (ag rfl) aE (tM aE) ?_ ?_)
     · have:=IQ.neg (i:=(f:Int)) (j:=0) (by omega) (by omega) (by omega) (by omega);rw[show ((f:Int) - 0).toNat=f by omega] at this;exact this
     refine oK (lo:=(f:Nat)) (c:=-1) (n:=f) (λj σ H'=>∃v5:Option V,σ=[some (.ref a),some (.int (f:Nat)),some (.ref wy),some (.int (x:Nat)),some (.ref D),v5,none,none,none]/\au H H'/\H' wy=some (.lst (nV (js ss x f j)))/\H' D=some (.lst (nV bits)))
      ⟨v5,rfl,S4,by rw[Ao];exact e4,k2⟩ ?_ ?_
     · rintro j σ H4 hj ⟨v5,rfl,S5,e5,e6⟩;obtain⟨m,hm⟩:∃m,m=f - j:=⟨_,rfl⟩;have em:((f:Nat):Int)+((j:Nat):Int)*(-1)=((m:Nat):Int):=by omega
       rw[em];have hmf:m<=f:=by omega
       have old:(nV (js ss x f j))[m]?=some (.int (cz ss x m:Nat)):=by
        unfold nV;rw[Lj,uk hmf,Lf (by omega)];rfl
       refine⟨_,rfl,_,rfl,wy,_,m,_,rfl,rfl,aU.of e5,old,?_⟩;refine⟨_,rfl,D,rfl,⟨_,aU.of e6⟩,λD2 hD2=>jf (K:=K) (a:=D) (xs:=nV bits) (λt H'=>au H4 H'/\H' D2=some (.lst (nV (((bits.take t).filter (bD m)).map λb=>cz ss x (m - b))))) ⟨(au.refl H4).laid hD2,ae⟩ (λt H' _ h=>aU.of (h.1 _ _ e6)) ?_ ?_⟩
       · rintro t v H' ht ⟨k3,k4⟩;unfold nV at ht;rw[Lj] at ht;obtain⟨b,hb,rfl⟩:=LO.mp ht;obtain⟨pw,hpw,hbp⟩:=uO x ss 1 b (by rw[←hbits];exact LH hb);rw[Nat.one_mul] at hbp;have hb0:0 < b:=by rw[hbp];exact Nat.pow_pos (by decide)
         refine⟨rfl,?_⟩;refine (aL (qw (lO (f:=λi j=>.int (Builtin.bitAnd i j)) (ag rfl) (ag rfl)) aE)) _ ?_;have eA:(!decide (V.int (Builtin.bitAnd ((m:Nat):Int) ((b:Nat):Int))=V.int 0))=bD m b:=by
          rw[a9];have e1:Builtin.bitAnd ((m:Nat):Int) ((b:Nat):Int)=((m &&& b:Nat):Int):=by
           unfold Builtin.bitAnd;rw[LU (by omega:(0:Int)<=((m:Nat):Int)),LU (by omega:(0:Int)<=((b:Nat):Int))];rfl
          rw[e1,LR,hbp,←Es,L6,LK];omega
         rw[eA];refine gF (λh=>?_) (λh=>?_)
         · have hbm:=G0 h hb0;have at2:nJ (nV (js ss x f j)) (((m:Nat):Int) - ((b:Nat):Int))=some (.int (cz ss x (m - b):Nat)):=by
            rw[show ((m:Nat):Int) - ((b:Nat):Int)=((m - b:Nat):Int) by omega];refine cw ?_;unfold nV;rw[Lj,uk (by omega),Lf (by omega)];rfl
           refine (a_ (ag rfl) (qh (ag rfl) (ag rfl)) (aU.of (k3 _ _ e5)) at2) _ ⟨_,k4,?_,?_,?_⟩
           · rw[aR,Le,LG];have l1:=NH (bD m) (bits.take t);have l2:=pE x ss 1;rw[←hbits] at l2;rw[LB] at l1;omega
           · intro c u z;rw[aq (ao z hD2)];exact k3 c u z
           · rw[ae,take_snoc hb,M9,Lx];have:[b].filter (bD m)=[b]:=by rw[Mr,Lg h];rfl
             rw[this];unfold nV;rw[Lx];rfl
         · refine⟨k3,?_⟩;have:[b].filter (bD m)=[]:=by rw[Mr,Lf h];rfl
           rw[take_snoc hb,M9,this,Mg];exact k4
       rintro H5 ⟨k3,k4⟩;have k4:H5 D2=some (.lst (nV (((bits.take (nV bits).length).filter (bD m)).map λb=>cz ss x (m - b)))):=k4;rw[aR,Mb] at k4;refine⟨D2,((bits.filter (bD m)).map λb=>cz ss x (m - b)).map λn=>((n:Nat):Int),rfl,aU.of (by rw[k4];unfold nV;rw[LF,LF,LF];rfl),?_⟩;rw[qg];refine⟨_,_,rfl,rfl,wy,_,_,m,rfl,rfl,k3 _ _ e5,?_,?_⟩
       · unfold Ep;rw[Lg (by omega),aR,Lg (by unfold js;rw[Le,Ny];omega)];rfl
       have ew:((cz ss x m:Nat):Int)+((((bits.filter (bD m)).map λb=>cz ss x (m - b)).sum:Nat):Int)=((cz ss (x+1) m:Nat):Int):=by
        rw[Av nd (by omega),←hbits,Int.natCast_add]
       refine⟨_,rfl,λc u z=>?_,?_,?_⟩
       · rw[aq (ao z hwyH)];exact k3 c u (S5 c u z)
       · rw[ae];show some (HO.lst ((nV (js ss x f j)).set m (V.int (((cz ss x m:Nat):Int)+((((bits.filter (bD m)).map λb=>cz ss x (m - b)).sum:Nat):Int)))))=_;rw[ew,←CM (by omega),hm];unfold nV;rw[List.map_set]
       · rw[aq nDw];exact k3 _ _ e6
     · rintro σ H4 ⟨v5,rfl,S5,e5,e6⟩;rw[BF] at e5;exact⟨_,_,_,rfl,S5,e5⟩
   · rintro σ H2 ⟨v3,v4,v5,rfl,S3,e3⟩;have e3:H2 wy=some (.lst (nV (tab ss 25 f))):=e3;refine bU (a_ (ag rfl) (ag rfl) (aU.of e3) (cw (v:=.int (dk ss lA:Nat)) ?_)) (q H2 S3);unfold nV;rw[Lj,B1 (Ln _),←B4,hf];rfl
end
end Bw
namespace L2
open PySem PySem.Spec PyProof.Rows
section
variable {P:Program}{w:World}{d:Addr}{o:Obj}{es:Array DictEntry}{ep:Nat}
theorem zW {A:Around} (hh:A.handled=none) (it:Addr) (ne:d≠it) (dt:o.data=.dict es ep) :
  Walks P w A it [it,d] [it] es.size (λi v=>∃en,es[i]?=some en/\v=en.key) (λi h=>h.IsKeyIter it d i es.size ep/\h.get? d=some o) where
 sub:=λb hb=>Li.mpr (.inl (Ls.mp hb))
 frame:=λi h h' st k=>⟨st.1.at λob e=>k it (L0 ..) ob e,k d (by simp) o st.2⟩
 item:=λi s Q E hi st hQ=>by
  obtain⟨en,hen⟩:∃en,es[i]?=some en:=⟨es[i],Array.getElem?_eq_getElem hi⟩;refine qF st.1 st.2 dt rfl hen λh' it' sb=>?_;exact hQ _ h' s.toks ⟨en,hen,rfl⟩ ⟨it',(sb.2 d ne).trans st.2⟩ λb ob hb e=>(sb.2 b λz=>hb (by simp[z])).trans e
 done:=λs Q E st hQ=>sC hh st.1 st.2 dt rfl (Ln _) λh' eb=>hQ h' s.toks λb ob hb e=>eb b ob (λz=>hb (by simp[z])) e
 self:=λi s Q E st hQ=>wpAny_pyIter_keyiter st.1 hQ
theorem Ar (lo:(d==sysModules)=false)(hx:o.ExactDict)(dt:o.data=.dict es ep):W.KdlSrc P w "dict" d d es.size (λi v=>∃en,es[i]?=some en/\v=en.key) (λh=>h.get? d=some o) where
 type:=λs e=>⟨o,e,hx.1⟩
 there:=λh e=>⟨Lq e,Lq e⟩
 keep:=λh h' e k=>k d (.inl rfl) o e
 notList:=by decide
 notTuple:=by decide
 hint:=λA E s Q e q=>W.kdl_hint_dict ⟨o,e,hx.1⟩ q
 iter:=λA s hh e=>⟨_,_,(λE Q q=>Ab lo e hx dt q),zW hh _ (LP (Lq e)) dt,⟨⟨_,Lu _ rfl,rfl,rfl⟩,Lh _ e⟩⟩
end
section
variable {X:Cx}
theorem wM (hc:X.calm=true):iu X (.type "list") (λxs H Q=>∃(d:Addr) (kvs:List (List Key×V)),xs=[.ref d]/\H d=some (.dT kvs) /\
  ∀(qs:List Addr) (l:Addr),Paired (λq (kv:List Key×V)=>H q=some (.tup (kv.1.map kV))) qs kvs->H l=none->Q (.ref l) (upd H l (.lst (qs.map V.ref)))):=by
 intro pins s σ H xs us Q I r h;obtain⟨d,kvs,rfl,hd,q⟩:=h;rw[Vals.wo r];obtain⟨z,lo,ys,pr,ob,es,ep,ho,hx,dt,he,_⟩:=I.bw d _ hd;have l1:es.size=ys.length:=size_of_entries he;have l2:kvs.length=ys.length:=Paired.length pr;refine W.kdl_call (Ar lo hx dt) (I.ok.hd hc) ho (by omega) λh' tk acc c' kp hl it=>?_;have pq:Paired (λq (kv:List Key×V)=>H q=some (.tup (kv.1.map kV))) (ys.map λy=>y.2.1) kvs:=by
  refine jW (by rw[Le,l2]) λi a b ha hb=>?_;rw[Lj] at ha;obtain⟨y,hy,rfl⟩:=LO.mp ha;obtain⟨y',hy',e1,e2,_⟩:=wg pr hb;rw[hy] at hy';injection hy' with hy';subst hy';exact e2
 have rv:Vals ((ys.map λy=>y.2.1).map V.ref) acc.toList:=by
  have l3:acc.toList.length=es.size:=by rw[MZ];exact it.1
  refine jW (by rw[Le,Le];omega) λi a b ha hb=>?_;obtain⟨en,hen,rfl⟩:=it.2 i b (by simpa using hb);rw[Lj,Lj] at ha;have qe:=entry_at he i;cases hy:ys[i]? with
  |none=>rw[hy] at ha;cases ha
  |some y =>
   rw[hy] at ha qe;have ha:some (V.ref y.2.1)=some a:=ha;injection ha with ha;subst ha;rw[hen] at qe;injection qe with qe;rw[qe];rfl
 have hlen:((ys.map λy=>y.2.1).map V.ref).length<=sizeLine:=by rw[Le,Le];omega
 exact⟨.ref s.heap.objs.size,_,I.laid (t':=tk) kp (Ln _) (show bL X.prog X.w _ h' _ (.lst _) from ⟨hlen,acc.toList,c',rv,by simpa using hl⟩),rfl,q _ _ pq (I.bw.fresh (Ln _))⟩
end
section
variable {P:Program}{w:World}{A:Around}{E:N5}{s:Shared}
theorem CD {t b:Addr} {ws:N8} {R:N5} (ht:IsTup s.heap t #[]) (hb:IsTup s.heap b ws.toArray) (hR:R (.ref b) s):wpAny (model P w) A (binaryOp .Add (.ref t) (.ref b)) R E s:=by
 obtain⟨⟨c1,d1,f1,l1⟩,g1,k1,n1,e1⟩:=id ht;obtain⟨⟨c2,d2,f2,l2⟩,g2,k2,n2,e2⟩:=id hb;simp only at k1 e1 k2 e2;subst k1 e1 k2 e2;have m:=tuple_addW0 t b #[] ws.toArray n1 n2 d1 d2 l1 l2 rfl;exact concat_meets ⟨_,g1,rfl⟩ ⟨_,g2,rfl⟩ noFill_tuple_add seq_tuple_add F.slot_tuple_add F.entry_tuple_add (F.args_tuple_add_2 _ _) m ⟨g1,g2,hR⟩
end
section
variable {X:Cx}
def IF (K:N4):R2:=λx y H Q=>∃a b xs ys,x=.ref a/\y=.ref b/\bZ K H a xs/\H b=some (.tup ys)/\ys≠[]/\xs.length+ys.length<=sizeLine/\∀p H',au H H'->H' p=some (.tup (xs++ys))->Q (.ref p) H'
theorem Ef:jv X (binaryOp .Add) (IF X.K):=by
 intro pins s σ H x y v u Q I rx ry h;obtain⟨a,b,xs,ys,rfl,rfl,ha,hb,hy,hz,q⟩:=h;by_cases e:xs=[]
 · subst e;cases rx;cases ry;obtain⟨its,r1,p1,_⟩:=I.tuple ha;obtain⟨its2,r2,p2,_⟩:=I.tuple (bZ.of hb);have:its=[]:=r1.ou.mpr rfl;subst this;exact CD p1 p2 ⟨.ref b,H,I,rfl,q b H (au.refl H) hb⟩
 · exact D7 pins s σ H _ _ v u Q I rx ry ⟨a,b,xs,ys,rfl,rfl,ha,bZ.of hb,e,hz,λz=>absurd z hy,λ_ p hp=>q p _ ((au.refl H).laid hp) ae⟩
end
end L2
namespace Bw
open PySem PySem.Spec PyProof.Rows L2 Tote
def kL (l:N3):List Key:=l.map λn=>Sum.inl ((n:Nat):Int)
theorem Ec (l:N3):(kL l).map kV=nV l:=by
 unfold kL nV;rw[LF];rfl
theorem BL {l m:N3}(h:kL l=kL m):l=m:=by
 unfold kL at h;refine List.map_inj_right (λa b e=>?_) |>.mp h;have:=Sum.inl.inj e;omega
theorem vt {kvs:List (List Key×V)}{K:N2}{k:N3}{v:V}(h:kvs.map (·.1)=K.map kL):(putK kvs (kL k) v).map (·.1)=(jT K k).map kL:=by
 have hany:(kvs.any λkv=>decide (kv.1=kL k))=K.contains k:=by
  have e1:(kvs.any λkv=>decide (kv.1=kL k))=(kvs.map (·.1)).any λz=>decide (z=kL k):=by rw[ND];rfl
  rw[e1,h,ND,LR,MR,Mm,Lm];constructor
  · rintro⟨x,h1,h2⟩;have:=BL (Ly h2);rw[←this];exact h1
  · intro hk;exact⟨k,hk,LU rfl⟩
 unfold putK jT;rw[hany];by_cases c:K.contains k=true
 · rw[Lg c,Lg c,←h,LF];refine L8 λkv _=>?_;show (if kv.1=kL k then (kv.1,v) else kv).1=kv.1;split <;> rfl
 · rw[Lf c,Lf c,Lx,Lx,h];rfl
theorem wB {pick:N3}{n:Nat}{ms:List Int}(hp:cG pick)(hn:¬n∈pick)(h1:ms.Perm ((pick++[n]).map λx=>((x:Nat):Int)))(h2:ms.Pairwise (·<=·)):ms=(f9 n pick).map λx=>((x:Nat):Int):=by
 have hr:=kU hp hn;have nd:(pick++[n]).Nodup:=by
  rw[MU];refine⟨hp.nodup,by simp,λa ha b hb=>?_⟩;rw[Ls] at hb;subst hb;exact λz=>hn (z ▸ ha)
 have pm:(f9 n pick).Perm (pick++[n]):=(NX hr.nodup nd).mpr λx=>by
  rw[mG];simp[or_comm]
 refine List.Perm.eq_of_pairwise (le:=(·<=·)) (λa b _ _ x y=>by omega) h2 ?_ (h1.trans (pm.map _).symm);rw[List.pairwise_map];exact hr.imp λh=>by omega
theorem la {pick:N3}:∀(s:N3) (K:N2),(cN s K pick).length<=K.length+s.length
 |[],K=>Ln _
 |n::s,K=>by
  show (cN s (cu pick K n) pick).length<=_;have:=la (pick:=pick) s (cu pick K n);have h2:(cu pick K n).length<=K.length+1:=by
   unfold cu jT;split
   · omega
   · split
     · omega
     · simp
  rw[Lp];omega
theorem qk {s:N3}{c:Nat}(hs:s.length<=c):∀(ps K:N2),(ps.foldl (cN s) K).length<=K.length+ps.length*c
 |[],K=>by simp
 |p::ps,K=>by
  rw[MJ,Lp];have h1:=qk hs ps (cN s K p);have h2:=la (pick:=p) s K;rw[Nat.add_mul];omega
theorem qd {α β:Type}(f:β->α->β)(b:β)(l:List α)(x:α):(l++[x]).foldl f b=f (l.foldl f b) x:=by rw[List.foldl_append];rfl
theorem mV:∀(i:Nat) (ss:N2),(∀s∈ss,s.length<=25)->(bz (ss.take i)).length<=25 ^ i
 |0,ss,_=>by show 1<=1;decide
 |i+1,ss,h=>by
  have ih:=mV i ss h;by_cases hi:i < ss.length
  · rw[List.take_add_one,Lo hi];show (bz (ss.take i++[ss[i]])).length<=_;rw[iU];have:=qk (h _ (M6 hi)) (bz (ss.take i)) [];unfold fc;rw[Ni];have h2:(bz (ss.take i)).length*25<=25 ^ i*25:=Nat.mul_le_mul_right _ ih;simp only[MO] at this;omega
  · have:ss.take (i+1)=ss.take i:=by rw[Ma (by omega),Ma (by omega)]
    rw[this,Ni];omega
section
variable {P:Program}{w:World}{K:N4}{mg:N6}{base:Heap}
def Cc (H:Hp) (x:Addr) (R:N2):Prop:=∃qs:List Addr,H x=some (.lst (qs.map V.ref))/\Paired (λq l=>H q=some (.tup (nV l))) qs R
def r_ (K:N4):Sp:=λvs H Q _=>∃(a:Addr) (ss:N2),vs=[.ref a]/\bF K H a ss/\CS ss/\ss.length<=3/\∀H' x,au H H'->Cc H' x (bz ss)->Q (.ref x) H'
theorem ll:aI ["sets","picks","numbers","longer","pick","number"] ["sets"] (ax iG):=fs
theorem Hx (N:GN mg){f:Addr}{fd:FuncData}(F:dG K "picks_of" "picks_of" iG f fd):bc P w K mg base bG 1 f fd ["sets"] (r_ K):=by
 refine F.ok ll (λvs H Q E h=>?_) (λcdv A outer s H vs Q E hr h=>?_)
 · obtain⟨_,_,rfl,_⟩:=h;rfl
 · obtain⟨a,ss,rfl,⟨as,hA,hP⟩,hS,h3,q⟩:=h;have hu:=vG hr;refine⟨_,af (aN (i:=1) ll.nd rfl (Or.inl rfl) (bW (aa (dm ah) ah)))
    (af (dg Mj rfl (bK (pv 0)) (aK (i:=2) ll.nd rfl (Or.inl rfl))
     (af (aN (i:=3) ll.nd rfl (Or.inl rfl) px)
     (af (dg Mj rfl (bK (pv 1)) (aK (i:=4) ll.nd rfl (Or.inl rfl))
      (ak (dg Mj rfl (bK (pv 2)) (aK (i:=5) ll.nd rfl (Or.inl rfl))
       (ak (aS (aC eK (pv 5) (pv 4) (by with_unfolding_all rfl)) (ak (l_ hu (pv 3) (kh qE (by rfl) N.tuple (by decide +kernel) (aa (aH xl (by rfl) N.sorted PyProof.Rows.boot_sorted (aa (bH Ef (pv 4) (dm (aa (pv 5) ah))) ah)) ah)) lJ rfl)) aD)))))
     (ak (aN (i:=1) ll.nd rfl (Or.inl rfl) (kh (wM rfl) (by rfl) N.list (by decide +kernel) (aa (pv 3) ah)))))))
    (ak (az (pv 1)))),?_⟩
   have lenA:as.length=ss.length:=Paired.length hP;have s25:∀s∈ss,s.length<=25:=λs hs=>lH (hS.good s hs).1 (hS.good s hs).2;refine⟨LJ _,λt0 ht0=>⟨by show 1<=sizeLine;decide,λp0 hp0=>?_⟩⟩;have n0:p0≠t0:=by
    rintro rfl;rw[ae] at hp0;cases hp0
   have S0:au H (upd (upd H t0 (.tup [])) p0 (.lst [V.ref t0])):=((au.refl H).laid ht0).trans ((au.refl _).laid hp0);refine⟨_,rfl,a,rfl,⟨_,S0.seq hA⟩,cZ (K:=K) (a:=a) (xs:=as.map V.ref) (λi σ H'=>∃(pk:Addr) (qs:List Addr) (v2 v3 v4 v5:Option V),σ=[some (.ref a),some (.ref pk),v2,v3,v4,v5]/\au H H'/\H' pk=some (.lst (qs.map V.ref))/\Paired (λq l=>H' q=some (.tup (nV l))) qs (bz (ss.take i)))
    ⟨p0,[t0],none,none,none,none,rfl,S0,ae,.cons (by rw[aq n0.symm];exact ae) .nil⟩ (λi σ H' _ ⟨_,_,_,_,_,_,_,S,_⟩=>S.seq hA) ?_ ?_⟩
   · rintro i x σ H1 hi ⟨pk,qs,v2,v3,v4,v5,rfl,S1,e1,hQ⟩;rw[Lj] at hi;obtain⟨ai,hai,rfl⟩:=LO.mp hi;obtain⟨sj,hsj,hI⟩:=Paired.qK hP hai;have hil:i < ss.length:=(Lr.mp hsj).1;have gs:=hS.good sj (LH hsj);have l25:=s25 sj (LH hsj);have lp:=mV i ss s25;have lp2:(bz (ss.take i)).length<=625:=L1 lp (L1 (Ng (by decide) (show i<=2 by omega)) (by decide));have hris:∀l∈bz (ss.take i),cG l/\l.length<=6:=λl hl=>by
      obtain⟨z1,z2⟩:=(kb (ss.take i) l).mp hl;refine⟨z1,?_⟩;have:=(j5 z2).1;rw[LB] at this;omega
     have enext:bz (ss.take (i+1))=fc (bz (ss.take i)) sj:=by rw[take_snoc hsj,iU]
     generalize bz (ss.take i)=pks at hQ lp2 hris enext;have lenQ:qs.length=pks.length:=Paired.length hQ;intro lg hlg;have S2:au H1 (upd H1 lg (.dT [])):=(au.refl H1).laid hlg;refine⟨_,rfl,pk,rfl,⟨_,S2.seq (aU.of e1)⟩,cZ (K:=K) (a:=pk) (xs:=qs.map V.ref) (λj σ H'=>∃(v4 v5:Option V) (kvs:List (List Key×V)),σ=[some (.ref a),some (.ref pk),some (.ref ai),some (.ref lg),v4,v5]/\au H1 H'/\H' lg=some (.dT kvs)/\kvs.map (·.1)=((pks.take j).foldl (cN sj) []).map kL)
      ⟨v4,v5,[],rfl,S2,ae,rfl⟩ (λj σ H' _ ⟨_,_,_,_,S,_⟩=>aU.of (S _ _ e1)) ?_ ?_⟩
     · rintro j x σ H2 hj ⟨v4,v5,kvs,rfl,S3,e3,hk⟩;rw[Lj] at hj;obtain⟨qa,hqa,rfl⟩:=LO.mp hj;obtain⟨pick,hpick,hT⟩:=Paired.qK hQ hqa;have hjl:j < pks.length:=(Lr.mp hpick).1;obtain⟨hr1,hr6⟩:=hris pick (LH hpick);have lk:=qk l25 (pks.take j) [];rw[LB,MO] at lk;have enx:(pks.take (j+1)).foldl (cN sj) []=cN sj ((pks.take j).foldl (cN sj) []) pick:=by rw[take_snoc hpick,qd]
       generalize (pks.take j).foldl (cN sj) []=K2 at hk lk enx;refine⟨_,rfl,ai,rfl,⟨_,(S1.trans S3).seq hI⟩,cZ (K:=K) (a:=ai) (xs:=nV sj) (λm σ H'=>∃(v5:Option V) (kvs:List (List Key×V)),σ=[some (.ref a),some (.ref pk),some (.ref ai),some (.ref lg),some (.ref qa),v5]/\au H1 H'/\H' lg=some (.dT kvs)/\kvs.map (·.1)=((sj.take m).foldl (cu pick) K2).map kL)
        ⟨v5,kvs,rfl,S3,e3,hk⟩ (λm σ H' _ ⟨_,_,_,S,_⟩=>(S1.trans S).seq hI) ?_ ?_⟩
       · rintro m x σ H3 hm ⟨v5,kvs,rfl,S4,e4,hk⟩;unfold nV at hm;rw[Lj] at hm;obtain⟨n,hn,rfl⟩:=LO.mp hm;have lk3:kvs.length<=K2.length+25:=by
          have z1:kvs.length=(cN (sj.take m) K2 pick).length:=by
           have:=Ml List.length hk;rw[Le,Le] at this;exact this
          have z2:=la (pick:=pick) (sj.take m) K2;rw[LB] at z2;omega
         have enn:(sj.take (m+1)).foldl (cu pick) K2=cu pick ((sj.take m).foldl (cu pick) K2) n:=by rw[take_snoc hn,qd]
         generalize (sj.take m).foldl (cu pick) K2=K3 at hk enn;have hT3:=S4 _ _ hT;have eI:(!n9 (V.int (n:Nat)) (nV pick))=!decide (n∈pick):=by
          congr 1;rw[nN,M0]
          exact⟨λ⟨y,h1,h2⟩=>by have:n=y:=by omega
                               subst this;exact h1,λh=>⟨n,h,rfl⟩⟩
         refine aX (b:=!decide (n∈pick)) (yp (aL (mB (neg:=true) (ag rfl) (ag rfl) (.inr (bZ.of hT3)) rfl (f_ pick))) eI) (λh=>?_) (λh=>?_)
         · have hnp:¬n∈pick:=by simpa using h
           refine⟨_,rfl,_,rfl,_,rfl,by show 1<=sizeLine;decide,λt1 ht1=>?_⟩;have S5:au H3 (upd H3 t1 (.tup [V.int (n:Nat)])):=(au.refl H3).laid ht1;refine⟨qa,t1,nV pick,[V.int (n:Nat)],rfl,rfl,bZ.of (S5 _ _ hT3),ae,by simp,by rw[aR,LG];simp;omega,λp4 H4 S6 hp4=>?_⟩;have ecat:nV pick++[V.int (n:Nat)]=((pick++[n]).map λx=>((x:Nat):Int)).map V.int:=by
            unfold nV;rw[Lx,Lx,LF];rfl
           refine⟨p4,(pick++[n]).map λx=>((x:Nat):Int),rfl,bZ.of (by rw[hp4,ecat]),by rw[Le,LA];simp;omega,λms p5 hpm hso hp5=>?_⟩;have ems:=wB hr1 hnp hpm hso;subst ems;have e7:((f9 n pick).map λx=>((x:Nat):Int)).map V.int=(kL (f9 n pick)).map kV:=by
            rw[Ec];unfold nV;rw[LF];rfl
           rw[e7];refine⟨p5,_,rfl,.inl ⟨aU.of ae,λp6 hp6=>?_⟩⟩;have S7:au H3 (upd (upd H4 p5 (.lst ((kL (f9 n pick)).map kV))) p6 (.tup ((kL (f9 n pick)).map kV))):=(S5.trans S6).trans (((au.refl H4).laid hp5).trans ((au.refl _).laid hp6));have hlgH:=S7 _ _ e4;refine⟨lg,_,rfl,.inr ⟨kvs,kL (f9 n pick),p6,hlgH,rfl,ae,by rw[LG];omega,rfl⟩,some (.int (n:Nat)),putK kvs (kL (f9 n pick)) (V.bl true),rfl,?_,ae,?_⟩
           · intro c u z;rw[aq (ao z hlg)];exact S7 c u (S4 c u z)
           · rw[enn,vt hk];unfold cu;rw[Lf (by rw[Mm,Lm];exact hnp)]
         · have hnp:n∈pick:=by simpa using h
           refine⟨_,kvs,rfl,S4,e4,?_⟩;rw[enn,hk];unfold cu;rw[Lg (by rw[Mm,Lm];exact hnp)]
       · rintro σ H3 ⟨v5,kvs,rfl,S4,e4,hk⟩;rw[aR,Mb] at hk;exact⟨_,_,kvs,rfl,S4,e4,by rw[enx];exact hk⟩
     · rintro σ H2 ⟨v4,v5,kvs,rfl,S3,e3,hk⟩;rw[Le,lenQ,Mb] at hk;refine⟨_,rfl,lg,kvs,rfl,e3,λrs l hrs hl=>?_⟩;refine⟨l,rs,_,_,_,_,rfl,(S1.trans S3).laid ?_,ae,?_⟩
       · cases hz:H l with
         |none=>rfl
         |some o=>rw[S3 l o (S1 l o hz)] at hl;cases hl
       · rw[enext];have hk:kvs.map (·.1)=(fc pks sj).map kL:=hk;have lenK:kvs.length=(fc pks sj).length:=by
          have:=Ml List.length hk
          rwa [Le,Le] at this
         refine jW (by rw[Paired.length hrs,lenK]) λt q' l' hq' hl'=>?_;obtain⟨kv,hkv,hH⟩:=Paired.qK hrs hq';have ekv:kv.1=kL l':=by
          have z1:(kvs.map (·.1))[t]?=some kv.1:=by rw[Lj,hkv];rfl
          rw[hk,Lj,hl'] at z1;exact (LQ z1).symm
         rw[aq (ao hH hl),hH,ekv,Ec]
   · rintro σ H1 ⟨pk,qs,v2,v3,v4,v5,rfl,S1,e1,hQ⟩;rw[Le,lenA,Mb] at hQ;exact⟨_,rfl,q H1 pk S1 ⟨qs,e1,hQ⟩⟩
end
theorem wY {α:Type}{ys zs:List α}(l:ys.length=zs.length)(f:∀(i:Nat) y,ys[i]?=some y->zs[i]?=some y):ys=zs:=NC λi=>by
 cases h:ys[i]? with
 |some y=>exact (f i y h).symm
 |none =>
  rw[List.getElem?_eq_none_iff] at h;exact (Mh (by omega)).symm
theorem yN {β:Type}{G:Addr->β->Prop}:∀{ys:List V} {zs:List β},ys.length=zs.length->(∀(i:Nat) (y:V),ys[i]?=some y->∃b z,zs[i]?=some z/\y=V.ref b/\G b z)->∃bs:List Addr,ys=bs.map V.ref/\Paired G bs zs
 |[],[],_,_=>⟨[],rfl,.nil⟩
 |y::ys,z::zs,l,f=>by
  obtain⟨b,z',h1,h2,h3⟩:=f 0 y rfl;obtain⟨bs,e,p⟩:=yN (ys:=ys) (zs:=zs) (G:=G) (by simpa using l) λi v h=>f (i+1) v h;cases h1;exact⟨b::bs,by rw[h2,e];rfl,.cons h3 p⟩
 |[],_::_,l,_=>by simp at l
 |_::_,[],l,_=>by simp at l
theorem nH {α β γ:Type}{F:α->β->Prop}{G:α->γ->Prop}{f:β->γ}:∀{l:List α} {m:List β},Paired F l m->(∀a b,F a b->G a (f b))->Paired G l (m.map f)
 |_,_,.nil,_=>.nil
 |_,_,.cons h t,k=>.cons (k _ _ h) (nH t k)
theorem xt {s:N3}:(s.map λn=>((n:Nat):Int)).Nodup↔s.Nodup:=by
 unfold List.Nodup;rw[List.pairwise_map];exact⟨λh=>h.imp λn e=>n (by rw[e]),λh=>h.imp λn e=>n (by omega)⟩
theorem Dg {s:N3}:nV s=(s.map λn=>((n:Nat):Int)).map V.int:=by
 unfold nV;rw[LF];rfl
section
variable {P:Program}{w:World}{K:N4}{mg:N6}{base:Heap}
def iJ (K:N4) (r:N2->N3->Nat):Sp:=λvs H Q _=>∃(a t:Addr) (ss:N2) (s:N3),vs=[.ref a,.ref t]/\bF K H a ss/\bZ K H t (nV s)/\CS ss/\s.length<=ss.length/\∀H',au H H'->Q (.int (r ss s:Nat)) H'
theorem sP:aI ["sets","start","numbers"] ["sets","start"] (ax fT):=fs
theorem DY (G:GW mg){k:Nat}(FI:Fn P w K mg base bG k "is_of" ["sets","start"] (ua K))(FP:Fn P w K mg base bG k "product_of" ["numbers"] (AD K)){f:Addr}{fd:FuncData}(F:dG K "count_legs" "count_legs" fT f fd):bc P w K mg base bG (k+1) f fd ["sets","start"] (iJ K kJ):=by
 refine F.ok sP (λvs H Q E h=>?_) (λcdv A outer s H vs Q E hr h=>?_)
 · obtain⟨_,_,_,_,rfl,_⟩:=h;rfl
 · obtain⟨a,t,ss,s,rfl,hL,hT,hS,hl,q⟩:=h;refine⟨_,af (aS (cF (hZ (aV FI hr bf (aa (pv 0) (aa (pv 1) ah))))) (ak (az aw)) aD)
    (ak (az (aV FP hr bf (aa (fw (te:=HR (λxs H Q=>∃p ys,xs=[.ref p]/\(aU K H p ys∨bZ K H p ys)/\Q (.int ys.length) H) (cU (cH 2) eZ)) rfl sP.nd (bK (cJ fk (pv 0) (cT (aH aA (by rfl) G.len PySem.boot_len (aa (pv 1) ah))) ft)) (bA (own:=[("numbers",2)]) rfl)
     (λ_ _ _ _ _=>aK (i:=2) sP.nd rfl (Or.inl rfl)) (λ_ _ _ _ _=>cn) (λ_ _ _ _ _=>aH aA (by rfl) G.len PySem.boot_len (aa (pv 2) ah))) ah)))),?_⟩
   refine⟨_,rfl,_,rfl,a,t,ss,s,rfl,hL,hT,hS.len,hl,λH1 S1=>⟨_,rfl,?_⟩⟩;obtain⟨as,hA,hP⟩:=hL;have lenA:as.length=ss.length:=Paired.length hP;unfold kJ at q;refine gF (λh=>?_) (λh=>?_)
   · have h:¬iy ss s=true:=by simpa using h
     rw[Lf h] at q;exact q H1 S1
   have h:iy ss s=true:=by simpa using h
   rw[Lg h] at q;refine⟨_,rfl,_,rfl,t,_,rfl,.inr (S1.tup hT),_,rfl,a,_,rfl,S1.seq hA,λp hp=>?_⟩;rw[aR,qi,←NL];have S2:au H (upd H1 p (.lst ((as.drop s.length).map V.ref))):=S1.trans ((au.refl H1).laid hp);refine⟨p,rfl,⟨_,aU.of ae⟩,λD hD=>om (K:=K) (a:=p) (xs:=(as.drop s.length).map V.ref) (λi y _=>∃si,(ss.drop s.length)[i]?=some si/\y=.int (si.length:Nat)) (λi y H H' _ z=>z) (aU.of ae) hD (by rw[Le,L7];have:=hS.len;omega) ?_ ?_⟩
   · rintro i x H' hx S _ R hR;obtain⟨ai,hai,rfl⟩:=jP hx;obtain⟨si,hsi,hI⟩:=Paired.qK (Paired.dp s.length hP) hai;exact⟨rfl,_,rfl,ai,nV si,rfl,.inl ((S2.trans S).seq hI),hR _ _ (au.refl _) ⟨si,hsi,by rw[aR]⟩⟩
   · rintro ys H' S e l f;have ey:ys=nV ((ss.drop s.length).map List.length):=by
      refine wY (by rw[l,aR,Le,Le,L7,L7,lenA]) λi y hy=>?_;obtain⟨si,hsi,rfl⟩:=f i y hy;unfold nV;rw[Lj,Lj,hsi];rfl
     subst ey;refine⟨D,_,rfl,aU.of e,λn hn=>?_,λH2 S3=>q H2 ((S2.trans S).trans S3)⟩;obtain⟨s0,hs0,rfl⟩:=LM.mp hn;have g:=hS.good s0 (MN hs0);have:=lH g.1 g.2;omega
theorem CS.out {ss:N2}{s:N3}(o:CS ss)(n:Nat):CS ((ss.drop n).map (gu s)):=by
 refine⟨by rw[Le,L7];have:=o.len;omega,λu hu=>?_,λu hu x hx=>?_⟩
 · obtain⟨v,hv,rfl⟩:=LM.mp hu;have g:=o.good v (MN hv);exact⟨List.Pairwise.filter _ g.1,λx hx=>g.2 x (Mo.mp hx).1⟩
 · obtain⟨v,hv,rfl⟩:=LM.mp hu;exact o.lo v (MN hv) x (Mo.mp hx).1
theorem tJ:aI ["sets","start","numbers"] ["sets","start"] (ax eT):=fs
theorem EA (G:GW mg)(N:GN mg){k:Nat}(FI:Fn P w K mg base bG k "is_of" ["sets","start"] (ua K))(FD:Fn P w K mg base bG k "count_different" ["sets"] (Fv K))(FW:Fn P w K mg base bG k "without" ["numbers","taken"] (tP K)){f:Addr}{fd:FuncData}(F:dG K "count_orders" "count_orders" eT f fd):bc P w K mg base bG (k+1) f fd ["sets","start"] (iJ K sy):=by
 refine F.ok tJ (λvs H Q E h=>?_) (λcdv A outer s H vs Q E hr h=>?_)
 · obtain⟨_,_,_,_,rfl,_⟩:=h;rfl
 · obtain⟨a,t,ss,s,rfl,hL,hT,hS,hl,q⟩:=h;refine⟨_,af (aS (PW.pt (eh (cF (hZ (aV FI hr bf (aa (pv 0) (aa (pv 1) ah))))) (cO (aC nP (aH DE (by rfl) G.len PySem.boot_len (aa (kh (Dh rfl) (by rfl) N.set (by decide +kernel) (aa (pv 1) ah)) ah)) (aH aA (by rfl) G.len PySem.boot_len (aa (pv 1) ah)) (aM _))))) (ak (az aw)) aD)
    (ak (az (aV FD hr bf (aa (fw (te:=nE (tP K) [] E0 (cU (cH 2) (cU (cH 1) eZ))) rfl tJ.nd (bK (cJ fk (pv 0) (cT (aH aA (by rfl) G.len PySem.boot_len (aa (pv 1) ah))) ft)) (bA (own:=[("numbers",2)]) rfl)
     (λ_ _ _ _ _=>aK (i:=2) tJ.nd rfl (Or.inl rfl)) (λ_ _ _ _ _=>cn) (λ_ _ _ _ _=>aV FW (by first|exact hr|exact hr.qC) bf (aa (pv 2) (aa (pv 1) ah)))) ah)))),?_⟩
   refine⟨_,rfl,_,rfl,a,t,ss,s,rfl,hL,hT,hS.len,hl,λH1 S1=>⟨_,rfl,?_⟩⟩;obtain⟨as,hA,hP⟩:=hL;have lenA:as.length=ss.length:=Paired.length hP;have h6:=hS.len;unfold sy at q;refine gF (λh=>?_) (λh=>?_)
   · have h:¬iy ss s=true:=by simpa using h
     rw[Lf λz=>h z.1] at q;exact n_ (q H1 S1)
   have h:iy ss s=true:=by simpa using h
   refine⟨_,rfl,t,s.map λn=>((n:Nat):Int),rfl,by rw[←Dg];exact S1.tup hT,by rw[Le];omega,λp S n hp hn hiff=>?_⟩;rw[Le] at hn hiff;rw[xt] at hiff;have Sp:au H (upd H1 p (.set S n)):=S1.trans ((au.refl H1).laid hp);refine⟨p,S,n,rfl,ae,by omega,_,rfl,t,_,rfl,.inr (Sp.tup hT),_,_,rfl,rfl,_,rfl,?_⟩;rw[aR];refine gF (λh2=>?_) (λh2=>?_)
   · have h2:=Ly h2;rw[Lf λz=>by have:=hiff.mpr z.2;omega] at q;exact q _ Sp
   have h2:s.Nodup:=hiff.mp (by have:¬((n:Nat):Int) < ((s.length:Nat):Int):=by simpa using h2
                                omega)
   rw[Lg ⟨h,h2⟩] at q;refine⟨_,rfl,_,rfl,t,_,rfl,.inr (Sp.tup hT),_,rfl,a,_,rfl,Sp.seq hA,λp2 hp2=>?_⟩;rw[aR,qi,←NL];have S2:au H (upd (upd H1 p (.set S n)) p2 (.lst ((as.drop s.length).map V.ref))):=Sp.trans ((au.refl _).laid hp2);refine⟨p2,rfl,⟨_,aU.of ae⟩,λD hD=>om (K:=K) (a:=p2) (xs:=(as.drop s.length).map V.ref) (λi y H=>∃b si,(ss.drop s.length)[i]?=some si/\y=.ref b/\b≠D/\H b=some (.lst (nV (gu s si)))) (λi y H H' z ⟨b,si,z1,z2,z3,z4⟩=>⟨b,si,z1,z2,z3,z b _ z3 z4⟩) (aU.of ae) hD (by rw[Le,L7];omega) ?_ ?_⟩
   · rintro i x H' hx S3 ⟨acc,hacc⟩ R hR;obtain⟨ai,hai,rfl⟩:=jP hx;obtain⟨si,hsi,hI⟩:=Paired.qK (Paired.dp s.length hP) hai;have g:=hS.good si (MN (LH hsi));have:=lH g.1 g.2;refine⟨rfl,_,rfl,_,rfl,ai,t,si,s,rfl,(S2.trans S3).seq hI,(S2.trans S3).tup hT,by omega,λH4 x S4 hx0 hx4=>hR _ _ S4 ⟨x,si,hsi,rfl,?_,hx4⟩⟩;rintro rfl;rw[hacc] at hx0;cases hx0
   · rintro ys H' S3 e l f;obtain⟨bs,rfl,hB⟩:=yN (zs:=ss.drop s.length) (G:=λb si=>b≠D/\H' b=some (.lst (nV (gu s si)))) (by rw[l,Le,L7,L7,lenA]) f;refine⟨D,(ss.drop s.length).map (gu s),rfl,⟨bs,aU.of e,nH hB λb si z=>aU.of z.2⟩,hS.out _,λH2 S4=>q H2 ((S2.trans S3).trans S4)⟩
end
structure pA (kvs:List (List Key×V))(f:N3->Nat):Prop where
 val:∀s,cQ kvs (kL s)=if f s=0 then none else some (.int (f s:Nat))
 keys:∃ks:N2,kvs.map (·.1)=ks.map kL/\ks.Nodup
theorem pA.get {kvs:List (List Key×V)}{f:N3->Nat}(h:pA kvs f)(s:N3):(cQ kvs (kL s)).getD (.int 0)=.int (f s:Nat):=by
 rw[h.val s];by_cases z:f s=0
 · rw[Lg z,z];rfl
 · rw[Lf z];rfl
theorem pA.put {kvs:List (List Key×V)}{f g:N3->Nat}(h:pA kvs f)(s:N3)(hg:∀r,g r=if r=s then f s+1 else f r):pA (putK kvs (kL s) (.int (f s+1:Nat))) g:=by
 refine⟨λr=>?_,?_⟩
 · rw[o5,hg r];by_cases e:r=s
   · subst e;rw[Lg rfl,Lg rfl,Lf (by omega)]
   · rw[Lf λz=>e (BL z),Lf e,h.val r]
 · obtain⟨ks,e,nd⟩:=h.keys;exact⟨_,vt e,mz nd⟩
theorem BX {kvs:List (List Key×V)}{k:List Key}{v:V}:(putK kvs k v).length<=kvs.length+1:=by
 unfold putK;split
 · rw[Le];omega
 · rw[LA];exact Ln _
def tL (R:N2)(row:N3)(j:Nat)(s:N3):Nat:=pre R s+if s.length < j/\s.isPrefixOf row=true then 1 else 0
theorem zt (R:N2)(row s:N3):tL R row 0 s=pre R s:=by
 unfold tL;rw[Lf (by omega),Nat.add_zero]
theorem BJ (R:N2)(row s:N3):tL R row (row.length+1) s=pre (R++[row]) s:=by
 unfold tL pre;rw[List.countP_append,List.countP_singleton];congr 1;refine jZ ⟨λh=>h.2,λh=>⟨?_,h⟩⟩;have:=(NY.mp h).length_le;omega
theorem zV {R:N2}{row:N3}{j:Nat}(hj:j<=row.length)(s:N3):tL R row (j+1) s=if s=row.take j then tL R row j (row.take j)+1 else tL R row j s:=by
 have l:(row.take j).length=j:=by rw[LB];omega
 unfold tL;by_cases e:s=row.take j
 · subst e;rw[Lg rfl,Lg ⟨by omega,NY.mpr (List.take_prefix ..)⟩,Lf (by omega)]
 · rw[Lf e];congr 1;refine jZ ⟨λh=>⟨?_,h.2⟩,λh=>⟨by omega,h.2⟩⟩;have:s.length≠j:=λz=>e (by rw[(List.prefix_iff_eq_take.mp (NY.mp h.2)),z]);omega
section
variable {P:Program}{w:World}{K:N4}{mg:N6}{base:Heap}
def Fe:Sp:=λvs H Q _=>∃(a:Addr) (R:N2),vs=[.ref a]/\Cc H a R/\(∀r∈R,r.length<=3)/\R.length<=20000/\∀H' x kvs,au H H'->H x=none->H' x=some (.dT kvs)->pA kvs (pre R)->Q (.ref x) H'
theorem qo:aI ["rows","counts","row","size","start"] ["rows"] (ax eJ):=fs
theorem Gm (G:GW mg)(N:GN mg){f:Addr}{fd:FuncData}(F:dG K "count_starts" "count_starts" eJ f fd):bc P w K mg base bG 1 f fd ["rows"] Fe:=by
 refine F.ok qo (λvs H Q E h=>?_) (λcdv A outer s H vs Q E hr h=>?_)
 · obtain⟨_,_,rfl,_⟩:=h;rfl
 · obtain⟨a,R,rfl,⟨qs,hA,hP⟩,h3,hl,q⟩:=h;have hu:=vG hr;refine⟨_,af (aN (i:=1) qo.nd rfl (Or.inl rfl) px)
    (af (dg Mj rfl (bK (pv 0)) (aK (i:=2) qo.nd rfl (Or.inl rfl))
     (ak (dg Mj rfl (gd rfl N.range (aa (bH eG (aH aA (by rfl) G.len PySem.boot_len (aa (pv 2) ah)) aw) ah)) (aK (i:=3) qo.nd rfl (Or.inl rfl))
      (af (aN (i:=4) qo.nd rfl (Or.inl rfl) (cJ EZ (pv 2) ft (cT (pv 3))))
      (ak (l_ hu (pv 1) (pv 4) (bH eG (vw hu (pv 1) (pv 4) aw ⟨rfl,rfl,rfl,rfl⟩) aw) rfl))))))
    (ak (az (pv 1)))),?_⟩
   have lenQ:qs.length=R.length:=Paired.length hP;intro dc hdc;have S0:au H (upd H dc (.dT [])):=(au.refl H).laid hdc;refine⟨_,rfl,a,rfl,⟨_,aU.of (S0 _ _ hA)⟩,cZ (K:=K) (a:=a) (xs:=qs.map V.ref) (λi σ H'=>∃(v2 v3 v4:Option V) (kvs:List (List Key×V)),σ=[some (.ref a),some (.ref dc),v2,v3,v4]/\au H H'/\H' dc=some (.dT kvs)/\pA kvs (pre (R.take i))/\kvs.length<=4*i)
    ⟨none,none,none,[],rfl,S0,ae,⟨λs=>rfl,[],rfl,by simp⟩,by simp⟩ (λi σ H' _ ⟨_,_,_,_,_,S,_⟩=>aU.of (S _ _ hA)) ?_ ?_⟩
   · rintro i x σ H1 hi ⟨v2,v3,v4,kvs,rfl,S1,e1,k1,l1⟩;obtain⟨qa,hqa,rfl⟩:=jP hi;obtain⟨row,hrow,hT⟩:=Paired.qK hP hqa;have hil:i < R.length:=(Lr.mp hrow).1;have r3:=h3 row (LH hrow);refine qt (tD (jJ (aZ (ag rfl) (.inr (bZ.of (S1 _ _ hT)))) aE) (by omega) (by rw[aR];omega) ?_);rw[aR,show (((row.length:Nat):Int)+1).toNat=row.length+1 by omega];refine mT (lo:=0) (n:=row.length+1) (λj σ H'=>∃(v3 v4:Option V) (kvs:List (List Key×V)),σ=[some (.ref a),some (.ref dc),some (.ref qa),v3,v4]/\au H H'/\H' dc=some (.dT kvs)/\pA kvs (tL (R.take i) row j)/\kvs.length<=4*i+j)
      ⟨v3,v4,kvs,rfl,S1,e1,⟨λs=>by rw[zt];exact k1.val s,k1.keys⟩,l1⟩ ?_ ?_
     · rintro j σ H2 hj ⟨v3,v4,kvs,rfl,S2,e2,k2,l2⟩;rw[Int.zero_add];refine⟨_,rfl,_,rfl,_,rfl,qa,_,rfl,S2 _ _ hT,λp H3 S3 hp=>?_⟩;rw[oG] at hp;have et:(nV row).take j=(kL (row.take j)).map kV:=by rw[Ec];unfold nV;rw[List.map_take]
       rw[et] at hp;have e3:=S3 _ _ e2;refine⟨_,rfl,dc,rfl,.inr ⟨kvs,.inl e3⟩,_,rfl,_,gf.t e3 hp,_,_,k2.get _,rfl,_,rfl,_,rfl,dc,_,rfl,.inr ⟨kvs,_,p,e3,rfl,hp,by rw[LG];omega,rfl⟩,_,_,_,rfl,?_,ae,?_,?_⟩
       · intro b u z;rw[aq (ao z hdc)];exact S3 b u (S2 b u z)
       · have:=k2.put (row.take j) (zV (R:=R.take i) (row:=row) (j:=j) (by omega));exact this
       · exact L1 BX (by omega)
     · rintro σ H2 ⟨v3,v4,kvs,rfl,S2,e2,k2,l2⟩;refine⟨_,_,_,kvs,rfl,S2,e2,⟨λs=>?_,k2.keys⟩,by omega⟩;rw[k2.val s,BJ,←take_snoc hrow]
   · rintro σ H1 ⟨v2,v3,v4,kvs,rfl,S1,e1,k1,l1⟩;rw[Le,lenQ,Mb] at k1;exact⟨_,rfl,q H1 dc kvs S1 hdc e1 k1⟩
end
def ma (k g p:V):List (Str×V):=[("kind",k),("grids",g),("picks",p)]
abbrev jy:List Str:=["kind","grids","picks"]
section
variable {a b c:V}
theorem xi:(ma a b c).lookup ("kind":Str)=some a:=bT
theorem u7:(ma a b c).lookup ("grids":Str)=some b:=by unfold ma;rw[bb (by decide +kernel)];exact bT
theorem uK:(ma a b c).lookup ("picks":Str)=some c:=by unfold ma;rw[bb (by decide +kernel),bb (by decide +kernel)];exact bT
theorem Co {f:Str}(h:¬f∈jy):(ma a b c).lookup f=none:=oo h
end
def dA (K:N4)(H:Hp)(a:Addr)(gs:List (N2)):Prop:=∃as:List Addr,aU K H a (as.map V.ref)/\Paired (bF K H) as gs
def dZ (K:N4)(CR:Addr)(H:Hp)(x:Addr)(kd:Tote.Kind)(gs:List (N2)):Prop :=
 ∃dx ga pa kvs,H x=some (.ins CR dx (ma (.str (st (cd (kindS kd)))) (.ref ga) (.ref pa)))/\dA K H ga gs/\ur kd gs/\H pa=some (.dT kvs)/\(kd=.any->pA kvs (pre (bz (gs.headD []))))
section
variable {K:N4}{H H':Hp}{CR a x:Addr}{kd:Tote.Kind}{gs:List (N2)}
theorem dA.same (h:dA K H a gs) (e:au H H'):dA K H' a gs:=by
 obtain⟨as,h1,h2⟩:=h;exact⟨as,e.seq h1,Paired.d8 h2 λ_ _ z=>z.same e⟩
theorem dA.jR {C dx:Addr}{fs:List (Str×V)}(h:dA K H a gs)(S:aP x H H')(hx:H x=some (.ins C dx fs)):dA K H' a gs:=by
 obtain⟨as,h1,h2⟩:=h;exact⟨as,S.seq hx h1,Paired.d8 h2 λ_ _ z=>aP.lists S hx z⟩
theorem dA.first (h:dA K H a gs)(ne:gs≠[]):∃(as:List Addr) (a0:Addr),aU K H a (as.map V.ref)/\nJ (as.map V.ref) 0=some (V.ref a0)/\bF K H a0 (gs.headD [])/\gs.headD []∈gs:=by
 obtain⟨as,h1,h2⟩:=h;cases h2 with
 |nil=>exact absurd rfl ne
 |@cons a0 g as gs h t=>exact⟨_,a0,h1,cw (j:=0) rfl,h,by simp⟩
theorem dZ.same (h:dZ K CR H x kd gs)(e:au H H'):dZ K CR H' x kd gs:=by
 obtain⟨dx,ga,pa,kvs,h1,h2,h3,h4,h5⟩:=h;exact⟨dx,ga,pa,kvs,e _ _ h1,h2.same e,h3,e _ _ h4,h5⟩
theorem dZ.jR {y C dy:Addr}{fs:List (Str×V)}(h:dZ K CR H x kd gs)(S:aP y H H')(hy:H y=some (.ins C dy fs))(hl:fs.length≠3):dZ K CR H' x kd gs:=by
 obtain⟨dx,ga,pa,kvs,h1,h2,h3,h4,h5⟩:=h;exact⟨dx,ga,pa,kvs,S _ _ h1 (dF h1 hy (Bv λz=>hl z.symm)),h2.jR S hy,h3,S _ _ h4 (dF h4 hy (by intro z;cases z)),h5⟩
end
theorem kind_any {kd:Tote.Kind}:decide (V.str (st (cd (kindS kd)))=V.str (Str.ofString "any"))=decide (kd=.any):=by
 rw[iA];cases kd <;> decide
theorem kind_ord {kd:Tote.Kind}:decide (V.str (st (cd (kindS kd)))=V.str (Str.ofString "order"))=decide (kd=.order):=by
 rw[iA];cases kd <;> decide
section
variable {P:Program}{w:World}{K:N4}{mg:N6}{base:Heap}
def j1 (K:N4) (CR:Addr):Sp:=λvs H Q _=>∃(x dx ga:Addr) (kd:Tote.Kind) (gs:List (N2)),vs=[.ref x,.str (st (cd (kindS kd))),.ref ga]/\H x=some (.ins CR dx [])/\dA K H ga gs/\ur kd gs/\∀H',aP x H H'->dZ K CR H' x kd gs->Q .cj H'
theorem Ci:aI ["self","kind","grids"] ["self","kind","grids"] (ax gI):=fs
theorem AX {CR:Addr}(T:CK K mg "Rows" jy CR){k:Nat}(FC:Fn P w K mg base bG k "count_starts" ["rows"] Fe)(FP:Fn P w K mg base bG k "picks_of" ["sets"] (r_ K)){f:Addr}{fd:FuncData}(F:dG K "__init__" "Rows.__init__" gI f fd):bc P w K mg base bG (k+1) f fd ["self","kind","grids"] (j1 K CR):=by
 refine F.ok Ci (λvs H Q E h=>?_) (λcdv A outer s H vs Q E hr h=>?_)
 · obtain⟨_,_,_,_,_,rfl,_⟩:=h;rfl
 · obtain⟨x,dx,ga,kd,gs,rfl,hx,hG,o,q⟩:=h;refine⟨_,af (cB (pv 0) (pv 1) rfl) (af (cB (pv 0) (pv 2) rfl) (ak (cB (pv 0) (A7 (aC ck (pv 1) bt (aM _)) (aV FC hr bf (aa (aV FP hr bf (aa (bq aQ (pv 2) aw (λ_ _=>rfl)) ah)) ah)) px) rfl))),?_⟩;refine⟨_,rfl,_,rfl,x,CR,dx,[],rfl,hx,T.cl,T.no _ (by simp),(by show 0 < 1000;decide),?_⟩;refine⟨_,rfl,_,rfl,x,CR,dx,_,rfl,ae,T.cl,T.no _ (by simp),(by show 1 < 1000;decide),?_⟩;rw[cI]
   repeat (first|rw[bS]|rw[bh (by decide +kernel)])
   have S1:aP x H (upd H x (.ins CR dx [("kind",.str (st (cd (kindS kd)))),("grids",.ref ga)])):=(aP.refl x H).upd;have hx1:(upd H x (.ins CR dx [("kind",.str (st (cd (kindS kd)))),("grids",.ref ga)])) x=some (.ins CR dx [("kind",.str (st (cd (kindS kd)))),("grids",.ref ga)]):=ae;generalize upd H x (.ins CR dx [("kind",.str (st (cd (kindS kd)))),("grids",.ref ga)])=H1 at S1 hx1;have hG1:=hG.jR S1 hx;have fin:∀(H2:Hp) (pa:Addr) (kvs:List (List Key×V)),au H1 H2->H2 pa=some (.dT kvs)->(kd=.any->pA kvs (pre (bz (gs.headD []))))->Q .cj (upd H2 x (.ins CR dx (ma (.str (st (cd (kindS kd)))) (.ref ga) (.ref pa)))):=λH2 pa kvs S2 hp hk=>by
    have SX:aP x H (upd H2 x (.ins CR dx (ma (.str (st (cd (kindS kd)))) (.ref ga) (.ref pa)))):=(S1.trans S2.x).upd;exact q _ SX ⟨dx,ga,pa,kvs,ae,hG.jR SX hx,o,by rw[aq (dF hp (S2 _ _ hx1) (by intro z;cases z))];exact hp,hk⟩
   have last:∀(H2:Hp) (pa:Addr) (kvs:List (List Key×V)),au H1 H2->H2 pa=some (.dT kvs)->(kd=.any->pA kvs (pre (bz (gs.headD []))))->Q .cj (upd H2 x (.ins CR dx (d_ "picks" (.ref pa) [("kind",.str (st (cd (kindS kd)))),("grids",.ref ga)]))):=λH2 pa kvs S2 hp hk=>by
    rw[bh (by decide +kernel),bh (by decide +kernel),bS];exact fin H2 pa kvs S2 hp hk
   refine (aL (b9 (ag rfl) aE)) _ ?_;rw[kind_any];refine gF (λh=>?_) (λh=>?_)
   · have h:=Ly h;obtain⟨as,a0,hA,h0,hL,hm⟩:=hG1.first o.ne
     have sg:=o.ok _ hm;have l3:=o.any h _ hm;generalize gs.headD []=g at hL sg l3 last;refine (a_ (ag rfl) aE hA h0) _ ⟨a0,g,rfl,hL,sg,l3,λH2 xp S2 hT2=>⟨xp,_,rfl,hT2,λr hm=>?_,?_,λH3 xd kvs S3 hxd e3 k3=>?_⟩⟩
     · rw[(j5 ((kb g r).mp hm).2).1];exact l3
     · have:=mV 3 g λs hs=>lH (sg.good s hs).1 (sg.good s hs).2;rw[Ma l3] at this;exact L1 this (by decide)
     · exact⟨_,rfl,x,CR,dx,_,rfl,S3 _ _ (S2 _ _ hx1),T.cl,T.no _ (by simp),(by show 2 < 1000;decide),last H3 xd kvs (S2.trans S3) e3 λ_=>k3⟩
   · have h:=LY (by simpa using h);intro d hd;exact⟨_,rfl,x,CR,dx,_,rfl,((au.refl H1).laid hd) _ _ hx1,T.cl,T.no _ (by simp),(by show 2 < 1000;decide),last _ d [] ((au.refl H1).laid hd) ae λz=>absurd z h⟩
def sY (K:N4)(CR:Addr):Sp:=λvs H Q _=>∃(x t:Addr) (kd:Tote.Kind) (gs:List (N2)) (s:N3),vs=[.ref x,.ref t]/\dZ K CR H x kd gs/\H t=some (.tup (nV s))/\(∀g∈gs,s.length<=g.length)/\∀H',au H H'->Q (.int (pre (rR kd gs) s:Nat)) H'
theorem jG:aI ["self","start","grid"] ["self","start"] (ax dQ):=fs
theorem B3 {CR:Addr}(N:GN mg)(T:CK K mg "Rows" jy CR){k:Nat}(FO:Fn P w K mg base bG k "count_orders" ["sets","start"] (iJ K sy))(FL:Fn P w K mg base bG k "count_legs" ["sets","start"] (iJ K kJ)){f:Addr}{fd:FuncData}(F:dG K "starting" "Rows.starting" dQ f fd):bc P w K mg base bG (k+1) f fd ["self","start"] (sY K CR):=by
 refine F.ok jG (λvs H Q E h=>?_) (λcdv A outer s H vs Q E hr h=>?_)
 · obtain⟨_,_,_,_,_,rfl,_⟩:=h;rfl
 · obtain⟨x,t,kd,gs,s,rfl,⟨dx,ga,pa,kvs,hx,hG,o,hp,hk⟩,hT,hl,q⟩:=h;have hu:=vG hr;refine⟨_,af (aS (aC ck (a7 (pv 0) rfl) bt (aM _)) (ak (az (vw hu (a7 (pv 0) rfl) (pv 1) aw ⟨rfl,rfl,rfl,rfl⟩))) aD)
    (af (aS (aC ck (a7 (pv 0) rfl) bt (aM _)) (ak (az (aH (xw rfl) (by rfl) N.sum (by decide +kernel) (aa (fw (te:=nE (iJ K sy) [] E0 (cU (cH 2) (cU (cH 1) eZ))) rfl jG.nd (bK (a7 (pv 0) rfl)) (bA (own:=[("grid",2)]) rfl) (λ_ _ _ _ _=>aK (i:=2) jG.nd rfl (Or.inl rfl)) (λ_ _ _ _ _=>cn) (λ_ _ _ _ _=>aV FO (by first|exact hr|exact hr.qC) bf (aa (pv 2) (aa (pv 1) ah)))) ah)))) aD)
    (ak (az (aH (xw rfl) (by rfl) N.sum (by decide +kernel) (aa (fw (te:=nE (iJ K kJ) [] E0 (cU (cH 2) (cU (cH 1) eZ))) rfl jG.nd (bK (a7 (pv 0) rfl)) (bA (own:=[("grid",2)]) rfl) (λ_ _ _ _ _=>aK (i:=2) jG.nd rfl (Or.inl rfl)) (λ_ _ _ _ _=>cn) (λ_ _ _ _ _=>aV FL (by first|exact hr|exact hr.qC) bf (aa (pv 2) (aa (pv 1) ah)))) ah))))),?_⟩
   have evK:∀{σ:L2.St},σ[0]?=some (some (V.ref x))->Ev (ux K (cH 0) "kind") σ H (.str (st (cd (kindS kd)))):=λz=>bo (ag z) hx T.cl (T.no _ (by simp)) xi;have evG:∀{σ:L2.St},σ[0]?=some (some (V.ref x))->Ev (ux K (cH 0) "grids") σ H (.ref ga):=λz=>bo (ag z) hx T.cl (T.no _ (by simp)) u7;have many:∀(r:N2->N3->Nat) (R:VK),(∀H',au H H'->R (.int (((gs.map λg=>r g s).sum:Nat))) H')->(F6 (E6 K (ux K (cH 0) "grids")) (gG 2) Bh (nE (iJ K r) [] E0 (cU (cH 2) (cU (cH 1) eZ))) [2]) [some (.ref x),some (.ref t),none] H λv H'=>Io K [v] H' R:=by
    intro r R hR;obtain⟨as,hA,hP⟩:=hG;have lenA:as.length=gs.length:=Paired.length hP;refine yI ?_;show ux _ _ _ _ _ _;refine evG rfl _ ⟨ga,rfl,⟨_,hA⟩,λD hD=>om (K:=K) (a:=ga) (xs:=as.map V.ref) (λi y _=>∃g,gs[i]?=some g/\y=.int (r g s:Nat)) (λi y H H' _ z=>z) hA hD (by rw[Le,lenA];have:=o.vR;omega) ?_ ?_⟩
    · rintro i v H' hi S _ R hR;obtain⟨ai,hai,rfl⟩:=jP hi;obtain⟨g,hg,hL⟩:=Paired.qK hP hai;have mg:=LH hg;exact⟨rfl,_,rfl,_,rfl,ai,t,g,s,rfl,hL.same S,bZ.of (S _ _ hT),o.ok g mg,hl g mg,λH4 S4=>hR _ _ S4 ⟨g,hg,rfl⟩⟩
    · rintro ys H' S e l f;have ey:ys=((gs.map λg=>r g s).map λn=>((n:Nat):Int)).map V.int:=by
       refine wY (by rw[l];simp[lenA]) λi y hy=>?_;obtain⟨g,hg,rfl⟩:=f i y hy;rw[Lj,Lj,Lj,hg];rfl
      subst ey;refine⟨D,_,rfl,aU.of e,?_⟩;rw[qg];exact hR H' S
   refine aX (aL (b9 (evK rfl) aE)) (λh=>?_) (λh=>?_)
   · rw[kind_any] at h;have h:=Ly h;have hk2:=hk h;subst h;show ux _ _ _ _ _ _;refine (bo (ag rfl) hx T.cl (T.no _ (by simp)) uK) _ ⟨pa,rfl,.inr ⟨kvs,.inl hp⟩,_,rfl,_,gf.t hp (k:=kL s) (by rw[Ec];exact hT),?_⟩;show Q ((cQ kvs (kL s)).getD (.int 0)) H;rw[hk2.get s];exact q H (au.refl H)
   rw[kind_any] at h;have na:=LY h;refine aX (aL (b9 (evK rfl) aE)) (λh=>?_) (λh=>?_)
   · rw[kind_ord] at h;have h:=Ly h;subst h;refine many sy _ λH' S=>?_;rw[zT o hl];exact q H' S
   rw[kind_ord] at h;have no:=LY h;refine many kJ _ λH' S=>?_;rw[AG no na o hl];exact q H' S
end
abbrev dN (s:N3):List PyData:=s.map λn=>.int (n:Nat)
theorem vh:∀s t:N3,PyData.eqvAll (dN s) (dN t)=(s==t)
 |[],[]=>by simp[PyData.eqvAll]
 |[],_::_=>by simp[PyData.eqvAll]
 |_::_,[]=>by simp[PyData.eqvAll]
 |x::s,y::t=>by
  have ih:=vh s t;have e:(((x:Nat):Int)==((y:Nat):Int))=(x==y):=by rw[LR,L5,L5];omega
  show (PyData.eqv (.int (x:Nat)) (.int (y:Nat))&&PyData.eqvAll (dN s) (dN t))=_;rw[ih];simp only[PyData.eqv];rw[e];rfl
theorem shaped_ints (s:N3):SeqAt.shaped (.list (dN s))=true:=by
 have h1:∀s:N3,PyData.canLayAll0 (dN s)=true:=λs=>by
  induction s with
  |nil=>simp[PyData.canLayAll0]
  |cons x s ih=>show (PyData.canLay0 (.int (x:Nat))&&PyData.canLayAll0 (dN s))=true;rw[ih];simp[PyData.canLay0]
 have h2:∀s:N3,PyData.depthAll (dN s)=0:=λs=>by
  induction s with
  |nil=>simp[PyData.depthAll]
  |cons x s ih=>show max (PyData.depth (.int (x:Nat))) (PyData.depthAll (dN s))=0;rw[ih];simp[PyData.depth]
 unfold SeqAt.shaped;rw[Ll,Lm];refine⟨?_,?_⟩
 · simp only[PyData.canLay0];exact h1 s
 · simp only[PyData.depth];rw[h2];decide
theorem yl {K:N4}{H:Hp}{c:Addr}{s:N3}(h:aU K H c (nV s)):Dp K H (.ref c) (.list (dN s)):=by
 refine .lst h ?_;clear h
 induction s with
 |nil=>exact .nil
 |cons x s ih=>exact .cons (.int _) ih
def RS (K:N4)(sd:Addr)(H:Hp)(c:Addr)(xs:List V):Prop:=∀H',aP sd H H'->aU K H' c xs
def RL (K:N4)(sd:Addr)(H:Hp)(b:Addr)(g:N2):Prop:=∃as:List Addr,RS K sd H b (as.map V.ref)/\Paired (λc s=>RS K sd H c (nV s)) as g
section
variable {K:N4}{sd b c:Addr}{H H':Hp}{xs:List V}{g:N2}
theorem RS.of (h:H c=some (.lst xs)) (n:c≠sd):RS K sd H c xs:=λ_ S=>aU.of (S _ _ h n)
theorem RS.old (h:aU K H c xs)(n:H sd=none)(S:au H H'):RS K sd H' c xs:=λ_ SX=>au.seq (λb u z=>SX b u (S b u z) (ao z n)) h
theorem RS.step (h:RS K sd H c xs)(S:aP sd H H'):RS K sd H' c xs:=λ_ T=>h _ (S.trans T)
theorem RL.step (h:RL K sd H b g)(S:aP sd H H'):RL K sd H' b g:=by
 obtain⟨as,h1,h2⟩:=h;exact⟨as,h1.step S,Paired.d8 h2 λ_ _ z=>z.step S⟩
theorem RL.lists (h:RL K sd H b g):bF K H b g:=by
 obtain⟨as,h1,h2⟩:=h;exact⟨as,h1 _ (aP.refl sd H),Paired.d8 h2 λ_ _ z=>z _ (aP.refl sd H)⟩
end
theorem gi {α β:Type}{F:α->β->Prop}:∀{l:List α} {m:List β} {l':List α} {m':List β},Paired F l m->Paired F l' m'->Paired F (l++l') (m++m')
 |_,_,_,_,.nil,h=>h
 |_,_,_,_,.cons h t,k=>.cons h (gi t k)
section
variable {P:Program}{w:World}{K:N4}{mg:N6}{base:Heap}
def qz (K:N4) (CR:Addr):Sp:=λvs H Q _=>∃(a:Addr) (kd:Tote.Kind) (ss:N2),vs=[.str (st (cd (kindS kd))),.ref a]/\bF K H a ss/\ur kd [ss]/\∀H' x,au H H'->dZ K CR H' x kd [ss]->Q (.ref x) H'
theorem FV:aI ["kind","sets"] ["kind","sets"] (ax j9):=fs
theorem made {CR:Addr}{H H1:Hp}{Q:VK}{ga:Addr}{kd:Tote.Kind}{gs:List (N2)}(S:au H H1)(hG:dA K H1 ga gs)(o:ur kd gs)(q:∀H' x,au H H'->dZ K CR H' x kd gs->Q (.ref x) H')(x dx:Addr)(hx:H1 x=none)(hdx:H1 dx=none)(nx:dx≠x) :
  j1 K CR [.ref x,.str (st (cd (kindS kd))),.ref ga] (upd (upd H1 dx (.own x)) x (.ins CR dx [])) (λv H2=>v=.cj/\Q (.ref x) H2) E0:=by
 have S1:au H1 (upd (upd H1 dx (.own x)) x (.ins CR dx [])):=((au.refl H1).laid hdx).laid hx;exact⟨x,dx,ga,kd,gs,rfl,ae,hG.same S1,o,λH' SX hR=>⟨rfl,q H' x (λb u z=>SX b u (S1 b u (S b u z)) (ao (S b u z) hx)) hR⟩⟩
theorem G5 {CR:Addr}(T:CK K mg "Rows" jy CR){k:Nat}(FR:xQ P w K mg base bG k CR ["self","kind","grids"] (j1 K CR)){f:Addr}{fd:FuncData}(F:dG K "rows_on" "rows_on" j9 f fd):bc P w K mg base bG (k+2) f fd ["kind","sets"] (qz K CR):=by
 refine F.ok FV (λvs H Q E h=>?_) (λcdv A outer s H vs Q E hr h=>?_)
 · obtain⟨_,_,_,rfl,_⟩:=h;rfl
 · obtain⟨a,kd,ss,rfl,hL,o,q⟩:=h;refine⟨_,ak (az (pz FR hr T.mg bf (aa (pv 0) (aa (bW (aa (pv 1) ah)) ah)))),?_⟩;refine⟨_,rfl,_,rfl,by show 1<=sizeLine;decide,λl hl=>?_⟩;have S1:au H (upd H l (.lst [V.ref a])):=(au.refl H).laid hl;exact λx dx hx hdx nx=>made S1 ⟨[a],aU.of ae,.cons (hL.same S1) .nil⟩ o q x dx hx hdx nx
def r8 (K:N4)(CR:Addr):Sp:=λvs H Q _=>∃(a:Addr) (k:Nat) (kd:Tote.Kind) (s:N3),vs=[.str (st (cd (kindS kd))),.int (k:Nat),.ref a]/\aU K H a (nV s)/\k<=6/\ur kd [List.replicate k s]/\∀H' x,au H H'->dZ K CR H' x kd [List.replicate k s]->Q (.ref x) H'
theorem tY:aI ["kind","size","numbers","place"] ["kind","size","numbers"] (ax iH):=fs
theorem ym {te:TE}{σ:L2.St}{H:Hp}{Q:VK}(h:te σ H λx H1=>1<=sizeLine/\∀p,H1 p=none->Q (.ref p) (upd H1 p (.lst [x]))):IJ (cU te eZ) σ H Q:=h
theorem GR {te:TE}{n:Nat}{D:Ends}{σ:L2.St}{H:Hp}(h:te σ H λv H'=>D.nx (σ.set n (some v)) H'):Bt te (gG n) D σ H:=h
theorem xT {k n m:Nat}{vs:N3}{a:Addr}{σ:L2.St}{H:Hp}{Q:VK}{ta:TA}{g:TG}(hk:k<=6)(ha:∀R:List V->Hp->Prop,R [.int (k:Nat)] H->ta σ H R)(hg:g=gG n)(hvs:vs=[n])(hv:∀i:Int,((wipe σ [n]).set n (some (.int i)))[m]?=some (some (.ref a))/\wipe ((wipe σ [n]).set n (some (.int i))) [n]=wipe σ [n])
  (q:∀D H',H D=none->au H H'->H' D=some (.lst (List.replicate k (V.ref a)))->Q (.ref D) H'):(F6 (CJ ta) g Bh (cH m) vs) σ H Q:=by
 subst hg hvs;refine yI (ha _ ⟨_,rfl,by omega,by omega,λD hD=>?_⟩);rw[LZ];refine mD (lo:=0) (n:=k) (λi H'=>au H H'/\H' D=some (.lst (List.replicate i (V.ref a)))) ⟨(au.refl H).laid hD,ae⟩ ?_ ?_
 · rintro i H' hi ⟨k1,k2⟩;refine⟨(hv _).2,_,(hv _).1,_,k2,by rw[LN,LG];omega,λb u z=>?_,?_⟩
   · rw[aq (ao z hD)];exact k1 b u z
   · rw[ae,List.replicate_succ']
 · rintro H' ⟨k1,k2⟩;exact q D H' hD k1 k2
theorem qU {H:Hp}{D a:Addr}{k:Nat}{s:N3}(h:H D=some (.lst (List.replicate k (V.ref a))))(hs:aU K H a (nV s)):bF K H D (List.replicate k s):=⟨List.replicate k a,aU.of (by rw[h,List.map_replicate]),Paired.rep (F:=hU K H) hs k⟩
theorem Ek {CR:Addr}(N:GN mg)(T:CK K mg "Rows" jy CR){k:Nat}(FR:xQ P w K mg base bG k CR ["self","kind","grids"] (j1 K CR)){f:Addr}{fd:FuncData}(F:dG K "rows_box" "rows_box" iH f fd):bc P w K mg base bG (k+2) f fd ["kind","size","numbers"] (r8 K CR):=by
 refine F.ok tY (λvs H Q E h=>?_) (λcdv A outer s H vs Q E hr h=>?_)
 · obtain⟨_,_,_,_,rfl,_⟩:=h;rfl
 · obtain⟨a,n,kd,ss,rfl,hS,h6,o,q⟩:=h;refine⟨_,ak (az (pz FR hr T.mg bf (aa (pv 0) (aa (bW (aa (fw (te:=cH 2) rfl tY.nd (gd rfl N.range (aa (pv 1) ah)) (bA (own:=[("place",3)]) rfl) (λ_ _ _ _ _=>aK (i:=3) tY.nd rfl (Or.inl rfl)) (λ_ _ _ _ _=>cn) (λ_ _ _ _ _=>pv 2)) ah)) ah)))),?_⟩;refine⟨_,rfl,ym (xT h6 (λR r=>⟨_,rfl,r⟩) rfl rfl (λi=>⟨rfl,rfl⟩) λD H1 hD S1 e1=>⟨by show 1<=sizeLine;decide,λl hl=>?_⟩)⟩;have S2:au H1 (upd H1 l (.lst [V.ref D])):=(au.refl H1).laid hl;exact λx dx hx hdx nx=>made (S1.trans S2) ⟨[D],aU.of ae,.cons ((qU e1 (S1.seq hS)).same S2) .nil⟩ o q x dx hx hdx nx
end
section
variable {P:Program}{w:World}{K:N4}{mg:N6}{base:Heap}
def KN (K:N4) (H:Hp) (a:Addr) (gs:List (N2)):Prop:=∃bs:List Addr,H a=some (.lst (bs.map V.ref))/\Paired (bF K H) bs gs
def xP (K:N4):Sp:=λvs H Q _=>∃(a b:Addr) (k:Nat) (A B:N3),vs=[.int (k:Nat),.ref a,.ref b]/\aU K H a (nV A)/\aU K H b (nV B)/\k<=4/\A.length<=3/\∀H' x,au H H'->KN K H' x (bE B A [List.replicate k B])->Q (.ref x) H'
theorem f7:aI ["size","bankers","others","grids","banker","seated","grid","place"] ["size","bankers","others"] (ax gp):=fs
theorem DA (N:GN mg){f:Addr}{fd:FuncData}(F:dG K "seatings" "seatings" gp f fd):bc P w K mg base bG 1 f fd ["size","bankers","others"] (xP K):=by
 refine F.ok f7 (λvs H Q E h=>?_) (λcdv A outer s H vs Q E hr h=>?_)
 · obtain⟨_,_,_,_,_,rfl,_⟩:=h;rfl
 · obtain⟨a,b,k,Bk,B,rfl,hA,hB,h4,h3,q⟩:=h;have hu:(A.deeper (envOfC "seatings" (ax gp) s.heap.objs.size f cdv)).units+64 < cLine:=by have:=hr.un;omega
   refine⟨_,af (aN (i:=3) f7.nd rfl (Or.inl rfl) (bW (aa (fw (te:=cH 2) rfl f7.nd (gd rfl N.range (aa (pv 0) ah)) (bA (own:=[("place",7)]) rfl) (λ_ _ _ _ _=>aK (i:=7) f7.nd rfl (Or.inl rfl)) (λ_ _ _ _ _=>cn) (λ_ _ _ _ _=>pv 2)) ah)))
    (af (dg Mj rfl (bK (pv 1)) (aK (i:=4) f7.nd rfl (Or.inl rfl))
     (af (aN (i:=5) f7.nd rfl (Or.inl rfl) (bW ah))
     (af (dg Mj rfl (bK (pv 3)) (aK (i:=6) f7.nd rfl (Or.inl rfl))
      (ak (dg Mj rfl (gd rfl N.range (aa (pv 0) ah)) (aK (i:=7) f7.nd rfl (Or.inl rfl))
       (ak (aS (aC (Gr hu) (bq aQ (pv 6) (pv 7) (λ_ _=>rfl)) (pv 2) (aM _))
        (ak (dP (p_ PySem.F.plainAttrs_list PySem.F.slot_list_append PySem.F.type_list_append ij (pv 5) (aa (bH xu (bH xu (cJ fk (pv 6) ft (cT (pv 7))) (bW (aa (bW (aa (pv 4) ah)) ah))) (cJ fk (pv 6) (cT (bH eG (pv 7) aw)) ft)) ah)))) aD)))))
     (ak (aN (i:=3) f7.nd rfl (Or.inl rfl) (pv 5))))))
    (ak (az (pv 3)))),?_⟩
   refine HJ (GR (ym (xT (by omega) (λR r=>⟨_,rfl,r⟩) rfl rfl (λi=>⟨rfl,rfl⟩) λD0 H0 hD0 S0 e0=>⟨by show 1<=sizeLine;decide,λg0 hg0=>?_⟩)));have S1:au H0 (upd H0 g0 (.lst [V.ref D0])):=(au.refl H0).laid hg0;have gk:∀i,∀g∈bE B (Bk.take i) [List.replicate k B],g.length=k:=λi=>yd λg hg=>by rw[Ls.mp hg,LN]
   have gn:∀i,(bE B (Bk.take i) [List.replicate k B]).length<=64:=λi=>by
    have z:=mY (B:=B) (A:=Bk.take i) (k:=k) (gs:=[List.replicate k B]) (λg hg=>by rw[Ls.mp hg,LN]);have pw:k ^ (Bk.take i).length<=4 ^ 3:=L1 (Nat.pow_le_pow_left h4 _) (Ng (by decide) (by rw[LB];omega));rw[Ms,Nat.one_mul] at z;omega
   refine⟨_,rfl,a,rfl,⟨_,(S0.trans S1).seq hA⟩,cZ (K:=K) (a:=a) (xs:=nV Bk) (λi σ H'=>∃(gr:Addr) (v4 v5 v6 v7:Option V),σ=[some (.int (k:Nat)),some (.ref a),some (.ref b),some (.ref gr),v4,v5,v6,v7]/\au H H'/\KN K H' gr (bE B (Bk.take i) [List.replicate k B]))
    ⟨g0,none,none,none,none,rfl,S0.trans S1,[D0],ae,.cons ((qU e0 (S0.seq hB)).same S1) .nil⟩ (λi σ H' _ ⟨_,_,_,_,_,_,S,_⟩=>S.seq hA) ?_ ?_⟩
   · rintro i x σ H1 hi ⟨gr,v4,v5,v6,v7,rfl,SH,bs,eg,hP⟩;obtain⟨bk,hbk,rfl⟩:=yW hi;have k1:=gk i;have n1:=gn i;have en:bE B (Bk.take (i+1)) [List.replicate k B]=(bE B (Bk.take i) [List.replicate k B]).flatMap (jo bk B):=by rw[take_snoc hbk,xO]
     generalize bE B (Bk.take i) [List.replicate k B]=gs at hP k1 n1 en;have lenB:bs.length=gs.length:=Paired.length hP;refine⟨LJ _,λsd hsd=>?_⟩;have S2:au H1 (upd H1 sd (.lst [])):=(au.refl H1).laid hsd;refine⟨_,rfl,gr,rfl,⟨_,S2.seq (aU.of eg)⟩,cZ (K:=K) (a:=gr) (xs:=bs.map V.ref) (λj σ H'=>∃(v6 v7:Option V) (cs:List Addr),σ=[some (.int (k:Nat)),some (.ref a),some (.ref b),some (.ref gr),some (.int (bk:Nat)),some (.ref sd),v6,v7]/\au H1 H'/\H' sd=some (.lst (cs.map V.ref))/\Paired (RL K sd H') cs ((gs.take j).flatMap (jo bk B)))
      ⟨v6,v7,[],rfl,S2,ae,.nil⟩ (λj σ H' _ ⟨_,_,_,_,S,_⟩=>aU.of (S _ _ eg)) ?_ ?_⟩
     · rintro j x σ H2 hj ⟨v6,v7,cs,rfl,S3,e3,hC⟩;obtain⟨bj,hbj,rfl⟩:=jP hj;obtain⟨g,hg,as,hAs,hPs⟩:=Paired.qK hP hbj;have hjl:j < gs.length:=(Lr.mp hg).1;have gl:=k1 g (LH hg);have lenA:as.length=g.length:=Paired.length hPs;have enj:(gs.take (j+1)).flatMap (jo bk B)=(gs.take j).flatMap (jo bk B)++kO bk B g k:=by
        rw[take_snoc hg,List.flatMap_append,←gl,rK];simp
       have ln:((gs.take j).flatMap (jo bk B)).length<=256:=by
        have z:=pK (f:=jo bk B) (c:=4) (l:=gs.take j) λg' hg'=>L1 (sv g') (by rw[k1 g' (MV hg')];exact h4);rw[LB] at z;have:min j gs.length<=64:=by omega
        omega
       generalize (gs.take j).flatMap (jo bk B)=had at hC enj ln;refine qt (tD (ag rfl) (by omega) (by omega) ?_);rw[LZ];refine mT (lo:=0) (n:=k) (λp σ H'=>∃(v7:Option V) (cs:List Addr),σ=[some (.int (k:Nat)),some (.ref a),some (.ref b),some (.ref gr),some (.int (bk:Nat)),some (.ref sd),some (.ref bj),v7]/\au H1 H'/\H' sd=some (.lst (cs.map V.ref))/\Paired (RL K sd H') cs (had++kO bk B g p))
        ⟨v7,cs,rfl,S3,e3,by simpa [kO] using hC⟩ ?_ ?_
       · rintro p σ H3 hp ⟨v7,cs,rfl,S4,e4,hC⟩;rw[Int.zero_add];have hpg:p < g.length:=by omega
         have hpa:p < as.length:=by omega
         have ha:as[p]?=some as[p]:=Lo hpa;obtain⟨sp,hsp,hI⟩:=Paired.qK hPs ha;have egd:g.getD p []=sp:=by rw[LX,hsp];rfl
         have eS:=wA bk B g p;rw[egd] at eS;have lc:cs.length<=300:=by
          have z:=Paired.length hC;rw[LA] at z;have:=zF (a:=bk) (B:=B) (g:=g) (j:=p);omega
         refine (a_ (ag rfl) (ag rfl) (S4.seq hAs) (cw (by rw[Lj,ha];rfl))) _ ⟨_,rfl,_,_,yl (S4.seq hI),yl ((SH.trans S4).seq hB),shaped_ints sp,shaped_ints B,_,rfl,?_⟩;have ee:PyData.eqv (.list (dN sp)) (.list (dN B))=(sp==B):=by simp only[PyData.eqv];exact vh sp B
         rw[ee];refine gF (λh=>?_) (λh=>?_)
         · rw[Lg h] at eS;refine⟨_,rfl,.inl ⟨rfl,_,aU.of e4⟩,_,rfl,_,rfl,_,rfl,bj,_,rfl,S4.seq hAs,λq1 hq1=>?_⟩;rw[oG];refine⟨_,rfl,by show 1<=sizeLine;decide,λq2 hq2=>⟨by show 1<=sizeLine;decide,λq3 hq3=>?_⟩⟩;have T1:au H3 (upd H3 q1 (.lst ((as.map V.ref).take p))):=(au.refl H3).laid hq1;have f1:(upd H3 q1 (.lst ((as.map V.ref).take p))) q1=some (.lst ((as.map V.ref).take p)):=ae;generalize upd H3 q1 (.lst ((as.map V.ref).take p))=h1 at T1 f1 hq2 hq3 ⊢;have T2:au h1 (upd h1 q2 (.lst [V.int (bk:Nat)])):=(au.refl h1).laid hq2;have f2:(upd h1 q2 (.lst [V.int (bk:Nat)])) q2=some (.lst [V.int (bk:Nat)]):=ae;generalize upd h1 q2 (.lst [V.int (bk:Nat)])=h2 at T2 f2 hq3 ⊢;have T3:au h2 (upd h2 q3 (.lst [V.ref q2])):=(au.refl h2).laid hq3;have f3:(upd h2 q3 (.lst [V.ref q2])) q3=some (.lst [V.ref q2]):=ae;generalize upd h2 q3 (.lst [V.ref q2])=h3 at T3 f3 ⊢;refine⟨q1,q3,_,_,rfl,rfl,T3 _ _ (T2 _ _ f1),f3,by rw[LB,Le,LG];show _+1<=_;omega,λq4 hq4=>?_⟩;have T4:au h3 (upd h3 q4 (.lst ((as.map V.ref).take p++[V.ref q2]))):=(au.refl h3).laid hq4;have f4:(upd h3 q4 (.lst ((as.map V.ref).take p++[V.ref q2]))) q4=some (.lst ((as.map V.ref).take p++[V.ref q2])):=ae;generalize upd h3 q4 (.lst ((as.map V.ref).take p++[V.ref q2]))=h4' at T4 f4 ⊢;have T:au H3 h4':=((T1.trans T2).trans T3).trans T4;refine⟨_,rfl,(jJ (ag rfl) aE) _ ⟨_,rfl,bj,_,rfl,(S4.trans T).seq hAs,λq5 hq5=>?_⟩⟩;rw[show ((p:Nat):Int)+1=((p+1:Nat):Int) by omega,qi];have T5:au h4' (upd h4' q5 (.lst ((as.map V.ref).drop (p+1)))):=(au.refl h4').laid hq5;have f5:(upd h4' q5 (.lst ((as.map V.ref).drop (p+1)))) q5=some (.lst ((as.map V.ref).drop (p+1))):=ae;generalize upd h4' q5 (.lst ((as.map V.ref).drop (p+1)))=h5 at T5 f5 ⊢;refine⟨q4,q5,_,_,rfl,rfl,T5 _ _ f4,f5,by rw[LA,LB,L7,Le,LG];show _+1+_<=_;omega,λq6 hq6=>?_⟩;have T6:au h5 (upd h5 q6 (.lst ((as.map V.ref).take p++[V.ref q2]++(as.map V.ref).drop (p+1)))):=(au.refl h5).laid hq6;have f6:(upd h5 q6 (.lst ((as.map V.ref).take p++[V.ref q2]++(as.map V.ref).drop (p+1)))) q6=some (.lst ((as.map V.ref).take p++[V.ref q2]++(as.map V.ref).drop (p+1))):=ae;have nq6:q6≠sd:=(ao (T5 _ _ (T _ _ e4)) hq6).symm;have nq2:q2≠sd:=(ao (T1 _ _ e4) hq2).symm;generalize upd h5 q6 (.lst ((as.map V.ref).take p++[V.ref q2]++(as.map V.ref).drop (p+1)))=h6 at T6 f6 ⊢;have TT:au H3 h6:=(T.trans T5).trans T6;have f2':h6 q2=some (.lst [V.int (bk:Nat)]):=T6 _ _ (T5 _ _ (T4 _ _ (T3 _ _ f2)));refine⟨sd,_,_,rfl,rfl,TT _ _ e4,by rw[Le,LG];omega,some (.int (p:Nat)),cs++[q6],rfl,?_,by rw[ae,Lx];rfl,?_⟩
           · intro c u z;rw[aq (ao z hsd)];exact TT c u (S4 c u z)
           · have SX:aP sd H3 (upd h6 sd (.lst (cs.map V.ref++[V.ref q6]))):=(TT.x).upd;have SX6:aP sd h6 (upd h6 sd (.lst (cs.map V.ref++[V.ref q6]))):=(aP.refl sd h6).upd;have S6:au H1 h6:=S4.trans TT;rw[eS,←MH];refine gi (Paired.d8 hC λ_ _ z=>z.step SX) (.cons ⟨as.take p++[q2]++as.drop (p+1),?_,?_⟩ .nil)
             · refine RS.step (RS.of ?_ nq6) SX6;rw[f6,Lx,Lx,List.map_take,NL];rfl
             · have old:Paired (λc s=>RS K sd (upd h6 sd (.lst (cs.map V.ref++[V.ref q6]))) c (nV s)) as g:=Paired.d8 hPs λc s z=>RS.step (RS.old z hsd S6) SX6;exact gi (gi (Paired.tk p old) (.cons (RS.step (RS.of f2' nq2) SX6) .nil)) (Paired.dp (p+1) old)
         · rw[Lf h,Mg] at eS;exact⟨_,cs,rfl,S4,e4,by rw[eS];exact hC⟩
       · rintro σ H3 ⟨v7,cs,rfl,S4,e4,hC⟩;exact⟨_,_,cs,rfl,S4,e4,by rw[enj];exact hC⟩
     · rintro σ H2 ⟨v6,v7,cs,rfl,S3,e3,hC⟩;rw[Le,lenB,Mb,←en] at hC;exact⟨_,rfl,sd,_,_,_,_,rfl,SH.trans S3,cs,e3,Paired.d8 hC λ_ _ z=>z.lists⟩
   · rintro σ H1 ⟨gr,v4,v5,v6,v7,rfl,SH,hG⟩;rw[aR,Mb] at hG;exact⟨_,rfl,q H1 gr SH hG⟩
end
theorem tO {sp:Sp}{dvs:List V}{E:XK}{te:TE}{t:TA}{D:Ends}{σ:L2.St}{H:Hp}{v:V}(h:Ev te σ H v)(q:t σ H λxs H2=>sp ((v::xs)++dvs) H2 D.rt E):Dz (nE sp dvs E (cU te t)) D σ H:=h _ q
section
variable {P:Program}{w:World}{K:N4}{mg:N6}{base:Heap}
abbrev C2 (kd:Tote.Kind) (k:Nat) (A B:N3):List (N2):=if kd=.any then (bE B A [List.replicate k B]).take 1 else bE B A [List.replicate k B]
def r9 (K:N4)(CR:Addr):Sp:=λvs H Q _=>∃(a b:Addr) (k:Nat) (kd:Tote.Kind) (A B:N3),vs=[.str (st (cd (kindS kd))),.int (k:Nat),.ref a,.ref b]/\aU K H a (nV A)/\aU K H b (nV B)/\k<=4/\A.length<=3/\ur kd (C2 kd k A B)/\∀H' x,au H H'->dZ K CR H' x kd (C2 kd k A B)->Q (.ref x) H'
theorem yn:aI ["kind","size","bankers","others","grids"] ["kind","size","bankers","others"] (ax iZ):=fs
theorem Ee {CR:Addr}(T:CK K mg "Rows" jy CR){k:Nat}(FS:Fn P w K mg base bG (k+1) "seatings" ["size","bankers","others"] (xP K))(FR:xQ P w K mg base bG k CR ["self","kind","grids"] (j1 K CR)){f:Addr}{fd:FuncData}(F:dG K "rows_key" "rows_key" iZ f fd):bc P w K mg base bG (k+2) f fd ["kind","size","bankers","others"] (r9 K CR):=by
 refine F.ok yn (λvs H Q E h=>?_) (λcdv A outer s H vs Q E hr h=>?_)
 · obtain⟨_,_,_,_,_,_,rfl,_⟩:=h;rfl
 · obtain⟨a,b,n,kd,Bk,B,rfl,hA,hB,h4,h3,o,q⟩:=h;refine⟨_,af (aN (i:=4) yn.nd rfl (Or.inl rfl) (aV FS hr bf (aa (pv 1) (aa (pv 2) (aa (pv 3) ah)))))
    (af (aS (aC ck (pv 0) bt (aM _)) (ak (az (pz FR hr T.mg bf (aa (pv 0) (aa (cJ fk (pv 4) ft (cT aw)) ah))))) aD)
    (ak (az (pz FR hr T.mg bf (aa (pv 0) (aa (pv 4) ah)))))),?_⟩
   refine⟨_,rfl,_,rfl,_,rfl,a,b,n,Bk,B,rfl,hA,hB,h4,h3,λH1 x S1 ⟨bs,e1,hP⟩=>?_⟩;refine aX (aL (b9 (ag rfl) aE)) (λh=>?_) (λh=>?_)
   · rw[kind_any] at h;have h:=Ly h;unfold C2 at o q;rw[Lg h] at o q;refine⟨_,rfl,_,rfl,_,rfl,x,_,rfl,aU.of e1,λl hl=>?_⟩;have ec:fA (bs.map V.ref) none (some 1)=(bs.take 1).map V.ref:=by rw[show (1:Int)=((1:Nat):Int) from rfl,oG,List.map_take]
     rw[ec];have S2:au H1 (upd H1 l (.lst ((bs.take 1).map V.ref))):=(au.refl H1).laid hl;exact λy dy hy hdy ny=>made (S1.trans S2) ⟨bs.take 1,aU.of ae,Paired.d8 (Paired.tk 1 hP) λ_ _ z=>z.same S2⟩ o q y dy hy hdy ny
   · rw[kind_any] at h;have h:=LY h;unfold C2 at o q;rw[Lf h] at o q;refine⟨_,rfl,_,rfl,?_⟩;exact λy dy hy hdy ny=>made S1 ⟨bs,aU.of e1,hP⟩ o q y dy hy hdy ny
def yE (K:N4)(CP CR:Addr):Sp:=λvs H Q _=>∃(pa sa:Addr) (p:aO) (how:Nat) (sets:N2),vs=[.ref pa,.int (how:Nat),.ref sa]/\de K CP H pa p/\bF K H sa sets/\uq p how sets/\∀H' x,au H H'->dZ K CR H' x p.kind (jO p.kind (cf how) p.fields.length sets)->Q (.ref x) H'
theorem BM:aI ["pool","how","sets","size"] ["pool","how","sets"] (ax jU):=fs
theorem GI {CP CR aW:Addr}(G:GW mg)(B:GB K mg aW)(TP:CK K mg "Pool" gZ CP){k:Nat}(FO:Fn P w K mg base bG k "rows_on" ["kind","sets"] (qz K CR))(FB:Fn P w K mg base bG k "rows_box" ["kind","size","numbers"] (r8 K CR))(FK:Fn P w K mg base bG k "rows_key" ["kind","size","bankers","others"] (r9 K CR))
  {f:Addr}{fd:FuncData}(F:dG K "rows_of" "rows_of" jU f fd):bc P w K mg base bG (k+1) f fd ["pool","how","sets"] (yE K CP CR):=by
 refine F.ok BM (λvs H Q E h=>?_) (λcdv A outer s H vs Q E hr h=>?_)
 · obtain⟨_,_,_,_,_,rfl,_⟩:=h;rfl
 · obtain⟨pa,sa,p,how,sets,rfl,⟨dp,fa,hpa,⟨fas,hFa,hFp⟩⟩,hSa,m,q⟩:=h;refine⟨_,af (aS (aC ck (pv 1) (bg B.on) (aM _)) (ak (az (aV FO hr bf (aa (a7 (pv 0) rfl) (aa (pv 2) ah))))) aD)
    (af (aN (i:=3) BM.nd rfl (Or.inl rfl) (aH aA (by rfl) G.len PySem.boot_len (aa (a7 (pv 0) rfl) ah)))
    (af (aS (aC ck (pv 1) (bg B.box) (aM _)) (ak (az (aV FB hr bf (aa (a7 (pv 0) rfl) (aa (pv 3) (aa (bq aQ (pv 2) aw (λ_ _=>rfl)) ah)))))) aD)
    (ak (az (aV FK hr bf (aa (a7 (pv 0) rfl) (aa (pv 3) (aa (bq aQ (pv 2) aw (λ_ _=>rfl)) (aa (bq aQ (pv 2) aw (λ_ _=>rfl)) ah))))))))),?_⟩
   have lenF:fas.length=p.fields.length:=Paired.length hFp;have o:=m.IL;obtain⟨_,_,mb,mk⟩:=m.all;refine aX (aL (b9 (ag rfl) aE)) (λh=>?_) (λh=>?_)
   · rw[a9] at h;have h:how=0:=by have:=MI h;omega
     rw[uN.mpr h] at q o;exact tO (bo (ag rfl) hpa TP.cl (TP.no _ (by simp)) jc) ⟨_,rfl,sa,p.kind,sets,rfl,hSa,o,q⟩
   rw[a9] at h;have h0:how≠0:=λz=>by rw[z] at h;cases h
   obtain⟨as,hA,hP⟩:=hSa;refine cE (aZ (bo (ag rfl) hpa TP.cl (TP.no _ (by simp)) mE) (.inl hFa)) ?_;rw[Le,lenF];refine aX (aL (b9 (ag rfl) aE)) (λh=>?_) (λh=>?_)
   · rw[a9] at h;have h:how=1:=by have:=MI h;omega
     obtain⟨t,e,h2⟩:=mb h;rw[BO.mpr h] at q o;rw[e] at hP q o;cases hP with
     |cons hI hn =>
      cases hn;rename_i a0;exact tO (bo (ag rfl) hpa TP.cl (TP.no _ (by simp)) jc) ⟨_,rfl,(a_ (ag rfl) aE hA (v:=.ref a0) rfl) _ ⟨a0,p.fields.length,p.kind,t,rfl,hI,m.ok.six,o,q⟩⟩
   rw[a9] at h;have h1:how≠1:=λz=>by rw[z] at h;cases h
   obtain⟨t,u,e,h2,h3,h4⟩:=mk h0 h1;have k4:=m.k4 h0;rw[Bf.mpr ⟨h0,h1⟩] at q o;rw[e] at hP q o;cases hP with
   |cons hI hn =>
    cases hn with
    |cons hJ hn =>
     cases hn;rename_i a0 a1;exact tO (bo (ag rfl) hpa TP.cl (TP.no _ (by simp)) jc) ⟨_,rfl,(a_ (ag rfl) aE hA (v:=.ref a0) rfl) _ ((a_ (ag rfl) aE hA (v:=.ref a1) rfl) _ ⟨a0,a1,p.fields.length,p.kind,t,u,rfl,hI,hJ,k4,by omega,o,q⟩)⟩
def vZ (K:N4)(CB CR:Addr):Sp:=λvs H Q _=>∃(x dx r:Addr) (a b c d e:V) (kd:Tote.Kind) (gs:List (N2)),vs=[.ref x,a,b,c,d,e,.ref r]/\H x=some (.ins CB dx [])/\dZ K CR H r kd gs/\∀H',aP x H H'->H' x=some (.ins CB dx (uJ a b c d e (.ref r) (.int ((rR kd gs).length:Nat))))->Q .cj H'
theorem DT:aI ["self","pool","pool_number","how","stake","sets","rows"] ["self","pool","pool_number","how","stake","sets","rows"] (ax iY):=fs
theorem EC {CB CR:Addr}(T:CK K mg "Bet" rF CB)(TR:CK K mg "Rows" jy CR){k:Nat}(FS:pP P w K mg base bG k CR "starting" ["self","start"] (sY K CR)){f:Addr}{fd:FuncData}(F:dG K "__init__" "Bet.__init__" iY f fd):bc P w K mg base bG (k+1) f fd ["self","pool","pool_number","how","stake","sets","rows"] (vZ K CB CR):=by
 refine F.ok DT (λvs H Q E h=>?_) (λcdv A outer s H vs Q E hr h=>?_)
 · obtain⟨_,_,_,_,_,_,_,_,_,_,rfl,_⟩:=h;rfl
 · obtain⟨x,dx,r,a,b,c,d,e,kd,gs,rfl,hx,hR,q⟩:=h;refine⟨_,af (cB (pv 0) (pv 1) rfl) (af (cB (pv 0) (pv 2) rfl) (af (cB (pv 0) (pv 3) rfl) (af (cB (pv 0) (pv 4) rfl) (af (cB (pv 0) (pv 5) rfl) (af (cB (pv 0) (pv 6) rfl) (ak (cB (pv 0) (kX FS TR.cl (pv 6) hr bf (aa (dm ah) ah)) rfl))))))),?_⟩;refine⟨_,rfl,_,rfl,x,CB,dx,[],rfl,hx,T.cl,T.no _ (by simp),(by show 0 < 1000;decide),?_⟩;refine⟨_,rfl,_,rfl,x,CB,dx,_,rfl,ae,T.cl,T.no _ (by simp),(by show 1 < 1000;decide),?_⟩;refine⟨_,rfl,_,rfl,x,CB,dx,_,rfl,ae,T.cl,T.no _ (by simp),(by repeat (first|rw[bS]|rw[bh (by decide +kernel)]);show 2 < 1000;decide),?_⟩;refine⟨_,rfl,_,rfl,x,CB,dx,_,rfl,ae,T.cl,T.no _ (by simp),(by repeat (first|rw[bS]|rw[bh (by decide +kernel)]);show 3 < 1000;decide),?_⟩;refine⟨_,rfl,_,rfl,x,CB,dx,_,rfl,ae,T.cl,T.no _ (by simp),(by repeat (first|rw[bS]|rw[bh (by decide +kernel)]);show 4 < 1000;decide),?_⟩;refine⟨_,rfl,_,rfl,x,CB,dx,_,rfl,ae,T.cl,T.no _ (by simp),(by repeat (first|rw[bS]|rw[bh (by decide +kernel)]);show 5 < 1000;decide),?_⟩;rw[cI,cI,cI,cI,cI]
   repeat (first|rw[bS]|rw[bh (by decide +kernel)])
   have S1:aP x H (upd H x (.ins CB dx [("pool",a),("pool_number",b),("how",c),("stake",d),("sets",e),("rows",.ref r)])):=(aP.refl x H).upd;have hx1:(upd H x (.ins CB dx [("pool",a),("pool_number",b),("how",c),("stake",d),("sets",e),("rows",.ref r)])) x=some (.ins CB dx [("pool",a),("pool_number",b),("how",c),("stake",d),("sets",e),("rows",.ref r)]):=ae;generalize upd H x (.ins CB dx [("pool",a),("pool_number",b),("how",c),("stake",d),("sets",e),("rows",.ref r)])=H1 at S1 hx1;have hR1:=hR.jR S1 hx (by decide);obtain⟨dr,_,_,_,hr1,_⟩:=id hR1;refine⟨_,rfl,r,dr,_,rfl,hr1,Co (by decide +kernel),LJ _,λt ht=>?_⟩;have S2:au H1 (upd H1 t (.tup [])):=(au.refl H1).laid ht;show eZ _ _ _;unfold eZ;dsimp only [Mg];refine⟨r,t,kd,gs,[],rfl,hR1.same S2,ae,λg _=>LJ _,λH2 S3=>?_⟩;rw[lG];refine⟨_,rfl,x,CB,dx,_,rfl,S3 _ _ (S2 _ _ hx1),T.cl,T.no _ (by simp),(by show 6 < 1000;decide),?_⟩;rw[bh (by decide +kernel),bh (by decide +kernel),bh (by decide +kernel),bh (by decide +kernel),bh (by decide +kernel),bh (by decide +kernel),bS];exact q _ ((S1.trans (S2.trans S3).x).upd) ae
end
def jS (K:N4)(CB CP CR:Addr)(H:Hp)(x:Addr)(p:aO)(b:bP):Prop:=∃dx pa sa ra,H x=some (.ins CB dx (uJ (.ref pa) (.int (b.pool:Nat)) (.int (b.how:Nat)) (.int (b.stake:Nat)) (.ref sa) (.ref ra) (.int (countM p.kind (cf b.how) p.fields.length b.sets:Nat))))/\de K CP H pa p/\lB H sa b.sets/\dZ K CR H ra p.kind (jO p.kind (cf b.how) p.fields.length b.sets)/\b.stake<=1000000/\uq p b.how b.sets
section
variable {a b c d e r m:V}
theorem xI:(uJ a b c d e r m).lookup ("stake":Str)=some d:=by unfold uJ;rw[bb (by decide +kernel),bb (by decide +kernel),bb (by decide +kernel)];exact bT
theorem nc:(uJ a b c d e r m).lookup ("many":Str)=some m:=by unfold uJ;rw[bb (by decide +kernel),bb (by decide +kernel),bb (by decide +kernel),bb (by decide +kernel),bb (by decide +kernel),bb (by decide +kernel)];exact bT
theorem E4 {f:Str}(h:¬f∈rF):(uJ a b c d e r m).lookup f=none:=oo h
end
theorem GZ {σ:L2.St}{H:Hp}{ta tb:TE}{i j:Int}(ha:Ev ta σ H (.int i))(hb:Ev tb σ H (.int j))(h:zo i j):Ev (kG (rI zo λi j=>.int (i*j)) ta tb) σ H (.int (i*j)):=λ_ r=>ha _ (hb _ ⟨i,j,rfl,rfl,h,r⟩)
section
variable {K:N4}{CB CP CR CW:Addr}{H H':Hp}{a x:Addr}{p:aO}{b:bP}
theorem jS.same (h:jS K CB CP CR H x p b) (e:au H H'):jS K CB CP CR H' x p b:=by
 obtain⟨dx,pa,sa,ra,h1,h2,h3,h5,h4⟩:=h;exact⟨dx,pa,sa,ra,e _ _ h1,h2.same e,h3.same e,h5.same e,h4⟩
end
section
variable {P:Program}{w:World}{K:N4}{mg:N6}{base:Heap}
def pW (K:N4) (CB CP CR:Addr):Sp:=λvs H Q _=>∃(x:Addr) (p:aO) (b:bP),vs=[.ref x]/\jS K CB CP CR H x p b/\Q (.int ((b.stake:Int)*(countM p.kind (cf b.how) p.fields.length b.sets:Nat))) H
theorem Eg:aI ["self"] ["self"] (ax jb):=fs
theorem CZ {CB CP CR:Addr}(TB:CK K mg "Bet" rF CB){f:Addr}{fd:FuncData}(F:dG K "cost" "Bet.cost" jb f fd):bc P w K mg base bG 1 f fd ["self"] (pW K CB CP CR):=by
 refine F.ok Eg (λvs H Q E h=>?_) (λcdv A outer s H vs Q E hr h=>?_)
 · obtain⟨_,_,_,rfl,_⟩:=h;rfl
 · obtain⟨x,p,b,rfl,⟨dx,pa,sa,ra,h1,_,_,_,h4,_⟩,q⟩:=h;refine⟨_,ak (az (bH vV (a7 (pv 0) rfl) (a7 (pv 0) rfl))),?_⟩;exact (GZ (bo (ag rfl) h1 TB.cl (TB.no _ (by simp)) xI) (bo (ag rfl) h1 TB.cl (TB.no _ (by simp)) nc) (.inl ⟨by omega,by omega⟩)) _ q
def xR (K:N4)(CW CF CB CP CR:Addr):Sp:=λvs H Q E=>∃(a b:Addr) (ps:List aO) (e:Nat) (l:List Word) (pl:Nat),vs=[.ref b,.ref a]/\aY K CW H a e l pl/\cV K CP H b ps/\(∀p∈ps,DV p) /\
 (∀t,BU e ps l=.error t->Rz CF E (t.kind:Nat) (t.place:Nat))/\(∀y,BU e ps l=.ok y->∀H' x p,aP a H H'->jS K CB CP CR H' x p y->ps[y.pool]?=some p->Q (.ref x) H')
theorem fR:aI ["pools","words","pool_number","pool","stake","stake_place","how","how_place","sets","bet"] ["pools","words"] (ax fX):=fs
theorem C8 {CW CF CB CP CR aW:Addr}(B:GB K mg aW)(T:CK K mg "Words" cq CW)(TP:CK K mg "Pool" gZ CP)(TB:CK K mg "Bet" rF CB)(FL:Flt P w K mg base CF){k:Nat}(hk:5<=k)
  (FO:pP P w K mg base (fh P w CF) k CW "take_one_of" ["self","known"] (pC K CW CF))(FTP:Fn P w K mg base (fh P w CF) k "take_pool" ["pools","words"] (tQ K CW CF CP))(FS:Fn P w K mg base (fh P w CF) k "take_stake" ["words","unit"] (tW K CW CF))
  (FH:Fn P w K mg base (fh P w CF) k "take_how" ["words","pool"] (A4 K CW CF CP))(FSe:Fn P w K mg base (fh P w CF) k "take_sets" ["words","pool","how"] (xC K CW CF CP))(FB:xQ P w K mg base bG 4 CB ["self","pool","pool_number","how","stake","sets","rows"] (vZ K CB CR))
  (FF:pP P w K mg base (fh P w CF) k CW "finish" ["self"] (AS K CW CF))(FM:Fn P w K mg base bG k "rows_of" ["pool","how","sets"] (yE K CP CR))(FC:pP P w K mg base bG k CB "cost" ["self"] (pW K CB CP CR))
  {f:Addr}{fd:FuncData}(F:dG K "read_words" "read_words" fX f fd):bc P w K mg base (fh P w CF) (k+1) f fd ["pools","words"] (xR K CW CF CB CP CR):=by
 refine F.xU fR (λvs H Q E h=>?_) (λcdv A outer s H vs Q E hr h=>?_)
 · obtain⟨_,_,_,_,_,_,rfl,_⟩:=h;rfl
 · obtain⟨a,b,ps,e,l,pl,rfl,hW,hPs,bw,q0,q1⟩:=h;refine⟨_,af (dP (kX FO T.cl (pv 1) hr (bR aJ rfl rfl) (aa (dm (aa bt ah)) ah)))
    (af (aN (i:=2) fR.nd rfl (Or.inl rfl) (aV FTP hr (bR aJ rfl rfl) (aa (pv 0) (aa (pv 1) ah))))
    (af (aN (i:=3) fR.nd rfl (Or.inl rfl) (bq aQ (pv 0) (pv 2) (λ_ _=>rfl)))
    (af (dP (kX FO T.cl (pv 1) hr (bR aJ rfl rfl) (aa (dm (aa bt ah)) ah)))
    (af (aN (i:=4) fR.nd rfl (Or.inl rfl) (aV FS hr (bR aJ rfl rfl) (aa (pv 1) (aa (a7 (pv 3) rfl) ah))))
    (af (aN (i:=5) fR.nd rfl (Or.inl rfl) (a7 (pv 1) rfl))
    (af (aN (i:=6) fR.nd rfl (Or.inl rfl) (aV FH hr (bR aJ rfl rfl) (aa (pv 1) (aa (pv 3) ah))))
    (af (aN (i:=7) fR.nd rfl (Or.inl rfl) (a7 (pv 1) rfl))
    (af (aN (i:=8) fR.nd rfl (Or.inl rfl) (aV FSe hr (bR aJ rfl rfl) (aa (pv 1) (aa (pv 3) (aa (pv 6) ah)))))
    (af (dP (jY FF T.cl (pv 1) hr (bR aJ rfl rfl)))
    (af (aN (i:=9) fR.nd rfl (Or.inl rfl) (pz FB (hr.mono hk) TB.mg bf (aa (pv 3) (aa (pv 2) (aa (pv 6) (aa (pv 4) (aa (pv 8) (aa (aV FM hr bf (aa (pv 3) (aa (pv 6) (aa (pv 8) ah)))) ah))))))))
    (af (aS (aC ck (a7 (pv 9) rfl) aw (aM _)) (ak (fL FL aJ (hr.mono (by omega)) (aa (bg B.comb) (aa (pv 7) ah)))) aD)
    (af (aS (aC kQ (jY FC TB.cl (pv 9) hr bf) (bg B.cost) (aM _)) (ak (fL FL aJ (hr.mono (by omega)) (aa (bg B.Kf) (aa (pv 5) ah)))) aD)
    (ak (az (pv 9))))))))))))))),?_⟩
   obtain⟨d0,w0,m0,n0,ha0⟩:=hW.obj;unfold BU at q0 q1;refine⟨_,rfl,a,d0,_,rfl,ha0,cy (by decide +kernel),(by show 1<=sizeLine;decide),λt ht=>?_⟩;have St:au H (upd H t (.tup [V.str (Str.ofString "bet")])):=(au.refl H).laid ht;show eZ _ _ _;unfold eZ;dsimp only [Mg];refine lZ (s:="bet") (by decide +kernel) (hW.same St) (bZ.of ae) (λy hy=>?_) (λm hm H1 v pl1 S1 hW1=>?_)
   · rw[hy] at q0;exact q0 _ rfl
   rw[hm] at q0 q1;have q0:∀t,Jk e ps m=.error t->Rz CF E (t.kind:Nat) (t.place:Nat):=q0;have q1:∀y,Jk e ps m=.ok y->_:=q1;have SX1:aP a H H1:=St.x.trans S1;refine⟨_,rfl,_,rfl,a,b,ps,e,m,pl1,rfl,hW1,cV.jR hPs SX1 ha0,λz=>?_,λwn r hl hn=>?_,λwn r i hl hi H2 S2 hW2=>?_⟩
   · subst z;exact q0 ⟨3,e⟩ rfl
   · subst hl;refine q0 ⟨5,wn.at_⟩ ?_;show (match dO ps (tx wn.w) with
      |none=>(Except.error ⟨5,wn.at_⟩:Except Fault bP)
      |some i=>match ps[i]? with
       |none=>.error ⟨5,wn.at_⟩
       |some p=>BS e i p r)=_
     rw[hn]
   subst hl;have SX2:=SX1.trans S2;have hil:=vU hi;have eB:Jk e ps (wn::r)=BS e i ps[i] r:=by
    show (match dO ps (tx wn.w) with
     |none=>(Except.error ⟨5,wn.at_⟩:Except Fault bP)
     |some i=>match ps[i]? with
      |none=>.error ⟨5,wn.at_⟩
      |some p=>BS e i p r)=_
    rw[hi];show (match ps[i]? with
      |none=>(Except.error ⟨5,wn.at_⟩:Except Fault bP)
      |some p=>BS e i p r)=_
    rw[Lo hil]
   rw[eB] at q0 q1;have hO:=bw _ (M6 hil);have hPp:∃(as:List Addr) (pa:Addr),aU K H b (as.map V.ref)/\as[i]?=some pa/\de K CP H pa ps[i]:=by
    obtain⟨as,h1,h2⟩:=hPs;obtain⟨pa,h3,h4⟩:=Paired.at2 h2 (Lo hil);exact⟨as,pa,h1,h3,h4⟩
   have hpi:ps[i]?=some ps[i]:=Lo hil;generalize ps[i]=p at q0 q1 hO hPp hpi;obtain⟨as,pa,hA,hpa,hPP⟩:=hPp;have pool:∀{H'},aP a H H'->de K CP H' pa p:=λS=>de.jR hPP S ha0;refine cE (a_ (ag rfl) (ag rfl) (SX2.seq ha0 hA) (cw (by rw[Lj,hpa];rfl))) ?_;unfold BS at q0 q1;obtain⟨d2,w2,m2,n2,ha2⟩:=hW2.obj;refine⟨_,rfl,a,d2,_,rfl,ha2,cy (by decide +kernel),(by show 1<=sizeLine;decide),λt3 ht3=>?_⟩;have St3:au H2 (upd H2 t3 (.tup [V.str (Str.ofString "for")])):=(au.refl H2).laid ht3;dsimp only [Mg];refine lZ (s:="for") (by decide +kernel) (hW2.same St3) (bZ.of ae) (λy hy=>?_) (λm3 hm3 H3 v3 pl3 S3 hW3=>?_)
   · rw[hy] at q0;exact q0 _ rfl
   rw[hm3] at q0 q1;have q0:∀t,Iy e i p m3=.error t->Rz CF E (t.kind:Nat) (t.place:Nat):=q0;have q1:∀y,Iy e i p m3=.ok y->_:=q1;have SX3:aP a H H3:=(SX2.trans St3.x).trans S3;obtain⟨dp,fap,hpo,hpl⟩:=pool SX3;refine⟨_,rfl,(bo (ag rfl) hpo TP.cl (TP.no _ (by simp)) xy) _ ⟨a,p.unit,e,m3,pl3,rfl,hO.unit,hW3,λz=>?_,λws r4 hl hn=>?_,λws r4 hl hs H4 S4 hW4=>?_⟩⟩
   · subst z;exact q0 ⟨3,e⟩ rfl
   · subst hl;refine q0 ⟨4,ws.at_⟩ ?_;show (if d9 p.unit (tx ws.w) then _ else _)=_;rw[Lf (show ¬d9 p.unit (tx ws.w) from hn)]
   subst hl;have eB:Iy e i p (ws::r4)=IK e i p (ay (tx ws.w)).toNat ws.at_ r4:=by
    show (if d9 p.unit (tx ws.w) then _ else _)=_;rw[Lg (show d9 p.unit (tx ws.w) from hs)]
   rw[eB] at q0 q1;have hst:ay (tx ws.w)=(((ay (tx ws.w)).toNat:Nat):Int):=by have:=hs.1;omega
   have hsb:(ay (tx ws.w)).toNat<=1000000:=by have:=hs.2.1;omega
   generalize (ay (tx ws.w)).toNat=stake at q0 q1 hst hsb;rw[hst];have SX4:=SX3.trans S4;obtain⟨d4,w4,m4,n4,ha4⟩:=hW4.obj;refine cE (bo (ag rfl) ha4 T.cl (T.no _ (by simp)) bN) ?_;refine⟨_,rfl,_,rfl,a,pa,p,e,r4,ws.at_,rfl,hW4,pool SX4,λz=>?_,λwh r5 hl hn=>?_,λwh r5 how hl hh H5 S5 hW5=>?_⟩
   · subst z;exact q0 ⟨3,e⟩ rfl
   · subst hl;refine q0 ⟨3,wh.at_⟩ ?_;show (match jj p wh.w with
      |none=>(Except.error ⟨3,wh.at_⟩:Except Fault bP)
      |some how=>wW e i how stake wh.at_ ws.at_ p (fz e p how r5))=_
     rw[hn]
   subst hl;have eB:IK e i p stake ws.at_ (wh::r5)=wW e i how stake wh.at_ ws.at_ p (fz e p how r5):=by
    show (match jj p wh.w with
     |none=>(Except.error ⟨3,wh.at_⟩:Except Fault bP)
     |some how=>wW e i how stake wh.at_ ws.at_ p (fz e p how r5))=_
    rw[hh]
   rw[eB] at q0 q1;have SX5:=SX4.trans S5;obtain⟨d5,w5,m5,n5,ha5⟩:=hW5.obj;refine cE (bo (ag rfl) ha5 T.cl (T.no _ (by simp)) bN) ?_;have hway:how=0∨cP p=true:=by
    unfold jj at hh;split at hh
    · exact .inl (LQ hh).symm
    · split at hh
      · rename_i z;exact .inr z.2
      · split at hh
        · rename_i z;exact .inr z.2
        · cases hh
   refine⟨_,rfl,_,rfl,_,rfl,a,pa,p,how,e,r5,wh.at_,rfl,hW5,pool SX5,hO,λt ht=>?_,λsets r6 hse H6 sa pl6 S6 hSa hW6=>?_⟩
   · rw[ht] at q0;exact q0 t rfl
   rw[hse] at q0 q1;have SX6:=SX5.trans S6;obtain⟨d6,w6,m6,n6,ha6⟩:=hW6.obj;refine⟨_,rfl,a,d6,_,rfl,ha6,cy (by decide +kernel),a,e,r6,pl6,rfl,hW6,λwr r7 hl=>?_,λhl=>?_⟩
   · subst hl;exact q0 ⟨3,wr.at_⟩ rfl
   subst hl;have q0:∀t,Gb i how stake wh.at_ ws.at_ p sets=.error t->Rz CF E (t.kind:Nat) (t.place:Nat):=q0;have q1:∀y,Gb i how stake wh.at_ ws.at_ p sets=.ok y->_:=q1;unfold Gb at q0 q1;have hM:uq p how sets:=⟨hO,hway,e,r5,[],hse⟩;refine⟨_,rfl,_,rfl,_,rfl,_,rfl,_,rfl,_,rfl,_,rfl,_,rfl,pa,sa,p,how,sets,rfl,pool SX6,hSa.lists,hM,λH7 ra S7 hR=>?_⟩;have SX7:aP a H H7:=SX6.trans S7.x;intro x dx hx hdx ndx;have Sn:au H7 (upd (upd H7 dx (.own x)) x (.ins CB dx [])):=((au.refl H7).laid hdx).laid hx;refine⟨x,dx,ra,_,_,_,_,_,p.kind,_,rfl,ae,hR.same Sn,λH8 SX hx8=>⟨rfl,?_⟩⟩;have hx8:H8 x=some (.ins CB dx (uJ (.ref pa) (.int (i:Nat)) (.int (how:Nat)) (.int (stake:Nat)) (.ref sa) (.ref ra) (.int (countM p.kind (cf how) p.fields.length sets:Nat)))):=hx8;have S8:au H7 H8:=λb u z=>SX b u (Sn b u z) (ao z hx);have hB8:jS K CB CP CR H8 x p ⟨i,how,stake,sets⟩:=⟨dx,pa,sa,ra,hx8,(pool SX7).same S8,(hSa.same S7).same S8,hR.same S8,hsb,hM⟩;have SX8:aP a H H8:=SX7.trans S8.x;refine aX (aL (b9 (bo (ag rfl) hx8 TB.cl (TB.no _ (by simp)) nc) aE)) (λh=>?_) (λh=>?_)
   · rw[a9] at h;rw[Lg (by have:=MI h;omega)] at q0;exact jB (ag rfl) (q0 _ rfl)
   have hm0:¬countM p.kind (cf how) p.fields.length sets=0:=λz=>by rw[z] at h;cases h
   rw[Lf hm0] at q0 q1;have evC:∀{σ:L2.St},σ[9]?=some (some (V.ref x))->Ev (uB CB "cost" (pW K CB CP CR) [] E0 (cH 9) λ_ H Q=>Q [] H) σ H8 (.int ((stake:Int)*(countM p.kind (cf how) p.fields.length sets:Nat))):=λz _ r =>
    ⟨_,z,x,dx,_,rfl,hx8,E4 (by decide +kernel),x,p,⟨i,how,stake,sets⟩,rfl,hB8,r⟩
   refine aX (jC (evC rfl) aE) (λh=>?_) (λh=>?_)
   · have h:=Ly h;have h:2147483647 < stake*countM p.kind (cf how) p.fields.length sets:=by
      have e1:((stake:Int)*(countM p.kind (cf how) p.fields.length sets:Int))=((stake*countM p.kind (cf how) p.fields.length sets:Nat):Int):=by rw[Int.natCast_mul]
      rw[e1] at h;omega
     rw[Lg h] at q0;exact jB (ag rfl) (q0 _ rfl)
   · have h:=LY h;have h:¬2147483647 < stake*countM p.kind (cf how) p.fields.length sets:=by
      have e1:((stake:Int)*(countM p.kind (cf how) p.fields.length sets:Int))=((stake*countM p.kind (cf how) p.fields.length sets:Nat):Int):=by rw[Int.natCast_mul]
      rw[e1] at h;omega
     rw[Lf h] at q1;exact⟨_,rfl,q1 _ rfl H8 x p SX8 hB8 hpi⟩
end
def h_ (b:Bytes):N3:=b.map UInt8.toNat
theorem yf {b:Bytes}:10∈h_ b↔(10:UInt8)∈b:=by
 unfold h_;rw[LM]
 exact⟨λ⟨x,h1,h2⟩=>by have:x=10:=jx h2
                      rwa [←this],λh=>⟨10,h,rfl⟩⟩
theorem oG {xs:List V}{j:Nat}(h:j<=xs.length):fA xs none (some (j:Int))=xs.take j:=by
 unfold fA;rw[HT.je,HT.ir,Nd h];simp
section
variable {P:Program}{w:World}{K:N4}{mg:N6}{base:Heap}
def BA (K:N4) (CF CB CP CR:Addr):Sp:=λvs H Q E=>∃(c b:Addr) (ps:List aO) (bs:Bytes),vs=[.ref b,.ref c]/\aU K H c (nV (h_ bs))/\bs.length<=4096/\cV K CP H b ps/\(∀p∈ps,DV p) /\
 (∀t,dj ps bs=.error t->Rz CF E (t.kind:Nat) (t.place:Nat))/\(∀y,dj ps bs=.ok y->∀H' x p,au H H'->jS K CB CP CR H' x p y->ps[y.pool]?=some p->Q (.ref x) H')
theorem uj:aI ["pools","codes","line_end","line","bet"] ["pools","codes"] (ax i5):=fs
theorem Hw {CW CF CB CP CR aW:Addr}(G:GW mg)(B:GB K mg aW)(T:CK K mg "Words" cq CW)(FL:Flt P w K mg base CF){k:Nat}(hk:2<=k)
  (FC:Fn P w K mg base (fh P w CF) k "check_line" ["line"] (vW K CF))(FR:Fn P w K mg base (fh P w CF) k "read_words" ["pools","words"] (xR K CW CF CB CP CR))(FX:Fn P w K mg base bG k "text_of" ["codes"] (tN K))(FW:xQ P w K mg base bG 1 CW ["self","line"] (ql K CW))
  {f:Addr}{fd:FuncData}(F:dG K "read_bet" "read_bet" i5 f fd):bc P w K mg base (fh P w CF) (k+1) f fd ["pools","codes"] (BA K CF CB CP CR):=by
 refine F.xU uj (λvs H Q E h=>?_) (λcdv A outer s H vs Q E hr h=>?_)
 · obtain⟨_,_,_,_,rfl,_⟩:=h;rfl
 · obtain⟨c,b,ps,bs,rfl,hS,hlen,hPs,bw,q0,q1⟩:=h;refine⟨_,af (aS (aC eK (bg B.nl) (pv 1) (by with_unfolding_all rfl)) (ak (fL FL aJ (hr.mono hk) (aa (bg B.ended) (aa (aH aA (by rfl) G.len PySem.boot_len (aa (pv 1) ah)) ah)))) aD)
    (af (aN (i:=2) uj.nd rfl (Or.inl rfl) (p_ PySem.F.plainAttrs_list PySem.F.slot_list_index PySem.F.type_list_index BI (pv 1) (aa (bg B.nl) ah)))
    (af (aN (i:=3) uj.nd rfl (Or.inl rfl) (cJ fk (pv 1) ft (cT (pv 2))))
    (af (dP (aV FC hr (bR aJ rfl rfl) (aa (pv 3) ah)))
    (af (aN (i:=4) uj.nd rfl (Or.inl rfl) (aV FR hr (bR aJ rfl rfl) (aa (pv 0) (aa (pz FW (hr.mono hk) T.mg bf (aa (aV FX hr bf (aa (pv 3) ah)) ah)) ah))))
    (af (aS (aC nP (bH eG (pv 2) aw) (aH aA (by rfl) G.len PySem.boot_len (aa (pv 1) ah)) (aM _)) (ak (fL FL aJ (hr.mono hk) (aa (bg B.more) (aa (bH eG (pv 2) aw) ah)))) aD)
    (ak (az (pv 4)))))))),?_⟩
   have hbl:(h_ bs).length=bs.length:=by unfold h_;rw[Le]
   refine aX (aL (mB aE (ag rfl) (.inl hS) rfl (f_ _))) (λh=>?_) (λh=>?_)
   · have h:(!n9 (V.int 10) (nV (h_ bs)))=true:=h;rw[nN,L6,LW] at h;have hn:¬(10:UInt8)∈bs:=λz=>h ⟨10,yf.mpr z,rfl⟩;have hu:upTo bs=none:=by
      cases hu:upTo bs with
      |none=>rfl
      |some x =>
       obtain⟨l,r⟩:=x;obtain⟨e,_⟩:=ki hu;exact absurd (by rw[e];simp) hn
     rw[xx hu] at q0;refine jB (p:=(bs.length:Nat)) ?_ (q0 _ rfl);have:=aZ (K:=K) (σ:=L2.start ["pools","codes","line_end","line","bet"] [V.ref b,V.ref c]) (H:=H) (ag (n:=1) rfl) (.inl hS);rw[aR,hbl] at this;exact this
   have h:(!n9 (V.int 10) (nV (h_ bs)))=false:=h;rw[nN,L9,Lm] at h;have hin:(10:UInt8)∈bs:=by
    obtain⟨n,h1,h2⟩:=h;have:n=10:=by omega
    subst this;exact yf.mp h1
   cases hu:upTo bs with
   |none=>exact absurd hin (qZ hu)
   |some x =>
   obtain⟨l,r⟩:=x;obtain⟨ebs,hl10⟩:=ki hu;rw[xK hu] at q0 q1;have ecs:nV (h_ bs)=nV (h_ l)++V.int 10::nV (h_ r):=by
    rw[ebs];unfold nV h_;rw[Lx,Lx];rfl
   have hll:(nV (h_ l)).length=l.length:=by rw[aR];unfold h_;rw[Le]
   have hbs:bs.length=l.length+1+r.length:=by rw[ebs];simp;omega
   refine⟨_,rfl,.inl ⟨rfl,_,hS⟩,c,nV (h_ bs),.int 10,l.length,.int 10,rfl,rfl,hS,rfl,f_ _,?_,rfl,?_,?_⟩
   · rw[ecs,NZ (by omega),hll];simp
   · intro m z hm hz;rw[ecs,List.getElem?_append_left (by omega)] at hz;unfold nV h_ at hz;rw[Lj,Lj,Option.map_map] at hz;obtain⟨y,hy,rfl⟩:=LO.mp hz
     have hny:¬y.toNat=10:=λq=>hl10 (by have:y=10:=jx q
                                        rw[←this];exact LH hy)
     show ((y.toNat:Int)==10)=false;rw[LK];omega
   refine⟨_,rfl,_,rfl,_,rfl,c,_,rfl,hS,λp hp=>?_⟩;rw[oG (by rw[aR,hbl,hbs];omega),ecs,List.take_append_of_le_length (by omega),Ma (by omega)];have S1:au H (upd H p (.lst (nV (h_ l)))):=(au.refl H).laid hp;have e1:(upd H p (.lst (nV (h_ l)))) p=some (.lst (nV (h_ l))):=ae;generalize upd H p (.lst (nV (h_ l)))=H1 at S1 e1;have eBad:badByte true 0 l=vD (h_ l):=EB l;unfold Fc at q0 q1;rw[eBad] at q0 q1;refine⟨_,rfl,p,h_ l,rfl,aU.of e1,λi hi=>?_,λhi H2 S2=>?_⟩
   · rw[hi] at q0;exact q0 ⟨2,i⟩ rfl
   rw[hi] at q0 q1 eBad;have q0:∀t,(match BU l.length ps (wordsFrom 0 [] l) with
    |.error t=>(Except.error t:Except Fault bP)
    |.ok x=>if r=[] then .ok x else .error ⟨8,l.length+1⟩)=.error t->Rz CF E (t.kind:Nat) (t.place:Nat):=q0
   have q1:∀y,(match BU l.length ps (wordsFrom 0 [] l) with
    |.error t=>(Except.error t:Except Fault bP)
    |.ok x=>if r=[] then .ok x else .error ⟨8,l.length+1⟩)=.ok y->_:=q1
   have S02:=S1.trans S2;have etx:(h_ l).map sg=tx l:=by
    unfold h_ tx;rw[LF];rfl
   have hl4:l.length<=4096:=by omega
   refine⟨_,rfl,_,rfl,p,h_ l,rfl,aU.of (S2 _ _ e1),by unfold h_;rw[Le];omega,λH3 S3=>?_⟩;rw[etx];intro x dx hx hdx ndx;have htl:(tx l).length=l.length:=iq l;refine⟨x,dx,tx l,rfl,ae,by omega,λH4 wl S4 hwl hwl4 hx4=>⟨rfl,?_⟩⟩;have S03:=S02.trans S3;have S04:au H H4:=λd o z=>by
    have z3:=S03 d o z;have n1:d≠x:=ao z3 hx;have n2:d≠dx:=ao z3 hdx;exact S4 d o (by rw[aq n1,aq n2];exact z3) n1
   have hxH:H x=none:=by
    cases hz:H x with
    |none=>rfl
    |some o=>rw[S03 x o hz] at hx;cases hx
   have t128:∀c∈tx l,c < 128:=λc hc=>by
    unfold tx at hc;obtain⟨d,_,rfl⟩:=LM.mp hc;exact E8 _
   have ok32:mK (a6 32 [] (tx l)):=by
    have h3:=fe 32 (tx l) [];refine⟨by omega,λv hv=>?_⟩;obtain⟨z1,z2⟩:=dX 32 (tx l) [] v hv;refine⟨by simp at z1;omega,λc hc=>?_⟩;rcases z2 c hc with z|z
    · simp at z
    · exact t128 c z
   have hplace:=(words_of l [] 0 0 (Ln _) eBad).2;have hWx:aY K CW H4 x l.length (wordsFrom 0 [] l) 0:=by
    refine⟨dx,wl,a6 32 [] (tx l),0,0,?_,aU.of hwl4,⟨ok32,ka 32 _ []⟩,LJ _,?_,hplace⟩
    · rw[hx4,htl]
    · rw[pG 0 eBad];rfl
   have hPs4:cV K CP H4 b ps:=by
    obtain⟨as,h1,h2⟩:=hPs;exact⟨as,S04.seq h1,qc h2 S04⟩
   refine⟨x,b,ps,l.length,wordsFrom 0 [] l,0,rfl,hWx,hPs4,bw,λt ht=>?_,λy hy H5 xb pp S5 hB hpp=>?_⟩
   · rw[ht] at q0;exact q0 t rfl
   rw[hy] at q0 q1;have q0:∀t,(if r=[] then (Except.ok y:Except Fault bP) else .error ⟨8,l.length+1⟩)=.error t->Rz CF E (t.kind:Nat) (t.place:Nat):=q0;have q1:∀y',(if r=[] then (Except.ok y:Except Fault bP) else .error ⟨8,l.length+1⟩)=.ok y'->_:=q1;have S05:au H H5:=λd o z=>S5 d o (S04 d o z) (ao z hxH);refine aX (jC (jJ (ag rfl) aE) (aZ (ag rfl) (.inl (S05.seq hS)))) (λh=>?_) (λh=>?_)
   · rw[aR,hbl,hbs] at h;have h:=Ly h;rw[Lf (λz=>by rw[z] at h;simp at h)] at q0;have e8:((l.length+1:Nat):Int)=(l.length:Int)+1:=by omega
     have q8:=q0 _ rfl;dsimp only at q8;rw[e8] at q8;exact jB (jJ (ag rfl) aE) q8
   · rw[aR,hbl,hbs] at h;have h:=LY h;rw[Lg (M5.mp (by omega))] at q1;exact⟨_,rfl,q1 _ rfl H5 xb pp S05 hB hpp⟩
end
end Bw
namespace L2
open PySem PySem.Spec PyProof.Rows
def ya (K:N4)(H:Hp):Prop:=∀b o,K.lookup b=some o->H b=none
def Bj (K:N4):V->List V->Hp->VK->Prop:=λx vs H Q=>∃l xs y,x=.ref l/\vs=[y]/\H l=some (.lst xs)/\xs.length < sizeLine/\(ya K H->Q .cj (upd H l (.lst (xs++[y]))))
theorem wN {X:Cx}:KO X "list.append" (Bj X.K):=by
 intro pins s σ H x vs v us Q I rx rv h;obtain⟨l,xs,y,e1,e2,hH,hz,q⟩:=h;exact ij pins s σ H x vs v us Q I rx rv ⟨l,xs,y,e1,e2,hH,hz,q λb o hb=>(I.bs b o (I.ok.mod.Fq _ _ hb)).2⟩
end L2
namespace Bw
open PySem PySem.Spec PyProof.Rows L2 Tote
section
variable {K:N4}{H:Hp}{c fo a x:Addr}{ys zs:List V}{o:HO}{xs:List Addr}
theorem wR (h:aU K H c ys) (hf:H fo=some (.lst zs)) (ne:ys≠zs):aU K (upd H fo o) c ys:=by
 rcases h with (h|⟨u,h⟩)|h
 · exact .inl (.inl (by rw[aq (dF h hf (by intro z;cases z;exact ne rfl))];exact h))
 · exact .inl (.inr ⟨u,by rw[aq (dF h hf (by intro z;cases z))];exact h⟩)
 · exact .inr h
theorem Hq (hK:ya K H)(h:aU K H c ys){C dx:Addr}{fs:List (Str×V)}(hi:H c=some (.ins C dx fs)):False:=by
 rcases h with (h|⟨u,h⟩)|⟨u,_,_,h,_⟩
 · rw[hi] at h;cases h
 · rw[hi] at h;cases h
 · rw[hK _ _ h] at hi;cases hi
def JV (H:Hp)(xs:List Addr):Prop:=∀x∈xs,∃C dx fs,H x=some (.ins C dx fs)
theorem yJ {s:N3}(h:s≠[]):nV s≠xs.map V.ref:=λe=>by
 cases s with
 |nil=>exact h rfl
 |cons n s =>
  cases xs with
  |nil=>cases e
  |cons x xs=>cases e
theorem sD {bs:List Addr}(ne:bs≠[])(hK:ya K H)(hG:∀b∈bs,∃ys,aU K H b ys)(hi:JV H xs):bs.map V.ref≠xs.map V.ref:=λe=>by
 cases bs with
 |nil=>exact ne rfl
 |cons b bs =>
  cases xs with
  |nil=>cases e
  |cons x xs =>
   injection e with e1 e2;injection e1 with e1;subst e1;obtain⟨ys,h⟩:=hG b (by simp);obtain⟨C,dx,fs,hx⟩:=hi b (by simp);exact Hq hK h hx
theorem gy {α β:Type}{F:α->β->Prop}{G:α->Prop}(k:∀a b,F a b->G a):∀{l:List α} {m:List β},Paired F l m->∀a∈l,G a
 |_,_,.nil,_,h=>by cases h
 |_,_,.cons h t,a,hm=>by
  rcases Li.mp hm with rfl|hm
  · exact k _ _ h
  · exact gy k t a hm
theorem j0 {α β:Type}{F G:α->β->Prop}:∀{l:List α} {m:List β},Paired F l m->(∀a b,b∈m->F a b->G a b)->Paired G l m
 |_,_,.nil,_=>.nil
 |_,_,.cons h t,k=>.cons (k _ _ (by simp) h) (j0 t λa b hb z=>k a b (by simp[hb]) z)
theorem mN {α β:Type}{F:α->β->Prop}{l:List α}{m:List β}(h:Paired F l m)(n:m≠[]):l≠[]:=λe=>by
 subst e;cases h;exact n rfl
variable (hK:ya K H)(hf:H fo=some (.lst (xs.map V.ref)))(hi:JV H xs)
include hK hf hi
theorem qO {g:N2}(h:bF K H a g)(ne:g≠[])(hs:∀s∈g,s≠[]):bF K (upd H fo o) a g:=by
 obtain⟨as,h1,h2⟩:=h;exact⟨as,wR h1 hf (sD (mN h2 ne) hK (gy (λ_ _ z=>⟨_,z⟩) h2) hi),j0 h2 λ_ s m z=>wR z hf (yJ (hs s m))⟩
theorem zq {gs:List (N2)}(h:dA K H a gs)(ne:gs≠[])(hs:∀g∈gs,g≠[]/\∀s∈g,s≠[]):dA K (upd H fo o) a gs:=by
 obtain⟨as,h1,h2⟩:=h;exact⟨as,wR h1 hf (sD (mN h2 ne) hK (gy (λ_ _ ⟨_,z,_⟩=>⟨_,z⟩) h2) hi),j0 h2 λ_ g m z=>qO hK hf hi z (hs g m).1 (hs g m).2⟩
theorem yF {CB CP CR:Addr}{p:aO}{y:bP}(h:jS K CB CP CR H x p y):jS K CB CP CR (upd H fo o) x p y:=by
 obtain⟨dx,pa,sa,ra,h1,⟨dp,fa,h2,h3⟩,⟨as,h4,h5⟩,⟨dr,ga,qa,kvs,h6,h7,h8,h9,h10⟩,h11,m⟩:=h;have ins:∀{b C d:Addr} {fs:List (Str×V)},H b=some (.ins C d fs)->(upd H fo o) b=some (.ins C d fs):=λz=>by rw[aq (dF z hf (by intro z;cases z))];exact z
 have sne:y.sets≠[]:=λz=>by
  obtain⟨_,m0,m1,m2⟩:=m.all;have pos:0 < p.fields.length:=Mi.mpr m.ok.ne;by_cases z0:y.how=0
  · have:=(m0 z0).1;rw[z] at this;have:0=p.fields.length:=this;omega
  · by_cases z1:y.how=1
    · obtain⟨t,e,_⟩:=m1 z1;rw[e] at z;cases z
    · obtain⟨t,u,e,_⟩:=m2 z0 z1;rw[e] at z;cases z
 refine⟨dx,pa,sa,ra,ins h1,⟨dp,fa,ins h2,qO hK hf hi h3 m.ok.ne m.J9⟩,⟨as,?_,j0 h5 λb s hm z=>?_⟩,⟨dr,ga,qa,kvs,ins h6,zq hK hf hi h7 h8.ne m.K9,h8,?_,h10⟩,h11,m⟩
 · rw[aq (dF h4 hf (by
    intro z;injection z with z;exact sD (mN h5 sne) hK (gy (λ_ _ z=>⟨_,aU.of z⟩) h5) hi z))]
   exact h4
 · rw[aq (dF z hf (by intro q;injection q with q;exact yJ (m.all.1 s hm).1 q))];exact z
 · rw[aq (dF h9 hf (by intro z;cases z))];exact h9
end
structure GD (mg:N6):Prop where
 long:Gv mg "TOO_LONG" (.int (-2))
 FE:Gv mg "FAULTY_BET" (.int (-6))
 GU:Gv mg "NO_CARD" (.int (-8))
 Jt:Gv mg "MOST_CARD" (.int 65536)
 Iz:Gv mg "MOST_BET" (.int 4096)
theorem DQ {zs:List Int}:fA (zs.map V.int) none (some ((1:Nat):Int))=(zs.take 1).map V.int:=by
 unfold fA;rw[HT.je,HT.ir];cases zs <;> simp
def readAll (ps:List aO):List Bytes->Except Fault (List bP)
 |[]=>.ok []
 |b::bs=>match dj ps b with
  |.error f=>.error f
  |.ok y=>match readAll ps bs with
   |.error f=>.error f
   |.ok ys=>.ok (y::ys)
theorem jD {ps:List aO}:∀{l m:List Bytes} {ys:List bP},readAll ps l=.ok ys->readAll ps (l++m)=match readAll ps m with
  |.error f=>.error f
  |.ok zs=>.ok (ys++zs)
 |[],m,ys,h=>by
  injection h with h;subst h;cases h2:readAll ps m with
  |error f=>exact h2
  |ok zs=>exact h2
 |b::l,m,ys,h=>by
  show (match dj ps b with
   |.error f=>(Except.error f:Except Fault (List bP))
   |.ok y=>match readAll ps (l++m) with
    |.error f=>.error f
    |.ok ys=>.ok (y::ys))=_
  have h:(match dj ps b with
   |.error f=>(Except.error f:Except Fault (List bP))
   |.ok y=>match readAll ps l with
    |.error f=>.error f
    |.ok ys=>.ok (y::ys))=.ok ys:=h
  cases hb:dj ps b with
  |error f=>rw[hb] at h;cases h
  |ok y =>
   rw[hb] at h;cases hl:readAll ps l with
   |error f=>rw[hl] at h;cases h
   |ok xs =>
    rw[hl] at h;injection h with h;subst h;show (match readAll ps (l++m) with
     |.error f=>(Except.error f:Except Fault (List bP))
     |.ok ys=>.ok (y::ys))=_
    rw[jD hl];cases readAll ps m <;> rfl
theorem nI {ps:List aO}{b:Bytes}:readAll ps [b]=match dj ps b with
  |.error f=>.error f
  |.ok y=>.ok [y]:=by
 show (match dj ps b with
   |.error f=>(Except.error f:Except Fault (List bP))
   |.ok y=>.ok [y])=_
 cases dj ps b <;> rfl
def ke (t:Bytes)(bs:List Bytes):Except (List Int) (List bP):=if 65536 < t.length∨(bs.any λb=>decide (4096 < b.length))=true then .error [-2] else match dE (tx t) with
 |none=>.error [-8]
 |some ps=>match readAll ps bs with
  |.error f=>.error [-6,(f.kind:Nat),(f.place:Nat)]
  |.ok ys=>.ok ys
theorem uX {t b:Bytes}:ke t [b]=match fJ t b with
  |.error z=>.error z
  |.ok y=>.ok [y]:=by
 unfold ke fJ;have e:([b].any λb=>decide (4096 < b.length))=true↔4096 < b.length:=by simp
 rw[jZ (p:=65536 < t.length∨([b].any λb=>decide (4096 < b.length))=true) (q:=65536 < t.length∨4096 < b.length) ⟨λh=>h.imp id e.mp,λh=>h.imp id e.mpr⟩];by_cases h:65536 < t.length∨4096 < b.length
 · rw[Lg h,Lg h]
 · rw[Lf h,Lf h];cases dE (tx t) with
   |none=>rfl
   |some ps =>
    show (match readAll ps [b] with
     |.error f=>(Except.error [-6,((f.kind:Nat):Int),((f.place:Nat):Int)]:Except (List Int) (List bP))
     |.ok ys=>.ok ys)=_
    rw[nI];show _=(match (match dj ps b with
     |.error f=>(Except.error [-6,((f.kind:Nat):Int),((f.place:Nat):Int)]:Except (List Int) bP)
     |.ok y=>.ok y) with
     |.error z=>(Except.error z:Except (List Int) (List bP))
     |.ok y=>.ok [y])
    cases dj ps b <;> rfl
section
variable {P:Program}{w:World}{K:N4}{mg:N6}{base:Heap}
theorem yb {CX:lR} {N:List Str} {qual:Str} {scope:Scope} {f:Addr} {cd:Value} {A:Around} {outer:List Env} {s:Shared} {H:Hp} {E:XK}:lK (n8 CX P w K mg base N qual scope f cd A outer s H E).HQ:=⟨rfl,rfl,rfl,rfl⟩
def t9 (K:N4)(CB CP CR:Addr)(ps:List aO)(H:Hp)(x:Addr)(y:bP):Prop:=∃p,jS K CB CP CR H x p y/\ps[y.pool]?=some p
def sT (K:N4)(CB CP CR:Addr):Sp:=λvs H Q _=>∃(c d:Addr) (ds:List Addr) (t:Bytes) (bs:List Bytes),vs=[.ref c,.ref d]/\aU K H c (nV (h_ t))/\aU K H d (ds.map V.ref)/\Paired (λa b=>aU K H a (nV (h_ b))) ds bs/\bs.length<=2 /\
 (∀zs,ke t bs=.error zs->∀H' T L F,H' T=some (.tup [.ref L,.ref F])->H' L=some (.lst (zs.map V.int))->H' F=some (.lst [])->Q (.ref T) H') /\
 (∀ys,ke t bs=.ok ys->∀H' T L F xs ps,H' T=some (.tup [.ref L,.ref F])->H' L=some (.lst [])->H' F=some (.lst (xs.map V.ref))->Paired (t9 K CB CP CR ps H') xs ys->dE (tx t)=some ps->Q (.ref T) H')
theorem gg:aI ["card","bets","bet","pools","found","fault"] ["card","bets"] (ax fj):=fs
theorem AQ {CF CB CP CR aW N fI:Addr}(hfok:∀t ps,dE (tx t)=some ps->∀p∈ps,DV p)(G:GW mg)(B:GB K mg aW)(D:GD mg)(Z:qm K CF N fI)(hF:mg "Fault"=some (.ref CF)){k:Nat}
  (FC:Fn P w K mg base bG k "read_card" ["codes"] (xn K CP))(FB:Fn P w K mg base (fh P w CF) k "read_bet" ["pools","codes"] (BA K CF CB CP CR))
  {f:Addr}{fd:FuncData}(F:dG K "look_at_all" "look_at_all" fj f fd):bc P w K mg base bG (k+1) f fd ["card","bets"] (sT K CB CP CR):=by
 refine F.Kc gg (λvs H Q E h=>?_) (λcdv A outer s H vs Q E hr h=>?_)
 · obtain⟨_,_,_,_,_,rfl,_⟩:=h;rfl
 · obtain⟨c,d,ds,t,bs,rfl,hC,hD,hP,h2,q0,q1⟩:=h
   refine⟨_,ig (PS.zero (aS (PW.pt (eh (aC kQ (aH aA (by rfl) G.len PySem.boot_len (aa (pv 0) ah)) (bg D.Jt) (aM _)) (cO (hZ (aH (Ax rfl) (by rfl) B.any (by decide +kernel) (aa (fw (te:=kG (qB λi j=>.bl (decide (j < i))) (HR (λxs H Q=>∃p ys,xs=[.ref p]/\(aU K H p ys∨bZ K H p ys)/\Q (.int ys.length) H) (cU (cH 2) eZ)) (tC (.int 4096))) rfl gg.nd (bK (pv 1)) (bA (own:=[("bet",2)]) rfl)
         (λ_ _ _ _ _=>aK (i:=2) gg.nd rfl (Or.inl rfl)) (λ_ _ _ _ _=>cn) (λ_ _ _ _ _=>fm kQ (aH aA (by rfl) G.len PySem.boot_len (aa (pv 2) ah)) (bg D.Iz) (aM _))) ah))))))
     (ak (az (dm (aa (bW (aa (bg D.long) ah)) (aa (bW ah) ah))))) aD))
    (ig (PS.zero (aN (i:=3) gg.nd rfl (Or.inl rfl) (aV FC hr bf (aa (pv 0) ah))))
    (ig (PS.zero (aS (aC uc (pv 3) cA (aM _)) (ak (az (dm (aa (bW (aa (bg D.GU) ah)) (aa (bW ah) ah))))) aD))
    (ig (PS.zero (aN (i:=4) gg.nd rfl (Or.inl rfl) (bW ah)))
    (ig (Dk Mj rfl (bK (pv 1)) (aK (i:=2) gg.nd rfl (Or.inl rfl))
      (G9 (i:=5) (R:=λk p=>∃ps y,dE (tx t)=some ps/\readAll ps bs=.error y/\k=(y.kind:Nat)/\p=(y.place:Nat)) yb Z (by rfl) hF gg.nd rfl rfl
       (ak (dP (p_ PySem.F.plainAttrs_list PySem.F.slot_list_append PySem.F.type_list_append wN (pv 4) (aa (aV FB hr (bR yb rfl rfl) (aa (pv 3) (aa (pv 2) ah))) ah))))
       (λ_=>ak (az (dm (aa (bW (aa (bg D.FE) (aa (y4 Z Z.fK (pv 5) rfl) (aa (y4 Z Z.fP (pv 5) rfl) ah)))) (aa (bW ah) ah)))))))
    (uh.zero (ak (az (dm (aa (bW ah) (aa (pv 4) ah)))))))))),?_⟩
   have lenD:ds.length=bs.length:=Paired.length hP;have tl:(h_ t).length=t.length:=by unfold h_;rw[Le]
   have bl:∀b:Bytes,(h_ b).length=b.length:=λb=>by unfold h_;rw[Le]
   have etx:(h_ t).map sg=tx t:=by
    unfold h_ tx;rw[LF];rfl
   have no:∀(zs:List Int) (H1:Hp) (L:Addr),ke t bs=.error zs->H1 L=none->∀F,(upd H1 L (.lst (zs.map V.int))) F=none->∀T,(upd (upd H1 L (.lst (zs.map V.int))) F (.lst [])) T=none->Q (.ref T) (upd (upd (upd H1 L (.lst (zs.map V.int))) F (.lst [])) T (.tup [.ref L,.ref F])):=λzs H1 L e hL F hF T hT=>by
    have nF:L≠F:=λz=>by rw[←z,ae] at hF;cases hF
    have nT:L≠T:=λz=>by rw[←z,aq nF,ae] at hT;cases hT
    have nT2:F≠T:=λz=>by rw[←z,ae] at hT;cases hT
    exact q0 zs e _ T L F ae (by rw[aq nT,aq nF];exact ae) (by rw[aq nT2];exact ae)
   unfold ke at no q1;refine (jC (aZ (ag rfl) (.inl hC)) aE) _ ?_;rw[aR,tl];refine gF (λh=>?_) (λh=>?_)
   · have h:65536 < t.length:=by have:=Ly h;omega
     rw[Lg (.inl h)] at no;exact n_ ⟨by show 1<=sizeLine;decide,λL hL=>⟨LJ _,λF hF=>⟨by show 2<=sizeLine;decide,λT hT=>no [-2] _ L rfl hL F hF T hT⟩⟩⟩
   have h1:¬65536 < t.length:=λz=>h (LU (by omega));refine⟨_,rfl,d,rfl,⟨_,hD⟩,λD0 hD0=>om (K:=K) (a:=d) (xs:=ds.map V.ref) (λi y _=>∃b,bs[i]?=some b/\y=.bl (decide (4096 < b.length))) (λi y H H' _ z=>z) hD hD0 (by rw[Le,lenD];omega) ?_ ?_⟩
   · rintro i v H' hi S _ R hR;obtain⟨ai,hai,rfl⟩:=jP hi;obtain⟨b,hb,hI⟩:=Paired.qK hP hai;refine⟨rfl,_,rfl,ai,_,rfl,.inl (S.seq hI),_,_,rfl,rfl,hR _ _ (au.refl _) ⟨b,hb,?_⟩⟩;rw[aR,bl];show V.bl (decide _)=V.bl (decide _);congr 1;rw[M0];omega
   rintro ys H1 S1 e1 l1 f1;have ey:ys=(bs.map λb=>decide (4096 < b.length)).map V.bl:=by
    refine wY (by rw[l1];simp[lenD]) λi y hy=>?_;obtain⟨b,hb,rfl⟩:=f1 i y hy;rw[Lj,Lj,hb];rfl
   subst ey;refine⟨D0,_,rfl,aU.of e1,_,rfl,?_⟩;have ea:(bs.map λb=>decide (4096 < b.length)).any id=bs.any λb=>decide (4096 < b.length):=by rw[ND];rfl
   rw[ea];refine gF (λh=>?_) (λh=>?_)
   · rw[Lg (.inr h)] at no;exact⟨by show 1<=sizeLine;decide,λL hL=>⟨LJ _,λF hF=>⟨by show 2<=sizeLine;decide,λT hT=>no [-2] _ L rfl hL F hF T hT⟩⟩⟩
   rw[Lf λz=>z.elim h1 h] at no q1;have small:∀b∈bs,b.length<=4096:=λb hb=>by
    have:¬4096 < b.length:=λz=>h (MR.mpr ⟨b,hb,LU z⟩);omega
   refine⟨_,rfl,c,h_ t,rfl,S1.seq hC,by omega,λhn H2 S2=>?_,λps hps H2 x S2 hPs=>?_⟩
   · rw[etx] at hn;rw[hn] at no;refine aX (aL (tT (ag rfl))) (λh=>?_) (λh=>absurd h (by decide));exact⟨by show 1<=sizeLine;decide,λL hL=>⟨LJ _,λF hF=>⟨by show 2<=sizeLine;decide,λT hT=>no [-8] _ L rfl hL F hF T hT⟩⟩⟩
   rw[etx] at hps;rw[hps] at no q1;have no:∀(zs:List Int) (H1:Hp) (L:Addr),(match readAll ps bs with
    |.error f=>(Except.error [-6,((f.kind:Nat):Int),((f.place:Nat):Int)]:Except (List Int) (List bP))
    |.ok ys=>.ok ys)=.error zs->_:=no
   have q1:∀ys,(match readAll ps bs with
    |.error f=>(Except.error [-6,((f.kind:Nat):Int),((f.place:Nat):Int)]:Except (List Int) (List bP))
    |.ok ys=>.ok ys)=.ok ys->_:=q1
   refine aX (aL (tT (ag rfl))) (λh=>absurd (Ly h) (by intro z;cases z)) (λh=>?_);refine⟨LJ _,λfo hfo=>?_⟩;have SH:au H H2:=S1.trans S2;have Sf:au H2 (upd H2 fo (.lst [])):=(au.refl H2).laid hfo;refine⟨_,rfl,d,rfl,⟨_,(SH.trans Sf).seq hD⟩,cZ (K:=K) (a:=d) (xs:=ds.map V.ref) (λi σ H'=>∃(v2:Option V) (xs:List Addr) (ys:List bP),σ=[some (.ref c),some (.ref d),v2,some (.ref x),some (.ref fo),none]/\au H2 H'/\H' fo=some (.lst (xs.map V.ref))/\readAll ps (bs.take i)=.ok ys/\Paired (t9 K CB CP CR ps H') xs ys)
    ⟨none,[],[],rfl,Sf,ae,rfl,.nil⟩ (λi σ H' _ ⟨_,_,_,_,S,_⟩=>(SH.trans S).seq hD) ?_ ?_⟩
   · rintro i v σ H3 hi ⟨v2,xs,ys,rfl,S3,e3,r3,hF3⟩;obtain⟨ai,hai,rfl⟩:=jP hi;obtain⟨b,hb,hI⟩:=Paired.qK hP hai;have hil:i < bs.length:=(Lr.mp hb).1;have hs:=small b (LH hb);have ed:bs=bs.take i++b::bs.drop (i+1):=by
      rw[←(Lr.mp hb).2,List.getElem_cons_drop,List.take_append_drop]
     refine⟨?_,?_⟩
     · refine⟨_,rfl,.inl ⟨rfl,_,aU.of e3⟩,_,rfl,_,rfl,ai,x,ps,b,rfl,(SH.trans S3).seq hI,hs,hPs.same S3,hfok t ps hps,λy hy=>Jv ⟨ps,y,hps,?_,rfl,rfl⟩,λy hy H4 xb p S4 hBt hpp=>?_⟩
       · rw[ed,jD r3];show (match (match dj ps b with
          |.error f=>(Except.error f:Except Fault (List bP))
          |.ok y=>match readAll ps (bs.drop (i+1)) with
           |.error f=>.error f
           |.ok ys=>.ok (y::ys)) with
          |.error f=>(Except.error f:Except Fault (List bP))
          |.ok zs=>.ok (ys++zs))=_
         rw[hy]
       · have lx:xs.length<=2:=by
          have z1:=Paired.length hF3;have z2:∀{l:List Bytes} {zs:List bP},readAll ps l=.ok zs->zs.length=l.length:=λ{l}=>by
           induction l with
           |nil=>intro zs h;injection h with h;subst h;rfl
           |cons b l ih =>
            intro zs h;have h:(match dj ps b with
             |.error f=>(Except.error f:Except Fault (List bP))
             |.ok y=>match readAll ps l with
              |.error f=>.error f
              |.ok ys=>.ok (y::ys))=.ok zs:=h
            cases hb:dj ps b with
            |error f=>rw[hb] at h;cases h
            |ok y =>
             rw[hb] at h;cases hl:readAll ps l with
             |error f=>rw[hl] at h;cases h
             |ok xs =>
              rw[hl] at h;injection h with h;subst h;rw[Lp,Lp,ih hl]
          have z3:=z2 r3;rw[LB] at z3;omega
         refine⟨fo,_,_,rfl,rfl,S4 _ _ e3,by rw[Le,LG];omega,λhK=>⟨some (.ref ai),xs++[xb],ys++[y],rfl,?_,by rw[ae,Lx];rfl,?_,?_⟩⟩
         · intro b' u z;rw[aq (ao z hfo)];exact S4 b' u (S3 b' u z)
         · rw[take_snoc hb,jD r3,nI,hy]
         · have old:Paired (t9 K CB CP CR ps H4) xs ys:=Paired.d8 hF3 λ_ _ ⟨p,z1,z2⟩=>⟨p,z1.same S4,z2⟩;have hi:JV H4 xs:=gy (λ_ _ ⟨p,⟨dx,_,_,_,z,_⟩,_⟩=>⟨_,dx,_,z⟩) old;exact gi (Paired.d8 old λ_ _ ⟨p,z1,z2⟩=>⟨p,yF hK (S4 _ _ e3) hi z1,z2⟩) (.cons ⟨p,yF hK (S4 _ _ e3) hi hBt,hpp⟩ .nil)
     · rintro σ' H' a dx k' p' ⟨ps',y,h1,h2,rfl,rfl⟩ hσ ha hdx;rw[hps] at h1;injection h1 with h1;subst h1;rw[h2] at no;refine⟨_,hσ,a,dx,_,_,rfl,ha,hdx,bT,_,hσ,a,dx,_,_,rfl,ha,hdx,(bb (by decide +kernel)).trans bT,by show 3<=sizeLine;decide,λL hL=>⟨LJ _,λF hF=>⟨by show 2<=sizeLine;decide,λT hT=>?_⟩⟩⟩;exact no [-6,((y.kind:Nat):Int),((y.place:Nat):Int)] _ L rfl hL F hF T hT
   · rintro σ H3 ⟨v2,xs,ys,rfl,S3,e3,r3,hF3⟩;rw[Le,lenD,Mb] at r3;rw[r3] at q1;refine⟨LJ _,λL hL=>⟨_,rfl,by show 2<=sizeLine;decide,λT hT=>?_⟩⟩;have S4:au H3 (upd H3 L (.lst [])):=(au.refl H3).laid hL;have S5:au (upd H3 L (.lst [])) (upd (upd H3 L (.lst [])) T (.tup [.ref L,.ref fo])):=(au.refl _).laid hT;exact q1 ys rfl _ T L fo xs ps ae (S5 _ _ ae) (S5 _ _ (S4 _ _ e3)) (Paired.d8 hF3 λ_ _ ⟨p,z1,z2⟩=>⟨p,z1.same (S4.trans S5),z2⟩) rfl
def vX (K:N4)(CB CP CR:Addr):Sp:=λvs H Q _=>∃(c d:Addr) (t b:Bytes),vs=[.ref c,.ref d]/\aU K H c (nV (h_ t))/\aU K H d (nV (h_ b)) /\
 (∀zs,fJ t b=.error zs->∀H' T L,H' T=some (.tup [.ref L,.cj])->H' L=some (.lst (zs.map V.int))->Q (.ref T) H') /\
 (∀y,fJ t b=.ok y->∀H' T L x p,H' T=some (.tup [.ref L,.ref x])->jS K CB CP CR H' x p y->(∃ps,dE (tx t)=some ps/\ps[y.pool]?=some p)->Q (.ref T) H')
theorem sA:aI ["card","bet","refusal","found"] ["card","bet"] (ax kg):=fs
theorem CT {CB CP CR:Addr}(G:GW mg){k:Nat}(FA:Fn P w K mg base bG k "look_at_all" ["card","bets"] (sT K CB CP CR)){f:Addr}{fd:FuncData}(F:dG K "look_at" "look_at" kg f fd):bc P w K mg base bG (k+1) f fd ["card","bet"] (vX K CB CP CR):=by
 refine F.ok sA (λvs H Q E h=>?_) (λcdv A outer s H vs Q E hr h=>?_)
 · obtain⟨_,_,_,_,rfl,_⟩:=h;rfl
 · obtain⟨c,d,t,b,rfl,hC,hB,q0,q1⟩:=h;refine⟨_,af (Bs (aV FA hr bf (aa (pv 0) (aa (bW (aa (pv 1) ah)) ah))) (lD rfl (b_ (aK (i:=2) sA.nd rfl (Or.inl rfl)) (b_ (aK (i:=3) sA.nd rfl (Or.inl rfl)) iW))))
    (af (aS (aC ck (aH aA (by rfl) G.len PySem.boot_len (aa (pv 3) ah)) aw (aM _)) (ak (az (dm (aa (pv 2) (aa cA ah))))) aD)
    (ak (az (dm (aa (pv 2) (aa (bq aQ (pv 3) aw (λ_ _=>rfl)) ah)))))),?_⟩
   refine⟨_,rfl,_,rfl,by show 1<=sizeLine;decide,λl hl=>?_⟩;have Sl:au H (upd H l (.lst [V.ref d])):=(au.refl H).laid hl;have e1:=uX (t:=t) (b:=b);refine⟨c,l,[d],t,[b],rfl,Sl.seq hC,aU.of ae,.cons (Sl.seq hB) .nil,by show 1<=2;decide,λzs hz H' T L F hT hL hF=>?_,λys hy H' T L F xs ps hT hL hF hP hps=>?_⟩
   · refine⟨T,_,rfl,bZ.of hT,rfl,_,_,rfl,_,_,rfl,rfl,?_⟩;refine aX (aL (b9 (aZ (ag rfl) (.inl (aU.of hF))) aE)) (λh=>?_) (λh=>absurd h (by decide));rw[e1] at hz;cases hm:fJ t b with
     |ok y=>rw[hm] at hz;cases hz
     |error z =>
      rw[hm] at hz;injection hz with hz;subst hz;refine⟨_,rfl,by show 2<=sizeLine;decide,λT2 hT2=>q0 z hm _ T2 L ae ?_⟩;rw[aq (ao hL hT2)];exact hL
   · rw[e1] at hy;cases hm:fJ t b with
     |error z=>rw[hm] at hy;cases hy
     |ok y =>
      rw[hm] at hy;injection hy with hy;subst hy;cases hP with
      |cons hx hn =>
       cases hn;rename_i x;obtain⟨p,hB',hpp⟩:=hx;refine⟨T,_,rfl,bZ.of hT,rfl,_,_,rfl,_,_,rfl,rfl,?_⟩;refine aX (aL (b9 (aZ (ag rfl) (.inl (aU.of hF))) aE)) (λh=>absurd h (by show ¬decide (V.int 1=V.int 0)=true;decide)) (λh=>?_);refine⟨_,rfl,(a_ (ag rfl) aE (aU.of hF) (v:=.ref x) rfl) _ ⟨by show 2<=sizeLine;decide,λT2 hT2=>q1 y hm _ T2 L x p ae (hB'.same ((au.refl H').laid hT2)) ⟨ps,hps,hpp⟩⟩⟩
end
section
variable {P:Program}{w:World}{K:N4}{mg:N6}{base:Heap}
theorem pP.mono {CX:lR} {C:Addr} {m:Str} {ps:List Str} {j k:Nat} {sp:Sp} (F:pP P w K mg base CX j C m ps sp) (h:j<=k):pP P w K mg base CX k C m ps sp:=by
 obtain⟨f,fd,hm,hb,F⟩:=F;exact⟨f,fd,hm,hb,F.mono h⟩
structure TopW (K:N4)(mg:N6):Prop where
 G:GW mg
 sign:g_ K mg "sign_of" kq
 text:g_ K mg "text_of" j8
 name:g_ K mg "is_name" j6
 num:g_ K mg "number_of" gQ
section
variable (T:TopW K mg)
include T
theorem TopW.D3:Fn P w K mg base bG 1 "number_of" ["word"] kM:=T.num.mk (λ_ _ _ _ _ _ us h=>match us,h with|[_],_=>rfl) λ_ _ F=>F5 T.G F
theorem TopW.Fi:Fn P w K mg base bG 1 "is_name" ["word"] lP:=T.name.mk (λ_ _ _ _ _ _ us h=>match us,h with|[_],_=>rfl) λ_ _ F=>zr T.G F
theorem TopW.Fu:Fn P w K mg base bG 2 "text_of" ["codes"] (tN K):=T.text.mk (λ_ _ _ _ _ _ us h=>match us,h with|[_],_=>rfl) λ_ _ F=>D_ (T.sign.mk (λ_ _ _ _ _ _ us h=>match us,h with|[_],_=>rfl) λ_ _ F=>D8 T.G F) F
end
theorem Di.mk {CX:lR}{C:Addr}{qual:Str}{st:Stmt}{ps:List Str}{k:Nat}{sp:Sp}(D:Di K C qual st)
  (hb:∀(kV doc pm:Value) (an:Option Addr) (cdv ct:Value) (us:N8),us.length=ps.length->bindArgs (PySem.W.fnOf "__init__" qual (cR st) (cx st) (ax st) .none kV doc pm an cdv ct) ⟨us,[]⟩=pure (ps.zip us))
  (ok:∀f fd,dG K "__init__" qual st f fd->bc P w K mg base CX k f fd ps sp):xQ P w K mg base CX k C ps sp:=by
 obtain⟨f,fd,hm,F⟩:=D;exact⟨f,fd,hm,F.binds hb,ok f fd F⟩
theorem xQ.mono {CX:lR}{C:Addr}{ps:List Str}{j k:Nat}{sp:Sp}(F:xQ P w K mg base CX j C ps sp)(h:j<=k):xQ P w K mg base CX k C ps sp:=by
 obtain⟨f,fd,hm,hb,F⟩:=F;exact⟨f,fd,hm,hb,F.mono h⟩
theorem Dm.mk {CX:lR}{C:Addr}{m qual:Str}{st:Stmt}{ps:List Str}{k:Nat}{sp:Sp}(D:Dm K C m qual st)
  (hb:∀(kV doc pm:Value) (an:Option Addr) (cdv ct:Value) (us:N8),us.length=ps.length->bindArgs (PySem.W.fnOf m qual (cR st) (cx st) (ax st) .none kV doc pm an cdv ct) ⟨us,[]⟩=pure (ps.zip us))
  (ok:∀f fd,dG K m qual st f fd->bc P w K mg base CX k f fd ps sp):pP P w K mg base CX k C m ps sp:=by
 obtain⟨f,fd,hm,F⟩:=D;exact⟨f,fd,hm,F.binds hb,ok f fd F⟩
structure TopC (P:Program)(w:World)(K:N4)(mg:N6)(dS aF CP:Addr):Prop where
 W:TopW K mg
 GC:GC P w K mg dS aF
 TP:CK K mg "Pool" gZ CP
 BV:Di K CP "Pool.__init__" gJ
 day:g_ K mg "is_day" lF
 HD:g_ K mg "has_pool_form" dR
 Bd:g_ K mg "are_terms_good" dz
 fields:g_ K mg "fields_of" gT
 pool:g_ K mg "read_pool" gX
 race:g_ K mg "read_race" fC
 pools:g_ K mg "read_pools" fU
 GU:g_ K mg "read_card" gU
theorem TopC.Jz {dS aF CP:Addr}(T:TopC P w K mg dS aF CP):Fn P w K mg base bG 6 "read_card" ["codes"] (xn K CP):=by
 have num:Fn P w K mg base bG 2 "number_of" ["word"] kM:=T.W.D3.mono (by decide);have day:Fn P w K mg base bG 2 "is_day" ["words"] (A1 K):=T.day.mk (λ_ _ _ _ _ _ us h=>match us,h with|[_],_=>rfl) λ_ _ F=>Hg T.W.G T.W.Fi F;have HD:Fn P w K mg base bG 2 "has_pool_form" ["words"] (wZ K):=T.HD.mk (λ_ _ _ _ _ _ us h=>match us,h with|[_],_=>rfl) λ_ _ F=>Eh T.W.G T.GC T.W.Fi F;have Bd:Fn P w K mg base bG 2 "are_terms_good" ["words"] (tG K):=T.Bd.mk (λ_ _ _ _ _ _ us h=>match us,h with|[_],_=>rfl) λ_ _ F=>AL T.W.D3 F;have fields:Fn P w K mg base bG 1 "fields_of" ["kind","size","race","races"] (pF K):=T.fields.mk (λ_ _ _ _ _ _ us h=>match us,h with|[_,_,_,_],_=>rfl) λ_ _ F=>Aa T.W.G T.GC F;have BV:xQ P w K mg base bG 1 CP ["self","name","kind","fields","unit"] (tm CP):=T.BV.mk (λ_ _ _ _ _ _ us h=>match us,h with|[_,_,_,_,_],_=>rfl) λ_ _ F=>Ca T.TP F;have pool:Fn P w K mg base bG 4 "read_pool" ["words","races"] (wU K CP):=T.pool.mk (λ_ _ _ _ _ _ us h=>match us,h with|[_,_],_=>rfl) λ_ _ F=>Ei T.W.G T.GC T.TP HD Bd num (fields.mono (by decide)) (BV.mono (by decide)) F;have race:Fn P w K mg base bG 2 "read_race" ["words"] (xN K):=T.race.mk (λ_ _ _ _ _ _ us h=>match us,h with|[_],_=>rfl) λ_ _ F=>EV T.W.G T.GC T.W.D3 F;have pools:Fn P w K mg base bG 5 "read_pools" ["lines","races"] (ug K CP):=T.pools.mk (λ_ _ _ _ _ _ us h=>match us,h with|[_,_],_=>rfl) λ_ _ F=>Bp T.W.G T.GC T.TP pool F;exact T.GU.mk (λ_ _ _ _ _ _ us h=>match us,h with|[_],_=>rfl) λ_ _ F=>DL T.W.G T.GC (T.W.Fu.mono (by decide)) (day.mono (by decide)) (race.mono (by decide)) pools F
structure xj (K:N4)(mg:N6)(aW CR:Addr):Prop where
 G:GW mg
 B:GB K mg aW
 N:GN mg
 TR:CK K mg "Rows" jy CR
 prod:g_ K mg "product_of" fZ
 JZ:g_ K mg "without" j_
 legs:g_ K mg "count_legs" fT
 Hn:g_ K mg "count_orders" eT
 Dq:g_ K mg "is_of" oa
 K5:g_ K mg "count_different" cW
 K8:g_ K mg "picks_of" iG
 cst:g_ K mg "count_starts" eJ
 IZ:Di K CR "Rows.__init__" gI
 start:Dm K CR "starting" "Rows.starting" dQ
 KY:g_ K mg "rows_on" j9
 J3:g_ K mg "rows_box" iH
 J1:g_ K mg "rows_key" iZ
 GH:g_ K mg "seatings" gp
 J8:g_ K mg "rows_of" jU
section
variable {aW CR:Addr}(T:xj K mg aW CR)
include T
theorem xj.Jw:Fn P w K mg base bG 1 "without" ["numbers","taken"] (tP K):=T.JZ.mk (λ_ _ _ _ _ _ us h=>match us,h with|[_,_],_=>rfl) λ_ _ F=>DG F
theorem xj.HK:pP P w K mg base bG 3 CR "starting" ["self","start"] (sY K CR):=by
 have Dq:Fn P w K mg base bG 1 "is_of" ["sets","start"] (ua K):=T.Dq.mk (λ_ _ _ _ _ _ us h=>match us,h with|[_,_],_=>rfl) λ_ _ F=>DN T.G T.N F;have legs:Fn P w K mg base bG 2 "count_legs" ["sets","start"] (iJ K kJ):=T.legs.mk (λ_ _ _ _ _ _ us h=>match us,h with|[_,_],_=>rfl) λ_ _ F=>DY T.G Dq (T.prod.mk (λ_ _ _ _ _ _ us h=>match us,h with|[_],_=>rfl) λ_ _ F=>DZ F) F;have Hn:Fn P w K mg base bG 2 "count_orders" ["sets","start"] (iJ K sy):=T.Hn.mk (λ_ _ _ _ _ _ us h=>match us,h with|[_,_],_=>rfl) λ_ _ F=>EA T.G T.N Dq (T.K5.mk (λ_ _ _ _ _ _ us h=>match us,h with|[_],_=>rfl) λ_ _ F=>Hb T.G T.B T.N F) T.Jw F;exact T.start.mk (λ_ _ _ _ _ _ us h=>match us,h with|[_,_],_=>rfl) λ_ _ F=>B3 T.N T.TR Hn legs F
theorem xj.wq:xQ P w K mg base bG 2 CR ["self","kind","grids"] (j1 K CR):=T.IZ.mk (λ_ _ _ _ _ _ us h=>match us,h with|[_,_,_],_=>rfl) λ_ _ F=>AX T.TR (T.cst.mk (λ_ _ _ _ _ _ us h=>match us,h with|[_],_=>rfl) λ_ _ F=>Gm T.G T.N F) (T.K8.mk (λ_ _ _ _ _ _ us h=>match us,h with|[_],_=>rfl) λ_ _ F=>Hx T.N F) F
theorem xj.Ko:Fn P w K mg base bG 4 "rows_on" ["kind","sets"] (qz K CR):=T.KY.mk (λ_ _ _ _ _ _ us h=>match us,h with|[_,_],_=>rfl) λ_ _ F=>G5 T.TR T.wq F
theorem xj.JM {CP:Addr}(TP:CK K mg "Pool" gZ CP):Fn P w K mg base bG 5 "rows_of" ["pool","how","sets"] (yE K CP CR):=by
 have GH:Fn P w K mg base bG 1 "seatings" ["size","bankers","others"] (xP K):=T.GH.mk (λ_ _ _ _ _ _ us h=>match us,h with|[_,_,_],_=>rfl) λ_ _ F=>DA T.N F;exact T.J8.mk (λ_ _ _ _ _ _ us h=>match us,h with|[_,_,_],_=>rfl) λ_ _ F=>GI T.G T.B TP T.Ko (T.J3.mk (λ_ _ _ _ _ _ us h=>match us,h with|[_,_,_],_=>rfl) λ_ _ F=>Ek T.N T.TR T.wq F) (T.J1.mk (λ_ _ _ _ _ _ us h=>match us,h with|[_,_,_,_],_=>rfl) λ_ _ F=>Ee T.TR (GH.mono (by decide)) T.wq F) F
end
structure ET (P:Program)(w:World)(K:N4)(mg:N6)(dS aF CP CW CB CF nF fI aW CR:Addr):Prop where
 C:TopC P w K mg dS aF CP
 N:xj K mg aW CR
 D:GD mg
 TW:CK K mg "Words" cq CW
 TB:CK K mg "Bet" rF CB
 Z:qm K CF nF fI
 mF:mg "Fault"=some (.ref CF)
 Gh:∃fd,dG K "__init__" "Fault.__init__" fO fI fd
 Gj:Di K CB "Bet.__init__" iY
 cost:Dm K CB "cost" "Bet.cost" jb
 xh:Di K CW "Words.__init__" fN
 take:Dm K CW "take" "Words.take" fY
 one:Dm K CW "take_one_of" "Words.take_one_of" cp
 fin:Dm K CW "finish" "Words.finish" ej
 stake:g_ K mg "take_stake" fW
 set:g_ K mg "take_set" iQ
 box:g_ K mg "take_box" iN
 key:g_ K mg "take_key" iO
 on:g_ K mg "take_on" kj
 sets:g_ K mg "take_sets" gW
 how:g_ K mg "take_how" iT
 pool:g_ K mg "take_pool" gS
 line:g_ K mg "check_line" fS
 words:g_ K mg "read_words" fX
 KA:g_ K mg "read_bet" i5
 Jf:g_ K mg "look_at_all" fj
 look:g_ K mg "look_at" kg
section
variable {dS aF CP CW CB CF nF fI aW CR:Addr}(T:ET P w K mg dS aF CP CW CB CF nF fI aW CR)
include T
theorem ET.Ht:Fn P w K mg base bG 9 "look_at_all" ["card","bets"] (sT K CB CP CR):=by
 have G:=T.C.W.G;have B:=T.N.B;have FL:Flt P w K mg base CF:=by
  obtain⟨fd,F⟩:=T.Gh;exact⟨nF,fI,fd,T.Z,F.binds (λ_ _ _ _ _ _ us h=>match us,h with|[_,_,_],_=>rfl),zz T.Z F,T.mF⟩
 have num:∀k,1<=k->Fn P w K mg base bG k "number_of" ["word"] kM:=λk hk=>T.C.W.D3.mono hk;have take:pP P w K mg base (fh P w CF) 3 CW "take" ["self"] (mU K CW CF):=T.take.mk (λ_ _ _ _ _ _ us h=>match us,h with|[_],_=>rfl) λ_ _ F=>DD G B T.TW FL F;have one:pP P w K mg base (fh P w CF) 4 CW "take_one_of" ["self","known"] (pC K CW CF):=T.one.mk (λ_ _ _ _ _ _ us h=>match us,h with|[_,_],_=>rfl) λ_ _ F=>FG B T.TW FL (by decide) take F;have fin:pP P w K mg base (fh P w CF) 3 CW "finish" ["self"] (AS K CW CF):=T.fin.mk (λ_ _ _ _ _ _ us h=>match us,h with|[_],_=>rfl) λ_ _ F=>He G B T.TW FL F;have stake:Fn P w K mg base (fh P w CF) 4 "take_stake" ["words","unit"] (tW K CW CF):=T.stake.mk (λ_ _ _ _ _ _ us h=>match us,h with|[_,_],_=>rfl) λ_ _ F=>AZ B T.TW FL (by decide) take (num 3 (by decide)) F;have set:Fn P w K mg base (fh P w CF) 4 "take_set" ["words","field"] (vp K CW CF):=T.set.mk (λ_ _ _ _ _ _ us h=>match us,h with|[_,_],_=>rfl) λ_ _ F=>Hs G B T.TW FL (by decide) take (num 3 (by decide)) F;have box:Fn P w K mg base (fh P w CF) 5 "take_box" ["words","field","size"] (BP K CW CF):=T.box.mk (λ_ _ _ _ _ _ us h=>match us,h with|[_,_,_],_=>rfl) λ_ _ F=>HH G B T.TW FL (by decide) set F;have key:Fn P w K mg base (fh P w CF) 5 "take_key" ["words","field","size"] (AN K CW CF):=T.key.mk (λ_ _ _ _ _ _ us h=>match us,h with|[_,_,_],_=>rfl) λ_ _ F=>FY G B T.TW FL (by decide) set one F;have on:Fn P w K mg base (fh P w CF) 5 "take_on" ["words","fields"] (FQ K CW CF):=T.on.mk (λ_ _ _ _ _ _ us h=>match us,h with|[_,_],_=>rfl) λ_ _ F=>Ip G B T.TW FL (by decide) set one F;have sets:Fn P w K mg base (fh P w CF) 6 "take_sets" ["words","pool","how"] (xC K CW CF CP):=T.sets.mk (λ_ _ _ _ _ _ us h=>match us,h with|[_,_,_],_=>rfl) λ_ _ F=>Dy G B T.C.TP on box key F;have how:Fn P w K mg base (fh P w CF) 5 "take_how" ["words","pool"] (A4 K CW CF CP):=T.how.mk (λ_ _ _ _ _ _ us h=>match us,h with|[_,_],_=>rfl) λ_ _ F=>Hy B T.TW T.C.TP one F;have pool:Fn P w K mg base (fh P w CF) 4 "take_pool" ["pools","words"] (tQ K CW CF CP):=T.pool.mk (λ_ _ _ _ _ _ us h=>match us,h with|[_,_],_=>rfl) λ_ _ F=>AB B T.TW T.C.TP FL (by decide) take F;have line:Fn P w K mg base (fh P w CF) 3 "check_line" ["line"] (vW K CF):=T.line.mk (λ_ _ _ _ _ _ us h=>match us,h with|[_],_=>rfl) λ_ _ F=>De G B FL F;have Gj:xQ P w K mg base bG 4 CB ["self","pool","pool_number","how","stake","sets","rows"] (vZ K CB CR):=T.Gj.mk (λ_ _ _ _ _ _ us h=>match us,h with|[_,_,_,_,_,_,_],_=>rfl) λ_ _ F=>EC T.TB T.N.TR T.N.HK F;have xh:xQ P w K mg base bG 1 CW ["self","line"] (ql K CW):=T.xh.mk (λ_ _ _ _ _ _ us h=>match us,h with|[_,_],_=>rfl) λ_ _ F=>zD G T.TW F;have J8:Fn P w K mg base bG 6 "rows_of" ["pool","how","sets"] (yE K CP CR):=(T.N.JM T.C.TP).mono (by decide);have cost:pP P w K mg base bG 6 CB "cost" ["self"] (pW K CB CP CR):=(T.cost.mk (λ_ _ _ _ _ _ us h=>match us,h with|[_],_=>rfl) λ_ _ F=>CZ T.TB F:pP P w K mg base bG 1 CB "cost" ["self"] (pW K CB CP CR)).mono (by decide);have words:Fn P w K mg base (fh P w CF) 7 "read_words" ["pools","words"] (xR K CW CF CB CP CR):=T.words.mk (λ_ _ _ _ _ _ us h=>match us,h with|[_,_],_=>rfl) λ_ _ F=>C8 B T.TW T.C.TP T.TB FL (k:=6) (by decide) (one.mono (by decide)) (pool.mono (by decide)) (stake.mono (by decide)) (how.mono (by decide)) sets Gj (fin.mono (by decide)) J8 cost F;have KA:Fn P w K mg base (fh P w CF) 8 "read_bet" ["pools","codes"] (BA K CF CB CP CR):=T.KA.mk (λ_ _ _ _ _ _ us h=>match us,h with|[_,_],_=>rfl) λ_ _ F=>Hw G B T.TW FL (k:=7) (by decide) (line.mono (by decide)) words (T.C.W.Fu.mono (by decide)) xh F;exact T.Jf.mk (λ_ _ _ _ _ _ us h=>match us,h with|[_,_],_=>rfl) λ_ _ F=>AQ A5 G B T.D T.Z T.mF (k:=8) (T.C.Jz.mono (by decide)) KA F
theorem ET.Ii:Fn P w K mg base bG 10 "look_at" ["card","bet"] (vX K CB CP CR):=T.look.mk (λ_ _ _ _ _ _ us h=>match us,h with|[_,_],_=>rfl) λ_ _ F=>CT T.C.W.G T.Ht F
end
end
theorem CC {u:Value}{v:V}(r:Cu u=some v):RelV v u:=by
 cases u <;> cases r <;> first|rfl|exact⟨_,rfl⟩
theorem yu:∀{us:N8} {vs:List V},us.map Cu=vs.map some->Vals vs us
 |[],[],_=>.nil
 |[],_::_,h=>by cases h
 |_::_,[],h=>by cases h
 |u::us,v::vs,h=>by
  rw[Lv,Lv] at h;injection h with h1 h2;exact .cons (CC h1) (yu h2)
section
variable {P:Program}{w:World}{K:N4}{mg:N6}{h:Heap}{x m qual:Str}{st:Stmt}{f C:Addr}{u:Value}{v:V}{fs:List Str}
 {oc kV dc pm cd ct:Value}{od an:Option Addr}{sl:Array (Option Value)}
theorem dB (X:K.In h) (G:h.Ns mainGlobals mg) (e:PySem.W.nsIn K mainGlobals x=some none:=by k_is):mg x=none:=by
 obtain⟨o,es,ep,ho,hd,_,hf⟩:=G;rw[←hf x];have z:=sX e;unfold CQ at z;cases q:K.lookup mainGlobals with
 |none =>
  unfold PySem.W.nsIn at e;rw[q] at e;cases e
 |some o' =>
  have:=X _ _ q;rw[ho] at this;cases this;obtain⟨c,d,dt,sl⟩:=o;cases hd;rw[q] at z;exact z
theorem gv (X:K.In h)(G:h.Ns mainGlobals mg)(e:PySem.W.nsIn K mainGlobals x=some (some u):=by k_is)(r:Cu u=some v:=by first|rfl|decide +kernel):Gv mg x v:=⟨u,PySem.W.mg_of X G e,CC r⟩
theorem a8 (X:K.In h)(G:h.Ns mainGlobals mg)(a:PySem.W.nsIn K mainGlobals x=some (some (.ref f)):=by k_is)(l:K.lookup f=some ⟨oc,od,.func (PySem.W.fnOf x x (cR st) (cx st) (ax st) .none kV dc pm an cd ct),sl⟩:=by k_is)
  (c:PySem.W.codeIn K cd x=true:=by k_is)(k:PySem.W.keepIn K (.ref f)=true:=by k_is):g_ K mg x st:=⟨f,_,PySem.W.mg_of X G a,sW l c k⟩
theorem uW (a:PySem.W.findIn K (.ref C) m=some (some (.ref f)):=by k_is)(i:PySem.W.isFn K (.ref f)=true:=by k_is)(l:K.lookup f=some ⟨oc,od,.func (PySem.W.fnOf m qual (cR st) (cx st) (ax st) .none kV dc pm an cd ct),sl⟩:=by k_is)
  (c:PySem.W.codeIn K cd qual=true:=by k_is)(k:PySem.W.keepIn K (.ref f)=true:=by k_is):Dm K C m qual st:=⟨f,_,⟨a,i,k⟩,sW l c k⟩
theorem yV (mk:PySem.W.makesIn K C=true:=by k_is)(kc:PySem.W.keepIn K (.ref C)=true:=by k_is)(a:PySem.W.findIn K (.ref C) "__init__"=some (some (.ref f)):=by k_is)(i:PySem.W.isFn K (.ref f)=true:=by k_is)(l:K.lookup f=some ⟨oc,od,.func (PySem.W.fnOf "__init__" qual (cR st) (cx st) (ax st) .none kV dc pm an cd ct),sl⟩:=by k_is)
  (c:PySem.W.codeIn K cd qual=true:=by k_is)(k:PySem.W.keepIn K (.ref f)=true:=by k_is):Di K C qual st:=⟨f,_,⟨mk,a,i,kc⟩,sW l c k⟩
theorem Js (l:K.lookup f=some ⟨oc,od,.func (PySem.W.fnOf "__init__" qual (cR st) (cx st) (ax st) .none kV dc pm an cd ct),sl⟩:=by k_is)
  (c:PySem.W.codeIn K cd qual=true:=by k_is)(k:PySem.W.keepIn K (.ref f)=true:=by k_is):∃fd,dG K "__init__" qual st f fd:=⟨_,sW l c k⟩
def nS (K:N4)(C:Addr)(fs:List Str):Prop:=∀f∈fs,gY K C f
theorem nS.nil:nS K C []:=λ_ h=>by cases h
theorem nS.cons {g:Str}(n:PySem.W.findIn K (.ref C) g=some none)(r:nS K C fs):nS K C (g::fs):=λf h=>by
 cases h with
 |head=>exact n
 |tail _ h=>exact r f h
theorem y8 (X:K.In h)(G:h.Ns mainGlobals mg)(a:PySem.W.nsIn K mainGlobals x=some (some (.ref C)):=by k_is)(pg:PySem.W.plainGet K C Str.empty=true:=by k_is)(hd:PySem.W.hasDictIn K C=true:=by k_is)(po:PySem.W.plainOver K C=true:=by k_is)
  (sa:PySem.W.findIn K (.ref C) "__setattr__"=some (some (.builtin "object.__setattr__")):=by k_is)(no:nS K C fs:=by (repeat refine Bw.nS.cons (by k_is) ?_);exact Bw.nS.nil):CK K mg x fs C:=⟨⟨pg,hd,po,sa⟩,no,PySem.W.mg_of X G a⟩
theorem fg {a:Addr}{its:Array Value}{n:Nat}{xs:List V}(l:K.lookup a=some ⟨.type "tuple",od,.seq its n,sl⟩:=by k_is)(hs:its.size<=sizeLine:=by decide)(r:its.toList.map Cu=xs.map some:=by first|rfl|decide +kernel):∀H:Hp,bZ K H a xs:=λ_ =>
 .inr ⟨_,its,n,l,rfl,rfl,hs,yu r⟩
theorem DH {a:Addr}{o:Obj}(l:K.lookup a=some o:=by k_is)(c:o.cls=.type "tuple":=by rfl)(d:o.dict=none:=by rfl):∃o,K.lookup a=some o/\o.cls=.type "tuple"/\o.dict=none:=⟨o,l,c,d⟩
theorem key_is {s:String}{t:Tok}:pb (.inr (Bw.st (Bw.cd s))) (.str (Str.ofString s) t)=true:=by rw[←kI];exact sk _ _
theorem yH {s:String}:PyData.keyHash w.params (Str.ofString s)=Ia w (.inr (Bw.st (Bw.cd s))):=by rw[←kI];rfl
theorem Bg {dS d1 d2 d3 d4:Addr}{t1 t2 t3 t4:Tok}{ep:Nat}(l:K.lookup dS=some ⟨.type "dict",none,.dict #[⟨PyData.keyHash w.params (Str.ofString "place"),.str (Str.ofString "place") t1,.ref d1⟩,⟨PyData.keyHash w.params (Str.ofString "order"),.str (Str.ofString "order") t2,.ref d2⟩,
      ⟨PyData.keyHash w.params (Str.ofString "any"),.str (Str.ofString "any") t3,.ref d3⟩,⟨PyData.keyHash w.params (Str.ofString "legs"),.str (Str.ofString "legs") t4,.ref d4⟩] ep,#[]⟩:=by k_is) (ne:(dS==sysModules)=false:=by decide)
  (h1:∀H,bZ K H d1 [.int 1,.int 4]:=by exact Bw.fg) (h2:∀H,bZ K H d2 [.int 2,.int 4]:=by exact Bw.fg) (h3:∀H,bZ K H d3 [.int 2,.int 3]:=by exact Bw.fg) (h4:∀H,bZ K H d4 [.int 2,.int 6]:=by exact Bw.fg) :
  ∃ts:Tote.Kind->Addr,yc P w K dS [(.inr (Bw.st (Bw.cd "place")),.ref (ts .place)),(.inr (Bw.st (Bw.cd "order")),.ref (ts .order)),(.inr (Bw.st (Bw.cd "any")),.ref (ts .any)),(.inr (Bw.st (Bw.cd "legs")),.ref (ts .legs))]/\∀(k:Tote.Kind) (H:Hp),bZ K H (ts k) [.int (sizeOf k).1,.int (sizeOf k).2]:=by
 have nd:([.inr (Bw.st (Bw.cd "place")),.inr (Bw.st (Bw.cd "order")),.inr (Bw.st (Bw.cd "any")),.inr (Bw.st (Bw.cd "legs"))]:List Key).Nodup:=by decide +kernel
 refine⟨fun|.place=>d1|.order=>d2|.any=>d3|.legs=>d4,⟨λh X=>⟨_,_,ep,X _ _ l,⟨rfl,rfl,rfl⟩,rfl,λe he=>?_,.cons (key_is (t:=t1)) rfl (.cons (key_is (t:=t2)) rfl (.cons (key_is (t:=t3)) rfl (.cons (key_is (t:=t4)) rfl .nil))),nd⟩,ne⟩,λk=>?_⟩
 · simp only[List.mem_toArray,Li,M1,or_false] at he;rcases he with rfl|rfl|rfl|rfl
   · exact⟨.inr (Bw.st (Bw.cd "place")),key_is (s:="place") (t:=t1),yH (w:=w) (s:="place")⟩
   · exact⟨.inr (Bw.st (Bw.cd "order")),key_is (s:="order") (t:=t2),yH (w:=w) (s:="order")⟩
   · exact⟨.inr (Bw.st (Bw.cd "any")),key_is (s:="any") (t:=t3),yH (w:=w) (s:="any")⟩
   · exact⟨.inr (Bw.st (Bw.cd "legs")),key_is (s:="legs") (t:=t4),yH (w:=w) (s:="legs")⟩
 · cases k
   · exact h1
   · exact h2
   · exact h3
   · exact h4
theorem Be {aF t0 t1 t2 t3 t4 t5 t6:Addr}(l:∀H,bZ K H aF [.ref t0,.ref t1,.ref t2,.ref t3,.ref t4,.ref t5,.ref t6]:=by exact Bw.fg)(h0:∀H,bZ K H t0 [.int 0,.str (Str.ofString "pool")]:=by exact Bw.fg)(h1:∀H,bZ K H t1 [.int 4,.str (Str.ofString "from")]:=by exact Bw.fg)
  (h2:∀H,bZ K H t2 [.int 6,.str (Str.ofString "take")]:=by exact Bw.fg)(h3:∀H,bZ K H t3 [.int 8,.str (Str.ofString "break")]:=by exact Bw.fg)(h4:∀H,bZ K H t4 [.int 10,.str (Str.ofString "least")]:=by exact Bw.fg)(h5:∀H,bZ K H t5 [.int 12,.str (Str.ofString "unit")]:=by exact Bw.fg)(h6:∀H,bZ K H t6 [.int 14,.str (Str.ofString "none")]:=by exact Bw.fg) :
  ∃ts:List Addr,(∀H,bZ K H aF (ts.map V.ref))/\Paired (λt (p:Nat×W)=>∀H,bZ K H t [.int (p.1:Nat),.str (Bw.st p.2)]) ts fb:=by
 rw[kI] at h0 h1 h2 h3 h4 h5 h6;exact⟨[t0,t1,t2,t3,t4,t5,t6],l,.cons h0 (.cons h1 (.cons h2 (.cons h3 (.cons h4 (.cons h5 (.cons h6 .nil))))))⟩
theorem C6 {N:Addr}{es:Array DictEntry}{ep:Nat}(l:K.lookup N=some ⟨oc,od,.dict es ep,sl⟩:=by k_is)(e:(es.toList.all λe=>match e.key with
  |.str _ _=>true
  |_=>false)=true:=by rfl):iF K N=true:=by
 unfold iF;rw[l];exact e
theorem Ho {N fI:Addr}{nm q:Str}{bs:N8}{sn:List Str}{sub:N8}{ab:Bool}{col:Option Bool}{dd:Option Addr}{k0 k1 k2 k3 k5:Option Value}(l:K.lookup C=some (excClassObj nm q C N bs BwX.rN true sn sub ab col dd k0 k1 k2 k3 k5 "Exception.__new__"):=by k_is)
  (keys:iF K N=true:=by exact Bw.C6)(init:PySem.W.nsIn K N "__init__"=some (some (.ref fI)):=by k_is)(fn:PySem.W.isFn K (.ref fI)=true:=by k_is)(kp:PySem.W.keepIn K (.ref C)=true:=by k_is)(AF:PySem.W.nsIn K N "__setattr__"=some none:=by k_is)(J4:PySem.W.nsIn K N "kind"=some none:=by k_is)(J7:PySem.W.nsIn K N "place"=some none:=by k_is)
  (sa:PySem.W.findIn K (.ref C) "__setattr__"=some (some (.builtin "object.__setattr__")):=by k_is)(ga:PySem.W.findIn K (.ref C) "__getattribute__"=some (some (.builtin "BaseException.__getattribute__")):=by k_is)(gt:PySem.W.findIn K (.ref C) "__getattr__"=some none:=by k_is)(fK:PySem.W.findIn K (.ref C) "kind"=some none:=by k_is)(fP:PySem.W.findIn K (.ref C) "place"=some none:=by k_is):qm K C N fI :=
 ⟨⟨_,l,nm,q,bs,sn,sub,ab,col,dd,k0,k1,k2,k3,k5,rfl⟩,keys,init,fn,kp,AF,J4,J7,sa,ga,gt,fK,fP⟩
end
theorem ve {l:List Int}(h:∀i∈l,0<=i/\i<=255):nV (h_ (BetNeutral.text l))=l.map V.int:=by
 unfold nV h_ BetNeutral.text BetNeutral.nats;rw[LF,LF,LF];refine L8 λi hi=>?_;obtain⟨h1,h2⟩:=h i hi;show V.int (((UInt8.ofNat i.toNat).toNat:Nat):Int)=V.int i;have e:(UInt8.ofNat i.toNat).toNat=i.toNat:=by
  rw[UInt8.toNat_ofNat'];omega
 rw[e];congr 1;omega
theorem uI {l:List Int}(h:l.all (PySem.W.Codec.inInt (Int.ofNat 0) (Int.ofNat 255))=true):∀i∈l,0<=i/\i<=255:=λi hi=>by
 have z:=LI.mp h i hi;unfold PySem.W.Codec.inInt at z;simp only[Ll,Lm] at z;exact⟨z.1,z.2⟩
section
variable {K:N4}{H:Hp}{xs:List V}{a b:List Int}
theorem Kv {lo hi lo2 hi2:Nat} (hx:ib K H xs (PySem.W.Codec.encAll [.list lo hi (.int (Int.ofNat 0) (Int.ofNat 255)),.list lo2 hi2 (.int (Int.ofNat 0) (Int.ofNat 255))] ((a,b,()):List Int×List Int×Unit)))
  (hwi:PySem.W.Codec.withinAll [.list lo hi (.int (Int.ofNat 0) (Int.ofNat 255)),.list lo2 hi2 (.int (Int.ofNat 0) (Int.ofNat 255))] ((a,b,()):List Int×List Int×Unit)=true) :
  ∃c d,xs=[.ref c,.ref d]/\aU K H c (nV (h_ (BetNeutral.text a)))/\aU K H d (nV (h_ (BetNeutral.text b))):=by
 have w:((PySem.W.Codec.inLen lo hi a&&a.all (PySem.W.Codec.inInt (Int.ofNat 0) (Int.ofNat 255)))&&((PySem.W.Codec.inLen lo2 hi2 b&&b.all (PySem.W.Codec.inInt (Int.ofNat 0) (Int.ofNat 255)))&&true))=true:=hwi;simp only[Ll] at w;cases hx with
 |cons h1 h2 =>
  cases h2 with
  |cons h2 h3 =>
   cases h3;cases h1 with
   |lst hs ha =>
    cases h2 with
    |lst hs2 ha2 =>
     have e:=L2.sU a _ ha;have e2:=L2.sU b _ ha2;subst e e2;exact⟨_,_,rfl,by rw[ve (uI w.1.2)];exact hs,by rw[ve (uI w.2.1.2)];exact hs2⟩
end
def Ki (P:Program)(w:World)(mg:N6){K:N4}{h:Heap}(_:K.In h):Prop:=∃dS aF CP CW CB CF nF fI aW CR,ET P w K mg dS aF CP CW CB CF nF fI aW CR
def Kl (mg:N6){K:N4}{h:Heap}(_:K.In h)(x:Str)(st:Stmt):Prop:=g_ K mg x st
section
variable {P:Program}{w:World}{K:N4}{mg:N6}{fa:Addr}{x:Str}{st:Stmt}{ps:List Str}{k:Nat}{sp:Sp}
theorem HL (D:g_ K mg x st) (hmg:mg x=some (.ref fa))
  (hb:∀(kV doc pm:Value) (an:Option Addr) (cdv ct:Value) (us:N8),us.length=ps.length->bindArgs (PySem.W.fnOf x x (cR st) (cx st) (ax st) .none kV doc pm an cdv ct) ⟨us,[]⟩=pure (ps.zip us))
  (ok:∀(base:Heap) (f:Addr) (fd:FuncData),dG K x x st f fd->bc P w K mg base bG k f fd ps sp) :
  ∃fd:FuncData,(∀(s:Shared) (us:N8),us.length=ps.length->BindsTo s fd ⟨us,[]⟩ (ps.zip us))/\∀base:Heap,K.In base->base.Ns mainGlobals mg->bc P w K mg base bG k fa fd ps sp:=by
 obtain⟨f,fd,hm,F⟩:=D;rw[hmg] at hm;cases hm;obtain⟨oc,od,kV,doc,pm,an,cdv,ct,osl,rfl,lk,hcd⟩:=id F.ex;exact⟨_,λs us hu=>.of_eq (hb _ _ _ _ _ _ us hu),λbase _ _=>ok base _ _ F⟩
end
section
variable {P:Program}{w:World}{K:N4}{mg:N6}{base:Heap}
def Im (K:N4) (g:bP->aO->List Int):Sp:=λvs H Q _=>∃(c d:Addr) (t b:Bytes),vs=[.ref c,.ref d]/\aU K H c (nV (h_ t))/\aU K H d (nV (h_ b))/\∀zs,Rs t b g zs->∀H' L,H' L=some (.lst (zs.map V.int))->Q (.ref L) H'
theorem sL:aI ["card","bet","refusal","found"] ["card","bet"] (ax jM):=fs
theorem BE {CB CP CR:Addr}(TB:CK K mg "Bet" rF CB){k:Nat}(FL:Fn P w K mg base bG k "look_at" ["card","bet"] (vX K CB CP CR)){f:Addr}{fd:FuncData}(F:dG K "many" "many" jM f fd):bc P w K mg base bG (k+1) f fd ["card","bet"] (Im K Bn):=by
 refine F.ok sL (λvs H Q E h=>?_) (λcdv A outer s H vs Q E hr h=>?_)
 · obtain⟨_,_,_,_,rfl,_⟩:=h;rfl
 · obtain⟨c,d,t,b,rfl,hC,hB,q⟩:=h;refine⟨_,af (Bs (aV FL hr bf (aa (pv 0) (aa (pv 1) ah))) (lD rfl (b_ (aK (i:=2) sL.nd rfl (Or.inl rfl)) (b_ (aK (i:=3) sL.nd rfl (Or.inl rfl)) iW))))
    (af (aS (aC uc (pv 3) cA (aM _)) (ak (az (cJ fk (pv 2) ft (cT aw)))) aD)
    (ak (az (bW (aa aw (aa (a7 (pv 3) rfl) ah)))))),?_⟩
   refine⟨_,rfl,_,rfl,c,d,t,b,rfl,hC,hB,λzs hz H' T L hT hL=>?_,λy hy H' T L x p hT hB' hp=>?_⟩
   · refine⟨T,_,rfl,bZ.of hT,rfl,_,_,rfl,_,_,rfl,rfl,?_⟩;refine aX (aL (tT (ag rfl))) (λh=>?_) (λh=>absurd h (by decide));refine⟨_,rfl,_,rfl,L,_,rfl,aU.of hL,λp hp=>?_⟩;rw[show ((1:Int))=((1:Nat):Int) from rfl,DQ];exact q _ (.inl ⟨zs,hz,rfl⟩) _ p ae
   · refine⟨T,_,rfl,bZ.of hT,rfl,_,_,rfl,_,_,rfl,rfl,?_⟩;refine aX (aL (tT (ag rfl))) (λh=>absurd (Ly h) (by intro z;cases z)) (λh=>?_);obtain⟨ps,hps,hpp⟩:=hp;obtain⟨dx,pa,sa,ra,h1,h2,h3,_,h4,m⟩:=hB';refine (bo (ag rfl) h1 TB.cl (TB.no _ (by simp)) nc) _ ⟨by show 2<=sizeLine;decide,λL' hL'=>?_⟩;exact q _ (.inr ⟨y,ps,p,hy,hps,hpp,m,rfl⟩) _ L' ae
end
end Bw
end
set_option Elab.async false
set_option linter.all false
set_option maxRecDepth 100000
open PySem PySem.W PyProof.Rows
set_option maxHeartbeats 0 in
theorem PySem.Challenge.cw_betwords_s03_many_holds : PySem.Challenge.rw_betwords_s03_many.Holds := by
 refine holds_os (r:=PySem.Challenge.rw_betwords_s03_many) (q:=Bw.qV) (loose:=Bw.lV) (Xt:=Bw.xV) (XP:=XL Bw.qV []) (Yf:=(PySem.W.kHook Bw.nX Bw.Am Bw.Au).obs) (Ya:=(PySem.W.kHook Bw.nX Bw.Am Bw.Au).val) (YP:=(PySem.W.kHook Bw.nX Bw.Am Bw.Au).says) (d:=Bw.dV) (kwd:=[]) (N:=5200) Bw.hl (PySem.W.kHook Bw.nX Bw.Am Bw.Au).of (PySem.W.kHook Bw.nX Bw.Am Bw.Au).keeps (λs e=>xl_of s (NO.mp e).1) XL.keeps (by kernel_rfl) (by kernel_rfl) (by kernel_rfl) (λs e=>recFacts_of (NO.mp e).2) os_shapes (by decide +kernel) (by decide +kernel) ⟨rfl,rfl,rfl,rfl,rfl,by decide +kernel⟩ ⟨[.list [],.list []],by decide +kernel,by decide +kernel⟩ ?_
 k_fillS
 refine L2.w8 (r:=PySem.Challenge.rw_betwords_s03_many) (k:=11) (CX:=L2.bG) (ps:=["card","bet"]) (sp:=(λK=>Bw.Im K Bw.Bn)) (by decide +kernel) rfl rfl ⟨rfl,by decide,by decide⟩ (λw h Y=>kIn_of Y) ?F ?S (λ_ _ _ _ z=>z)
 case F =>
  intro w mg fa h Y KX G hmg;have gw:Bw.GW mg:=⟨Bw.gv KX G,Bw.gv KX G,Bw.gv KX G,Bw.gv KX G,Bw.dB KX G,Bw.dB KX G,Bw.dB KX G⟩;have T:Bw.Ki PySem.Challenge.rw_betwords_s03_many.prog w mg KX:=⟨46,58,75,324,282,255,254,252,238,209,⟨⟨⟨gw,Bw.a8 KX G,Bw.a8 KX G,Bw.a8 KX G,Bw.a8 KX G⟩,⟨Bw.gv KX G,Bw.gv KX G,Bw.gv KX G,Bw.gv KX G,Bw.gv KX G,Bw.gv KX G,Bw.gv KX G,Bw.Bg,Bw.Be,Bw.dB KX G⟩,Bw.y8 KX G,Bw.yV,Bw.a8 KX G,Bw.a8 KX G,Bw.a8 KX G,Bw.a8 KX G,Bw.a8 KX G,Bw.a8 KX G,Bw.a8 KX G,Bw.a8 KX G⟩,
    ⟨gw,⟨Bw.gv KX G,Bw.gv KX G,Bw.gv KX G,Bw.gv KX G,Bw.gv KX G,Bw.gv KX G,Bw.gv KX G,Bw.gv KX G,Bw.gv KX G,Bw.gv KX G,Bw.gv KX G,Bw.gv KX G,Bw.gv KX G,Bw.gv KX G,Bw.gv KX G,Bw.fg,Bw.DH,Bw.dB KX G,Bw.dB KX G⟩,⟨Bw.dB KX G,Bw.dB KX G,Bw.dB KX G,Bw.dB KX G,Bw.dB KX G,Bw.gv KX G,Bw.dB KX G,Bw.dB KX G⟩,Bw.y8 KX G,Bw.a8 KX G,Bw.a8 KX G,Bw.a8 KX G,Bw.a8 KX G,Bw.a8 KX G,Bw.a8 KX G,Bw.a8 KX G,Bw.a8 KX G,Bw.yV,Bw.uW,Bw.a8 KX G,Bw.a8 KX G,Bw.a8 KX G,Bw.a8 KX G,Bw.a8 KX G⟩,
    ⟨Bw.gv KX G,Bw.gv KX G,Bw.gv KX G,Bw.gv KX G,Bw.gv KX G⟩,Bw.y8 KX G,Bw.y8 KX G,Bw.Ho,mg_of KX G (by k_is),Bw.Js,Bw.yV,Bw.uW,Bw.yV,Bw.uW,Bw.uW,Bw.uW,Bw.a8 KX G,Bw.a8 KX G,Bw.a8 KX G,Bw.a8 KX G,Bw.a8 KX G,Bw.a8 KX G,Bw.a8 KX G,Bw.a8 KX G,Bw.a8 KX G,Bw.a8 KX G,Bw.a8 KX G,Bw.a8 KX G,Bw.a8 KX G⟩⟩
  have J:Bw.Kl mg KX "many" Bw.jM:=Bw.a8 KX G;obtain⟨dS,aF,CP,CW,CB,CF,nF,fI,aW,CR,T⟩:=T;exact Bw.HL J hmg (λ_ _ _ _ _ _ us h=>match us,h with|[_,_],_=>rfl) (λbase f fd F=>Bw.BE T.TB T.Ii F)
 case S =>
  intro K H xs a hO hwi hask hx;obtain⟨c,d,rfl,hc,hd⟩:=Bw.Kv (a:=a.1) (b:=a.2.1) hx hwi;refine⟨c,d,_,_,rfl,hc,hd,λzs hz H' L hL=>?_⟩;rw[Bw.B0 hz] at hL;exact .lst (L2.aU.of hL) (L2.yj _)
