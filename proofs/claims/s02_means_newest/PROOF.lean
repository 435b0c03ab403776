import PyProof.Rows.All
import KE.KDictList
import KE.KIntText
import Open.SpecLaws
import KE.KStateDown
import KE.OsHead
import Wide.FinOn
import KE.BitLaws
import PyWqaqcl
import PySem.Challenge.RW_betwords_s02_means
section
set_option Elab.async false
section
set_option autoImplicit false
open PySem PySem.Spec PyProof.Rows
abbrev XG:=@wpAny_bind
abbrev XH:=@List.length_map
abbrev XI:=@if_neg
abbrev XJ:=@if_pos
abbrev XM:=@Heap.get?_push_of_some
abbrev XN:=@List.mem_cons
abbrev XO:=@List.getElem?_map
abbrev XQ:=@wpAny_pure
abbrev XR:=@Bool.and_eq_true
abbrev XS:=@decide_eq_true_eq
abbrev XT:=@Nat.le_refl
abbrev XU:=@List.getElem?_eq_getElem
abbrev XW:=@List.length_cons
abbrev XX:=@Heap.lt_size
abbrev XY:=@List.getElem?_eq_some_iff
abbrev XZ:=@List.mem_singleton
abbrev X0:=@Heap.get?_push_size
abbrev X1:=@List.map_cons
abbrev X2:=@List.mem_cons_of_mem
abbrev X3:=@List.map_append
abbrev X4:=@of_decide_eq_true
abbrev X5:=@List.size_toArray
abbrev X6:=@List.length_append
abbrev X7:=@List.length_take
abbrev X8:=@Bool.false_ne_true
abbrev X9:=@Heap.SameBut.update
abbrev X_:=@List.map_map
abbrev Yb:=@sizeLine_eq
abbrev Yc:=@List.mem_of_getElem?
abbrev Yd:=@List.all_eq_true
abbrev Ye:=@Nat.zero_le
abbrev Yg:=@beq_eq_false_iff_ne
abbrev Yh:=@List.mem_map
abbrev Yi:=@List.length_replicate
abbrev Yj:=@Option.map_eq_some_iff
abbrev Yk:=@Nat.ne_of_lt
abbrev Yl:=@Option.some.inj
abbrev Ym:=@Bool.eq_iff_iff
abbrev Yn:=@decide_eq_true
abbrev Yo:=@Nat.lt_of_lt_of_le
abbrev Yp:=@decide_eq_false_iff_not
abbrev Yq:=@List.getD_eq_getElem?_getD
abbrev Yr:=@of_decide_eq_false
abbrev Ys:=@Int.toNat_natCast
abbrev Yt:=@List.mem_cons_self
abbrev Yu:=@Nat.le_trans
abbrev Yv:=@decide_eq_false
abbrev Yw:=@List.mem_append
abbrev Yx:=@beq_iff_eq
abbrev Yy:=@Bool.not_eq_true'
abbrev Yz:=@List.length_drop
abbrev YA:=@List.map_congr_left
abbrev YB:=@Bool.not_eq_false'
abbrev YC:=@List.nil_append
abbrev YD:=@List.take_of_length_le
abbrev YE:=@List.take_length
abbrev YF:=@List.mem_append_right
abbrev YG:=@Heap.get?_update_self
abbrev YH:=@Bool.or_eq_true
abbrev YI:=@List.eq_of_mem_replicate
abbrev YJ:=@List.append_nil
abbrev YK:=@List.getElem?_eq_none
abbrev YL:=@List.length_pos_iff
abbrev YM:=@PassesOwn.never
abbrev YN:=@congrArg
abbrev YO:=@List.contains_eq_mem
abbrev YQ:=@Heap.size_push
abbrev YR:=@List.mem_filter
abbrev YS:=@Bool.or_eq_false_iff
abbrev YT:=@List.nodup_cons
abbrev YU:=@List.filter_cons
abbrev YV:=@List.length_singleton
abbrev YW:=@wpAny_truthy_bool
abbrev YX:=@wpAny_callSpecial?_slot
abbrev YY:=@PyProof.Rows.slot_tuple_getitem
abbrev YZ:=@wpAny_mono
abbrev Y0:=@List.pairwise_cons
abbrev Y1:=@wpAny_passesOwn
abbrev Y2:=@Nat.lt_irrefl
abbrev Y3:=@wpAny_call_entry
abbrev Y4:=@List.drop_eq_getElem_cons
abbrev Y5:=@Bool.and_eq_false_iff
abbrev Y6:=@List.map_nil
abbrev Y7:=@Bool.false_eq_true
abbrev Y8:=@PyProof.Rows.callWith_type1
abbrev Y9:=@wpAny_newObj_type
abbrev Y_:=@List.append_assoc
abbrev Za:=@eq_of_beq
abbrev Zb:=@List.foldl_cons
abbrev Zc:=@decide_eq_true_iff
abbrev Zd:=@List.sum_cons
abbrev Ze:=@List.any_cons
abbrev Zf:=@List.mem_of_mem_drop
abbrev Zg:=@List.length_nil
abbrev Zh:=@F.slot_dict_keyiterator_next
abbrev Zi:=@List.isEmpty_iff
abbrev Zj:=@List.any_eq_true
abbrev Zk:=@List.find?_cons
abbrev Zl:=@List.pairwise_iff_forall_sublist
abbrev Zm:=@List.nodup_append
abbrev Zn:=@List.mem_of_mem_take
abbrev Zo:=@List.length_erase_of_mem
abbrev Zq:=@if_true
abbrev Zr:=@List.getElem?_range
abbrev Zs:=@Array.length_toList
abbrev Zu:=@decide_eq_decide
abbrev Zv:=@List.not_mem_nil
abbrev Zw:=@List.mem_range
abbrev Zx:=@List.lookup_cons
abbrev Zy:=@List.length_eq_zero_iff
abbrev Zz:=@List.getElem_mem
abbrev ZC:=@List.drop_length
abbrev ZD:=@wpAny_typeNameOfWhole_keyiter
abbrev ZE:=@List.filter_append
abbrev ZF:=@List.drop_eq_nil_of_le
abbrev ZG:=@Heap.get?_update_other
abbrev ZH:=@wpAny_execs_nil
abbrev ZI:=@if_false
abbrev ZJ:=@Nat.min_eq_left
abbrev ZK:=@wpAny_holding
abbrev ZL:=@Nat.pow_le_pow_right
abbrev ZM:=@F.slot_tuple_iterator_next
abbrev ZN:=@Nat.pow_succ
abbrev ZO:=@List.mem_flatMap
abbrev ZP:=@List.cons_append
abbrev ZQ:=@List.all_map
abbrev ZR:=@List.takeWhile_cons
abbrev ZS:=@wpAny_typeNameOf_keyiter
abbrev ZT:=@Option.isSome_iff_exists
abbrev ZU:=@List.all_cons
abbrev ZV:=@Bool.or_false
abbrev ZW:=@wpAny_Call_Name_kw
abbrev ZX:=@List.findIdx?_eq_some_iff_getElem
abbrev ZY:=@Nat.mul_comm
abbrev ZZ:=@List.length_range
abbrev Z0:=@List.length_pos_of_mem
abbrev Z1:=@List.getElem?_set_self
abbrev Z2:=@List.flatMap_cons
abbrev Z3:=@List.ext_getElem?
abbrev Z4:=@List.any_map
abbrev Z5:=@F.called_set
abbrev Z6:=@Calls.callWith_builtin
abbrev Z7:=@List.length_filter_le
abbrev Z8:=@typeIs_str
abbrev Z9:=@Nat.lt_succ_self
abbrev Z_:=@Nat.le_add_right
abbrev aaa:=@List.map_drop
abbrev aab:=@List.mem_erase_of_ne
abbrev aac:=@List.forall_mem_cons
abbrev aad:=@Bool.and_eq_true_iff
abbrev aae:=@List.replicate_succ
abbrev aaf:=@List.map_eq_nil_iff
abbrev aag:=@List.filterMap_cons
abbrev aah:=@List.dropWhile_cons
abbrev aai:=@codeAny_mono
abbrev aaj:=@Ne.symm
abbrev aak:=@Nat.le_of_eq
abbrev aal:=@tupleKind_room_in1
abbrev aam:=@List.perm_ext_iff_of_nodup
abbrev aan:=@List.isPrefixOf_iff_prefix
abbrev aao:=@List.getElem?_append_right
abbrev aap:=@Calls.spliced_cons
abbrev aaq:=List (List Nat)
abbrev aar:=List Nat
abbrev aas:=PySem.W.Frag
abbrev aat:=Value->Shared->Prop
abbrev aau:=Str->Option Value
abbrev aav:=List (Addr×Obj)
abbrev aaw:=List Value
end
section
set_option autoImplicit false
set_option linter.all false
set_option maxRecDepth 100000
set_option maxHeartbeats 0
namespace L2
open PySem PySem.Spec PyProof.Rows
def inClass (s:Stmt)(j:Nat):Stmt:=match s with
 |.ClassDef _ _ _ body _ _ _ _ _ _ _=>body.getD j (.Pass ⟨0,0,0,0⟩)
 |_=>.Pass ⟨0,0,0,0⟩
def cY (s:Stmt):Arguments:=match s with
 |.FunctionDef _ a _ _ _ _ _ _ _ _=>a
 |_=>{posonlyargs:=[],args:=[],vararg:=none,kwonlyargs:=[],kw_defaults:=[],kwarg:=none,defaults:=[]}
def bZ (s:Stmt):List Stmt:=match s with
 |.FunctionDef _ _ b _ _ _ _ _ _ _=>b
 |_=>[]
def aw (s:Stmt):Scope:=match s with
 |.FunctionDef _ _ _ _ _ _ sc _ _ _=>sc
 |_=>{kind:=.function,names:=[],isGenerator:=false,isCoroutine:=false}
end L2
end
section
set_option autoImplicit false
set_option linter.all false
set_option maxRecDepth 100000
set_option maxHeartbeats 0
namespace Bw
open PySem L2
def top (i:Nat):Stmt:=PySem.Challenge.pw_betwords_s02_means.main.body.getD i (.Pass ⟨0,0,0,0⟩)
abbrev Dh:Stmt:=top 0
abbrev j6:Stmt:=top 6
abbrev kl:Stmt:=top 7
abbrev ki:Stmt:=top 8
abbrev gX:Stmt:=top 9
abbrev gL:Stmt:=inClass (top 18) 0
abbrev g_:Stmt:=top 19
abbrev l_:Stmt:=top 20
abbrev fC:Stmt:=top 21
abbrev f_:Stmt:=top 22
abbrev gS:Stmt:=top 23
abbrev dR:Stmt:=top 24
abbrev dD:Stmt:=top 25
abbrev gU:Stmt:=top 26
abbrev fV:Stmt:=top 28
abbrev ko:Stmt:=top 29
abbrev fW:Stmt:=top 30
abbrev eT:Stmt:=top 31
abbrev oN:Stmt:=top 32
abbrev da:Stmt:=top 33
abbrev jb:Stmt:=top 34
abbrev eU:Stmt:=top 35
abbrev gY:Stmt:=inClass (top 37) 0
abbrev dQ:Stmt:=inClass (top 37) 1
abbrev qX:Stmt:=inClass (top 37) 2
abbrev qT:Stmt:=inClass (top 37) 3
abbrev j7:Stmt:=top 38
abbrev iN:Stmt:=top 39
abbrev i8:Stmt:=top 40
abbrev gp:Stmt:=top 41
abbrev fQ:Stmt:=inClass (top 58) 0
abbrev ja:Stmt:=inClass (top 59) 0
abbrev iW:Stmt:=inClass (top 59) 1
abbrev fY:Stmt:=inClass (top 60) 0
abbrev gc:Stmt:=inClass (top 60) 1
abbrev cq:Stmt:=inClass (top 60) 2
abbrev eG:Stmt:=inClass (top 60) 3
abbrev iJ:Stmt:=top 61
abbrev gd:Stmt:=top 62
abbrev fT:Stmt:=top 63
abbrev gT:Stmt:=top 64
abbrev f7:Stmt:=top 65
abbrev iO:Stmt:=top 66
abbrev gM:Stmt:=top 67
abbrev j4:Stmt:=top 68
abbrev jd:Stmt:=top 69
abbrev ji:Stmt:=top 70
abbrev iP:Stmt:=top 71
abbrev jY:Stmt:=top 72
abbrev gN:Stmt:=top 79
abbrev kh:Stmt:=top 80
abbrev fu:Stmt:=top 81
end Bw
end
section
set_option autoImplicit false
set_option linter.all false
set_option maxRecDepth 100000
set_option maxHeartbeats 0
namespace Bw
open PySem L2
abbrev kS (s:String)(t:Nat):Value:=.str (Str.ofString s) t
abbrev kE (P:Params)(s:String)(t:Nat)(v:Value):DictEntry:=⟨PyData.keyHash P (Str.ofString s),.str (Str.ofString s) t,v⟩
abbrev kF (x q:String)(st:Stmt)(m:Value)(c:Nat):Obj:=⟨.type "function",none,.func (PySem.W.fnOf (Str.ofString x) (Str.ofString q) (cY st) (bZ st) (aw st) .none .none .none m none (.ref c) .none),#[]⟩
abbrev kC (x q:String)(t l a g c:Nat)(b:Bool)(z d:Nat)(u v w y:Value)(k:Nat):Obj:=⟨.type "code",none,.fields #[kS x t,kS q (t+1),kS "/claim/cut.py" (t+2),.int l 0,.int a 0,.int 0 0,.int 0 0,.int g 0,.ref c,.bool b,.int z 0,.ref d,u,v,w,y,.int k 0,.int l 0,kS "/claim/cut.py" (k+1)],#[]⟩
abbrev kT (l:List Value)(n:Nat):Obj:=⟨.type "tuple",none,.seq l.toArray n,#[]⟩
abbrev kD (l:List DictEntry)(n:Nat):Obj:=⟨.type "dict",none,.dict l.toArray n,#[]⟩
abbrev kG (x:String)(t l a c d e f g k:Nat):Obj:=kC x x t l a 3 c true 181 d .none (.ref e) (.ref f) (.ref g) k
abbrev kH (x:String)(st:Stmt)(m:Value)(c:Nat):Obj:=kF x x st m c
abbrev kR (P:Params)(s:String)(t a:Nat):DictEntry:=kE P s t (.ref a)
abbrev J8:Value:=kS "betwords.desk" 814
abbrev J6:Value:=kS "betwords.words" 194
abbrev Dd:Value:=kS "betwords.cards" 230
abbrev F5:Value:=kS "betwords.counts" 374
abbrev DX:Value:=kS "betwords.rows" 438
abbrev qN:Value:=kS "betwords.bets" 524
noncomputable def oq (P:Params):PySem.W.Frag:=(nat_lit 3,kD [kE P "__name__" 165 J8,kE P "__doc__" 166 .none,kE P "__package__" 167 .none,kE P "__loader__" 168 (.builtin "__main__.__loader__#opaque"),kE P "__spec__" 169 .none,kR P "__annotations__" 170 6,kR P "__builtins__" 171 4,kE P "__file__" 173 (kS "/claim/cut.py" 172),kE P "__cached__" 174 .none,kR P "_wall" 193 21,kE P "LETTERS" 197 (kS "abcdefghijklmnopqrstuvwxyz" 196),kE P "DIGITS" 199 (kS "0123456789" 198),kE P "MOST_NAME" 201 (.int 12 200),kE P "MOST_DIGITS" 203 (.int 7 202),kR P "sign_of" 210 28,kR P "text_of" 216 33,kR P "is_name" 222 38,kR P "number_of" 229 45,kE P "MOST_RACES" 233 (.int 16 232),kE P "MOST_POOLS" 235 (.int 64 234),kE P "MOST_COUPLES" 237 (.int 8 236),kE P "MOST_RUNNERS" 239 (.int 24 238),kR P "SIZES" 256 46,kR P "FIXED" 271 58,kE P "POOL_WORDS" 273 (.int 16 272),kR P "Pool" 308 75,kR P "read_card" 314 84,kR P "is_day" 321 91,kR P "read_race" 327 96,kR P "read_pools" 339 103,kR P "read_pool" 352 110,kR P "has_pool_form" 358 115,kR P "are_terms_good" 367 122,kR P "fields_of" 373 127,kR P "product_of" 384 134,kR P "without" 390 139,kR P "count_legs" 396 144,kR P "count_orders" 402 149,kR P "is_of" 408 154,kR P "count_different" 414 159,kR P "picks_of" 426 166,kR P "count_starts" 437 173,kR P "Rows" 492 209,kR P "rows_on" 500 220,kR P "rows_box" 506 225,kR P "rows_key" 517 232,kR P "seatings" 523 237,kE P "NOT_ENDED" 527 (.int 1 526),kE P "BAD_BYTE" 529 (.int 2 528),kE P "BAD_WORD" 531 (.int 3 530),kE P "BAD_NUMBER" 533 (.int 4 532),kE P "NO_POOL" 535 (.int 5 534),kE P "NO_COMBINATION" 537 (.int 6 536),kE P "TOO_DEAR" 539 (.int 7 538),kE P "MORE_BYTES" 541 (.int 8 540),kE P "LINE_END" 543 (.int 10 542),kE P "BLANK" 545 (.int 32 544),kE P "MOST_STAKE" 547 (.int 1000000 546),kE P "MOST_COST" 549 (.int 2147483647 548),kE P "ON" 551 (.int 0 550),kE P "BOX" 553 (.int 1 552),kR P "WAYS" 557 238,kR P "Fault" 588 255,kR P "Bet" 635 282,kR P "Words" 692 324,kR P "read_bet" 703 335,kR P "check_line" 712 342,kR P "read_words" 728 349,kR P "take_pool" 739 356,kR P "take_stake" 748 363,kR P "take_how" 756 370,kR P "take_sets" 766 377,kR P "take_on" 776 384,kR P "take_box" 786 391,kR P "take_key" 792 396,kR P "take_set" 803 403,kR P "rows_of" 813 410,kE P "TOO_LONG" 818 (.int (-2) 817),kE P "FAULTY_BET" 821 (.int (-6) 820),kE P "NO_CARD" 824 (.int (-8) 823),kE P "MOST_CARD" 826 (.int 65536 825),kE P "MOST_BET" 828 (.int 4096 827),kR P "means" 840 417,kR P "look_at" 850 424,kR P "look_at_all" 856 429] 85) ::
 (nat_lit 6,kD [] 0) ::
 (nat_lit 20,kG "_wall" 187 1 1 15 16 17 18 19 191) ::
 (nat_lit 21,kH "_wall" Dh (kS "__main__" 164) 20) ::
 (nat_lit 27,kG "sign_of" 204 9 1 22 23 24 25 26 208) ::
 (nat_lit 28,kH "sign_of" j6 J6 27) ::
 (nat_lit 32,kC "text_of" "text_of" 211 23 1 3 29 true 181 30 .none .none .none (.ref 31) 214) ::
 (nat_lit 33,kH "text_of" kl J6 32) ::
 (nat_lit 37,kC "is_name" "is_name" 217 25 1 3 34 true 181 35 .none .none .none (.ref 36) 220) ::
 (nat_lit 38,kH "is_name" ki J6 37) ::
 (nat_lit 44,kG "number_of" 223 29 1 39 40 41 42 43 227) ::
 (nat_lit 45,kH "number_of" gX J6 44) ::
 (nat_lit 46,kD [kR P "place" 240 47,kR P "order" 243 48,kR P "any" 246 49,kR P "legs" 249 50] 4) ::
 (nat_lit 47,kT [.int 1 241,.int 4 242] 0) ::
 (nat_lit 48,kT [.int 2 244,.int 4 245] 0) ::
 (nat_lit 49,kT [.int 2 247,.int 3 248] 0) ::
 (nat_lit 50,kT [.int 2 250,.int 6 251] 0) ::
 (nat_lit 51,kT [.int 0 257,kS "pool" 258] 0) ::
 (nat_lit 52,kT [.int 4 259,kS "from" 260] 0) ::
 (nat_lit 53,kT [.int 6 261,kS "take" 262] 0) ::
 (nat_lit 54,kT [.int 8 263,kS "break" 264] 0) ::
 (nat_lit 55,kT [.int 10 265,kS "least" 266] 0) ::
 (nat_lit 56,kT [.int 12 267,kS "unit" 268] 0) ::
 (nat_lit 57,kT [.int 14 269,kS "none" 270] 0) ::
 (nat_lit 58,kT [.ref 51,.ref 52,.ref 53,.ref 54,.ref 55,.ref 56,.ref 57] 0) ::
 (nat_lit 71,kC "__init__" "Pool.__init__" 286 45 5 3 66 true 181 67 .none (.ref 68) (.ref 69) (.ref 70) 294) ::
 (nat_lit 72,kF "__init__" "Pool.__init__" gL Dd 71) ::
 (nat_lit 73,kT [kS "fields" 297,kS "kind" 298,kS "name" 299,kS "unit" 300] 0) ::
 (nat_lit 74,kD [kE P "__module__" 281 Dd,kE P "__firstlineno__" 285 (.int 43 284),kR P "__init__" 296 72,kR P "__static_attributes__" 301 73,kR P "__dict__" 303 76,kR P "__weakref__" 305 77,kE P "__doc__" 306 .none] 4) ::
 (nat_lit 75,⟨.type "type",none,.cls ⟨"Pool",[.type "object"],[.ref 75,.type "object"],74,"Pool",true,[],[],false,none,false⟩,#[none,none,some (kS "Pool" 274),some (kS "Pool" 282),some (.builtin "object.__new__"),some (.bool true)]⟩) ::
 (nat_lit 83,kC "read_card" "read_card" 309 50 1 3 80 true 181 81 .none .none .none (.ref 82) 312) ::
 (nat_lit 84,kH "read_card" g_ Dd 83) ::
 (nat_lit 90,kG "is_day" 315 64 1 85 86 87 88 89 319) ::
 (nat_lit 91,kH "is_day" l_ Dd 90) ::
 (nat_lit 95,kC "read_race" "read_race" 322 66 1 3 92 true 181 93 .none .none .none (.ref 94) 325) ::
 (nat_lit 96,kH "read_race" fC Dd 95) ::
 (nat_lit 102,kG "read_pools" 328 85 2 97 98 99 100 101 337) ::
 (nat_lit 103,kH "read_pools" f_ Dd 102) ::
 (nat_lit 109,kG "read_pool" 340 97 2 104 105 106 107 108 350) ::
 (nat_lit 110,kH "read_pool" gS Dd 109) ::
 (nat_lit 114,kC "has_pool_form" "has_pool_form" 353 110 1 3 111 true 181 112 .none .none .none (.ref 113) 356) ::
 (nat_lit 115,kH "has_pool_form" dR Dd 114) ::
 (nat_lit 121,kG "are_terms_good" 359 116 1 116 117 118 119 120 365) ::
 (nat_lit 122,kH "are_terms_good" dD Dd 121) ::
 (nat_lit 126,kC "fields_of" "fields_of" 368 126 4 3 123 true 181 124 .none .none .none (.ref 125) 371) ::
 (nat_lit 127,kH "fields_of" gU Dd 126) ::
 (nat_lit 133,kG "product_of" 376 138 1 128 129 130 131 132 382) ::
 (nat_lit 134,kH "product_of" fV F5 133) ::
 (nat_lit 138,kC "without" "without" 385 143 2 3 135 true 181 136 .none .none .none (.ref 137) 388) ::
 (nat_lit 139,kH "without" ko F5 138) ::
 (nat_lit 143,kC "count_legs" "count_legs" 391 145 2 3 140 true 181 141 .none .none .none (.ref 142) 394) ::
 (nat_lit 144,kH "count_legs" fW F5 143) ::
 (nat_lit 148,kC "count_orders" "count_orders" 397 149 2 3 145 true 181 146 .none .none .none (.ref 147) 400) ::
 (nat_lit 149,kH "count_orders" eT F5 148) ::
 (nat_lit 153,kC "is_of" "is_of" 403 153 2 3 150 true 181 151 .none .none .none (.ref 152) 406) ::
 (nat_lit 154,kH "is_of" oN F5 153) ::
 (nat_lit 158,kC "count_different" "count_different" 409 155 1 3 155 true 181 156 .none .none .none (.ref 157) 412) ::
 (nat_lit 159,kH "count_different" da F5 158) ::
 (nat_lit 165,kG "picks_of" 415 163 1 160 161 162 163 164 424) ::
 (nat_lit 166,kH "picks_of" jb F5 165) ::
 (nat_lit 172,kG "count_starts" 427 173 1 167 168 169 170 171 435) ::
 (nat_lit 173,kH "count_starts" eU F5 172) ::
 (nat_lit 186,kC "__init__" "Rows.__init__" 452 183 3 3 181 true 181 182 .none (.ref 183) (.ref 184) (.ref 185) 458) ::
 (nat_lit 187,kF "__init__" "Rows.__init__" gY DX 186) ::
 (nat_lit 191,kC "starting" "Rows.starting" 461 188 2 3 188 true 181 189 .none .none .none (.ref 190) 464) ::
 (nat_lit 192,kF "starting" "Rows.starting" dQ DX 191) ::
 (nat_lit 198,kC "row_at" "Rows.row_at" 467 195 2 3 193 true 181 194 .none (.ref 195) (.ref 196) (.ref 197) 472) ::
 (nat_lit 199,kF "row_at" "Rows.row_at" qX DX 198) ::
 (nat_lit 205,kC "listed" "Rows.listed" 475 198 1 3 200 true 181 201 .none (.ref 202) (.ref 203) (.ref 204) 479) ::
 (nat_lit 206,kF "listed" "Rows.listed" qT DX 205) ::
 (nat_lit 207,kT [kS "grids" 482,kS "kind" 483,kS "picks" 484] 0) ::
 (nat_lit 208,kD [kE P "__module__" 447 DX,kE P "__firstlineno__" 451 (.int 181 450),kR P "__init__" 460 187,kR P "starting" 466 192,kR P "row_at" 474 199,kR P "listed" 481 206,kR P "__static_attributes__" 485 207,kR P "__dict__" 487 210,kR P "__weakref__" 489 211,kE P "__doc__" 490 .none] 4) ::
 (nat_lit 209,⟨.type "type",none,.cls ⟨"Rows",[.type "object"],[.ref 209,.type "object"],208,"Rows",true,[],[],false,none,false⟩,#[none,none,some (kS "Rows" 440),some (kS "Rows" 448),some (.builtin "object.__new__"),some (.bool true)]⟩) ::
 (nat_lit 219,kG "rows_on" 493 200 2 214 215 216 217 218 498) ::
 (nat_lit 220,kH "rows_on" j7 DX 219) ::
 (nat_lit 224,kC "rows_box" "rows_box" 501 202 3 3 221 true 181 222 .none .none .none (.ref 223) 504) ::
 (nat_lit 225,kH "rows_box" iN DX 224) ::
 (nat_lit 231,kG "rows_key" 507 204 4 226 227 228 229 230 515) ::
 (nat_lit 232,kH "rows_key" i8 DX 231) ::
 (nat_lit 236,kC "seatings" "seatings" 518 209 3 3 233 true 181 234 .none .none .none (.ref 235) 521) ::
 (nat_lit 237,kH "seatings" gp DX 236) ::
 (nat_lit 238,kT [kS "on" 554,kS "box" 555,kS "key" 556] 0) ::
 (nat_lit 251,kC "__init__" "Fault.__init__" 570 237 3 3 246 true 181 247 .none (.ref 248) (.ref 249) (.ref 250) 576) ::
 (nat_lit 252,kF "__init__" "Fault.__init__" fQ qN 251) ::
 (nat_lit 253,kT [kS "kind" 579,kS "place" 580] 0) ::
 (nat_lit 254,kD [kE P "__module__" 565 qN,kE P "__firstlineno__" 569 (.int 235 568),kR P "__init__" 578 252,kR P "__static_attributes__" 581 253,kR P "__weakref__" 583 256,kE P "__doc__" 584 .none] 3) ::
 (nat_lit 255,⟨.type "type",none,.cls ⟨"Fault",[.type "Exception"],[.ref 255,.type "Exception",.type "BaseException",.type "object"],254,"Fault",true,[],[],false,none,false⟩,#[some (.ref 239),none,some (kS "Fault" 558),some (kS "Fault" 566),some (.builtin "Exception.__new__"),some (.bool true)]⟩) ::
 (nat_lit 271,kC "__init__" "Bet.__init__" 601 242 7 3 266 true 181 267 .none (.ref 268) (.ref 269) (.ref 270) 611) ::
 (nat_lit 272,kF "__init__" "Bet.__init__" ja qN 271) ::
 (nat_lit 278,kC "cost" "Bet.cost" 614 251 1 3 273 true 181 274 .none (.ref 275) (.ref 276) (.ref 277) 618) ::
 (nat_lit 279,kF "cost" "Bet.cost" iW qN 278) ::
 (nat_lit 280,kT [kS "how" 621,kS "many" 622,kS "pool" 623,kS "pool_number" 624,kS "rows" 625,kS "sets" 626,kS "stake" 627] 0) ::
 (nat_lit 281,kD [kE P "__module__" 596 qN,kE P "__firstlineno__" 600 (.int 240 599),kR P "__init__" 613 272,kR P "cost" 620 279,kR P "__static_attributes__" 628 280,kR P "__dict__" 630 283,kR P "__weakref__" 632 284,kE P "__doc__" 633 .none] 4) ::
 (nat_lit 282,⟨.type "type",none,.cls ⟨"Bet",[.type "object"],[.ref 282,.type "object"],281,"Bet",true,[],[],false,none,false⟩,#[none,none,some (kS "Bet" 589),some (kS "Bet" 597),some (.builtin "object.__new__"),some (.bool true)]⟩) ::
 (nat_lit 299,kC "__init__" "Words.__init__" 648 255 2 3 294 true 181 295 .none (.ref 296) (.ref 297) (.ref 298) 653) ::
 (nat_lit 300,kF "__init__" "Words.__init__" fY qN 299) ::
 (nat_lit 306,kC "take" "Words.take" 656 262 1 3 301 true 181 302 .none (.ref 303) (.ref 304) (.ref 305) 661) ::
 (nat_lit 307,kF "take" "Words.take" gc qN 306) ::
 (nat_lit 313,kC "take_one_of" "Words.take_one_of" 664 271 2 3 308 true 181 309 .none (.ref 310) (.ref 311) (.ref 312) 670) ::
 (nat_lit 314,kF "take_one_of" "Words.take_one_of" cq qN 313) ::
 (nat_lit 320,kC "finish" "Words.finish" 673 277 1 3 315 true 181 316 .none (.ref 317) (.ref 318) (.ref 319) 677) ::
 (nat_lit 321,kF "finish" "Words.finish" eG qN 320) ::
 (nat_lit 322,kT [kS "line_end" 680,kS "met" 681,kS "next_place" 682,kS "place" 683,kS "words" 684] 0) ::
 (nat_lit 323,kD [kE P "__module__" 643 qN,kE P "__firstlineno__" 647 (.int 253 646),kR P "__init__" 655 300,kR P "take" 663 307,kR P "take_one_of" 672 314,kR P "finish" 679 321,kR P "__static_attributes__" 685 322,kR P "__dict__" 687 325,kR P "__weakref__" 689 326,kE P "__doc__" 690 .none] 4) ::
 (nat_lit 324,⟨.type "type",none,.cls ⟨"Words",[.type "object"],[.ref 324,.type "object"],323,"Words",true,[],[],false,none,false⟩,#[none,none,some (kS "Words" 636),some (kS "Words" 644),some (.builtin "object.__new__"),some (.bool true)]⟩) ::
 (nat_lit 334,kG "read_bet" 693 280 2 329 330 331 332 333 701) ::
 (nat_lit 335,kH "read_bet" iJ qN 334) ::
 (nat_lit 341,kG "check_line" 704 290 1 336 337 338 339 340 710) ::
 (nat_lit 342,kH "check_line" gd qN 341) ::
 (nat_lit 348,kG "read_words" 713 298 2 343 344 345 346 347 726) ::
 (nat_lit 349,kH "read_words" fT qN 348) ::
 (nat_lit 355,kG "take_pool" 729 315 2 350 351 352 353 354 737) ::
 (nat_lit 356,kH "take_pool" gT qN 355) ::
 (nat_lit 362,kG "take_stake" 740 321 2 357 358 359 360 361 746) ::
 (nat_lit 363,kH "take_stake" f7 qN 362) ::
 (nat_lit 369,kG "take_how" 749 326 2 364 365 366 367 368 754) ::
 (nat_lit 370,kH "take_how" iO qN 369) ::
 (nat_lit 376,kG "take_sets" 757 331 3 371 372 373 374 375 764) ::
 (nat_lit 377,kH "take_sets" gM qN 376) ::
 (nat_lit 383,kG "take_on" 767 338 2 378 379 380 381 382 774) ::
 (nat_lit 384,kH "take_on" j4 qN 383) ::
 (nat_lit 390,kG "take_box" 777 345 3 385 386 387 388 389 784) ::
 (nat_lit 391,kH "take_box" jd qN 390) ::
 (nat_lit 395,kC "take_key" "take_key" 787 350 3 3 392 true 181 393 .none .none .none (.ref 394) 790) ::
 (nat_lit 396,kH "take_key" ji qN 395) ::
 (nat_lit 402,kG "take_set" 793 359 2 397 398 399 400 401 801) ::
 (nat_lit 403,kH "take_set" iP qN 402) ::
 (nat_lit 409,kG "rows_of" 804 367 3 404 405 406 407 408 811) ::
 (nat_lit 410,kH "rows_of" jY qN 409) ::
 (nat_lit 416,kG "means" 829 380 2 411 412 413 414 415 838) ::
 (nat_lit 417,kH "means" gN J8 416) ::
 (nat_lit 423,kG "look_at" 841 389 2 418 419 420 421 422 848) ::
 (nat_lit 424,kH "look_at" kh J8 423) ::
 (nat_lit 428,kC "look_at_all" "look_at_all" 851 394 2 3 425 true 181 426 .none .none .none (.ref 427) 854) ::
 (nat_lit 429,kH "look_at_all" fu J8 428)::[]
def AI:List Nat:=[3,6,20,21,27,28,32,33,37,38,44,45,46,47,48,49,50,51,52,53,54,55,56,57,58,71,72,73,74,75,83,84,90,91,95,96,102,103,109,110,114,115,121,122,126,127,133,134,138,139,143,144,148,149,153,154,158,159,165,166,172,173,186,187,191,192,198,199,205,206,207,208,209,219,220,224,225,231,232,236,237,238,251,252,253,254,255,271,272,278,279,280,281,282,299,300,306,307,313,314,320,321,322,323,324,334,335,341,342,348,349,355,356,362,363,369,370,376,377,383,384,390,391,395,396,402,403,409,410,416,417,423,424,428,429]
def JZ:List Str:=List.map Str.ofString ["_wall","LETTERS","DIGITS","MOST_NAME","MOST_DIGITS","sign_of","text_of","is_name","number_of","MOST_RACES","MOST_POOLS","MOST_COUPLES","MOST_RUNNERS","SIZES","FIXED","POOL_WORDS","Pool","read_card","is_day","read_race","read_pools","read_pool","has_pool_form","are_terms_good","fields_of","product_of","without","count_legs","count_orders","is_of","count_different","picks_of","count_starts","Rows","rows_on","rows_box","rows_key","seatings","NOT_ENDED","BAD_BYTE","BAD_WORD","BAD_NUMBER","NO_POOL","NO_COMBINATION","TOO_DEAR","MORE_BYTES","LINE_END","BLANK","MOST_STAKE","MOST_COST","ON","BOX","WAYS","Fault","Bet","Words","read_bet","check_line","read_words","take_pool","take_stake","take_how","take_sets","take_on","take_box","take_key","take_set","rows_of","TOO_LONG","FAULTY_BET","NO_CARD","MOST_CARD","MOST_BET","means","look_at","look_at_all"]
end Bw
end
section
set_option autoImplicit false
set_option linter.all false
set_option maxRecDepth 100000
set_option maxHeartbeats 0
namespace Bw
open PySem PyProof.Rows L2
theorem CO (P:Params):AI=(oq P).map (·.1):=by kernel_rfl
def qV:Program:={PySem.Challenge.pw_betwords_s02_means with main:={PySem.Challenge.pw_betwords_s02_means.main with body:=[gN]}}
def lV:List Str:=JZ.filter λk=>k != "means"
def xV (s:Shared):Bool:=PySem.W.xlAt qV [] s&&PySem.W.recOk [] s
def dV:DefRec:=match gN with
 |.FunctionDef n a b _ _ _ c _ _ p=>⟨n,a,b,c,p⟩
 |_=>⟨"",cY gN,[],aw gN,⟨0,0,0,0⟩⟩
theorem gA0 {a b c:Type}{o:Option a}{f:a->b}{g:a->c}{x:b}{y:c}(h:o.map f=some x)(k:o.map g=some y):o.map (fun s=>(f s,g s))=some (x,y):=by
 cases o with
 |none=>cases h
 |some z=>cases h;cases k;rfl
theorem gA1 {a b c:Type}{o:Option a}{f:a->b×c}{x:b×c}(h:o.map (fun s=>(f s).1)=some x.1)(k:o.map (fun s=>(f s).2)=some x.2):o.map f=some x:=by
 cases o with
 |none=>cases h
 |some z=>exact congrArg some (Prod.ext (Option.some.inj h) (Option.some.inj k))
theorem gA2 {a b:Type}{o:Option a}{f:a->List b}{x:List b}(n:Nat)(h:o.map (fun s=>List.take n (f s))=some (List.take n x))(k:o.map (fun s=>List.drop n (f s))=some (List.drop n x)):o.map f=some x:=by
 cases o with
 |none=>cases h
 |some z=>exact congrArg some ((List.take_append_drop n (f z)).symm.trans ((congr (congrArg _ (Option.some.inj h)) (Option.some.inj k)).trans (List.take_append_drop n x)))
theorem gB01 (w:World):(PySem.W.openEnds treeTable PySem.Challenge.pw_betwords_s02_means (w.withFollow "special-get-raises" false) 5200).map (fun s=>(PySem.W.openSeen qV lV (importedModules PySem.Challenge.pw_betwords_s02_means.main.body) xV true s).1)=some (PySem.W.openGood qV lV).1:=by kernel_rfl
theorem gB02 (w:World):(PySem.W.openEnds treeTable PySem.Challenge.pw_betwords_s02_means (w.withFollow "special-get-raises" false) 5200).map (fun s=>(PySem.W.openSeen qV lV (importedModules PySem.Challenge.pw_betwords_s02_means.main.body) xV true s).2)=some (PySem.W.openGood qV lV).2:=by kernel_rfl
theorem gB03 (w:World):(PySem.W.openEnds treeTable PySem.Challenge.pw_betwords_s02_means (w.withFollow "special-get-raises" false) 5200).map (fun s=>List.take 68 ((PySem.W.kHook Bw.oq Bw.AI Bw.CO).obs s))=some (List.take 68 ((PySem.W.kHook Bw.oq Bw.AI Bw.CO).val (w.withFollow "special-get-raises" false))):=by kernel_rfl
theorem gB04 (w:World):(PySem.W.openEnds treeTable PySem.Challenge.pw_betwords_s02_means (w.withFollow "special-get-raises" false) 5200).map (fun s=>List.drop 68 ((PySem.W.kHook Bw.oq Bw.AI Bw.CO).obs s))=some (List.drop 68 ((PySem.W.kHook Bw.oq Bw.AI Bw.CO).val (w.withFollow "special-get-raises" false))):=by kernel_rfl
theorem Lp (w:World):(PySem.W.openEnds treeTable PySem.Challenge.pw_betwords_s02_means (w.withFollow "special-get-raises" false) 5200).map (fun s=>(PySem.W.openSeen qV lV (importedModules PySem.Challenge.pw_betwords_s02_means.main.body) xV true s,(PySem.W.kHook Bw.oq Bw.AI Bw.CO).obs s))=some (PySem.W.openGood qV lV,(PySem.W.kHook Bw.oq Bw.AI Bw.CO).val (w.withFollow "special-get-raises" false)):=gA0 (gA1 (gB01 w) (gB02 w)) (gA2 68 (gB03 w) (gB04 w))
theorem gB11 (w:World):(PySem.W.openEnds treeTable PySem.Challenge.pw_betwords_s02_means (w.withFollow "special-get-raises" true) 5200).map (fun s=>(PySem.W.openSeen qV lV (importedModules PySem.Challenge.pw_betwords_s02_means.main.body) xV true s).1)=some (PySem.W.openGood qV lV).1:=by kernel_rfl
theorem gB12 (w:World):(PySem.W.openEnds treeTable PySem.Challenge.pw_betwords_s02_means (w.withFollow "special-get-raises" true) 5200).map (fun s=>(PySem.W.openSeen qV lV (importedModules PySem.Challenge.pw_betwords_s02_means.main.body) xV true s).2)=some (PySem.W.openGood qV lV).2:=by kernel_rfl
theorem gB13 (w:World):(PySem.W.openEnds treeTable PySem.Challenge.pw_betwords_s02_means (w.withFollow "special-get-raises" true) 5200).map (fun s=>List.take 68 ((PySem.W.kHook Bw.oq Bw.AI Bw.CO).obs s))=some (List.take 68 ((PySem.W.kHook Bw.oq Bw.AI Bw.CO).val (w.withFollow "special-get-raises" true))):=by kernel_rfl
theorem gB14 (w:World):(PySem.W.openEnds treeTable PySem.Challenge.pw_betwords_s02_means (w.withFollow "special-get-raises" true) 5200).map (fun s=>List.drop 68 ((PySem.W.kHook Bw.oq Bw.AI Bw.CO).obs s))=some (List.drop 68 ((PySem.W.kHook Bw.oq Bw.AI Bw.CO).val (w.withFollow "special-get-raises" true))):=by kernel_rfl
theorem Lr (w:World):(PySem.W.openEnds treeTable PySem.Challenge.pw_betwords_s02_means (w.withFollow "special-get-raises" true) 5200).map (fun s=>(PySem.W.openSeen qV lV (importedModules PySem.Challenge.pw_betwords_s02_means.main.body) xV true s,(PySem.W.kHook Bw.oq Bw.AI Bw.CO).obs s))=some (PySem.W.openGood qV lV,(PySem.W.kHook Bw.oq Bw.AI Bw.CO).val (w.withFollow "special-get-raises" true)):=gA0 (gA1 (gB11 w) (gB12 w)) (gA2 68 (gB13 w) (gB14 w))
theorem hl:PySem.W.LeftO PySem.Challenge.pw_betwords_s02_means qV lV xV (PySem.W.kHook Bw.oq Bw.AI Bw.CO).obs (PySem.W.kHook Bw.oq Bw.AI Bw.CO).val 5200:=PySem.W.byRow2 "special-get-raises" Lp Lr
end Bw
end
section
set_option autoImplicit false
set_option linter.all false
namespace Bw
open Tote
theorem sum_map_add {α:Type}(f g:α->Nat):∀l:List α,(l.map λx=>f x+g x).sum=(l.map f).sum+(l.map g).sum
 |[]=>rfl
 |x::l=>by
  simp only[X1,Zd,sum_map_add f g l];omega
theorem sum_map_congr {α:Type}{f g:α->Nat}:∀{l:List α},(∀x∈l,f x=g x)->(l.map f).sum=(l.map g).sum
 |[],_=>rfl
 |x::l,h=>by
  simp only[X1,Zd];rw[h x (by simp),sum_map_congr λy hy=>h y (by simp[hy])]
theorem sum_map_const {α:Type}(c:Nat):∀l:List α,(l.map λ_=>c).sum=l.length*c
 |[]=>by simp
 |x::l=>by
  simp only[X1,Zd,sum_map_const c l,XW,Nat.add_mul];omega
theorem fL {α β:Type}(f:α->List β):∀l:List α,(l.flatMap f).length=(l.map λx=>(f x).length).sum
 |[]=>rfl
 |x::l=>by simp[Z2,fL f l]
theorem nQ {α:Type}(p:α->Bool)(c d:Nat):∀l:List α,(l.map λx=>if p x=true then c else d).sum=(l.filter p).length*c+(l.filter λx=>!p x).length*d
 |[]=>by simp
 |x::l=>by
  have ih:=nQ p c d l;simp only[X1,Zd,YU];by_cases h:p x=true
  · simp only[h,Zq,Bool.not_true,Y7,ZI,XW,Nat.add_mul,ih];omega
  · have h':p x=false:=by simpa using h
    simp only[h',Y7,ZI,Bool.not_false,Zq,XW,Nat.add_mul,ih];omega
section
variable (A u:aar)
end
theorem iV:∀(k:Nat) (l r:aar),r∈risingRows k l->r.Sublist l
 |0,_,r,h=>by
  have:r=[]:=by simpa [risingRows] using h
  subst this;exact List.nil_sublist _
 |k+1,[],r,h=>by simp[risingRows] at h
 |k+1,x::l,r,h=>by
  rw[risingRows,Yw] at h;rcases h with h|h
  · obtain⟨q,hq,rfl⟩:=Yh.mp h;exact (iV k l q hq).cons₂ x
  · exact (iV (k+1) l r h).cons x
def dk:aaq->(Nat->Bool)->Nat
 |[],_=>1
 |s::ss,p=>((s.filter p).map λy=>dk ss λz=>p z&&z != y).sum
theorem gE:∀(ss:aaq) {p q:Nat->Bool},(∀s∈ss,∀y∈s,p y=q y)->dk ss p=dk ss q
 |[],_,_,_=>rfl
 |s::ss,p,q,h=>by
  unfold dk;have e:s.filter p=s.filter q:=List.filter_congr λy hy=>h s (by simp) y hy;rw[e];refine sum_map_congr λy _=>gE ss λt ht z hz=>?_;rw[h t (by simp[ht]) z hz]
theorem rR:∀(ss:aaq) (had:aar),(apartRows ss had).length=dk ss λz=>!had.contains z
 |[],_=>rfl
 |s::ss,had=>by
  unfold dk;rw[apartRows,fL];refine sum_map_congr λy _=>?_;rw[XH,rR ss (y::had)];refine gE ss λt _ z _=>?_;simp only[YO,XN];by_cases c1:z∈had <;> by_cases c2:z=y <;> simp[c1,c2]
def outs (x:Nat):aaq->List (aaq)
 |[]=>[]
 |s::ss=>(if s.contains x=true then [ss] else [])++(outs x ss).map λr=>s::r
theorem kW {α β:Type}(f:α->β->Nat):∀(l:List α) (m:List β),(l.map λx=>(m.map λy=>f x y).sum).sum=(m.map λy=>(l.map λx=>f x y).sum).sum
 |[],m=>by
  simp only[Y6,List.sum_nil];rw[sum_map_const 0 m];simp
 |x::l,m=>by
  simp only[X1,Zd];rw[kW f l m,←sum_map_add]
theorem k8 {x:Nat}:∀{s:aar},s.Nodup->s.filter (λy=>y==x)=if s.contains x=true then [x] else []
 |[],_=>rfl
 |y::s,nd=>by
  obtain⟨h1,h2⟩:=YT.mp nd;have ih:=k8 (x:=x) h2;by_cases e:y=x
  · subst e;have:s.filter (λz=>z==y)=[]:=List.filter_eq_nil_iff.mpr λz hz c=>h1 ((Yx.mp c) ▸ hz);simp[this]
  · have e':¬x=y:=λz=>e z.symm;rw[YU,XI (by simp[e]),ih];simp[e']
theorem kO {f:Nat->Nat}{p q:Nat->Bool}(hd:∀y,p y=true->q y=false):∀l:aar,((l.filter λy=>p y||q y).map f).sum=((l.filter p).map f).sum+((l.filter q).map f).sum
 |[]=>rfl
 |y::l=>by
  have ih:=kO (f:=f) hd l;rw[YU,YU,YU];by_cases c:p y=true
  · have:=hd y c;simp only[c,this,ZV,Zq,Y7,ZI,X1,Zd,ih];omega
  · have c':p y=false:=by simpa using c
    by_cases c2:q y=true
    · simp only[c',c2,Bool.or_true,Zq,Y7,ZI,X1,Zd,ih];omega
    · have Od:q y=false:=by simpa using c2
      simp only[c',Od,ZV,Y7,ZI,ih]
theorem rZ (x:Nat):∀(ss:aaq) (p:Nat->Bool),(∀s∈ss,s.Nodup)->p x=false ->
  dk ss (λz=>p z||z==x)=dk ss p+((outs x ss).map λr=>dk r p).sum
 |[],_,_,_=>rfl
 |s::ss,p,nd,hx=>by
  have Uo:s.Nodup:=nd s (by simp);have Up:∀t∈ss,t.Nodup:=λt ht=>nd t (by simp[ht]);have Mh:∀y,p y=true->(y==x)=false:=λy hy=>by
   by_cases e:y=x
   · rw[e,hx] at hy;cases hy
   · simp[e]
  show ((s.filter λz=>p z||z==x).map λy=>dk ss λz=>(p z||z==x)&&z != y).sum=_;rw[kO (q:=λy=>y==x) Mh,k8 Uo];have e1:((s.filter p).map λy=>dk ss λz=>(p z||z==x)&&z != y).sum
    = ((s.filter p).map λy=>dk ss (λz=>p z&&z != y)+((outs x ss).map λr=>dk r λz=>p z&&z != y).sum).sum:=by
   refine sum_map_congr λy hy=>?_;have py:p y=true:=(YR.mp hy).2;have ne:x≠y:=λe=>by rw[e,py] at hx;cases hx
   rw[←rZ x ss (λz=>p z&&z != y) Up (by simp[hx])];refine gE ss λt _ z _=>?_;show ((p z||z==x)&&z != y)=(p z&&z != y||z==x);cases Uq:p z <;> by_cases c:z=x <;> by_cases d:z=y <;> simp_all
  rw[e1,sum_map_add,kW (λy r=>dk r λz=>p z&&z != y)];have e2:(((if s.contains x=true then [x] else []:aar)).map λy=>dk ss λz=>(p z||z==x)&&z != y).sum
    = (((if s.contains x=true then [ss] else []:List (aaq))).map λr=>dk r p).sum:=by
   by_cases c:s.contains x=true
   · rw[XJ c,XJ c];simp only[X1,Y6,Zd,List.sum_nil,Nat.add_zero];refine gE ss λt _ z _=>?_;show ((p z||z==x)&&z != x)=p z;cases Uq:p z <;> by_cases d:z=x <;> simp_all
   · rw[XI c,XI c];rfl
  rw[e2];show _=dk (s::ss) p+(((if s.contains x=true then [ss] else [])++(outs x ss).map λr=>s::r).map λr=>dk r p).sum;rw[X3,List.sum_append,X_];show ((s.filter p).map λy=>dk ss λz=>p z&&z != y).sum+((outs x ss).map λr=>((s.filter p).map λy=>dk r λz=>p z&&z != y).sum).sum+_
   = ((s.filter p).map λy=>dk ss λz=>p z&&z != y).sum+(_+((outs x ss).map λr=>((s.filter p).map λy=>dk r λz=>p z&&z != y).sum).sum)
  omega
def sel:Nat->aaq->aaq
 |_,[]=>[]
 |m,s::ss=>(if m % 2=1 then [s] else [])++sel (m / 2) ss
def bitsOf (x:Nat):Nat->aaq->aar
 |_,[]=>[]
 |b,s::ss=>(if s.contains x=true then [b] else [])++bitsOf x (2*b) ss
theorem nZ (x:Nat):∀(ss:aaq) (b:Nat),bitsOf x (2*b) ss=(bitsOf x b ss).map λc=>2*c
 |[],_=>rfl
 |s::ss,b=>by
  unfold bitsOf;rw[X3,nZ x ss (2*b)];congr 1;by_cases c:s.contains x=true
  · simp only[XJ c];rfl
  · simp only[XI c];rfl
def bB (m b:Nat):Bool:=m / b % 2==1
theorem qg (m:Nat)(s:aar)(ss:aaq):sel m (s::ss)=(if m % 2=1 then [s] else [])++sel (m / 2) ss:=rfl
theorem vM:∀ss:aaq,sel 0 ss=[]
 |[]=>rfl
 |s::ss=>by
  unfold sel;rw[vM ss];rfl
theorem uU (x:Nat):∀(ss:aaq) (m:Nat),outs x (sel m ss)=((bitsOf x 1 ss).filter (bB m)).map λb=>sel (m - b) ss
 |[],_=>rfl
 |s::ss,m=>by
  have ih:=uU x ss (m / 2);have e1:bitsOf x 1 (s::ss)=(if s.contains x=true then [1] else [])++(bitsOf x 1 ss).map λc=>2*c:=by
   show (if s.contains x=true then [1] else [])++bitsOf x (2*1) ss=_;rw[nZ]
  have f1:∀c,bB m (2*c)=bB (m / 2) c:=λc=>by
   unfold bB;rw[Nat.div_div_eq_div_mul]
  have e2:(((bitsOf x 1 ss).map λc=>2*c).filter (bB m))=((bitsOf x 1 ss).filter (bB (m / 2))).map λc=>2*c:=by
   rw[List.filter_map];congr 1;exact List.filter_congr λc _=>f1 c
  rw[e1,ZE,X3,e2,X_];have big:∀c∈(bitsOf x 1 ss).filter (bB (m / 2)),c<=m / 2:=λc hc=>by
   have h:=(YR.mp hc).2;unfold bB at h;have h':m / 2 / c % 2=1:=by simpa using h
   by_cases z:c<=m / 2
   · exact z
   · rw[Nat.div_eq_of_lt (by omega)] at h';simp at h'
  have e3:((bitsOf x 1 ss).filter (bB (m / 2))).map ((λb=>sel (m - b) (s::ss)) ∘ λc=>2*c)
    = ((bitsOf x 1 ss).filter (bB (m / 2))).map λc=>(if m % 2=1 then [s] else [])++sel (m / 2 - c) ss:=by
   refine YA λc hc=>?_;have:=big c hc;show (if (m - 2*c) % 2=1 then [s] else [])++sel ((m - 2*c) / 2) ss=_;have a1:(m - 2*c) % 2=m % 2:=by omega
   have a2:(m - 2*c) / 2=m / 2 - c:=by omega
   rw[a1,a2]
  rw[e3,qg];by_cases odd:m % 2=1
  · simp only[XJ odd,List.singleton_append];have NL:bB m 1=true:=by unfold bB;simp[odd]
    rw[outs,ih,X_];congr 1;by_cases c:s.contains x=true
    · simp only[XJ c,YU,NL,Zq,List.filter_nil,X1,Y6];have a1:¬(m - 1) % 2=1:=by omega
      have a2:(m - 1) / 2=m / 2:=by omega
      rw[qg,XI a1,a2];rfl
    · simp only[XI c];rfl
  · have NL:bB m 1=false:=by unfold bB;simp[odd]
    simp only[XI odd,YC];rw[ih];by_cases c:s.contains x=true
    · simp only[XJ c,YU,NL,Y7,ZI,List.filter_nil,Y6,YC]
    · simp only[XI c,List.filter_nil,Y6,YC]
theorem yR:∀{ss:aaq} {m:Nat} {s:aar},s∈sel m ss->s∈ss
 |[],_,_,h=>by simp[sel] at h
 |t::ss,m,s,h=>by
  unfold sel at h;rcases Yw.mp h with h|h
  · by_cases c:m % 2=1
    · rw[XJ c] at h;simp at h;simp[h]
    · rw[XI c] at h;simp at h
  · exact X2 _ (yR h)
theorem vN:∀ss:aaq,sel (2 ^ ss.length - 1) ss=ss
 |[]=>rfl
 |s::ss=>by
  have hp:0 < 2 ^ ss.length:=Nat.two_pow_pos _;have e:2 ^ (s::ss).length - 1=2*(2 ^ ss.length - 1)+1:=by
   rw[XW,ZN];omega
  unfold sel;rw[e];have a1:(2*(2 ^ ss.length - 1)+1) % 2=1:=by omega
  have a2:(2*(2 ^ ss.length - 1)+1) / 2=2 ^ ss.length - 1:=by omega
  rw[XJ a1,a2,vN ss];rfl
theorem zI (x m:Nat)(ss:aaq)(p:Nat->Bool)(nd:∀s∈ss,s.Nodup)(hx:p x=false) :
  dk (sel m ss) (λz=>p z||z==x)=dk (sel m ss) p+(((bitsOf x 1 ss).filter (bB m)).map λb=>dk (sel (m - b) ss) p).sum:=by
 rw[rZ x (sel m ss) p (λs hs=>nd s (yR hs)) hx,uU,X_];rfl
abbrev ck (l:aar):Prop:=l.Pairwise (· < ·)
theorem j9:∀l:aar,risesN l=true↔ck l
 |[]=>by simp[risesN]
 |[x]=>by simp[risesN]
 |x::y::l=>by
  have ih:=j9 (y::l);rw[risesN,XR,Zc,ih];constructor
  · rintro⟨h1,h2⟩;refine Y0.mpr ⟨λz hz=>?_,h2⟩;rcases XN.mp hz with rfl|hz
    · exact h1
    · exact Nat.lt_trans h1 ((Y0.mp h2).1 z hz)
  · intro h;obtain⟨h1,h2⟩:=Y0.mp h;exact⟨h1 y (by simp),h2⟩
theorem ck.nodup {l:aar}(h:ck l):l.Nodup:=List.Pairwise.imp (λh=>Yk h) h
theorem h_ {α:Type} [DecidableEq α]:∀{l m:List α},l.Nodup->(∀x∈l,x∈m)->l.length<=m.length
 |[],_,_,_=>Ye _
 |x::l,m,nd,h=>by
  obtain⟨h1,h2⟩:=YT.mp nd;have hx:x∈m:=h x (by simp);have ih:=h_ (l:=l) (m:=m.erase x) h2 λy hy=>by
   have:y≠x:=λe=>h1 (e ▸ hy);exact (aab this).mpr (h y (by simp[hy]))
  have e:=Zo hx;have:0 < m.length:=Z0 hx;rw[XW];omega
def f9 (n:Nat):aar->aar
 |[]=>[n]
 |x::r=>if n < x then n::x::r else x::f9 n r
theorem mi {n y:Nat}:∀{l:aar},y∈f9 n l↔y=n∨y∈l
 |[]=>by simp[f9]
 |x::r=>by
  unfold f9;by_cases c:n < x
  · rw[XJ c];simp
  · rw[XI c,XN,mi (l:=r),XN];constructor
    · rintro (h|h|h) <;> simp[h]
    · rintro (h|h|h) <;> simp[h]
theorem lC {n:Nat}:∀{l:aar},ck l->¬n∈l->ck (f9 n l)
 |[],_,_=>by simp[f9]
 |x::r,h,hn=>by
  obtain⟨h1,h2⟩:=Y0.mp h;unfold f9;by_cases c:n < x
  · rw[XJ c];refine Y0.mpr ⟨λz hz=>?_,h⟩;rcases XN.mp hz with rfl|hz
    · exact c
    · exact Nat.lt_trans c (h1 z hz)
  · rw[XI c];have ne:n≠x:=λe=>hn (by simp[e]);refine Y0.mpr ⟨λz hz=>?_,lC h2 λm=>hn (by simp[m])⟩;rcases mi.mp hz with rfl|hz
    · omega
    · exact h1 z hz
theorem qu {n:Nat}:∀{l:aar},ck l->n∈l->f9 n (l.erase n)=l
 |[],_,h=>by simp at h
 |x::r,h,hn=>by
  obtain⟨h1,h2⟩:=Y0.mp h;by_cases e:x=n
  · subst e;rw[List.erase_cons_head];cases r with
    |nil=>rfl
    |cons y r=>unfold f9;rw[XJ (h1 y (by simp))]
  · have M0:n∈r:=by
     rcases XN.mp hn with z|z
     · exact absurd z.symm e
     · exact z
    rw[List.erase_cons_tail (by simpa using e)];have:=h1 n M0;unfold f9;rw[XI (by omega),qu h2 M0]
theorem oW {n:Nat}:∀{l:aar},¬n∈l->(f9 n l).erase n=l
 |[],_=>by simp[f9]
 |x::r,h=>by
  have ne:x≠n:=λe=>h (by simp[e]);unfold f9;by_cases c:n < x
  · rw[XJ c,List.erase_cons_head]
  · rw[XI c,List.erase_cons_tail (by simpa using ne),oW λm=>h (by simp[m])]
def jS (K:aaq)(k:aar):aaq:=if K.contains k=true then K else K++[k]
def cu (pick:aar)(K:aaq)(n:Nat):aaq:=if pick.contains n=true then K else jS K (f9 n pick)
def cR (s:aar)(K:aaq)(pick:aar):aaq:=s.foldl (cu pick) K
def e_ (picks:aaq)(s:aar):aaq:=picks.foldl (cR s) []
def bx (ss:aaq):aaq:=ss.foldl e_ [[]]
theorem wV {K:aaq}{k r:aar}:r∈jS K k↔r∈K∨r=k:=by
 unfold jS;by_cases c:K.contains k=true
 · rw[XJ c];have c':k∈K:=by simpa using c
   exact⟨.inl,λh=>h.elim id λe=>e ▸ c'⟩
 · rw[XI c];simp
theorem mJ {K:aaq}{k:aar}(h:K.Nodup):(jS K k).Nodup:=by
 unfold jS;by_cases c:K.contains k=true
 · rw[XJ c];exact h
 · rw[XI c];have c':¬k∈K:=by simpa using c
   refine Zm.mpr ⟨h,by simp,λa ha b hb=>?_⟩;have:b=k:=by simpa using hb
   subst this;exact λe=>c' (e ▸ ha)
theorem o5 {pick r:aar}:∀{s:aar} {K:aaq},r∈cR s K pick↔r∈K∨∃n∈s,¬n∈pick/\r=f9 n pick
 |[],K=>by simp[cR]
 |n::s,K=>by
  show r∈cR s (cu pick K n) pick↔_;rw[o5 (s:=s)];unfold cu;by_cases c:pick.contains n=true
  · rw[XJ c];have c':n∈pick:=by simpa using c
    constructor
    · rintro (h|⟨m,hm,h1,h2⟩)
      · exact .inl h
      · exact .inr ⟨m,by simp[hm],h1,h2⟩
    · rintro (h|⟨m,hm,h1,h2⟩)
      · exact .inl h
      · rcases XN.mp hm with rfl|hm
        · exact absurd c' h1
        · exact .inr ⟨m,hm,h1,h2⟩
  · rw[XI c,wV];have c':¬n∈pick:=by simpa using c
    constructor
    · rintro ((h|h)|⟨m,hm,h1,h2⟩)
      · exact .inl h
      · exact .inr ⟨n,by simp,c',h⟩
      · exact .inr ⟨m,by simp[hm],h1,h2⟩
    · rintro (h|⟨m,hm,h1,h2⟩)
      · exact .inl (.inl h)
      · rcases XN.mp hm with rfl|hm
        · exact .inl (.inr h2)
        · exact .inr ⟨m,hm,h1,h2⟩
theorem lO {pick:aar}:∀{s:aar} {K:aaq},K.Nodup->(cR s K pick).Nodup
 |[],_,h=>h
 |n::s,K,h=>by
  show (cR s (cu pick K n) pick).Nodup;refine lO (s:=s) ?_;unfold cu;by_cases c:pick.contains n=true
  · rw[XJ c];exact h
  · rw[XI c];exact mJ h
theorem vh {s r:aar}:∀{picks K:aaq},r∈picks.foldl (cR s) K↔r∈K∨∃pick∈picks,∃n∈s,¬n∈pick/\r=f9 n pick
 |[],K=>by simp
 |p::ps,K=>by
  rw[Zb,vh (picks:=ps),o5];constructor
  · rintro ((h|h)|⟨q,hq,h⟩)
    · exact .inl h
    · exact .inr ⟨p,by simp,h⟩
    · exact .inr ⟨q,by simp[hq],h⟩
  · rintro (h|⟨q,hq,h⟩)
    · exact .inl (.inl h)
    · rcases XN.mp hq with rfl|hq
      · exact .inl (.inr h)
      · exact .inr ⟨q,hq,h⟩
theorem qK {s:aar}:∀{picks K:aaq},K.Nodup->(picks.foldl (cR s) K).Nodup
 |[],_,h=>h
 |p::ps,K,h=>by
  rw[Zb];exact qK (picks:=ps) (lO h)
theorem snoc_ind {α:Type}{P:List α->Prop}(h0:P [])(h1:∀l a,P l->P (l++[a]))(l:List α):P l:=by
 have:∀m:List α,P m.reverse:=λm=>by
  induction m with
  |nil=>exact h0
  |cons a m ih=>rw[List.reverse_cons];exact h1 _ a ih
 have h:=this l.reverse
 rwa [List.reverse_reverse] at h
theorem dW {row s:aar}{t:aaq}:fillsSets row (s::t)=true↔∃x∈row,x∈s/\fillsSets (row.erase x) t=true:=by
 show (row.any λ(x:Nat)=>s.contains x&&fillsSets (row.erase x) t)=true↔_;rw[Zj];constructor
 · rintro⟨x,hx,h⟩;rw[XR] at h;exact⟨x,hx,by simpa using h.1,h.2⟩
 · rintro⟨x,hx,h1,h2⟩;exact⟨x,hx,by rw[XR];exact⟨by simpa using h1,h2⟩⟩
theorem m7 {row:aar}:fillsSets row []=true↔row=[]:=by
 show row.isEmpty=true↔_;exact Zi
theorem jv {x y:Nat}{l:aar}(hy:y∈l)(hx:x∈l.erase y):x∈l/\y∈l.erase x:=by
 refine⟨List.mem_of_mem_erase hx,?_⟩;by_cases e:y=x
 · subst e;exact hx
 · exact (aab e).mpr hy
theorem lj {s:aar}:∀{ss:aaq} {row:aar},fillsSets row (ss++[s])=true↔∃x∈row,x∈s/\fillsSets (row.erase x) ss=true
 |[],row=>by rw[YC,dW]
 |t::ss,row=>by
  rw[ZP,dW];constructor
  · rintro⟨y,hy,M9,h⟩;obtain⟨x,hx,MJ,h⟩:=lj.mp h;obtain⟨a,b⟩:=jv hy hx;exact⟨x,a,MJ,dW.mpr ⟨y,b,M9,by rw[List.erase_comm];exact h⟩⟩
  · rintro⟨x,hx,MJ,h⟩;obtain⟨y,hy,M9,h⟩:=dW.mp h;obtain⟨a,b⟩:=jv hx hy;exact⟨y,a,M9,lj.mpr ⟨x,b,MJ,by rw[List.erase_comm];exact h⟩⟩
theorem ck.erase {l:aar}(n:Nat)(h:ck l):ck (l.erase n):=List.Pairwise.sublist List.erase_sublist h
theorem oj {n:Nat}{l:aar}(h:l.Nodup):¬n∈l.erase n:=λm=>by
 have:=(h.mem_erase_iff).mp m;exact this.1 rfl
theorem iM (ss:aaq)(s:aar):bx (ss++[s])=e_ (bx ss) s:=by
 unfold bx;rw[List.foldl_append];rfl
theorem ku (ss:aaq):∀r,r∈bx ss↔ck r/\fillsSets r ss=true:=by
 refine snoc_ind (P:=λss=>∀r,r∈bx ss↔ck r/\fillsSets r ss=true) ?_ ?_ ss
 · intro r;show r∈([[]]:aaq)↔_;rw[m7,XZ];constructor
   · rintro rfl;exact⟨List.Pairwise.nil,rfl⟩
   · exact λh=>h.2
 · intro ss s ih r;rw[iM];unfold e_;rw[vh,lj];constructor
   · rintro (h|⟨p,hp,n,hn,h1,rfl⟩)
     · simp at h
     · obtain⟨rp,fp⟩:=(ih p).mp hp;exact⟨lC rp h1,n,mi.mpr (.inl rfl),hn,by rw[oW h1];exact fp⟩
   · rintro⟨hr,n,hn,hs,h⟩;exact .inr ⟨r.erase n,(ih _).mpr ⟨hr.erase n,h⟩,n,hs,oj hr.nodup,(qu hr hn).symm⟩
theorem vz (ss:aaq):(bx ss).Nodup:=by
 refine snoc_ind (P:=λss=>(bx ss).Nodup) ?_ ?_ ss
 · show ([[]]:aaq).Nodup;simp
 · intro ss s _;rw[iM];exact qK List.nodup_nil
theorem j_:∀{ss:aaq} {row:aar},fillsSets row ss=true->row.length=ss.length/\∀x∈row,∃s∈ss,x∈s
 |[],row,h=>by
  have:=m7.mp h;subst this;exact⟨rfl,λx hx=>by simp at hx⟩
 |t::ss,row,h=>by
  obtain⟨y,hy,M9,h⟩:=dW.mp h;obtain⟨h1,h2⟩:=j_ h;have e:=Zo hy;have:0 < row.length:=Z0 hy;refine⟨by rw[XW];omega,λx hx=>?_⟩;by_cases c:x=y
  · subst c;exact⟨t,by simp,M9⟩
  · obtain⟨s,hs,MJ⟩:=h2 x ((aab c).mpr hx);exact⟨s,by simp[hs],MJ⟩
theorem iR:∀{k:Nat} {l r:aar},r.Sublist l->r.length=k->r∈risingRows k l
 |0,l,r,_,h=>by
  have:r=[]:=Zy.mp h;subst this;simp[risingRows]
 |k+1,_,_,.slnil,h=>by simp at h
 |k+1,x::l,r,.cons _ h',h=>by
  rw[risingRows,Yw];exact .inr (iR h' h)
 |k+1,x::l,_::r,.cons_cons _ h',h=>by
  rw[risingRows,Yw];exact .inl (Yh.mpr ⟨r,iR h' (by simpa using h),rfl⟩)
theorem lF:∀(k:Nat) (l r:aar),r∈risingRows k l->r.length=k
 |0,_,r,h=>by
  have:r=[]:=by simpa [risingRows] using h
  subst this;rfl
 |k+1,[],r,h=>by simp[risingRows] at h
 |k+1,x::l,r,h=>by
  rw[risingRows,Yw] at h;rcases h with h|h
  · obtain⟨q,hq,rfl⟩:=Yh.mp h;rw[XW,lF k l q hq]
  · exact lF (k+1) l r h
theorem jg:∀(k:Nat) (l:aar),l.Nodup->(risingRows k l).Nodup
 |0,_,_=>by simp[risingRows]
 |k+1,[],_=>by simp[risingRows]
 |k+1,x::l,nd=>by
  obtain⟨h1,h2⟩:=YT.mp nd;rw[risingRows];refine Zm.mpr ⟨?_,jg (k+1) l h2,?_⟩
  · exact List.Pairwise.map _ (λa b (h:a≠b) e=>h (by injection e)) (jg k l h2)
  · intro a ha b hb e;obtain⟨q,_,rfl⟩:=Yh.mp ha;subst e;exact h1 ((iV _ _ _ hb).subset (by simp))
theorem fU:∀{u r:aar},ck u->ck r->(∀x∈r,x∈u)->r.Sublist u
 |_,[],_,_,_=>List.nil_sublist _
 |[],x::r,_,_,h=>by simpa using h x (by simp)
 |y::u,x::r,hu,hr,h=>by
  obtain⟨u1,u2⟩:=Y0.mp hu;obtain⟨r1,r2⟩:=Y0.mp hr;by_cases e:x=y
  · subst e;refine (fU u2 r2 λz hz=>?_).cons_cons x;rcases XN.mp (h z (by simp[hz])) with q|q
    · have:=r1 z hz;omega
    · exact q
  · have hx:x∈u:=by
     rcases XN.mp (h x (by simp)) with q|q
     · exact absurd q e
     · exact q
    refine (fU u2 hr λz hz=>?_).cons y;have lt:=u1 x hx;rcases XN.mp (h z hz) with q|q
    · subst q;rcases XN.mp hz with q|q
      · exact absurd q.symm e
      · have:=r1 z q;omega
    · exact q
theorem fX {l:aaq}{x:Nat}:x∈together l↔x < 32/\∃s∈l,x∈s:=by
 unfold together;rw[YR,Zw,Zj];constructor
 · rintro⟨h,s,hs,hx⟩;exact⟨h,s,hs,by simpa using hx⟩
 · rintro⟨h,s,hs,hx⟩;exact⟨h,s,hs,by simpa using hx⟩
theorem de (l:aaq):ck (together l):=List.Pairwise.filter _ List.pairwise_lt_range
structure bK (heads s:aar):Prop where
 rise:ck s
 sub:∀x∈s,x∈heads
structure cQ (heads:aar):Prop where
 rise:ck heads
 lo:∀x∈heads,1<=x
 hi:∀x∈heads,x<=24
def la (z:Nat):Bool:=decide (1<=z)&&decide (z<=24)
def fits:aar->aaq->Prop
 |[],[]=>True
 |x::r,s::g=>x∈s/\fits r g
 |_,_=>False
theorem uK:∀{r:aar} {g:aaq},fits r g->r.length=g.length
 |[],[],_=>rfl
 |_::_,_::_,h=>by simp[uK h.2]
 |[],_::_,h=>h.elim
 |_::_,[],h=>h.elim
theorem fc:∀{g:aaq} {had r:aar},r∈apartRows g had↔fits r g/\r.Nodup/\∀x∈r,¬x∈had
 |[],_,[]=>by simp[apartRows,fits]
 |[],_,_::_=>by simp[apartRows,fits]
 |s::g,_,[]=>by simp[apartRows,fits]
 |s::g,had,x::r=>by
  simp only[apartRows,ZO,YR,Yh,List.cons.injEq,fits,YT,aac];constructor
  · rintro⟨y,⟨h1,h2⟩,q,hq,rfl,rfl⟩;obtain⟨a,b,c⟩:=fc.mp hq;exact⟨⟨h1,a⟩,⟨λm=>c y m (by simp),b⟩,by simpa using h2,λz hz m=>c z hz (by simp[m])⟩
  · rintro⟨⟨h1,a⟩,⟨n,b⟩,h2,c⟩;refine⟨x,⟨h1,by simpa using h2⟩,r,fc.mpr ⟨a,b,λz hz m=>?_⟩,rfl,rfl⟩;rcases XN.mp m with rfl|m
    · exact n hz
    · exact c z hz m
theorem qo {x:Nat}{l:aaq}(h:l.Nodup):(l.map λr=>x::r).Nodup:=List.pairwise_map.mpr (List.Pairwise.imp (λn e=>n (List.cons.inj e).2) h)
theorem vV {f:Nat->aaq}{s:aar}(hs:s.Nodup)(h:∀x∈s,(f x).Nodup):(s.flatMap λx=>(f x).map λr=>x::r).Nodup:=by
 refine List.pairwise_flatMap.mpr ⟨λx hx=>qo (h x hx),List.Pairwise.imp (λn a ha b hb e=>?_) hs⟩;obtain⟨p,_,rfl⟩:=Yh.mp ha;obtain⟨q,_,rfl⟩:=Yh.mp hb;exact n (List.cons.inj e).1
theorem jz:∀{g:aaq} {had:aar},(∀s∈g,s.Nodup)->(apartRows g had).Nodup
 |[],_,_=>by simp[apartRows]
 |s::g,had,h=>vV ((h s (by simp)).filter _) λ_ _=>jz λt ht=>h t (by simp[ht])
theorem vU:∀{r:aar} {g:aaq},fits r g->(∀x∈r,∃s∈g,x∈s)/\∀s∈g,∃x∈r,x∈s
 |[],[],_=>by simp
 |x::r,s::g,h=>by
  obtain⟨a,b⟩:=vU h.2;refine⟨λy hy=>?_,λt ht=>?_⟩
  · rcases XN.mp hy with rfl|hy
    · exact⟨s,by simp,h.1⟩
    · obtain⟨t,ht,M9⟩:=a y hy;exact⟨t,by simp[ht],M9⟩
  · rcases XN.mp ht with rfl|ht
    · exact⟨x,by simp,h.1⟩
    · obtain⟨y,hy,M9⟩:=b t ht;exact⟨y,by simp[hy],M9⟩
 |[],_::_,h=>h.elim
 |_::_,[],h=>h.elim
theorem vA {B:aar}:∀{k:Nat} {r:aar},fits r (List.replicate k B)↔r.length=k/\∀x∈r,x∈B
 |0,[]=>by simp[fits]
 |0,_::_=>by simp[fits]
 |k+1,[]=>by simp[fits,aae]
 |k+1,x::r=>by
  rw[aae];show x∈B/\fits r _↔_;rw[vA];simp only[XW,aac,Nat.add_right_cancel_iff];exact⟨λ⟨a,b,c⟩=>⟨b,a,c⟩,λ⟨b,a,c⟩=>⟨a,b,c⟩⟩
def jr (a:Nat)(B:aar):aaq->List (aaq)
 |[]=>[]
 |s::g=>(if s==B then [[a]::g] else [])++(jr a B g).map λr=>s::r
def bH (B:aar)(A:aar)(gs:List (aaq)):List (aaq):=A.foldl (λgs a=>gs.flatMap (jr a B)) gs
theorem sU {x:Nat}{B:aar}(h:¬x∈B):[x]≠B:=λe=>h (e ▸ XZ.mpr rfl)
theorem t7 {a:Nat}{B s:aar}{g t:aaq}:t∈jr a B (s::g)↔(s=B/\t=[a]::g)∨∃r∈jr a B g,t=s::r:=by
 show t∈(if s==B then [[a]::g] else [])++(jr a B g).map (λr=>s::r)↔_;rw[Yw,Yh];have z:(∃r,r∈jr a B g/\s::r=t)↔∃r∈jr a B g,t=s::r:=⟨λ⟨r,h,e⟩=>⟨r,h,e.symm⟩,λ⟨r,h,e⟩=>⟨r,h,e.symm⟩⟩;rw[z];by_cases e:s=B <;> simp[e]
structure Good (B had:aar)(k:Nat)(g:aaq):Prop where
 len:g.length=k
 are:∀s∈g,s=B∨∃a∈had,s=[a]
 all:∀a∈had,[a]∈g
theorem ow {a:Nat}{B:aar}:∀{g t:aaq},t∈jr a B g->t.length=g.length/\(∀s∈t,s=[a]∨s∈g)/\[a]∈t/\∀s∈g,s=B∨s∈t
 |[],t,h=>by cases h
 |s::g,t,h=>by
  rcases t7.mp h with ⟨rfl,rfl⟩|⟨r,hr,rfl⟩
  · refine⟨rfl,λu hu=>?_,by simp,λu hu=>?_⟩
    · rcases XN.mp hu with e|hu
      · exact .inl e
      · exact .inr (by simp[hu])
    · rcases XN.mp hu with e|hu
      · exact .inl e
      · exact .inr (by simp[hu])
  · obtain⟨a1,a2,a3,a4⟩:=ow hr;refine⟨by simp[a1],λu hu=>?_,by simp[a3],λu hu=>?_⟩
    · rcases XN.mp hu with e|hu
      · exact .inr (by simp[e])
      · exact (a2 u hu).imp id λm=>by simp[m]
    · rcases XN.mp hu with e|hu
      · exact .inr (by simp[e])
      · exact (a4 u hu).imp id λm=>by simp[m]
theorem AX {a k:Nat}{B had:aar}{g t:aaq}(hB:∀x∈had,¬x∈B)(G:Good B had k g)(h:t∈jr a B g):Good B (had++[a]) k t:=by
 obtain⟨a1,a2,a3,a4⟩:=ow h;refine⟨a1.trans G.len,λs hs=>?_,λx hx=>?_⟩
 · rcases a2 s hs with e|m
   · exact .inr ⟨a,by simp,e⟩
   · exact (G.are s m).imp id λ⟨x,hx,e⟩=>⟨x,by simp[hx],e⟩
 · rcases Yw.mp hx with hx|hx
   · exact (a4 _ (G.all x hx)).resolve_left (sU (hB x hx))
   · rw[XZ] at hx;exact hx ▸ a3
def uL (a:Nat)(B:aar)(g:aaq):aaq:=g.map λs=>if s=[a] then B else s
theorem wN {a:Nat}{B:aar}{g:aaq}(h:¬[a]∈g):uL a B g=g:=by
 unfold uL
 conv=>rhs;rw[←List.map_id g]
 refine YA λs hs=>?_;rw[XI λe=>h (by rw[←e];exact hs)];rfl
theorem pQ {a:Nat}{B:aar}:∀{g t:aaq},¬[a]∈g->t∈jr a B g->uL a B t=g
 |[],t,_,h=>by cases h
 |s::g,t,n,h=>by
  have n2:¬[a]∈g:=λm=>n (by simp[m]);rcases t7.mp h with ⟨rfl,rfl⟩|⟨r,hr,rfl⟩
  · show (if [a]=[a] then s else [a])::uL a s g=_;rw[XJ rfl,wN n2]
  · show (if s=[a] then B else s)::uL a B r=_;rw[XI λe=>n (by simp[e]),pQ n2 hr]
theorem rM {a:Nat}{B:aar}(hB:¬a∈B):∀g:aaq,(jr a B g).Nodup
 |[]=>by simp[jr]
 |s::g=>by
  have m:((jr a B g).map λr=>s::r).Nodup:=List.pairwise_map.mpr (List.Pairwise.imp (λn e=>n (List.cons.inj e).2) (rM hB g));unfold jr;by_cases e:s=B
  · rw[XJ (by simp[e])];refine YT.mpr ⟨λh=>?_,m⟩;obtain⟨r,_,hr⟩:=Yh.mp h;exact sU hB ((List.cons.inj hr).1 ▸ e)
  · rw[XI (by simp[e])];exact m
theorem i6 {B:aar}{k:Nat}:∀{A had:aar} {gs:List (aaq)},(∀x∈had++A,¬x∈B)->(had++A).Nodup->gs.Nodup->(∀g∈gs,Good B had k g)->(bH B A gs).Nodup/\∀g∈bH B A gs,Good B (had++A) k g
 |[],had,gs,_,_,h2,h3=>by
  rw[YJ];exact⟨h2,h3⟩
 |a::A,had,gs,hB,nd,h2,h3=>by
  have e:had++a::A=(had++[a])++A:=by simp
  rw[e] at hB nd ⊢;have n1:=Zm.mp (Zm.mp nd).1;have ha:¬a∈had:=λm=>n1.2.2 a m a (by simp) rfl;have hb:∀x∈had,¬x∈B:=λx hx=>hB x (by simp[hx]);have no:∀g∈gs,¬[a]∈g:=λg hg m=>by
   rcases (h3 g hg).are _ m with e|⟨x,hx,e⟩
   · exact sU (hB a (by simp)) e
   · have:a=x:=by simpa using e
     exact ha (this ▸ hx)
  refine i6 hB nd ?_ λg hg=>?_
  · refine List.pairwise_flatMap.mpr ⟨λg _=>rM (hB a (by simp)) g,Zl.mpr λ{g g'} hs x hx y hy e=>?_⟩;have m1:=hs.subset (show g∈[g,g'] by simp);have m2:=hs.subset (show g'∈[g,g'] by simp);have:=Zl.mp h2 hs;exact this (by rw[←pQ (no g m1) hx,e,pQ (no g' m2) hy])
  · obtain⟨g0,h0,hr⟩:=ZO.mp hg;exact AX hb (h3 g0 h0) hr
def gq (A B:aar)(r:aar):aaq:=r.map λx=>if x∈A then [x] else B
theorem va {a:Nat}{B had:aar}(ha:¬a∈had):∀{r:aar},r.Nodup->a∈r->gq (had++[a]) B r∈jr a B (gq had B r)
 |[],_,h=>by cases h
 |y::r,nd,h=>by
  obtain⟨n1,n2⟩:=YT.mp nd;have step:∀z,z≠a->(if z∈had++[a] then [z] else B)=if z∈had then [z] else B:=λz hz=>by simp[hz]
  refine t7.mpr ?_;by_cases e:y=a
  · subst e;refine .inl ⟨XI ha,?_⟩;show (if y∈had++[y] then [y] else B)::gq (had++[y]) B r=_;rw[XJ (by simp)];congr 1;exact YA λz hz=>step z λe=>n1 (e ▸ hz)
  · refine .inr ⟨_,va ha n2 ((XN.mp h).resolve_left λz=>e z.symm),?_⟩;show (if y∈had++[a] then [y] else B)::_=_;rw[step y e];rfl
theorem qB {B r:aar}(nr:r.Nodup):∀{A had:aar} {gs:List (aaq)},(had++A).Nodup->(∀a∈A,a∈r)->gq had B r∈gs->gq (had++A) B r∈bH B A gs
 |[],had,gs,_,_,h=>by rwa [YJ]
 |a::A,had,gs,nd,h1,h=>by
  have e:had++a::A=(had++[a])++A:=by simp
  rw[e] at nd ⊢;have n1:=Zm.mp (Zm.mp nd).1;exact qB nr nd (λx hx=>h1 x (by simp[hx])) (ZO.mpr ⟨_,h,va (λm=>n1.2.2 a m a (by simp) rfl) nr (h1 a (by simp))⟩)
theorem Ba {B r:aar}:gq [] B r=List.replicate r.length B:=by
 unfold gq;rw[←List.map_const'];exact YA λx _=>by simp
theorem rq {A B:aar}:∀{r:aar},(∀x∈r,x∈A∨x∈B)->fits r (gq A B r)
 |[],_=>trivial
 |x::r,h=>by
  refine⟨?_,rq λy hy=>h y (by simp[hy])⟩;by_cases e:x∈A
  · simp[e]
  · simpa [e] using (h x (by simp)).resolve_left e
theorem m9 {A B:aar}(hB:∀x∈A,¬x∈B):∀{r:aar} {g:aaq},(∀s∈g,s=B∨∃a∈A,s=[a])->fits r g->g=gq A B r
 |[],[],_,_=>rfl
 |x::r,s::g,h,f=>by
  show s::g=(if x∈A then [x] else B)::gq A B r;rw[←m9 hB (λt ht=>h t (by simp[ht])) f.2];congr 1;rcases h s (by simp) with rfl|⟨a,ha,rfl⟩
  · rw[XI λm=>hB x m f.1]
  · have:x=a:=by simpa using f.1
    rw[this,XJ ha]
 |[],_::_,_,f=>f.elim
 |_::_,[],_,f=>f.elim
theorem xG {A B:aar}{k:Nat}(nA:A.Nodup)(nB:B.Nodup)(Mh:∀x∈A,¬x∈B) :
  ((bH B A [List.replicate k B]).flatMap λg=>apartRows g []).Nodup /\
  ∀r,r∈(bH B A [List.replicate k B]).flatMap (λg=>apartRows g [])↔r.length=k/\r.Nodup/\(∀a∈A,a∈r)/\∀x∈r,x∈A∨x∈B:=by
 obtain⟨h1,h2⟩:=i6 (B:=B) (k:=k) (A:=A) (had:=[]) (gs:=[List.replicate k B]) (by simpa using Mh) (by simpa using nA) (by simp) (λg hg=>by
  rw[XZ] at hg;subst hg;exact⟨by simp,λs hs=>.inl (YI hs),by simp⟩)
 rw[YC] at h2;refine⟨List.pairwise_flatMap.mpr ⟨λg hg=>jz λs hs=>?_,Zl.mpr λ{g g'} hs x hx y hy e=>?_⟩,λr=>?_⟩
 · rcases (h2 g hg).are s hs with rfl|⟨a,_,rfl⟩
   · exact nB
   · simp
 · have m1:=hs.subset (show g∈[g,g'] by simp);have m2:=hs.subset (show g'∈[g,g'] by simp);refine Zl.mp h1 hs ?_;rw[m9 Mh (h2 g m1).are (fc.mp hx).1,e,←m9 Mh (h2 g' m2).are (fc.mp hy).1]
 · rw[ZO];constructor
   · rintro⟨g,hg,hr⟩;obtain⟨f,nr,_⟩:=fc.mp hr;have G:=h2 g hg;obtain⟨f1,f2⟩:=vU f;refine⟨(uK f).trans G.len,nr,λa ha=>?_,λx hx=>?_⟩
     · obtain⟨x,hx,e⟩:=f2 _ (G.all a ha);have:x=a:=by simpa using e
       exact this ▸ hx
     · obtain⟨s,hs,MJ⟩:=f1 x hx;rcases G.are s hs with rfl|⟨a,ha,rfl⟩
       · exact .inr MJ
       · have:x=a:=by simpa using MJ
         exact .inl (this ▸ ha)
   · rintro⟨hl,nr,ha,hx⟩;refine⟨gq A B r,?_,fc.mpr ⟨rq hx,nr,by simp⟩⟩;have:=qB (B:=B) nr (A:=A) (had:=[]) (gs:=[List.replicate k B]) (by simpa using nA) ha (by rw[Ba,hl];simp);simpa using this
theorem lB {B:aar}:∀{A P:aar} {j:Nat} {rest:List (aaq)},(∀x∈P++A,¬x∈B)->A.length<=j->∃q,bH B A ((P.map (λa=>[a])++List.replicate j B)::rest)=((P++A).map (λa=>[a])++List.replicate (j - A.length) B)::q
 |[],P,j,rest,_,_=>⟨rest,by simp[bH]⟩
 |a::A,P,j,rest,h,hj=>by
  obtain⟨j,rfl⟩:∃i,j=i+1:=⟨j - 1,by rw[XW] at hj;omega⟩;have first:∀P:aar,(∀x∈P,¬x∈B)->∃q,jr a B (P.map (λa=>[a])++List.replicate (j+1) B)=(P.map (λa=>[a])++[a]::List.replicate j B)::q:=by
   intro P
   induction P with
   |nil=>intro _;exact⟨_,by rw[Y6,YC,YC,aae];unfold jr;rw[XJ (by simp)];rfl⟩
   |cons x P ih =>
    intro hP;obtain⟨q,e⟩:=ih λy hy=>hP y (by simp[hy]);refine⟨q.map λr=>[x]::r,?_⟩;rw[X1,ZP];unfold jr;rw[e,XI (by simpa using sU (hP x (by simp)))];rfl
  obtain⟨q,e⟩:=first P λx hx=>h x (by simp[hx])
  obtain⟨q',e'⟩:=lB (B:=B) (A:=A) (P:=P++[a]) (j:=j) (rest:=q++rest.flatMap (jr a B)) (by simpa using h) (by rw[XW] at hj;omega);refine⟨q',?_⟩;show bH B A (((P.map (λa=>[a])++List.replicate (j+1) B)::rest).flatMap (jr a B))=_;rw[Z2,e,ZP];have e1:P.map (λa=>[a])++[a]::List.replicate j B=(P++[a]).map (λa=>[a])++List.replicate j B:=by simp
  rw[e1,e'];simp
theorem lu {B:aar}:∀{j:Nat} {r:aar},fillsSets r (List.replicate j B)=true↔r.length=j/\∀x∈r,x∈B
 |0,r=>by
  rw[List.replicate_zero,m7];exact⟨λh=>by subst h;simp,λh=>Zy.mp h.1⟩
 |j+1,r=>by
  rw[aae,dW];constructor
  · rintro⟨x,hx,hb,h⟩;obtain⟨h1,h2⟩:=lu.mp h;have:=Zo hx;have:=Z0 hx;refine⟨by omega,λy hy=>?_⟩;by_cases e:y=x
    · exact e ▸ hb
    · exact h2 y ((aab e).mpr hy)
  · rintro⟨hl,h⟩
    match r,hl,h with
    |x::r,hl,h=>exact⟨x,by simp,h x (by simp),lu.mpr ⟨by simpa using hl,λy hy=>h y (by simp only[List.erase_cons_head] at hy;simp[hy])⟩⟩
theorem k_ {B:aar}{j:Nat}:∀{A r:aar},A.Nodup->(∀x∈B,¬x∈A)->r.Nodup ->
  (fillsSets r (A.map (λa=>[a])++List.replicate j B)=true↔(∀a∈A,a∈r)/\r.length=A.length+j/\∀x∈r,x∈A∨x∈B)
 |[],r,_,_,_=>by
  rw[Y6,YC,lu];simp
 |a::A,r,nA,Mh,nr=>by
  obtain⟨n1,n2⟩:=YT.mp nA;rw[X1,ZP,dW];have ih:=k_ (B:=B) (j:=j) n2 (λx hx m=>Mh x hx (X2 _ m)) (nr.erase a);have me:∀x,x∈r.erase a↔x≠a/\x∈r:=λx=>nr.mem_erase_iff;constructor
  · rintro⟨x,hx,ha,h⟩;have:x=a:=by simpa using ha
    subst this;obtain⟨h1,h2,h3⟩:=ih.mp h;have:=Zo hx;have:=Z0 hx;refine⟨λy hy=>?_,by rw[XW];omega,λy hy=>?_⟩
    · rcases XN.mp hy with rfl|hy
      · exact hx
      · exact ((me y).mp (h1 y hy)).2
    · by_cases e:y=x
      · exact .inl (by simp[e])
      · exact (h3 y ((me y).mpr ⟨e,hy⟩)).imp (X2 _) id
  · rintro⟨h1,h2,h3⟩;have ha:=h1 a (by simp);have:=Zo ha;rw[XW] at h2;refine⟨a,ha,by simp,ih.mpr ⟨λy hy=>(me y).mpr ⟨λe=>n1 (e ▸ hy),h1 y (X2 _ hy)⟩,by omega,λy hy=>?_⟩⟩;obtain⟨e,hy⟩:=(me y).mp hy;rcases h3 y hy with m|m
    · exact .inl ((XN.mp m).resolve_left e)
    · exact .inr m
def jA (kind:Kind)(how:How)(k:Nat)(sets:aaq):List (aaq):=match how with
 |.on=>[sets]
 |.box=>[List.replicate k (sets.headD [])]
 |.key=>if kind=.any then (bH (sets.getD 1 []) (sets.headD []) [List.replicate k (sets.getD 1 [])]).take 1 else bH (sets.getD 1 []) (sets.headD []) [List.replicate k (sets.getD 1 [])]
def su (kind:Kind)(gs:List (aaq)):aaq:=match kind with
 |.order=>gs.flatMap λg=>apartRows g []
 |.any=>bx (gs.headD [])
 |_=>gs.flatMap rowsOf
def Ct (kind:Kind)(how:How)(k:Nat)(sets:aaq):aaq:=su kind (jA kind how k sets)
def countM (kind:Kind)(how:How)(k:Nat)(sets:aaq):Nat:=(Ct kind how k sets).length
section
variable {C:Card}{b:Bet}{p:Pool}
theorem vx (hl:p.kind≠.legs):(C.sets p).headD []=C.headsOf p.race:=by
 unfold Card.sets Pool.legs;rw[XI hl];rfl
theorem v9 {row:aar}(hk:p.kind=.order):C.isCombo p row=(row.length==p.k&&(decide row.Nodup&&row.all λx=>(C.headsOf p.race).contains x)):=by
 unfold Card.isCombo;rw[hk];simp only[vx (C:=C) (p:=p) (by rw[hk];decide)]
theorem sI {row:aar}(hk:p.kind=.any):C.isCombo p row=(row.length==p.k&&(risesN row&&row.all λx=>(C.headsOf p.race).contains x)):=by
 unfold Card.isCombo;rw[hk];simp only[vx (C:=C) (p:=p) (by rw[hk];decide)]
structure yW (C:Card)(b:Bet)(p:Pool):Prop where
 pool:C.pool b.pool=p
 heads:p.kind≠.legs->cQ (C.headsOf p.race)
 k:p.kind≠.legs->p.kind≠.place->2<=p.k/\p.k<=mostK p.kind
 good:p.kind≠.legs->∀s∈b.sets,bK (C.headsOf p.race) s
 place:p.kind=.place->b.how=.on/\b.sets.length=1
 legs:p.kind=.legs->b.how=.on
 on:p.kind≠.legs->p.kind≠.place->b.how=.on->b.sets.length=p.k
 box:b.how=.box->∃s,b.sets=[s]/\p.k<=s.length
 key:b.how=.key->∃s t,b.sets=[s,t]/\s.length < p.k/\(∀x∈t,¬x∈s)/\p.k<=s.length+t.length
theorem i7 {l:aaq}{heads:aar}(h:∀s∈l,bK heads s):∀x∈together l,x∈heads:=λx hx=>by
 obtain⟨_,s,hs,MJ⟩:=fX.mp hx;exact (h s hs).sub x MJ
theorem iK {l:aaq}{heads s:aar}(gh:cQ heads)(h:∀s∈l,bK heads s)(hs:s∈l):∀x∈s,x∈together l:=λx hx =>
 fX.mpr ⟨Nat.lt_of_le_of_lt (gh.hi x ((h s hs).sub x hx)) (by decide),s,hs,hx⟩
theorem Au (hk:p.kind=.order)(gh:cQ (C.headsOf p.race))(hp:C.pool b.pool=p){A B:aar}(good:∀s∈b.sets,bK (C.headsOf p.race) s)(hu:∀x,(∃s∈b.sets,x∈s)↔x∈A∨x∈B)(hf:∀r,(∀x∈r,x∈A∨x∈B)->(C.has b r=(C.isCombo p r&&A.all λx=>r.contains x)))(r:aar) :
  r∈(apartRows (List.replicate p.k (together b.sets)) []).filter (C.has b)↔r.length=p.k/\r.Nodup/\(∀a∈A,a∈r)/\∀x∈r,x∈A∨x∈B:=by
 have NM:∀x,x∈together b.sets↔x∈A∨x∈B:=λx=>by
  rw[←hu];exact⟨λh=>(fX.mp h).2,λ⟨s,hs,hx⟩=>iK gh good hs x hx⟩
 rw[YR,fc,vA];constructor
 · rintro⟨⟨⟨h1,h2⟩,h3,_⟩,h4⟩;have sub:∀x∈r,x∈A∨x∈B:=λx hx=>(NM x).mp (h2 x hx);rw[hf r sub] at h4;simp only[XR,Yd] at h4;exact⟨h1,h3,λa ha=>by simpa using h4.2 a ha,sub⟩
 · rintro⟨h1,h2,h3,h4⟩;refine⟨⟨⟨h1,λx hx=>(NM x).mpr (h4 x hx)⟩,h2,by simp⟩,?_⟩;rw[hf r h4,v9 hk];simp only[XR,Yd,XS];exact⟨⟨by simpa using h1,h2,λx hx=>by simpa using i7 good x ((NM x).mpr (h4 x hx))⟩,λa ha=>by simpa using h3 a ha⟩
theorem DH (hk:p.kind=.any)(gh:cQ (C.headsOf p.race))(hp:C.pool b.pool=p){A B:aar}(good:∀s∈b.sets,bK (C.headsOf p.race) s)(hu:∀x,(∃s∈b.sets,x∈s)↔x∈A∨x∈B)(hf:∀r,(∀x∈r,x∈A∨x∈B)->(C.has b r=(C.isCombo p r&&A.all λx=>r.contains x)))(r:aar) :
  r∈(risingRows p.k (together b.sets)).filter (C.has b)↔ck r/\(∀a∈A,a∈r)/\r.length=p.k/\∀x∈r,x∈A∨x∈B:=by
 have NM:∀x,x∈together b.sets↔x∈A∨x∈B:=λx=>by
  rw[←hu];exact⟨λh=>(fX.mp h).2,λ⟨s,hs,hx⟩=>iK gh good hs x hx⟩
 rw[YR];constructor
 · rintro⟨h1,h4⟩;have hs:=iV _ _ _ h1;have sub:∀x∈r,x∈A∨x∈B:=λx hx=>(NM x).mp (hs.subset hx);rw[hf r sub] at h4;simp only[XR,Yd] at h4;exact⟨List.Pairwise.sublist hs (de _),λa ha=>by simpa using h4.2 a ha,lF _ _ _ h1,sub⟩
 · rintro⟨h1,h2,h3,h4⟩;refine⟨iR (fU (de _) h1 λx hx=>(NM x).mpr (h4 x hx)) h3,?_⟩;rw[hf r h4,sI hk];simp only[XR,Yd,XS];exact⟨⟨by simpa using h3,(j9 r).mpr h1,λx hx=>by simpa using i7 good x ((NM x).mpr (h4 x hx))⟩,λa ha=>by simpa using h2 a ha⟩
theorem yS (v:yW C b p)(nl:p.kind≠.legs)(hn:b.how≠.on):∃A B,jA p.kind b.how p.k b.sets=(if p.kind=.any then (bH B A [List.replicate p.k B]).take 1 else bH B A [List.replicate p.k B])/\A.Nodup/\B.Nodup/\(∀x∈B,¬x∈A)/\A.length<=p.k /\
  (∀x,(∃s∈b.sets,x∈s)↔x∈A∨x∈B)/\∀r,(∀x∈r,x∈A∨x∈B)->(C.has b r=(C.isCombo p r&&A.all λx=>r.contains x)):=by
 cases hh:b.how with
 |on=>exact absurd hh hn
 |box =>
  obtain⟨s,hs,hl⟩:=v.box hh;have g:bK (C.headsOf p.race) s:=v.good nl s (by rw[hs];simp);refine⟨[],s,?_,by simp,g.rise.nodup,by simp,by simp,λx=>by rw[hs];simp,λr hr=>?_⟩
  · rw[hs];unfold jA bH;by_cases e:p.kind=.any <;> simp[e]
  · unfold Card.has;rw[v.pool,hh,hs];have:(r.all λx=>([s].headD []).contains x)=true:=by
     rw[Yd];intro x hx;simpa using hr x hx
    simp only[this,List.all_nil]
 |key =>
  obtain⟨s,t,hs,hl,Mh,Np⟩:=v.key hh;have gs:bK (C.headsOf p.race) s:=v.good nl s (by rw[hs];simp);have gt:bK (C.headsOf p.race) t:=v.good nl t (by rw[hs];simp);refine⟨s,t,by rw[hs];rfl,gs.rise.nodup,gt.rise.nodup,Mh,by omega,λx=>by rw[hs];simp,λr hr=>?_⟩;unfold Card.has;rw[v.pool,hh,hs];have:(r.all λx=>s.contains x||t.contains x)=true:=by
   rw[Yd];intro x hx;simpa using hr x hx
  show (C.isCombo p r&&((s.all λx=>r.contains x)&&r.all λx=>s.contains x||t.contains x))=_;rw[this,Bool.and_true]
theorem w9 (hp:C.pool b.pool=p)(hk:p.kind=.order)(hh:b.how≠.on):C.rows b=(apartRows (List.replicate p.k (together b.sets)) []).filter (C.has b):=by
 unfold Card.rows;rw[hp];dsimp only;rw[hk];cases hb:b.how with
 |on=>exact absurd hb hh
 |box=>rfl
 |key=>rfl
theorem zJ (v:yW C b p):(Ct p.kind b.how p.k b.sets).Perm (C.rows b):=by
 have hp:=v.pool;unfold Ct Card.rows;rw[hp];dsimp only;cases hk:p.kind with
 |legs =>
  rw[v.legs hk];show ([b.sets].flatMap rowsOf).Perm _;simp
 |place =>
  obtain⟨h1,h2⟩:=v.place hk;rw[h1]
  match hs:b.sets,h2 with
  |[s],_ =>
   show ([[s]].flatMap rowsOf).Perm (s.map λx=>[x]);simp[rowsOf,←List.map_eq_flatMap]
 |order =>
  have nl:p.kind≠.legs:=by rw[hk];decide
  have gh:=v.heads nl;by_cases hh:b.how=.on
  · rw[hh];show ([b.sets].flatMap λg=>apartRows g []).Perm (apartRows b.sets []);simp
  · have e:=w9 hp hk hh;unfold Card.rows at e;rw[hp] at e;dsimp only at e;rw[hk] at e;rw[e];obtain⟨A,B,e1,nA,nB,Mh,_,hu,hf⟩:=yS v nl hh;rw[hk,XI (by decide)] at e1;rw[e1];obtain⟨r1,r2⟩:=xG (k:=p.k) nA nB λx hx m=>Mh x m hx;refine (aam r1 ((jz λs hs=>?_).filter _)).mpr λr=>(r2 r).trans (Au hk gh hp (v.good nl) hu hf r).symm;rw[YI hs];exact (de _).nodup
 |any =>
  have nl:p.kind≠.legs:=by rw[hk];decide
  have np:p.kind≠.place:=by rw[hk];decide
  have gh:=v.heads nl;show (bx ((jA .any b.how p.k b.sets).headD [])).Perm ((risingRows p.k (together b.sets)).filter (C.has b));refine (aam (vz _) ((jg _ _ (de _).nodup).filter _)).mpr λr=>?_;by_cases hh:b.how=.on
  · rw[hh];show r∈bx b.sets↔_;rw[YR,ku];have hlen:=v.on nl np hh;have NN:C.has b r=(C.isCombo p r&&fillsSets r b.sets):=by
     unfold Card.has;rw[hp,hh];show (C.isCombo p r&&if p.kind=.any then _ else _)=_;rw[XJ hk]
    rw[NN,sI hk];constructor
    · rintro⟨h1,h2⟩;obtain⟨l1,l2⟩:=j_ h2;have Sw:∀x∈r,x∈together b.sets:=λx hx=>by
       obtain⟨s,hs,MJ⟩:=l2 x hx;exact iK gh (v.good nl) hs x MJ
      refine⟨iR (fU (de _) h1 Sw) (by rw[l1,hlen]),?_⟩;simp only[XR];refine⟨⟨by simp[l1,hlen],(j9 r).mpr h1,?_⟩,h2⟩;rw[Yd];intro x hx;simpa using i7 (v.good nl) x (Sw x hx)
    · rintro⟨h1,h2⟩;simp only[XR] at h2;exact⟨(j9 r).mp h2.1.2.1,h2.2⟩
  · obtain⟨A,B,e1,nA,nB,Mh,hA,hu,hf⟩:=yS v nl hh;rw[hk,XJ rfl] at e1;obtain⟨q,e2⟩:=lB (B:=B) (A:=A) (P:=[]) (j:=p.k) (rest:=[]) (λx hx m=>Mh x m (by simpa using hx)) hA;rw[Y6,YC,YC] at e2;rw[e1,e2];show r∈bx (A.map (λa=>[a])++List.replicate (p.k - A.length) B)↔_;rw[ku,DH hk gh hp (v.good nl) hu hf r];constructor
    · rintro⟨h1,h2⟩;obtain⟨a1,a2,a3⟩:=(k_ nA Mh h1.nodup).mp h2;exact⟨h1,a1,by omega,a3⟩
    · rintro⟨h1,a1,a2,a3⟩;exact⟨h1,(k_ nA Mh h1.nodup).mpr ⟨a1,by omega,a3⟩⟩
theorem jM:∀(g:aaq),(rowsOf g).length=product (g.map List.length)
 |[]=>rfl
 |s::g=>by
  have fold:∀(l:aar) (a:Nat),l.foldl (λa b=>a*b) a=a*product l:=by
   intro l
   induction l with
   |nil=>intro a;simp[product]
   |cons x l ih=>intro a;unfold product;rw[Zb,Zb,ih,ih (1*x)];simp[Nat.mul_assoc]
  unfold rowsOf;rw[fL,X1];show _=(g.map List.length).foldl (λa b=>a*b) (1*s.length);rw[fold,Nat.one_mul,←jM g];simp only[XH];rw[sum_map_const]
theorem uB (v:yW C b p):C.manyOf b=countM p.kind b.how p.k b.sets:=by
 unfold countM;rw[(zJ v).length_eq];unfold Card.manyOf;rw[v.pool];by_cases h:p.kind=.legs
 · rw[XJ h,←jM];unfold Card.rows;rw[v.pool];dsimp only;rw[h]
 · rw[XI h]
end
abbrev W:=aar
def isLet (c:Nat):Bool:=decide (97<=c)&&decide (c<=122)
def bW (c:Nat):Bool:=decide (48<=c)&&decide (c<=57)
def t_ (c:Nat):Bool:=isLet c||bW c||c==32||c==10||c==44||c==47
def sg (c:Nat):Nat:=if t_ c=true then c else 63
def tx (w:Bytes):W:=w.map λc=>sg c.toNat
def cd (s:String):W:=s.toList.map Char.toNat
theorem u7 {c d:Nat}(h:t_ d=true):sg c=d↔c=d:=by
 unfold sg;by_cases e:t_ c=true
 · rw[XJ e]
 · rw[XI e];constructor
   · intro q;subst q;exact absurd h (by decide)
   · rintro rfl;exact absurd h e
theorem pf (c:Nat):isLet (sg c)=isLet c:=by
 unfold sg;by_cases e:t_ c=true
 · rw[XJ e]
 · rw[XI e];have:isLet c=false:=by
    cases h:isLet c with
    |false=>rfl
    |true=>exact absurd (by unfold t_;rw[h];simp) e
   rw[this];decide
theorem pY (c:Nat):bW (sg c)=bW c:=by
 unfold sg;by_cases e:t_ c=true
 · rw[XJ e]
 · rw[XI e];have:bW c=false:=by
    cases h:bW c with
    |false=>rfl
    |true=>exact absurd (by unfold t_;rw[h];simp) e
   rw[this];decide
theorem zD {c:Nat}(h:bW c=true):sg c=c:=by
 unfold sg t_;rw[h];simp
theorem iA (w:Bytes):(tx w).length=w.length:=by unfold tx;rw[XH]
theorem rH (v w:Bytes):tx (v++w)=tx v++tx w:=by unfold tx;rw[X3]
theorem CA:tx []=[]:=rfl
theorem tY (c:UInt8)(w:Bytes):tx (c::w)=sg c.toNat::tx w:=rfl
theorem jF {a b:UInt8}(h:a.toNat=b.toNat):a=b:=UInt8.toNat_inj.mp h
theorem rF {v:Bytes}:∀{w:Bytes},(∀c∈v,t_ c.toNat=true)->(tx w=v.map UInt8.toNat↔w=v):=by
 induction v with
 |nil =>
  intro w _;cases w with
  |nil=>simp[tx]
  |cons=>simp[tx]
 |cons d v ih =>
  intro w h;cases w with
  |nil=>simp[tx]
  |cons c w =>
   have h1:=h d (by simp);have h2:=ih (w:=w) λc hc=>h c (by simp[hc]);rw[tY,X1,List.cons.injEq,List.cons.injEq,u7 h1,h2];exact and_congr_left' ⟨jF,λe=>e ▸ rfl⟩
def plainT (s:String):Bool:=s.toList.all λc=>t_ c.toNat&&decide (c.toNat < 256)
theorem vH {s:String}(h:plainT s=true):(ascii s).map UInt8.toNat=cd s:=by
 unfold ascii cd;rw[X_];refine YA λc hc=>?_;have:=(Yd.mp h) c hc;rw[XR] at this;have lt:c.toNat < 256:=X4 this.2;show (UInt8.ofNat c.toNat).toNat=c.toNat;rw[UInt8.toNat_ofNat'];exact Nat.mod_eq_of_lt lt
theorem bo {s:String}(w:Bytes)(h:plainT s=true):tx w=cd s↔w=ascii s:=by
 rw[←vH h];refine rF λc hc=>?_;unfold ascii at hc;obtain⟨d,hd,rfl⟩:=Yh.mp hc;have:=(Yd.mp h) d hd;rw[XR] at this;have lt:d.toNat < 256:=X4 this.2;rw[UInt8.toNat_ofNat',Nat.mod_eq_of_lt lt];exact this.1
def ej (w:W):Bool:=decide (1<=w.length)&&decide (w.length<=12)&&isLet (w.headD 0)&&w.all λc=>isLet c||bW c
theorem j3 (w:Bytes):ej (tx w)=isName w:=by
 unfold ej isName;rw[iA];have e1:((tx w).all λc=>isLet c||bW c)=w.all λc=>isSmall c||isDigit c:=by
  unfold tx;rw[ZQ];congr 1;funext c;show (isLet (sg c.toNat)||bW (sg c.toNat))=_;rw[pf,pY];rfl
 rw[e1];cases w with
 |nil=>rfl
 |cons c r =>
  have e2:isLet ((tx (c::r)).headD 0)=(((c::r).head?.map isSmall).getD false):=by
   show isLet (sg c.toNat)=isSmall c;rw[pf];rfl
  rw[e2];unfold NAME;generalize decide (1<=(c::r).length)=a;generalize decide ((c::r).length<=12)=b;generalize ((c::r).head?.map isSmall).getD false=d;generalize ((c::r).all λc=>isSmall c||isDigit c)=f;cases a <;> cases b <;> cases d <;> cases f <;> rfl
def xn (w:W):Nat:=w.foldl (λn c=>10*n+(c - 48)) 0
def ay (w:W):Int :=
 if 7 < w.length∨w=[]∨w.all bW=false then -1 else if w.headD 0=48/\w≠[48] then -1 else (xn w:Int)
theorem yZ:∀(w:Bytes) (n m:Nat),m<=n->m*10 ^ w.length<=w.foldl (λ(n:Nat) (c:UInt8)=>10*n+(c.toNat - 48)) n
 |[],n,m,h=>by simpa using h
 |c::w,n,m,h=>by
  have:=yZ w (10*n+(c.toNat - 48)) (10*m) (by omega);rw[Zb,XW,ZN];have e:m*(10 ^ w.length*10)=10*m*10 ^ w.length:=by
   rw[ZY (10 ^ w.length) 10,←Nat.mul_assoc,ZY m 10]
  omega
theorem my {w:Bytes}{n:Nat}(h:numberOf w=some n)(hl:7 < w.length):10000000<=n:=by
 unfold numberOf at h;split at h
 · cases h
 · rename_i hc;have OF:¬(w.isEmpty=true)/\¬(w.all isDigit=false)/\¬(w.head?=some 48/\w≠[48]):=⟨λz=>hc (.inl z),λz=>hc (.inr (.inl z)),λz=>hc (.inr (.inr z))⟩;injection h with h;subst h
   match w,hl with
   |c::r,hl =>
    have hd:isDigit c=true:=by
     have:(c::r).all isDigit=true:=by simpa using OF.2.1
     rw[ZU,XR] at this;exact this.1
    have c0:c≠48:=λe=>OF.2.2 ⟨by rw[e];rfl,λq=>by rw[q] at hl;simp at hl⟩;unfold isDigit at hd;rw[XR,Zc,Zc] at hd;have h1:48<=c.toNat:=hd.1;have h2:c.toNat≠48:=λe=>c0 (jF e);have:=yZ r (10*0+(c.toNat - 48)) 1 (by omega);rw[Zb];have p:10 ^ 7<=10 ^ r.length:=ZL (by decide) (by simp at hl;omega);have p7:(10:Nat) ^ 7=10000000:=by decide
    omega
theorem yY:∀(w:Bytes) (n:Nat),w.all isDigit=true->(tx w).foldl (λn c=>10*n+(c - 48)) n=w.foldl (λ(n:Nat) (c:UInt8)=>10*n+(c.toNat - 48)) n
 |[],_,_=>rfl
 |c::w,n,h=>by
  rw[ZU,XR] at h;have:sg c.toNat=c.toNat:=zD h.1;rw[tY,Zb,Zb,this];exact yY w _ h.2
theorem xK (w:Bytes):(tx w).all bW=w.all isDigit:=by
 unfold tx;rw[ZQ];congr 1;funext c;exact pY c.toNat
theorem BY (w:Bytes):ay (tx w)=if 7 < w.length then -1 else match numberOf w with
  |none=>-1
  |some n=>(n:Int):=by
 unfold ay numberOf;rw[iA,xK];by_cases h7:7 < w.length
 · rw[XJ h7,XJ (.inl h7)]
 · rw[XI h7];by_cases c1:w=[]
   · subst c1;rfl
   · have e1:¬tx w=[]:=λz=>c1 (by
      have:=YN List.length z;rw[iA] at this;exact Zy.mp this)
     have PL:¬w.isEmpty=true:=λz=>c1 (Zi.mp z);by_cases c2:w.all isDigit=false
     · rw[XJ (.inr (.inr c2)),XJ (.inr (.inl c2))]
     · rw[XI (λz=>z.elim h7 λz=>z.elim e1 c2)];have Od:w.all isDigit=true:=by simpa using c2
       have k:((tx w).headD 0=48/\tx w≠[48])↔(w.head?=some 48/\w≠[48]):=by
        have a:tx w=[48]↔w=[48]:=rF (v:=[48]) (w:=w) (by decide)
        match w,c1 with
        |c::r,_ =>
         have b:(tx (c::r)).headD 0=48↔(c::r).head?=some 48:=by
          show sg c.toNat=48↔some c=some 48;rw[u7 (by decide)];constructor
          · intro e;rw[jF (show c.toNat=(48:UInt8).toNat from e)]
          · intro e;injection e with e;rw[e];rfl
         rw[b];exact and_congr_right λ_=>not_congr a
       by_cases c3:w.head?=some 48/\w≠[48]
       · rw[XJ (k.mpr c3),XJ (.inr (.inr c3))]
       · rw[XI (λz=>c3 (k.mp z)),XI (λz=>z.elim PL λz=>z.elim c2 c3)];show ((xn (tx w):Nat):Int)=_;unfold xn;rw[yY w 0 Od]
theorem fg {w:Bytes}{lo hi:Nat}(hh:hi < 10000000):((lo:Int)<=ay (tx w)/\ay (tx w)<=(hi:Int))↔∃n,numberOf w=some n/\lo<=n/\n<=hi/\ay (tx w)=(n:Int):=by
 rw[BY];by_cases h7:7 < w.length
 · rw[XJ h7];constructor
   · rintro⟨a,_⟩;omega
   · rintro⟨n,e,_,b,_⟩;have:=my e h7;omega
 · rw[XI h7];cases e:numberOf w with
   |none =>
    constructor
    · rintro⟨a,_⟩;have a':(lo:Int)<=-1:=a;omega
    · rintro⟨n,e,_⟩;cases e
   |some n =>
    constructor
    · rintro⟨a,b⟩;have a':(lo:Int)<=n:=a;have b':(n:Int)<=hi:=b;exact⟨n,rfl,by omega,by omega,rfl⟩
    · rintro⟨m,e,a,b,_⟩;injection e with e;subst e;show (lo:Int)<=n/\(n:Int)<=hi;omega
theorem d8 {w:Bytes}{m:Nat}(hm:m < 10000000):ay (tx w)=(m:Int)↔numberOf w=some m:=by
 constructor
 · intro e;obtain⟨n,h1,h2,h3,_⟩:=(fg (w:=w) (lo:=m) (hi:=m) hm).mp ⟨by omega,by omega⟩;have:n=m:=by omega
   subst this;exact h1
 · intro e;obtain⟨a,b⟩:=(fg (w:=w) (lo:=m) (hi:=m) hm).mpr ⟨m,e,XT _,XT _,by
    rw[BY];by_cases h7:7 < w.length
    · have:=my e h7;omega
    · rw[XI h7,e]⟩
   omega
def aY (c:Nat):W->W->List W
 |w,[]=>[w]
 |w,x::r=>if x=c then w::aY c [] r else aY c (w++[x]) r
theorem ie {c:UInt8}(hc:t_ c.toNat=true):∀(l w:Bytes),aY c.toNat (tx w) (tx l)=(splitOn c w l).map tx
 |[],w=>rfl
 |x::r,w=>by
  rw[tY];unfold aY splitOn;by_cases e:x=c
  · rw[XJ ((u7 hc).mpr (by rw[e])),XJ e,X1];have:=ie hc r [];rw[CA] at this;rw[this]
  · rw[XI (λz=>e (jF ((u7 hc).mp z))),XI e];have:=ie hc r (w++[x]);rw[rH] at this;exact this
def Placed:Nat->List Word->Prop
 |_,[]=>True
 |p,w::r=>w.at_=p/\Placed (p+w.w.length+1) r
theorem words_of:∀(l w:Bytes) (p q:Nat),w.length<=p->badByte w.isEmpty q l=none->(wordsFrom p w l).map (·.w)=splitOn 32 w l/\Placed (p - w.length) (wordsFrom p w l)
 |[],w,p,q,hl,h=>by
  unfold badByte at h;by_cases e:w.isEmpty=true
  · rw[XJ e] at h;cases h
  · unfold wordsFrom;rw[XI e];exact⟨rfl,rfl,trivial⟩
 |c::r,w,p,q,hl,h=>by
  unfold badByte at h;by_cases c1:c < 32∨126 < c
  · rw[XJ c1] at h;cases h
  · rw[XI c1] at h;unfold wordsFrom splitOn;by_cases c2:c=32
    · rw[XJ c2] at h;by_cases e:w.isEmpty=true
      · rw[XJ e] at h;cases h
      · rw[XI e] at h;by_cases e2:r.isEmpty=true
        · rw[XJ e2] at h;cases h
        · rw[XI e2] at h;obtain⟨a,b⟩:=words_of r [] (p+1) (q+1) (Ye _) h;rw[XJ c2,XJ c2,X1,a];refine⟨rfl,rfl,?_⟩;have:p - w.length+w.length+1=p+1 - ([]:Bytes).length:=by simp;omega
          show Placed (p - w.length+w.length+1) _;rw[this];exact b
    · rw[XI c2] at h;have e:(w++[c]).isEmpty=false:=by simp
      rw[←e] at h;obtain⟨a,b⟩:=words_of r (w++[c]) (p+1) (q+1) (by simp;omega) h;rw[XI c2,XI c2,a];refine⟨rfl,?_⟩;have:p - w.length=p+1 - (w++[c]).length:=by rw[X6,YV];omega
      rw[this];exact b
def Cv (w:Bytes):Prop:=w≠[]/\∀c∈w,32 < c/\c<=126
theorem wA:∀(l w:Bytes) (q:Nat),(∀v∈splitOn 32 w l,Cv v)->(∀c∈w,32 < c/\c<=126)->badByte w.isEmpty q l=none
 |[],w,q,h,_=>by
  have:=h w (by simp[splitOn]);unfold badByte;rw[XI (λz=>this.1 (Zi.mp z))]
 |c::r,w,q,h,hw=>by
  unfold splitOn at h;unfold badByte;by_cases c2:c=32
  · rw[XJ c2] at h;have pw:=h w (by simp);have e:¬w.isEmpty=true:=λz=>pw.1 (Zi.mp z);rw[XI (by rw[c2];decide),XJ c2,XI e];have hr:¬r.isEmpty=true:=λz=>by
     have:r=[]:=Zi.mp z;subst this;have:=h [] (by simp[splitOn]);exact this.1 rfl
    rw[XI hr];exact wA r [] (q+1) (λv hv=>h v (by simp[hv])) (by simp)
  · rw[XI c2] at h;have hc:32 < c/\c<=126:=by
     have first:∀(l w:Bytes),∃v∈splitOn 32 w l,∃t,v=w++t:=λl=>by
      induction l with
      |nil=>exact λw=>⟨w,by simp[splitOn],[],by simp⟩
      |cons d l ih =>
       intro w;unfold splitOn;by_cases e:d=32
       · rw[XJ e];exact⟨w,by simp,[],by simp⟩
       · rw[XI e];obtain⟨v,hv,t,rfl⟩:=ih (w++[d]);exact⟨_,hv,d::t,by simp⟩
     obtain⟨v,hv,t,e⟩:=first r (w++[c])
     exact (h v hv).2 c (by rw[e];simp)
    have n1:¬(c < 32∨126 < c):=by
     rintro (z|z)
     · exact absurd (Nat.lt_trans (show c.toNat < 32 from z) (show 32 < c.toNat from hc.1)) (Y2 _)
     · exact absurd (Yo (show 126 < c.toNat from z) (show c.toNat<=126 from hc.2)) (Y2 _)
    rw[XI n1,XI c2];have e:(w++[c]).isEmpty=false:=by simp
    rw[←e];exact wA r (w++[c]) (q+1) h λd hd=>by
     rcases Yw.mp hd with z|z
     · exact hw d z
     · have:d=c:=by simpa using z
       exact this ▸ hc
theorem aE {ε α β:Type}{x:Except ε α}{f:α->Except ε β}{y:β}:(x >>= f)=.ok y↔∃a,x=.ok a/\f a=.ok y:=by
 cases x with
 |error e=>exact⟨λh=>(nomatch h),λ⟨_,h,_⟩=>(nomatch h)⟩
 |ok a=>exact⟨λh=>⟨a,rfl,h⟩,λ⟨_,h,k⟩=>by cases h;exact k⟩
theorem oz {e:Nat}{l:List Word}{x:Word×List Word}:next e l=.ok x↔l=x.1::x.2:=by
 cases l with
 |nil=>exact⟨λh=>(nomatch h),λh=>(nomatch h)⟩
 |cons w r =>
  constructor
  · intro h;injection h with h;rw[←h]
  · intro h;injection h with h1 h2;subst h1;subst h2;rfl
theorem cW {e:Nat}{s:String}{l r:List Word}:must e s l=.ok r↔∃w,l=w::r/\w.w=ascii s:=by
 unfold must;rw[aE];constructor
 · rintro⟨x,h,k⟩;have h:=oz.mp h;split at k
   · rename_i c;injection k with k;exact⟨x.1,by rw[h,k],c⟩
   · cases k
 · rintro⟨w,rfl,c⟩;exact⟨(w,r),rfl,by rw[XJ c];rfl⟩
theorem bw {e lo hi:Nat}{l:List Word}{x:(Nat×Nat)×List Word}:number e lo hi l=.ok x↔∃w,l=w::x.2/\numberOf w.w=some x.1.1/\lo<=x.1.1/\x.1.1<=hi/\x.1.2=w.at_:=by
 unfold number;rw[aE];constructor
 · rintro⟨y,h,k⟩;have h:=oz.mp h;cases c:numberOf y.1.w with
   |none=>rw[c] at k;cases k
   |some n =>
    rw[c] at k;dsimp only at k;split at k
    · cases k
    · rename_i b;injection k with k;subst k;exact⟨y.1,h,c,by dsimp only;omega,by dsimp only;omega,rfl⟩
 · rintro⟨w,rfl,c,h1,h2,h3⟩;refine⟨(w,x.2),rfl,?_⟩;dsimp only;rw[c];dsimp only;rw[XI (by omega)];show Except.ok ((x.1.1,w.at_),x.2)=Except.ok x;rw[←h3]
theorem dO {b:Bool}{k p:Nat}{u:Unit}:holds b k p=.ok u↔b=true:=by
 unfold holds;by_cases c:b=true
 · rw[XJ c];exact⟨λ_=>c,λ_=>rfl⟩
 · rw[XI c];exact⟨λh=>(nomatch h),λh=>absurd h c⟩
theorem ke {l:List Word}{u:Unit}:closed l=.ok u↔l=[]:=by
 cases l with
 |nil=>exact⟨λ_=>rfl,λ_=>rfl⟩
 |cons=>exact⟨λh=>(nomatch h),λh=>(nomatch h)⟩
theorem i_ {e:Nat}{had:List Bytes}{l:List Word}{x:Bytes×List Word}:newName e had l=.ok x↔∃w,l=w::x.2/\isName w.w=true/\had.contains w.w=false/\x.1=w.w:=by
 unfold newName;rw[aE];constructor
 · rintro⟨y,h,k⟩;have h:=oz.mp h;split at k
   · cases k
   · rename_i c1;split at k
     · cases k
     · rename_i c2;injection k with k;subst k;exact⟨y.1,h,by simpa using c1,by simpa using c2,rfl⟩
 · rintro⟨w,rfl,c1,c2,c3⟩;refine⟨(w,x.2),rfl,?_⟩;dsimp only;rw[XI (by rw[c1];decide),XI (by rw[c2];decide),←c3];rfl
theorem mm {α:Type}{e:Nat}{t:List (α×String)}{l:List Word}{x:(α×Nat)×List Word} :
  oneOf e t l=.ok x↔∃w y,l=w::x.2/\(t.find? λ(y:α×String)=>ascii y.2==w.w)=some y/\x.1=(y.1,w.at_):=by
 unfold oneOf;rw[aE];constructor
 · rintro⟨y,h,k⟩;have h:=oz.mp h;cases c:(t.find? λ(z:α×String)=>ascii z.2==y.1.w) with
   |none=>rw[c] at k;cases k
   |some z =>
    rw[c] at k;injection k with k;subst k;exact⟨y.1,z,h,c,rfl⟩
 · rintro⟨w,y,rfl,c,h3⟩;refine⟨(w,x.2),rfl,?_⟩;dsimp only;rw[c];show Except.ok ((y.1,w.at_),x.2)=Except.ok x;rw[←h3]
def dj (runners:Nat):List W->aar->aar->Option (aar)
 |[],_,ss=>some ss
 |c::a::b::r,fs,ss =>
  if c=cd "couple"/\1<=ay a/\ay a < ay b/\ay b<=(runners:Int)/\¬(ay a).toNat∈ss/\¬(ay b).toNat∈fs/\¬(ay b).toNat∈ss
  then dj runners r (fs++[(ay a).toNat]) (ss++[(ay b).toNat]) else none
 |_,_,_=>none
def dE (runners:Nat)(ss:aar):aar:=((List.range runners).map λi=>i+1).filter λn=>!ss.contains n
def bD (ws:List W):Option (aar) :=
 match ws with
 |_::n::r=>if r.length % 3=0/\r.length<=24/\2<=ay n/\ay n<=24 then (dj (ay n).toNat r [] []).map (dE (ay n).toNat) else none
 |_=>none
structure Cf (had:List (Nat×Nat))(fs ss:aar):Prop where
 f:∀x,(∃y,(x,y)∈had)↔x∈fs
 s:∀y,(∃x,(x,y)∈had)↔y∈ss
 lt:∀x y,(x,y)∈had->x < y
theorem fD {c x:Nat×Nat}:∀{l:List (Nat×Nat)},x∈putB c l↔x=c∨x∈l
 |[]=>by simp[putB]
 |y::l=>by
  unfold putB;by_cases h:c.2 < y.2
  · rw[XJ h];simp
  · rw[XI h,XN,fD (l:=l),XN];constructor
    · rintro (h|h|h) <;> simp[h]
    · rintro (h|h|h) <;> simp[h]
theorem Cf.put {had:List (Nat×Nat)}{fs ss:aar}(h:Cf had fs ss){a b:Nat}(lt:a < b):Cf (putB (a,b) had) (fs++[a]) (ss++[b]) where
 f:=λx=>by
  rw[Yw,←h.f x];constructor
  · rintro⟨y,hy⟩;rcases fD.mp hy with e|e
    · injection e with e1 e2;subst e1;exact .inr (by simp)
    · exact .inl ⟨y,e⟩
  · rintro (⟨y,hy⟩|e)
    · exact⟨y,fD.mpr (.inr hy)⟩
    · have:x=a:=by simpa using e
      subst this;exact⟨b,fD.mpr (.inl rfl)⟩
 s:=λy=>by
  rw[Yw,←h.s y];constructor
  · rintro⟨x,hx⟩;rcases fD.mp hx with e|e
    · injection e with e1 e2;subst e2;exact .inr (by simp)
    · exact .inl ⟨x,e⟩
  · rintro (⟨x,hx⟩|e)
    · exact⟨x,fD.mpr (.inr hx)⟩
    · have:y=b:=by simpa using e
      subst this;exact⟨a,fD.mpr (.inl rfl)⟩
 lt:=λx y Ur=>by
  rcases fD.mp Ur with e|e
  · injection e with e1 e2;subst e1;subst e2;exact lt
  · exact h.lt x y e
theorem Cf.I_ {had:List (Nat×Nat)}{fs ss:aar}(h:Cf had fs ss)(a:Nat):(had.any λx=>x.2==a)=true↔a∈ss:=by
 rw[Zj,←h.s a];constructor
 · rintro⟨⟨x,y⟩,hx,e⟩;have:y=a:=by simpa using e
   subst this;exact⟨x,hx⟩
 · rintro⟨x,hx⟩;exact⟨(x,a),hx,by simp⟩
theorem Cf.Iz {had:List (Nat×Nat)}{fs ss:aar}(h:Cf had fs ss)(b:Nat):(had.any λx=>x.1==b||x.2==b)=true↔b∈fs∨b∈ss:=by
 rw[Zj,←h.s b,←h.f b];constructor
 · rintro⟨⟨x,y⟩,hx,e⟩;have:x=b∨y=b:=by simpa using e
   rcases this with rfl|rfl
   · exact .inl ⟨y,hx⟩
   · exact .inr ⟨x,hx⟩
 · rintro (⟨y,hx⟩|⟨x,hx⟩)
   · exact⟨(b,y),hx,by simp⟩
   · exact⟨(x,b),hx,by simp⟩
def mT (l:List Word):List W:=l.map λw=>tx w.w
theorem nM {e runners k:Nat}{had LZ:List (Nat×Nat)}{l:List Word}:l≠[]->(couplesIn e runners (k+1) had l=.ok LZ ↔
  ∃c a b r na nb,l=c::a::b::r/\c.w=ascii "couple"/\numberOf a.w=some na/\1<=na/\na<=runners/\(had.any λx=>x.2==na)=false /\
   numberOf b.w=some nb/\1<=nb/\nb<=runners/\na < nb/\(had.any λx=>x.1==nb||x.2==nb)=false/\couplesIn e runners k (putB (na,nb) had) r=.ok LZ):=by
 intro hl;have he:¬l.isEmpty=true:=λz=>hl (Zi.mp z);have step:couplesIn e runners (k+1) had l=(do
  let m ←must e "couple" l
  let a ←number e 1 runners m
  let _ ←holds (!(had.any λ(x:Nat×Nat)=>x.2==a.1.1)) 4 a.1.2
  let b ←number e 1 runners a.2
  let _ ←holds (decide (a.1.1 < b.1.1)&&!(had.any λ(x:Nat×Nat)=>x.1==b.1.1||x.2==b.1.1)) 4 b.1.2
  couplesIn e runners k (putB (a.1.1,b.1.1) had) b.2):=XI he
 rw[step,aE];constructor
 · rintro⟨m,hm,h0⟩;obtain⟨c,Us,hc⟩:=cW.mp hm;obtain⟨a,ha,h1⟩:=aE.mp h0;obtain⟨wa,Mi,a1,a2,a3,a4⟩:=bw.mp ha;obtain⟨_,g1,h2⟩:=aE.mp h1;have g1:=dO.mp g1;obtain⟨b,hb,h3⟩:=aE.mp h2;obtain⟨wb,OG,b1,b2,b3,b4⟩:=bw.mp hb;obtain⟨_,g2,h4⟩:=aE.mp h3;have g2:=dO.mp g2;rw[XR,Zc] at g2;exact⟨c,wa,wb,b.2,a.1.1,b.1.1,by rw[Us,Mi,OG],hc,a1,a2,a3,by simpa using g1,b1,b2,b3,g2.1,by simpa using g2.2,h4⟩
 · rintro⟨c,a,b,r,na,nb,rfl,hc,a1,a2,a3,a4,b1,b2,b3,b4,b5,h⟩;refine⟨_,cW.mpr ⟨c,rfl,hc⟩,?_⟩;refine aE.mpr ⟨((na,a.at_),b::r),bw.mpr ⟨a,rfl,a1,a2,a3,rfl⟩,?_⟩;refine aE.mpr ⟨(),dO.mpr (by rw[a4];rfl),?_⟩;refine aE.mpr ⟨((nb,b.at_),r),bw.mpr ⟨b,rfl,b1,b2,b3,rfl⟩,?_⟩;exact aE.mpr ⟨(),dO.mpr (by rw[b5,Yn b4];rfl),h⟩
theorem fG {e runners:Nat}(hr:runners<=24):∀(k:Nat) (had:List (Nat×Nat)) (fs ss:aar) (l:List Word),Cf had fs ss ->
  (∀LZ,couplesIn e runners k had l=.ok LZ->l.length<=3*k/\∃Mj Ml,dj runners (mT l) fs ss=some Ml/\Cf LZ Mj Ml) /\
  (∀Ml,l.length<=3*k->dj runners (mT l) fs ss=some Ml->∃LZ,couplesIn e runners k had l=.ok LZ)
 |0,had,fs,ss,l,hd=>by
  cases l with
  |nil=>exact⟨λLZ h=>by injection h with h;subst h;exact⟨XT _,fs,ss,rfl,hd⟩,λ_ _ _=>⟨had,rfl⟩⟩
  |cons w r =>
   constructor
   · intro LZ h;have h:(if w.w=ascii "couple" then Except.error ⟨6,w.at_⟩ else Except.error ⟨3,w.at_⟩:Except Fault (List (Nat×Nat)))=.ok LZ:=h;by_cases c:w.w=ascii "couple"
     · rw[XJ c] at h;cases h
     · rw[XI c] at h;cases h
   · intro _ h;simp at h
 |k+1,had,fs,ss,[],hd=>⟨λLZ h=>by
   have h:Except.ok had=Except.ok LZ:=h;injection h with h;subst h;exact⟨Ye _,fs,ss,rfl,hd⟩,λ_ _ _=>⟨had,rfl⟩⟩
 |k+1,had,fs,ss,w::l,hd=>by
  constructor
  · intro LZ h;obtain⟨c,a,b,r,na,nb,el,hc,a1,a2,a3,a4,b1,b2,b3,b4,b5,h⟩:=(nM (by simp)).mp h;have hd2:=hd.put b4;obtain⟨hl,Mj,Ml,h1,h2⟩:=(fG hr k _ _ _ r hd2).1 LZ h;rw[el];refine⟨by simp only[XW];omega,Mj,Ml,?_,h2⟩;show dj runners (tx c.w::tx a.w::tx b.w::mT r) fs ss=_;have ea:ay (tx a.w)=(na:Int):=(d8 (by omega)).mpr a1;have eb:ay (tx b.w)=(nb:Int):=(d8 (by omega)).mpr b1;unfold dj;rw[ea,eb,Ys,Ys];have n1:¬na∈ss:=λz=>by rw[(hd.I_ na).mpr z] at a4;cases a4
    have n2:¬(nb∈fs∨nb∈ss):=λz=>by rw[(hd.Iz nb).mpr z] at b5;cases b5
    rw[XJ ⟨(bo _ (by decide)).mpr hc,by omega,by omega,by omega,n1,λz=>n2 (.inl z),λz=>n2 (.inr z)⟩];exact h1
  · intro Ml hl h
    match l,hl,h with
    |[],_,h=>cases h
    |[_],_,h=>cases h
    |a::b::r,hl,h =>
     have h:dj runners (tx w.w::tx a.w::tx b.w::mT r) fs ss=some Ml:=h;unfold dj at h;split at h
     · rename_i q;obtain⟨q1,q2,q3,q4,q5,q6,q7⟩:=q;obtain⟨na,a1,a2,a3,a4⟩:=(fg (w:=a.w) (lo:=1) (hi:=24) (by decide)).mp ⟨q2,by omega⟩;obtain⟨nb,b1,b2,b3,b4⟩:=(fg (w:=b.w) (lo:=1) (hi:=24) (by decide)).mp ⟨by omega,by omega⟩;rw[a4,b4,Ys,Ys] at h;rw[a4,Ys] at q5;rw[b4,Ys] at q6 q7;have lt:na < nb:=by omega
       obtain⟨LZ,h'⟩:=(fG hr k _ _ _ r (hd.put lt)).2 Ml (by simp only[XW] at hl;omega) h;refine⟨LZ,(nM (by simp)).mpr ⟨w,a,b,r,na,nb,rfl,(bo _ (by decide)).mp q1,a1,a2,by omega,?_,b1,b2,by omega,lt,?_,h'⟩⟩
       · cases c:(had.any λx=>x.2==na) with
         |false=>rfl
         |true=>exact absurd ((hd.I_ na).mp c) q5
       · cases c:(had.any λx=>x.1==nb||x.2==nb) with
         |false=>rfl
         |true=>exact absurd ((hd.Iz nb).mp c) λz=>z.elim q6 q7
     · cases h
theorem uI:∀{runners:Nat} (l:List W) (fs ss Ml:aar),dj runners l fs ss=some Ml->l.length % 3=0
 |_,[],_,_,_,_=>rfl
 |_,[_],_,_,_,h=>by cases h
 |_,[_,_],_,_,_,h=>by cases h
 |runners,c::a::b::r,fs,ss,Ml,h=>by
  unfold dj at h;split at h
  · have:=uI r _ _ _ h;simp only[XW];omega
  · cases h
theorem vc {n:Nat}{had:List (Nat×Nat)}{fs ss:aar}(hd:Cf had fs ss):Race.heads ⟨n,had⟩=dE n ss:=by
 unfold Race.heads dE;refine List.filter_congr λx _=>?_;unfold Race.head;cases c:had.find? (λc=>c.2==x) with
 |none =>
  have:¬x∈ss:=λz=>by
   obtain⟨y,hy⟩:=(hd.s x).mpr z;have:=List.find?_eq_none.mp c (y,x) hy;simp at this
  simp[this]
 |some z =>
  obtain⟨a,b⟩:=z;have h1:=List.mem_of_find?_eq_some c;have h2:=List.find?_some c;have h2:b=x:=by simpa using h2
  subst h2;have:=hd.lt a b h1;have hb:b∈ss:=(hd.s b).mp ⟨a,h1⟩;have e1:(a==b)=false:=by
   rw[Yg];omega
  simp[hb,e1]
theorem vt {e:Nat}{w:Word}{l:List Word}:(∀r,raceIn e l=.ok r->bD (mT (w::l))=some r.heads)/\(∀hs,bD (mT (w::l))=some hs->∃r,raceIn e l=.ok r/\r.heads=hs):=by
 have nil:Cf [] [] []:=⟨by simp,by simp,by simp⟩;constructor
 · intro r h;unfold raceIn at h;obtain⟨n,hn,h0⟩:=aE.mp h;obtain⟨wn,Ut,a1,a2,a3,a4⟩:=bw.mp hn;obtain⟨c,hc,h1⟩:=aE.mp h0;injection h1 with h1;subst h1;rw[Ut];have a3:n.1.1<=24:=a3;obtain⟨hl,Mj,Ml,h1,h2⟩:=(fG a3 8 [] [] [] n.2 nil).1 c hc;have en:ay (tx wn.w)=(n.1.1:Int):=(d8 (by omega)).mpr a1;show bD (tx w.w::tx wn.w::mT n.2)=_;unfold bD;dsimp only;rw[en,Ys,h1];have:=uI _ _ _ _ h1;have len:(mT n.2).length=n.2.length:=XH ..;rw[XJ ⟨this,by omega,by omega,by omega⟩,vc h2];rfl
 · intro hs h
   match l,h with
   |wn::l,h =>
    have h:bD (tx w.w::tx wn.w::mT l)=some hs:=h;unfold bD at h;dsimp only at h;split at h
    · rename_i q;obtain⟨q1,q2,q3,q4⟩:=q;obtain⟨n,a1,a2,a3,a4⟩:=(fg (w:=wn.w) (lo:=2) (hi:=24) (by decide)).mp ⟨q3,q4⟩;rw[a4,Ys] at h;cases c:dj n (mT l) [] [] with
      |none=>rw[c] at h;cases h
      |some ss =>
       rw[c] at h;injection h with h;have len:(mT l).length=l.length:=XH ..;obtain⟨had,hh⟩:=(fG (e:=e) (runners:=n) a3 8 [] [] [] l nil).2 ss (by omega) c;obtain⟨_,Mj,Ml,h1,h2⟩:=(fG (e:=e) (runners:=n) a3 8 [] [] [] l nil).1 had hh;rw[c] at h1;injection h1 with h1;subst h1;refine⟨⟨n,had⟩,?_,by rw[vc h2];exact h⟩;unfold raceIn;refine aE.mpr ⟨((n,wn.at_),l),bw.mpr ⟨wn,rfl,a1,a2,a3,rfl⟩,?_⟩;exact aE.mpr ⟨had,hh,rfl⟩
    · cases h
theorem pO {n:Nat}(hn:n<=24)(ss:aar):cQ (dE n ss) where
 rise:=by
  refine List.Pairwise.filter _ (List.Pairwise.map _ (λa b (h:a < b)=>?_) List.pairwise_lt_range);show a+1 < b+1;omega
 lo:=λx hx=>by
  obtain⟨h,_⟩:=YR.mp hx;obtain⟨i,_,rfl⟩:=Yh.mp h;omega
 hi:=λx hx=>by
  obtain⟨h,_⟩:=YR.mp hx;obtain⟨i,hi,rfl⟩:=Yh.mp h;have:=Zw.mp hi;omega
theorem Av {ws:List W}{hs:aar}(h:bD ws=some hs):cQ hs:=by
 unfold bD at h;split at h
 · rename_i w0 n r;split at h
   · rename_i q;cases c:dj (ay n).toNat r [] [] with
     |none=>rw[c] at h;cases h
     |some ss =>
      rw[c] at h;injection h with h;subst h;exact pO (by omega) _
   · cases h
 · cases h
structure aK where
 name:W
 kind:Kind
 fields:aaq
 unit:Nat
def kindS:Kind->String
 |.place=>"place"
 |.order=>"order"
 |.any=>"any"
 |.legs=>"legs"
def dF (w:W):Option Kind :=
 if w=cd "place" then some .place else if w=cd "order" then some .order else if w=cd "any" then some .any else if w=cd "legs" then some .legs else none
def fk (kind:Kind)(k rc:Nat)(races:aaq):aaq :=
 match kind with
 |.legs=>(races.drop (rc - 1)).take k
 |.place=>[races.getD (rc - 1) []]
 |_=>List.replicate k (races.getD (rc - 1) [])
def dA (races:aaq)(kind:Kind)(p nm k fr rc tk t br b le m un u no z:W):Prop :=
 p=cd "pool"/\fr=cd "from"/\tk=cd "take"/\br=cd "break"/\le=cd "least"/\un=cd "unit"/\no=cd "none"/\ej nm=true /\
 (0<=ay t/\ay t<=400)/\(1<=ay b/\ay b<=1000)/\(1<=ay u/\ay u<=10000)/\(ay m=0∨(ay u<=ay m/\ay m<=2*ay u)) /\
 ((z=cd "fewer"/\kind≠.place)∨z=cd "refund"∨z=cd "carry")/\((leastK kind:Int)<=ay k/\ay k<=(mostK kind:Int))/\(1<=ay rc/\ay rc<=(races.length:Int)) /\
 ((kind=.legs/\ay rc+ay k - 1<=(races.length:Int))∨(kind≠.legs/\ay k<=((races.getD (ay rc - 1).toNat []).length:Int)))
instance (races:aaq)(kind:Kind)(p nm k fr rc tk t br b le m un u no z:W):Decidable (dA races kind p nm k fr rc tk t br b le m un u no z):=by
 unfold dA;infer_instance
def eX (ws:List W)(races:aaq):Option aK :=
 match ws with
 |[p,nm,kd,k,fr,rc,tk,t,br,b,le,m,un,u,no,z] =>
  match dF kd with
  |none=>none
  |some kind=>if dA races kind p nm k fr rc tk t br b le m un u no z then some ⟨nm,kind,fk kind (ay k).toNat (ay rc).toNat races,(ay u).toNat⟩ else none
 |_=>none
def fieldsOf (C:Card)(p:Pool):aaq:=if p.kind=.legs then C.sets p else List.replicate p.places (C.headsOf p.race)
def aC (C:Card)(p:Pool):aK:=⟨tx p.name,p.kind,fieldsOf C p,p.unit⟩
def rh (C:Card):aaq:=C.races.map Race.heads
structure dZ (C:Card)(p:Pool):Prop where
 name:isName p.name=true
 JU:leastK p.kind<=p.k
 HQ:p.k<=mostK p.kind
 DA:1<=p.race
 Ko:p.race<=C.races.length
 legs:p.kind=.legs->p.race+p.k<=C.races.length+1
 vJ:p.kind≠.legs->p.k<=(C.headsOf p.race).length
 unit:1<=p.unit
 Lo:p.unit<=10000
theorem oR {w:Bytes}{y:Kind×String}:(KINDS.find? λ(x:Kind×String)=>ascii x.2==w)=some y↔dF (tx w)=some y.1/\y.2=kindS y.1:=by
 have a1:=bo (s:="place") w (by decide);have a2:=bo (s:="order") w (by decide);have a3:=bo (s:="any") w (by decide);have a4:=bo (s:="legs") w (by decide);unfold dF KINDS;obtain⟨yk,ys⟩:=y;simp only[Zk,List.find?_nil];by_cases c1:w=ascii "place"
 · have:(ascii "place"==w)=true:=by rw[c1];simp
   rw[this,XJ (a1.mpr c1)];constructor
   · intro h;injection h with h;injection h with h1 h2;subst h1;subst h2;exact⟨rfl,rfl⟩
   · rintro⟨h1,h2⟩;injection h1 with h1;have h1:Kind.place=yk:=h1;subst h1;have h2:ys="place":=h2;subst h2;rfl
 · have e1:(ascii "place"==w)=false:=by rw[Yg];exact λz=>c1 z.symm
   rw[e1,XI (λz=>c1 (a1.mp z))];by_cases c2:w=ascii "order"
   · have:(ascii "order"==w)=true:=by rw[c2];simp
     rw[this,XJ (a2.mpr c2)];constructor
     · intro h;injection h with h;injection h with h1 h2;subst h1;subst h2;exact⟨rfl,rfl⟩
     · rintro⟨h1,h2⟩;injection h1 with h1;have h1:Kind.order=yk:=h1;subst h1;have h2:ys="order":=h2;subst h2;rfl
   · have e2:(ascii "order"==w)=false:=by rw[Yg];exact λz=>c2 z.symm
     rw[e2,XI (λz=>c2 (a2.mp z))];by_cases c3:w=ascii "any"
     · have:(ascii "any"==w)=true:=by rw[c3];simp
       rw[this,XJ (a3.mpr c3)];constructor
       · intro h;injection h with h;injection h with h1 h2;subst h1;subst h2;exact⟨rfl,rfl⟩
       · rintro⟨h1,h2⟩;injection h1 with h1;have h1:Kind.any=yk:=h1;subst h1;have h2:ys="any":=h2;subst h2;rfl
     · have e3:(ascii "any"==w)=false:=by rw[Yg];exact λz=>c3 z.symm
       rw[e3,XI (λz=>c3 (a3.mp z))];by_cases c4:w=ascii "legs"
       · have:(ascii "legs"==w)=true:=by rw[c4];simp
         rw[this,XJ (a4.mpr c4)];constructor
         · intro h;injection h with h;injection h with h1 h2;subst h1;subst h2;exact⟨rfl,rfl⟩
         · rintro⟨h1,h2⟩;injection h1 with h1;have h1:Kind.legs=yk:=h1;subst h1;have h2:ys="legs":=h2;subst h2;rfl
       · have e4:(ascii "legs"==w)=false:=by rw[Yg];exact λz=>c4 z.symm
         rw[e4,XI (λz=>c4 (a4.mp z))];exact⟨λh=>(nomatch h),λh=>(nomatch h.1)⟩
theorem qH {w:Bytes}{kind:Kind}:(∃y,((if kind=.place then NONES.take 2 else NONES).find? λ(x:None_×String)=>ascii x.2==w)=some y) ↔
  ((tx w=cd "fewer"/\kind≠.place)∨tx w=cd "refund"∨tx w=cd "carry"):=by
 have a1:=bo (s:="fewer") w (by decide);have a2:=bo (s:="refund") w (by decide);have a3:=bo (s:="carry") w (by decide);rw[a1,a2,a3,←ZT,List.find?_isSome];constructor
 · rintro⟨x,hx,e⟩;have e:ascii x.2=w:=by simpa using e
   by_cases c:kind=.place
   · rw[XJ c] at hx;have hx:x=(.refund,"refund")∨x=(.carry,"carry"):=by simpa [NONES] using hx
     rcases hx with rfl|rfl
     · exact .inr (.inl e.symm)
     · exact .inr (.inr e.symm)
   · rw[XI c] at hx;have hx:x=(.refund,"refund")∨x=(.carry,"carry")∨x=(.fewer,"fewer"):=by simpa [NONES] using hx
     rcases hx with rfl|rfl|rfl
     · exact .inr (.inl e.symm)
     · exact .inr (.inr e.symm)
     · exact .inl ⟨e.symm,c⟩
 · rintro (⟨e,c⟩|e|e)
   · exact⟨(.fewer,"fewer"),by rw[XI c];simp[NONES],by simp[e]⟩
   · refine⟨(.refund,"refund"),?_,by simp[e]⟩;split <;> simp[NONES]
   · refine⟨(.carry,"carry"),?_,by simp[e]⟩;split <;> simp[NONES]
theorem jt (C:Card)(r:Nat)(_:1<=r):C.headsOf r=(rh C).getD (r - 1) []:=by
 unfold Card.headsOf rh;rw[Yq,XO]
theorem rb (C:Card)(p:Pool)(hk:p.kind=.legs)(h1:1<=p.race)(h2:p.race+p.k<=C.races.length+1):C.sets p=((rh C).drop (p.race - 1)).take p.k:=by
 unfold Card.sets Pool.legs;rw[XJ hk];have len:(rh C).length=C.races.length:=XH ..
 apply Z3
 intro i;rw[XO,List.getElem?_take,List.getElem?_drop];by_cases c:i < p.k
 · rw[Zr c,XJ c];show some (C.headsOf (p.race+i))=_;rw[jt C _ (by omega),Yq];have e:p.race+i - 1=p.race - 1+i:=by omega
   rw[e];have lt:p.race - 1+i < (rh C).length:=by omega
   rw[XU lt];rfl
 · rw[XI c,YK (by simp;omega)];rfl
theorem An {C:Card}{p:Pool}(h:dZ C p):fieldsOf C p=fk p.kind p.k p.race (rh C):=by
 unfold fieldsOf fk;cases hk:p.kind with
 |legs=>rw[XJ rfl];exact rb C p hk h.DA (h.legs hk)
 |place =>
  rw[XI (by decide)];unfold Pool.places;rw[XJ hk,jt C _ h.DA];rfl
 |order =>
  rw[XI (by decide)];unfold Pool.places;rw[XI (by rw[hk];decide),jt C _ h.DA]
 |any =>
  rw[XI (by decide)];unfold Pool.places;rw[XI (by rw[hk];decide),jt C _ h.DA]
theorem BX {e:Nat}{C:Card}{w:Word}{l:List Word}{p:Pool}(hC:C.races.length<=16)(hw:w.w=ascii "pool")(h:poolIn e C l=.ok p) :
  dZ C p/\(C.pools.map λ(p:Pool)=>p.name).contains p.name=false/\eX (mT (w::l)) (rh C)=some (aC C p):=by
 unfold poolIn at h;obtain⟨n,x1,h1⟩:=aE.mp h;obtain⟨wn,e1,Sx,Uu,QD⟩:=i_.mp x1;obtain⟨kd,x2,h2⟩:=aE.mp h1;obtain⟨wk,yk,e2,kf,kx⟩:=mm.mp x2;obtain⟨k,x3,h3⟩:=aE.mp h2;obtain⟨Oe,e3,k1,k2,k3,k4⟩:=bw.mp x3;obtain⟨l4,x4,h4⟩:=aE.mp h3;obtain⟨QE,e4,f1⟩:=cW.mp x4;obtain⟨r,x5,h5⟩:=aE.mp h4;obtain⟨wr,e5,r1,r2,r3,r4⟩:=bw.mp x5;obtain⟨_,x6,h6⟩:=aE.mp h5;have y6:=dO.mp x6;obtain⟨_,x7,h7⟩:=aE.mp h6;have y7:=dO.mp x7;obtain⟨l8,x8,h8⟩:=aE.mp h7;obtain⟨QF,e8,f8⟩:=cW.mp x8;obtain⟨t,x9,h9⟩:=aE.mp h8;obtain⟨wt,e9,t1,t2,t3,t4⟩:=bw.mp x9;obtain⟨Uv,Uw,QG⟩:=aE.mp h9;obtain⟨QH,Ux,Uy⟩:=cW.mp Uw;obtain⟨b,Uz,QI⟩:=aE.mp QG;obtain⟨wb,UA,b1,b2,b3,b4⟩:=bw.mp Uz;obtain⟨UB,UC,UD⟩:=aE.mp QI;obtain⟨QJ,M1,UE⟩:=cW.mp UC;obtain⟨m,UG,UH⟩:=aE.mp UD;obtain⟨wm,OH,m1,m2,m3,m4⟩:=bw.mp UG;obtain⟨UI,UJ,UK⟩:=aE.mp UH;obtain⟨QK,UL,UM⟩:=cW.mp UJ;obtain⟨u,UN,UO⟩:=aE.mp UK;obtain⟨wu,UP,u1,u2,u3,u4⟩:=bw.mp UN;obtain⟨_,UQ,Nq⟩:=aE.mp UO;have Sy:=dO.mp UQ;obtain⟨l17,UR,US⟩:=aE.mp Nq;obtain⟨QL,UT,UU⟩:=cW.mp UR;obtain⟨z,UW,UX⟩:=aE.mp US;obtain⟨wz,yz,UY,z1,z2⟩:=mm.mp UW;obtain⟨_,UZ,OI⟩:=aE.mp UX;have U0:=ke.mp UZ;injection OI with OI;have kk:kd.1.1=yk.1:=by rw[kx]
 obtain⟨km,_⟩:=oR.mp kf;rw[←kk] at km;have U1:mostK kd.1.1<=6:=by cases kd.1.1 <;> decide
 have ek:ay (tx Oe.w)=(k.1.1:Int):=(d8 (by omega)).mpr k1;have er:ay (tx wr.w)=(r.1.1:Int):=(d8 (by omega)).mpr r1;have et:ay (tx wt.w)=(t.1.1:Int):=(d8 (by omega)).mpr t1;have eb:ay (tx wb.w)=(b.1.1:Int):=(d8 (by omega)).mpr b1;have em:ay (tx wm.w)=(m.1.1:Int):=(d8 (by omega)).mpr m1;have eu:ay (tx wu.w)=(u.1.1:Int):=(d8 (by omega)).mpr u1;have Mr:(rh C).length=C.races.length:=XH ..;have d6:kd.1.1=.legs->r.1.1+k.1.1<=C.races.length+1:=λq=>by
  rw[q] at y6;simpa using y6
 have d7:kd.1.1≠.legs->k.1.1<=(C.headsOf r.1.1).length:=λq=>by
  have q':(kd.1.1==Kind.legs)=false:=by rw[Yg];exact q
  rw[q',Bool.false_or] at y7;unfold Card.headsOf;cases c:C.races[r.1.1 - 1]? with
  |none=>rw[c] at y7;cases y7
  |some x =>
   rw[c] at y7;simpa using y7
 have ok:dZ C p:=by
  subst OI;exact⟨by rw[QD];exact Sx,k2,k3,r2,r3,d6,d7,u2,u3⟩
 refine⟨ok,by subst OI;show List.contains _ n.1=false;rw[QD];exact Uu,?_⟩;have hl:mT (w::l)=[tx w.w,tx wn.w,tx wk.w,tx Oe.w,tx QE.w,tx wr.w,tx QF.w,tx wt.w,tx QH.w,tx wb.w,tx QJ.w,tx wm.w,tx QK.w,tx wu.w,tx QL.w,tx wz.w]:=by
  rw[e1,e2,e3,e4,e5,e8,e9,Ux,UA,M1,OH,UL,UP,UT,UY,U0];rfl
 have hf:=An ok;rw[hl];show (match dF (tx wk.w) with
  |none=>none
  |some kind=>_)=_
 rw[km];dsimp only;rw[XJ ?_,ek,er,eu,Ys,Ys,Ys]
 · unfold aC;rw[hf];subst OI;dsimp only;rw[QD]
 · refine⟨(bo _ (by decide)).mpr hw,(bo _ (by decide)).mpr f1,(bo _ (by decide)).mpr f8,(bo _ (by decide)).mpr Uy,(bo _ (by decide)).mpr UE,(bo _ (by decide)).mpr UM,(bo _ (by decide)).mpr UU,
    by rw[j3];exact Sx,by rw[et];omega,by rw[eb];omega,by rw[eu];omega,?_,?_,by rw[ek];omega,by rw[er,Mr];omega,?_⟩
   · rw[em,eu];rw[YH] at Sy;rcases Sy with q|q
     · left;have:m.1.1=0:=by simpa using q
       omega
     · right;unfold inside at q;rw[XR,Zc,Zc] at q;omega
   · exact qH.mp ⟨yz,z1⟩
   · rw[er,ek,Mr];by_cases q:kd.1.1=.legs
     · left;exact⟨q,by have:=d6 q;omega⟩
     · right;refine⟨q,?_⟩;have:=d7 q;rw[jt C _ r2] at this;have e:((r.1.1:Int) - 1).toNat=r.1.1 - 1:=by omega
       rw[e];omega
theorem bY {l:List Word}{a:W}{r:List W}(h:mT l=a::r):∃w m,l=w::m/\a=tx w.w/\mT m=r:=by
 cases l with
 |nil=>cases h
 |cons w m=>exact⟨w,m,rfl,(List.cons.inj h).1.symm,(List.cons.inj h).2⟩
theorem EZ {l:List Word}(h:mT l=[]):l=[]:=by
 cases l with
 |nil=>rfl
 |cons w m=>cases h
theorem AZ {e:Nat}{C:Card}{w:Word}{l:List Word}{q:aK}(hC:C.races.length<=16)(h:eX (mT (w::l)) (rh C)=some q)(hn:(C.pools.map λ(p:Pool)=>tx p.name).contains q.name=false)
  (ok:∀p∈C.pools,isName p.name=true) :
  ∃p,poolIn e C l=.ok p:=by
 unfold eX at h;split at h
 · rename_i p nm kd k fr rc tk t br b le m un u no z hl;have hl:tx w.w::mT l=_:=hl;injection hl with hw0 hl;obtain⟨wn,l1,rfl,rfl,g1⟩:=bY hl;obtain⟨wk,l2,rfl,rfl,g2⟩:=bY g1;obtain⟨Oe,l3,rfl,rfl,g3⟩:=bY g2;obtain⟨QE,l4,rfl,rfl,g4⟩:=bY g3;obtain⟨wr,l5,rfl,rfl,g5⟩:=bY g4;obtain⟨QF,l6,rfl,rfl,g6⟩:=bY g5;obtain⟨wt,l7,rfl,rfl,g7⟩:=bY g6;obtain⟨QH,l8,rfl,rfl,g8⟩:=bY g7;obtain⟨wb,l9,rfl,rfl,g9⟩:=bY g8;obtain⟨QJ,Uv,rfl,rfl,U2⟩:=bY g9;obtain⟨wm,l11,rfl,rfl,U3⟩:=bY U2;obtain⟨QK,UB,rfl,rfl,U4⟩:=bY U3;obtain⟨wu,l13,rfl,rfl,U5⟩:=bY U4;obtain⟨QL,UI,rfl,rfl,U6⟩:=bY U5;obtain⟨wz,U7,rfl,rfl,U8⟩:=bY U6;have U9:U7=[]:=EZ U8;subst U9;cases km:dF (tx wk.w) with
   |none=>rw[km] at h;cases h
   |some kind =>
    rw[km] at h;dsimp only at h;split at h
    · rename_i cs;injection h with h;obtain⟨c1,c2,c3,c4,c5,c6,c7,c8,c9,PM,PN,NO,Of,Nr,NP,MO⟩:=cs;have U1:mostK kind<=6:=by cases kind <;> decide
      have Mr:(rh C).length=C.races.length:=XH ..;obtain⟨nt,t1,t2,t3,t4⟩:=(fg (w:=wt.w) (lo:=0) (hi:=400) (by decide)).mp c9;obtain⟨nb,b1,b2,b3,b4⟩:=(fg (w:=wb.w) (lo:=1) (hi:=1000) (by decide)).mp PM;obtain⟨nu,u1,u2,u3,u4⟩:=(fg (w:=wu.w) (lo:=1) (hi:=10000) (by decide)).mp PN;obtain⟨nk,k1,k2,k3,k4⟩:=(fg (w:=Oe.w) (lo:=leastK kind) (hi:=mostK kind) (by omega)).mp Nr;obtain⟨nr,r1,r2,r3,r4⟩:=(fg (w:=wr.w) (lo:=1) (hi:=(rh C).length) (by omega)).mp NP;rw[u4] at NO;obtain⟨OJ,m1,m2,m3,m4⟩:=(fg (w:=wm.w) (lo:=0) (hi:=20000) (by decide)).mp (by
       rcases NO with z|⟨z1,z2⟩
       · rw[z];omega
       · omega)
      rw[m4] at NO;rw[r4,k4,Mr] at MO;obtain⟨yz,hz⟩:=qH.mpr Of;have U_:(KINDS.find? λ(x:Kind×String)=>ascii x.2==wk.w)=some (kind,kindS kind):=oR.mpr ⟨km,rfl⟩;have Va:(C.pools.map λ(p:Pool)=>p.name).contains wn.w=false:=by
       subst h;cases c:(C.pools.map λ(p:Pool)=>p.name).contains wn.w with
       |false=>rfl
       |true =>
        exfalso;have c:wn.w∈C.pools.map λ(p:Pool)=>p.name:=by simpa using c
        obtain⟨p0,OK,ep⟩:=Yh.mp c;have:tx wn.w∈C.pools.map λ(p:Pool)=>tx p.name:=Yh.mpr ⟨p0,OK,by rw[ep]⟩;have M0:¬tx wn.w∈C.pools.map λ(p:Pool)=>tx p.name:=by simpa using hn
        exact M0 this
      refine⟨⟨wn.w,kind,nk,nr,yz.1,nt,nb,OJ,nu⟩,?_⟩;unfold poolIn;refine aE.mpr ⟨(wn.w,_),i_.mpr ⟨wn,rfl,by rw[←j3];exact c8,Va,rfl⟩,?_⟩;refine aE.mpr ⟨((kind,wk.at_),_),mm.mpr ⟨wk,_,rfl,U_,rfl⟩,?_⟩;refine aE.mpr ⟨((nk,Oe.at_),_),bw.mpr ⟨Oe,rfl,k1,k2,k3,rfl⟩,?_⟩;refine aE.mpr ⟨_,cW.mpr ⟨QE,rfl,(bo _ (by decide)).mp c2⟩,?_⟩;refine aE.mpr ⟨((nr,wr.at_),_),bw.mpr ⟨wr,rfl,r1,r2,Mr ▸ r3,rfl⟩,?_⟩;refine aE.mpr ⟨(),dO.mpr ?_,?_⟩
      · show (kind != Kind.legs||decide (nr+nk<=C.races.length+1))=true;rcases MO with ⟨z1,z2⟩|⟨z1,z2⟩
        · rw[YH];right;exact Yn (by omega)
        · rw[YH];left;simpa using z1
      refine aE.mpr ⟨(),dO.mpr ?_,?_⟩
      · show (kind==Kind.legs||((C.races[nr - 1]?).map λ(x:Race)=>decide (nk<=x.heads.length)).getD false)=true;rw[YH];rcases MO with ⟨z1,z2⟩|⟨z1,z2⟩
        · left;rw[z1];rfl
        · right;have lt:nr - 1 < C.races.length:=by omega
          rw[XU lt];show decide _=true;refine Yn ?_;have e:((nr:Int) - 1).toNat=nr - 1:=by omega
          rw[e] at z2;unfold rh at z2;rw[Yq,XO,XU lt] at z2;have z2:(nk:Int)<=((C.races[nr - 1]).heads.length:Int):=z2;omega
      refine aE.mpr ⟨_,cW.mpr ⟨QF,rfl,(bo _ (by decide)).mp c3⟩,?_⟩;refine aE.mpr ⟨((nt,wt.at_),_),bw.mpr ⟨wt,rfl,t1,t2,t3,rfl⟩,?_⟩;refine aE.mpr ⟨_,cW.mpr ⟨QH,rfl,(bo _ (by decide)).mp c4⟩,?_⟩;refine aE.mpr ⟨((nb,wb.at_),_),bw.mpr ⟨wb,rfl,b1,b2,b3,rfl⟩,?_⟩;refine aE.mpr ⟨_,cW.mpr ⟨QJ,rfl,(bo _ (by decide)).mp c5⟩,?_⟩;refine aE.mpr ⟨((OJ,wm.at_),_),bw.mpr ⟨wm,rfl,m1,m2,m3,rfl⟩,?_⟩;refine aE.mpr ⟨_,cW.mpr ⟨QK,rfl,(bo _ (by decide)).mp c6⟩,?_⟩;refine aE.mpr ⟨((nu,wu.at_),_),bw.mpr ⟨wu,rfl,u1,u2,u3,rfl⟩,?_⟩;refine aE.mpr ⟨(),dO.mpr ?_,?_⟩
      · show (OJ==0||inside nu (2*nu) OJ)=true;rw[YH];rcases NO with z|⟨z1,z2⟩
        · left;have:OJ=0:=by omega
          rw[this];rfl
        · right;unfold inside;rw[XR,Zc,Zc];omega
      refine aE.mpr ⟨_,cW.mpr ⟨QL,rfl,(bo _ (by decide)).mp c7⟩,?_⟩;refine aE.mpr ⟨((yz.1,wz.at_),[]),mm.mpr ⟨wz,yz,rfl,hz,rfl⟩,?_⟩;exact aE.mpr ⟨(),ke.mpr rfl,rfl⟩
    · cases h
 · cases h
def iB (ws:List W):Bool:=ws.length==2&&ws.getD 0 []==cd "day"&&ej (ws.getD 1 [])
def b7 (races:aaq):List aK->List (List W)->Option (List aK)
 |acc,[]=>some acc
 |acc,ws::ls=>match eX ws races with
  |none=>none
  |some p=>if (acc.map (·.name)).contains p.name=true then none else b7 races (acc++[p]) ls
def iT (lines:List (List W))(races:aaq):Option (List aK):=if 64 < lines.length then none else b7 races [] lines
def aQ (ws:List W):Bool:=ws.headD []==cd "race"
def eQ:aaq->List (List W)->Option (List aK)
 |acc,[]=>if acc=[] then none else some []
 |acc,ws::ls=>if aQ ws=true then (if 16<=acc.length then none else match bD ws with
  |none=>none
  |some h=>eQ (acc++[h]) ls) else if acc=[] then none else iT (ws::ls) acc
def oU (t:W):List (List W):=(aY 10 [] t.dropLast).map (aY 32 [])
def dH (t:W):Option (List aK) :=
 if t.getLast?=some 10 then match oU t with
  |[]=>none
  |d::ls=>if iB d=true then eQ [] ls else none
 else none
theorem pV:∀(ls:List (List W)) (acc:aaq),acc.length<=16 ->
  eQ acc ls=if 1<=acc.length+(ls.takeWhile aQ).length/\acc.length+(ls.takeWhile aQ).length<=16/\¬none∈(ls.takeWhile aQ).map bD then iT (ls.dropWhile aQ) (acc++((ls.takeWhile aQ).map bD).filterMap id) else none
 |[],acc,h=>by
  show (if acc=[] then none else some [])=_;by_cases c:acc=[]
  · subst c;rfl
  · rw[XI c,XJ]
    · rfl
    · have:0 < acc.length:=YL.mpr c;exact⟨by simp;omega,by simpa using h,by simp⟩
 |ws::ls,acc,h=>by
  show (if aQ ws=true then _ else _)=_;by_cases c:aQ ws=true
  · rw[XJ c,ZR,aah,XJ c,XJ c];by_cases c2:16<=acc.length
    · rw[XJ c2,XI];rintro⟨_,z,_⟩;rw[XW] at z;omega
    · rw[XI c2];cases hr:bD ws with
      |none =>
       dsimp only;rw[XI];rintro⟨_,_,z⟩;exact z (by rw[X1,hr];simp)
      |some hs =>
       dsimp only;rw[pV ls (acc++[hs]) (by rw[X6,YV];omega)];have e1:(acc++[hs]).length=acc.length+1:=by simp
       rw[e1,X1,hr,aag,XW,Y_];have k:(1<=acc.length+1+(ls.takeWhile aQ).length/\acc.length+1+(ls.takeWhile aQ).length<=16/\¬none∈(ls.takeWhile aQ).map bD) ↔
         (1<=acc.length+((ls.takeWhile aQ).length+1)/\acc.length+((ls.takeWhile aQ).length+1)<=16/\¬none∈some hs::(ls.takeWhile aQ).map bD):=by
        have:(¬none∈some hs::(ls.takeWhile aQ).map bD)↔¬none∈(ls.takeWhile aQ).map bD:=by simp
        rw[this];constructor
        · rintro⟨a,b,d⟩;exact⟨by omega,by omega,d⟩
        · rintro⟨a,b,d⟩;exact⟨by omega,by omega,d⟩
       by_cases q:(1<=acc.length+1+(ls.takeWhile aQ).length/\acc.length+1+(ls.takeWhile aQ).length<=16/\¬none∈(ls.takeWhile aQ).map bD)
       · rw[XJ q,XJ (k.mp q)];rfl
       · rw[XI q,XI (λz=>q (k.mpr z))]
  · rw[XI c,ZR,aah,XI c,XI c];by_cases d:acc=[]
    · subst d;rfl
    · rw[XI d,XJ]
      · simp
      · have:0 < acc.length:=YL.mpr d;exact⟨by simp;omega,by simpa using h,by simp⟩
def jm (w:W):Prop:=w≠[]/\∀c∈w,(isLet c||bW c)=true
theorem wo {v:Bytes}(h:jm (tx v)):Cv v:=by
 refine⟨λe=>h.1 (by rw[e];rfl),λc hc=>?_⟩;have:=h.2 (sg c.toNat) (Yh.mpr ⟨c,hc,rfl⟩);rw[pf,pY] at this;unfold isLet bW at this;simp only[YH,XR,XS] at this;constructor
 · show 32 < c.toNat;omega
 · show c.toNat<=126;omega
theorem kI {w:W}(h:ej w=true):jm w:=by
 unfold ej at h;simp only[XR,XS] at h;refine⟨λe=>?_,λc hc=>(Yd.mp h.2) c hc⟩;rw[e] at h;simp at h
theorem eJ {w:W}(h:0<=ay w):jm w:=by
 unfold ay at h;split at h
 · omega
 · rename_i q;have q1:¬w=[]:=λz=>q (.inr (.inl z));have q2:¬w.all bW=false:=λz=>q (.inr (.inr z));refine⟨q1,λc hc=>?_⟩;have q2:w.all bW=true:=by simpa using q2
   rw[(Yd.mp q2) c hc,Bool.or_true]
def BH (w:W):Bool:=!w.isEmpty&&w.all λc=>isLet c||bW c
theorem DL {w:W}(h:BH w=true):jm w:=by
 unfold BH at h;rw[XR] at h;exact⟨λe=>by rw[e] at h;simp at h,λc hc=>(Yd.mp h.2) c hc⟩
theorem bP {w:W}{s:String}(e:w=cd s)(h:BH (cd s)=true):jm w:=e ▸ DL h
theorem Bc {ws:List W}(h:iB ws=true):∀w∈ws,jm w:=by
 unfold iB at h;simp only[XR,Yx] at h
 match ws,h with
 |[a,b],h =>
  intro w hw;rcases XN.mp hw with rfl|hw
  · exact bP h.1.2 (by decide)
  · have:w=b:=by simpa using hw
    subst this;exact kI h.2
theorem rX:∀{n:Nat} (l:List W) (fs ss Ml:aar),dj n l fs ss=some Ml->∀w∈l,jm w
 |_,[],_,_,_,_=>by simp
 |_,[_],_,_,_,h=>by cases h
 |_,[_,_],_,_,_,h=>by cases h
 |n,c::a::b::r,fs,ss,Ml,h=>by
  unfold dj at h;split at h
  · rename_i q;intro w hw;rcases XN.mp hw with rfl|hw
    · exact bP q.1 (by decide)
    · rcases XN.mp hw with rfl|hw
      · exact eJ (by omega)
      · rcases XN.mp hw with rfl|hw
        · exact eJ (by omega)
        · exact rX r _ _ _ h w hw
  · cases h
theorem Ak {ws:List W}{hs:aar}(h0:aQ ws=true)(h:bD ws=some hs):∀w∈ws,jm w:=by
 unfold bD at h;split at h
 · rename_i w0 n r;split at h
   · rename_i q;cases c:dj (ay n).toNat r [] [] with
     |none=>rw[c] at h;cases h
     |some ss =>
      intro w hw;rcases XN.mp hw with rfl|hw
      · unfold aQ at h0;exact bP (Yx.mp h0) (by decide)
      · rcases XN.mp hw with rfl|hw
        · exact eJ (by omega)
        · exact rX r _ _ _ c w hw
   · cases h
 · cases h
theorem Ac {w:W}{k:Kind}(h:dF w=some k):jm w:=by
 unfold dF at h;split at h
 · rename_i e;exact bP e (by decide)
 · split at h
   · rename_i e;exact bP e (by decide)
   · split at h
     · rename_i e;exact bP e (by decide)
     · split at h
       · rename_i e;exact bP e (by decide)
       · cases h
theorem rn {ws:List W}{races:aaq}{q:aK}(h:eX ws races=some q):(∀w∈ws,jm w)/\ws.headD []=cd "pool":=by
 unfold eX at h;split at h
 · rename_i p nm kd k fr rc tk t br b le m un u no z;cases km:dF kd with
   |none=>rw[km] at h;cases h
   |some kind =>
    rw[km] at h;dsimp only at h;split at h
    · rename_i cs;obtain⟨c1,c2,c3,c4,c5,c6,c7,c8,c9,PM,PN,NO,Of,Nr,NP,MO⟩:=cs;have hm:0<=ay m:=by omega
      have gz:jm z:=by
       rcases Of with ⟨e,_⟩|e|e
       · exact bP e (by decide)
       · exact bP e (by decide)
       · exact bP e (by decide)
      refine⟨λw hw=>?_,c1⟩;simp only[XN,Zv,or_false] at hw;rcases hw with rfl|rfl|rfl|rfl|rfl|rfl|rfl|rfl|rfl|rfl|rfl|rfl|rfl|rfl|rfl|rfl
      · exact bP c1 (by decide)
      · exact kI c8
      · exact Ac km
      · exact eJ (by omega)
      · exact bP c2 (by decide)
      · exact eJ (by omega)
      · exact bP c3 (by decide)
      · exact eJ (by omega)
      · exact bP c4 (by decide)
      · exact eJ (by omega)
      · exact bP c5 (by decide)
      · exact eJ hm
      · exact bP c6 (by decide)
      · exact eJ (by omega)
      · exact bP c7 (by decide)
      · exact gz
    · cases h
 · cases h
def lw (l:Bytes):List W:=aY 32 [] (tx l)
theorem BG (l:Bytes):lw l=(splitOn 32 [] l).map tx:=ie (c:=32) (by decide) l []
theorem lK {l:Bytes}(h:∀w∈lw l,jm w):badByte true 0 l=none:=by
 refine wA l [] 0 (λv hv=>wo (h (tx v) ?_)) (by simp);rw[BG];exact Yh.mpr ⟨v,hv,rfl⟩
theorem qd {l:Bytes}(p:Nat)(h:badByte true 0 l=none):mT (wordsFrom p [] l)=lw l:=by
 obtain⟨a,_⟩:=words_of l [] p 0 (Ye _) h;rw[BG,←a,X_];rfl
def bQ:Nat->Option Card->List Bytes->Except Fault (Option Card)
 |_,h,[]=>.ok h
 |p,h,l::ls=>match badByte true 0 l with
  |some i=>.error ⟨2,p+i⟩
  |none=>match lineIn h ⟨wordsFrom p [] l,p+l.length⟩ with
   |.error e=>.error e
   |.ok t=>bQ (p+l.length+1) t ls
def dP (ls:List Bytes):Bytes:=ls.flatMap λl=>l++[10]
theorem o8 {r:Bytes}:∀{l:Bytes},¬10∈l->upTo (l++10::r)=some (l,r)
 |[],_=>by simp[upTo]
 |c::l,h=>by
  have hc:¬c=10:=λe=>h (by simp[e]);show (if c=10 then some ([],l++10::r) else (upTo (l++10::r)).map λ(x:Bytes×Bytes)=>(c::x.1,x.2))=_;rw[XI hc,o8 λm=>h (by simp[m])];rfl
theorem j8:∀{b l r:Bytes},upTo b=some (l,r)->b=l++10::r/\¬10∈l
 |[],_,_,h=>by cases h
 |c::b,l,r,h=>by
  have h:(if c=10 then some ([],b) else (upTo b).map λ(x:Bytes×Bytes)=>(c::x.1,x.2))=some (l,r):=h;by_cases e:c=10
  · rw[XJ e] at h;injection h with h;injection h with h1 h2;subst h1;subst h2;subst e;exact⟨rfl,by simp⟩
  · rw[XI e] at h;cases q:upTo b with
    |none=>rw[q] at h;cases h
    |some x =>
     rw[q] at h;injection h with h;injection h with h1 h2;obtain⟨a1,a2⟩:=j8 (b:=b) (l:=x.1) (r:=x.2) q;subst h1;subst h2;exact⟨by rw[ZP,←a1],λm=>by
      rcases XN.mp m with z|z
      · exact e z.symm
      · exact a2 z⟩
theorem rA:∀{b:Bytes},upTo b=none->¬10∈b
 |[],_=>by simp
 |c::b,h=>by
  have h:(if c=10 then some ([],b) else (upTo b).map λ(x:Bytes×Bytes)=>(c::x.1,x.2))=none:=h;by_cases e:c=10
  · rw[XJ e] at h;cases h
  · rw[XI e] at h;cases q:upTo b with
    |none =>
     have:=rA q;intro m;rcases XN.mp m with z|z
     · exact e z.symm
     · exact this z
    |some x=>rw[q] at h;cases h
theorem qc:∀(ls:List Bytes) (k p:Nat) (h:Option Card),(∀l∈ls,¬10∈l)->(dP ls).length < k->linesIn lineIn k p h (dP ls)=bQ p h ls
 |[],0,_,_,_,hk=>by simp at hk
 |[],k+1,p,h,_,_=>rfl
 |l::ls,0,_,_,_,hk=>by simp at hk
 |l::ls,k+1,p,h,hn,hk=>by
  have e:dP (l::ls)=l++10::dP ls:=by
   unfold dP;rw[Z2,Y_];rfl
  rw[e] at hk ⊢;have ne:¬(l++10::dP ls).isEmpty=true:=by simp
  show (if (l++10::dP ls).isEmpty=true then Except.ok h else match upTo (l++10::dP ls) with
   |none=>_
   |some (l,r)=>_)=_
  rw[XI ne,o8 (hn l (by simp))];dsimp only;unfold bQ;cases hb:badByte true 0 l with
  |some i=>rfl
  |none =>
   dsimp only;cases hl:lineIn h ⟨wordsFrom p [] l,p+l.length⟩ with
   |error e=>rfl
   |ok t =>
    dsimp only;exact qc ls k (p+l.length+1) t (λm hm=>hn m (by simp[hm])) (by simp only[X6,XW] at hk;omega)
theorem pz:∀(k p:Nat) (h h':Option Card) (b:Bytes),b.length < k->linesIn lineIn k p h b=.ok h'->b=[]∨b.getLast?=some 10
 |0,_,_,_,_,hk,_=>by omega
 |k+1,p,h,h',b,hk,q=>by
  by_cases e:b=[]
  · exact .inl e
  · right;have ne:¬b.isEmpty=true:=λz=>e (Zi.mp z);rw[linesIn,XI ne] at q;cases hu:upTo b with
    |none=>rw[hu] at q;cases q
    |some x =>
     obtain⟨l,r⟩:=x;rw[hu] at q;dsimp only at q;obtain⟨hb,_⟩:=j8 hu;cases OL:badByte true 0 l with
     |some i=>rw[OL] at q;cases q
     |none =>
      rw[OL] at q;dsimp only at q;cases hl:lineIn h ⟨wordsFrom p [] l,p+l.length⟩ with
      |error e=>rw[hl] at q;cases q
      |ok t =>
       rw[hl] at q;dsimp only at q;have:=pz k _ t h' r (by rw[hb] at hk;simp only[X6,XW] at hk;omega) q;rw[hb];rcases this with z|z
       · subst z;simp
       · rw[List.getLast?_append];cases r with
         |nil=>simp at z
         |cons c r =>
          rw[List.getLast?_cons_cons,z];rfl
theorem join_split:∀(b w:Bytes),dP (splitOn 10 w b)=w++b++[10]
 |[],w=>by
  show dP [w]=_;unfold dP;simp
 |c::b,w=>by
  show dP (if c=10 then w::splitOn 10 [] b else splitOn 10 (w++[c]) b)=_;by_cases e:c=10
  · rw[XJ e];have:=join_split b [];unfold dP at this ⊢;rw[Z2,this,e];simp
  · rw[XI e,join_split b (w++[c])];simp
theorem lA:∀(b w:Bytes),¬10∈w->∀l∈splitOn 10 w b,¬10∈l
 |[],w,hw,l,hl=>by
  have:l=w:=by simpa [splitOn] using hl
  exact this ▸ hw
 |c::b,w,hw,l,hl=>by
  have hl:l∈(if c=10 then w::splitOn 10 [] b else splitOn 10 (w++[c]) b):=hl;by_cases e:c=10
  · rw[XJ e] at hl;rcases XN.mp hl with rfl|hl
    · exact hw
    · exact lA b [] (by simp) l hl
  · rw[XI e] at hl;refine lA b (w++[c]) (λm=>?_) l hl;rcases Yw.mp m with z|z
    · exact hw z
    · exact e (by simpa using (XZ.mp z).symm)
structure cz (C:Card):Prop where
 vJ:C.races.length<=16
 heads:∀r∈C.races,cQ r.heads
 pools:∀p∈C.pools,dZ C p
 np:C.pools.length<=64
theorem k9 (c:UInt8):∀(l w:Bytes),splitOn c w l≠[]
 |[],_=>by simp[splitOn]
 |x::l,w=>by
  unfold splitOn;by_cases e:x=c
  · rw[XJ e];simp
  · rw[XI e];exact k9 c l _
theorem iU {l:Bytes}(p:Nat)(h:badByte true 0 l=none):∃w r,wordsFrom p [] l=w::r/\lw l=tx w.w::mT r:=by
 have e:=qd p h;cases hw:wordsFrom p [] l with
 |nil =>
  exfalso;rw[hw] at e;have e:[]=lw l:=e;rw[BG] at e;exact k9 32 l [] (aaf.mp e.symm)
 |cons w r=>exact⟨w,r,rfl,by rw[←e,hw];rfl⟩
theorem sq {C D:Card}{p:Pool}(h:dZ C p)(e:D.races=C.races):dZ D p:=by
 have hh:D.headsOf=C.headsOf:=by
  funext r;unfold Card.headsOf;rw[e]
 exact⟨h.name,h.JU,h.HQ,h.DA,by rw[e];exact h.Ko,by rw[e];exact h.legs,by rw[hh];exact h.vJ,h.unit,h.Lo⟩
theorem px:∀(ls:List Bytes) (p:Nat) (C:Card),cz C->C.races≠[]->(C.pools=[]->∀l∈ls.head?,aQ (lw l)=false) ->
  (∀C',bQ p (some C) ls=.ok C'->∃D,C'=some D/\cz D/\D.races=C.races/\C.pools.length+ls.length<=64/\b7 (rh C) (C.pools.map (aC C)) (ls.map lw)=some (D.pools.map (aC D))) /\
  (∀e,bQ p (some C) ls=.error e->64 < C.pools.length+ls.length∨b7 (rh C) (C.pools.map (aC C)) (ls.map lw)=none)
 |[],p,C,ok,_,_=>⟨λC' h=>by
   have h:Except.ok (some C)=Except.ok C':=h;injection h with h;subst h;exact⟨C,rfl,ok,rfl,ok.np,rfl⟩,λe h=>nomatch h⟩
 |l::ls,p,C,ok,hr,hf=>by
  have none_of:eX (lw l) (rh C)=none->b7 (rh C) (C.pools.map (aC C)) ((l::ls).map lw)=none:=λq=>by
   rw[X1];unfold b7;rw[q]
  cases hb:badByte true 0 l with
  |some i =>
   have q:eX (lw l) (rh C)=none:=by
    cases c:eX (lw l) (rh C) with
    |none=>rfl
    |some z =>
     have:=lK (rn c).1;rw[hb] at this;cases this
   have e0:bQ p (some C) (l::ls)=.error ⟨2,p+i⟩:=by
    unfold bQ;rw[hb]
   rw[e0];exact⟨λ_ h=>(nomatch h),λ_ _=>.inr (none_of q)⟩
  |none =>
   obtain⟨w,r,hw,Mw⟩:=iU p hb;have e0:bQ p (some C) (l::ls)=match lineIn (some C) ⟨w::r,p+l.length⟩ with
     |.error e=>.error e
     |.ok t=>bQ (p+l.length+1) t ls:=by
    conv=>lhs;unfold bQ
    rw[hb,hw]
    all_goals rfl
   have nr:¬(w.w=ascii "race"/\C.pools=[]):=λ⟨z1,z2⟩=>by
    have:=hf z2 l (by simp);unfold aQ at this;rw[Mw] at this;have:(tx w.w==cd "race")=false:=this;rw[Yg] at this;exact this ((bo _ (by decide)).mpr z1)
   have e1:lineIn (some C) ⟨w::r,p+l.length⟩=if w.w=ascii "pool"/\C.races≠[] then (if POOLS<=C.pools.length then .error ⟨6,w.at_⟩ else withPool (p+l.length) C r) else .error ⟨3,w.at_⟩:=by
    show (if w.w=ascii "race"/\C.pools=[] then _ else _)=_;rw[XI nr]
   rw[e1] at e0;by_cases hp:w.w=ascii "pool"
   · rw[XJ ⟨hp,hr⟩] at e0;by_cases M_:POOLS<=C.pools.length
     · rw[XJ M_] at e0;rw[e0];have M_:64<=C.pools.length:=M_;exact⟨λ_ h=>(nomatch h),λ_ _=>.inl (by rw[XW];omega)⟩
     · rw[XI M_] at e0;have M_:¬64<=C.pools.length:=M_;unfold withPool at e0;cases hi:poolIn (p+l.length) C r with
       |error e =>
        rw[hi] at e0;have e0:bQ p (some C) (l::ls)=.error e:=e0;rw[e0];refine⟨λ_ h=>(nomatch h),λ_ _=>.inr ?_⟩;cases c:eX (lw l) (rh C) with
        |none=>exact none_of c
        |some q =>
         rw[X1];unfold b7;rw[c];dsimp only;cases d:((C.pools.map (aC C)).map (·.name)).contains q.name with
         |true=>rfl
         |false =>
          exfalso;rw[Mw] at c;have d':(C.pools.map λ(p:Pool)=>tx p.name).contains q.name=false:=by
           rw[X_] at d;exact d
          obtain⟨z,hz⟩:=AZ (e:=p+l.length) ok.vJ c d' (λp hp=>(ok.pools p hp).name);rw[hi] at hz;cases hz
       |ok q =>
        rw[hi] at e0;have e0:bQ p (some C) (l::ls)=bQ (p+l.length+1) (some {C with pools:=C.pools++[q]}) ls:=e0;obtain⟨Vb,hn,hm⟩:=BX (w:=w) ok.vJ hp hi;rw[e0];have QM:cz {C with pools:=C.pools++[q]}:=⟨ok.vJ,ok.heads,λx hx=>by
          have hx:x∈C.pools++[q]:=hx;rcases Yw.mp hx with z|z
          · exact sq (ok.pools x z) rfl
          · have:x=q:=by simpa using z
            subst this;exact sq Vb rfl,by show (C.pools++[q]).length<=64;rw[X6,YV];omega⟩
        have ih:=px ls (p+l.length+1) {C with pools:=C.pools++[q]} QM hr (λz=>by
         have z:C.pools++[q]=[]:=z;simp at z)
        have step:b7 (rh C) (C.pools.map (aC C)) ((l::ls).map lw)=b7 (rh C) ((C.pools++[q]).map (aC C)) (ls.map lw):=by
         rw[X1]
         conv=>lhs;unfold b7
         have PQ:eX (lw l) (rh C)=some (aC C q):=by rw[Mw];exact hm
         rw[PQ];dsimp only;have:((C.pools.map (aC C)).map (·.name)).contains (aC C q).name=false:=by
          rw[X_];cases d:(C.pools.map ((λ(x:aK)=>x.name) ∘ aC C)).contains (aC C q).name with
          |false=>rfl
          |true =>
           exfalso;have d:(aC C q).name∈C.pools.map ((λ(x:aK)=>x.name) ∘ aC C):=by simpa using d
           obtain⟨x,hx,ex⟩:=Yh.mp d;have ex:tx x.name=tx q.name:=ex;have nx:=(ok.pools x hx).name;have:q.name=x.name:=by
            have key:∀c∈x.name,t_ c.toNat=true:=λc hc=>by
             have gx:=kI (by rw[j3];exact nx);have:=gx.2 (sg c.toNat) (Yh.mpr ⟨c,hc,rfl⟩);rw[pf,pY] at this;unfold t_;rw[this];rfl
            have own:tx x.name=x.name.map UInt8.toNat:=(rF key).mpr rfl;exact (rF key).mp (by rw[←ex,own])
           have M0:¬q.name∈C.pools.map λ(p:Pool)=>p.name:=by simpa using hn
           exact M0 (Yh.mpr ⟨x,hx,this.symm⟩)
         rw[XI (by rw[this];decide),X3];rfl
        have len:(C.pools++[q]).length=C.pools.length+1:=by simp
        rw[step];constructor
        · intro C' h;obtain⟨D,h1,h2,h3,h4,h5⟩:=ih.1 C' h;refine⟨D,h1,h2,h3,?_,h5⟩;have h4:(C.pools++[q]).length+ls.length<=64:=h4;rw[XW];omega
        · intro e h;rcases ih.2 e h with z|z
          · left;have z:64 < (C.pools++[q]).length+ls.length:=z;rw[XW];omega
          · exact .inr z
   · rw[XI (λz=>hp z.1)] at e0;rw[e0];refine⟨λ_ h=>(nomatch h),λ_ _=>.inr (none_of ?_)⟩;cases c:eX (lw l) (rh C) with
     |none=>rfl
     |some q =>
      exfalso;have:=(rn c).2;rw[Mw] at this;exact hp ((bo _ (by decide)).mp this)
theorem pT:∀(ls:List Bytes) (p:Nat) (C:Card),cz C->C.pools=[] ->
  (∀C',bQ p (some C) ls=.ok C'->∃D,C'=some D/\((D.races=[]/\eQ (rh C) (ls.map lw)=none)∨(D.races≠[]/\cz D/\eQ (rh C) (ls.map lw)=some (D.pools.map (aC D))))) /\
  (∀e,bQ p (some C) ls=.error e->eQ (rh C) (ls.map lw)=none)
 |[],p,C,ok,hp=>⟨λC' h=>by
   have h:Except.ok (some C)=Except.ok C':=h;injection h with h;subst h;refine⟨C,rfl,?_⟩;by_cases c:C.races=[]
   · left;refine⟨c,?_⟩;show (if rh C=[] then none else some [])=none;rw[XJ (by unfold rh;rw[c];rfl)]
   · right;refine⟨c,ok,?_⟩;show (if rh C=[] then none else some [])=_;rw[XI (λ(z:rh C=[])=>c (aaf.mp z)),hp];rfl,λe h=>nomatch h⟩
 |l::ls,p,C,ok,hp=>by
  have Mr:(rh C).length=C.races.length:=XH ..;by_cases Nu:aQ (lw l)=true
  · have step:eQ (rh C) ((l::ls).map lw)=if 16<=C.races.length then none else match bD (lw l) with
      |none=>none
      |some h=>eQ (rh C++[h]) (ls.map lw):=by
     rw[X1];show (if aQ (lw l)=true then (if 16<=(rh C).length then none else _) else _)=_;rw[XJ Nu,Mr]
     all_goals rfl
    rw[step];cases hb:badByte true 0 l with
    |some i =>
     have q:bD (lw l)=none:=by
      cases c:bD (lw l) with
      |none=>rfl
      |some z =>
       have:=lK (Ak Nu c);rw[hb] at this;cases this
     have e0:bQ p (some C) (l::ls)=.error ⟨2,p+i⟩:=by
      unfold bQ;rw[hb]
     rw[e0,q];refine⟨λ_ h=>(nomatch h),λ_ _=>?_⟩;split <;> rfl
    |none =>
     obtain⟨w,r,hw,Mw⟩:=iU p hb;have wr:w.w=ascii "race":=by
      unfold aQ at Nu;rw[Mw] at Nu;exact (bo _ (by decide)).mp (Yx.mp Nu)
     have e0:bQ p (some C) (l::ls)=match lineIn (some C) ⟨w::r,p+l.length⟩ with
       |.error e=>.error e
       |.ok t=>bQ (p+l.length+1) t ls:=by
      conv=>lhs;unfold bQ
      rw[hb,hw]
      all_goals rfl
     have e1:lineIn (some C) ⟨w::r,p+l.length⟩=if RACES<=C.races.length then .error ⟨6,w.at_⟩ else withRace (p+l.length) C r:=by
      show (if w.w=ascii "race"/\C.pools=[] then _ else _)=_;rw[XJ ⟨wr,hp⟩]
     rw[e1] at e0;by_cases Nq:RACES<=C.races.length
     · rw[XJ Nq] at e0;rw[e0,XJ (show 16<=C.races.length from Nq)];exact⟨λ_ h=>(nomatch h),λ_ _=>rfl⟩
     · rw[XI Nq] at e0;have Nq:¬16<=C.races.length:=Nq;rw[XI Nq];unfold withRace at e0;cases hi:raceIn (p+l.length) r with
       |error e =>
        rw[hi] at e0;have e0:bQ p (some C) (l::ls)=.error e:=e0;rw[e0];refine⟨λ_ h=>(nomatch h),λ_ _=>?_⟩;cases c:bD (lw l) with
        |none=>rfl
        |some hs =>
         exfalso;rw[Mw] at c;obtain⟨q,hq,_⟩:=(vt (e:=p+l.length) (w:=w) (l:=r)).2 hs c;rw[hi] at hq;cases hq
       |ok q =>
        rw[hi] at e0;have e0:bQ p (some C) (l::ls)=bQ (p+l.length+1) (some {C with races:=C.races++[q]}) ls:=e0;have hm:=(vt (e:=p+l.length) (w:=w) (l:=r)).1 q hi;have PQ:bD (lw l)=some q.heads:=by rw[Mw];exact hm
        rw[e0,PQ];dsimp only;have QM:cz {C with races:=C.races++[q]}:=⟨by show (C.races++[q]).length<=16;rw[X6,YV];omega,λx hx=>by
          have hx:x∈C.races++[q]:=hx;rcases Yw.mp hx with z|z
          · exact ok.heads x z
          · have:x=q:=by simpa using z
            subst this;exact Av PQ,λx hx=>by
          have hx:x∈C.pools:=hx;rw[hp] at hx;simp at hx,ok.np⟩
        have ih:=pT ls (p+l.length+1) {C with races:=C.races++[q]} QM hp;have e2:rh {C with races:=C.races++[q]}=rh C++[q.heads]:=by
         unfold rh;rw[X3];rfl
        rw[e2] at ih;exact ih
  · have QN:aQ (lw l)=false:=by simpa using Nu
    have step:eQ (rh C) ((l::ls).map lw)=if rh C=[] then none else iT ((l::ls).map lw) (rh C):=by
     rw[X1];show (if aQ (lw l)=true then _ else _)=_;rw[XI Nu]
    rw[step];by_cases hr:C.races=[]
    · rw[XJ (by unfold rh;rw[hr];rfl)];have e0:∃e,bQ p (some C) (l::ls)=.error e:=by
       unfold bQ;cases hb:badByte true 0 l with
       |some i=>exact⟨_,rfl⟩
       |none =>
        obtain⟨w,r,hw,Mw⟩:=iU p hb;dsimp only;rw[hw];have wr:¬w.w=ascii "race":=λz=>by
         apply Nu
         unfold aQ;rw[Mw];exact Yx.mpr ((bo _ (by decide)).mpr z)
        have e1:lineIn (some C) ⟨w::r,p+l.length⟩=.error ⟨3,w.at_⟩:=by
         show (if w.w=ascii "race"/\C.pools=[] then _ else if w.w=ascii "pool"/\C.races≠[] then _ else _)=_;rw[XI (λz=>wr z.1),XI (λz=>z.2 hr)]
        rw[e1];exact⟨_,rfl⟩
      obtain⟨e,e0⟩:=e0;rw[e0];exact⟨λ_ h=>(nomatch h),λ_ _=>rfl⟩
    · rw[XI (λ(z:rh C=[])=>hr (aaf.mp z))];have ih:=px (l::ls) p C ok hr (λ_ l' OM=>by
       have:l'=l:=by simpa using OM.symm
       subst this;exact QN)
      rw[hp] at ih;have len:((l::ls).map lw).length=(l::ls).length:=XH ..;unfold iT;rw[len];constructor
      · intro C' h;obtain⟨D,h1,h2,h3,h4,h5⟩:=ih.1 C' h;refine⟨D,h1,.inr ⟨by rw[h3];exact hr,h2,?_⟩⟩;rw[XI (by simp only[Zg] at h4;omega)];exact h5
      · intro e h;by_cases c:64 < (l::ls).length
        · rw[XJ c]
        · rw[XI c];rcases ih.2 e h with z|z
          · simp only[Zg] at z;omega
          · exact z
theorem yG:∀(b:Bytes),(tx b).getLast?=some 10↔b.getLast?=some 10:=λb=>by
 unfold tx;rw[List.getLast?_map];cases b.getLast? with
 |none=>simp
 |some c =>
  show some (sg c.toNat)=some 10↔some c=some 10;constructor
  · intro h;injection h with h;rw[jF (show c.toNat=(10:UInt8).toNat from (u7 (by decide)).mp h)]
  · intro h;injection h with h;rw[h];rfl
theorem ma (b:Bytes):(∀C,readCard b=.ok C->cz C/\C.races≠[]/\dH (tx b)=some (C.pools.map (aC C)))/\(∀e,readCard b=.error e->dH (tx b)=none):=by
 by_cases hl:b.getLast?=some 10
 · obtain⟨b',rfl⟩:∃b',b=b'++[10]:=by
    have ne:b≠[]:=λe=>by rw[e] at hl;simp at hl
    refine⟨b.dropLast,?_⟩;have:=List.dropLast_concat_getLast ne;rw[List.getLast?_eq_some_getLast ne] at hl;injection hl with hl;rw[hl] at this;exact this.symm
   have hj:dP (splitOn 10 [] b')=b'++[10]:=by rw[join_split];simp
   have ON:linesIn lineIn ((b'++[10]).length+1) 0 none (b'++[10])=bQ 0 none (splitOn 10 [] b'):=by
    rw[←hj];exact qc _ _ _ _ (lA b' [] (by simp)) (Z9 _)
   have Vc:oU (tx (b'++[10]))=(splitOn 10 [] b').map lw:=by
    unfold oU;have e:(tx (b'++[10])).dropLast=tx b':=by
     rw[rH];show (tx b'++[sg 10]).dropLast=_;rw[List.dropLast_concat]
    have:=ie (c:=10) (by decide) b' [];rw[CA] at this;rw[e];show (aY (10:UInt8).toNat [] (tx b')).map _=_;rw[this,X_];rfl
   have hc:dH (tx (b'++[10]))=match (splitOn 10 [] b').map lw with
     |[]=>none
     |d::ls=>if iB d=true then eQ [] ls else none:=by
    unfold dH;rw[XJ ((yG _).mpr hl),Vc]
    all_goals rfl
   rw[hc];unfold readCard;rw[ON];cases hs:splitOn 10 [] b' with
   |nil=>exact absurd hs (k9 10 b' [])
   |cons l ls =>
    rw[X1];dsimp only;have day:(iB (lw l)=false/\∃e,bQ 0 none (l::ls)=.error e)∨(iB (lw l)=true/\∃n,bQ 0 none (l::ls)=bQ (0+l.length+1) (some {noCard with name:=n}) ls):=by
     cases hb:badByte true 0 l with
     |some i =>
      left;refine⟨?_,⟨2,0+i⟩,by unfold bQ;rw[hb]⟩;cases c:iB (lw l) with
      |false=>rfl
      |true =>
       have:=lK (Bc c);rw[hb] at this;cases this
     |none =>
      obtain⟨w,r,hw,Mw⟩:=iU 0 hb;have e0:bQ 0 none (l::ls)=match lineIn none ⟨w::r,0+l.length⟩ with
        |.error e=>.error e
        |.ok t=>bQ (0+l.length+1) t ls:=by
       conv=>lhs;unfold bQ
       rw[hb,hw]
       all_goals rfl
      have e1:lineIn none ⟨w::r,0+l.length⟩=if w.w=ascii "day" then dayIn (0+l.length) r else .error ⟨3,w.at_⟩:=rfl;rw[e1] at e0;by_cases hd:w.w=ascii "day"
      · rw[XJ hd] at e0;cases hi:dayIn (0+l.length) r with
        |error e =>
         left;rw[hi] at e0;refine⟨?_,e,e0⟩;cases c:iB (lw l) with
         |false=>rfl
         |true =>
          exfalso;unfold iB at c;rw[Mw] at c;simp only[XR,Yx] at c
          match r,c,hi with
          |[wn],c,hi =>
           have nm:isName wn.w=true:=by rw[←j3];exact c.2
           have:dayIn (0+l.length) [wn]=.ok (some {noCard with name:=wn.w}):=by
            unfold dayIn;refine aE.mpr ⟨(wn.w,[]),i_.mpr ⟨wn,rfl,nm,rfl,rfl⟩,?_⟩;exact aE.mpr ⟨(),ke.mpr rfl,rfl⟩
           rw[this] at hi;cases hi
          |[],c,_=>have:=c.1.1;simp[mT] at this
          |_::_::_,c,_=>have:=c.1.1;simp[mT] at this
        |ok t =>
         right;rw[hi] at e0;unfold dayIn at hi;obtain⟨n,x1,h1⟩:=aE.mp hi;obtain⟨wn,er,n1,n2,n3⟩:=i_.mp x1;obtain⟨_,x2,h2⟩:=aE.mp h1;have y2:=ke.mp x2;injection h2 with h2;subst h2;refine⟨?_,n.1,e0⟩;unfold iB;rw[Mw,er,y2];have a1:(tx w.w==cd "day")=true:=Yx.mpr ((bo _ (by decide)).mpr hd);show ((2==2)&&(tx w.w==cd "day")&&ej (tx wn.w))=true;rw[a1,j3,n1];rfl
      · rw[XI hd] at e0;left;refine⟨?_,_,e0⟩;cases c:iB (lw l) with
        |false=>rfl
        |true =>
         exfalso;unfold iB at c;rw[Mw] at c;simp only[XR,Yx] at c;exact hd ((bo _ (by decide)).mp c.1.2)
    rcases day with ⟨d,e,h⟩|⟨d,n,h⟩
    · rw[d,h];exact⟨λ_ q=>(nomatch q),λ_ _=>rfl⟩
    · rw[XJ d,h];have Ks:cz {noCard with name:=n}:=⟨Ye _,λr hr=>by
        have hr:r∈([]:List Race):=hr;simp at hr,λp hp=>by
        have hp:p∈([]:List Pool):=hp;simp at hp,Ye _⟩
      have ih:=pT ls (0+l.length+1) {noCard with name:=n} Ks rfl;have e2:rh {noCard with name:=n}=[]:=rfl;rw[e2] at ih;cases hf:bQ (0+l.length+1) (some {noCard with name:=n}) ls with
      |error e =>
       dsimp only;exact⟨λ_ q=>(nomatch q),λ_ _=>ih.2 e hf⟩
      |ok C' =>
       obtain⟨D,rfl,q⟩:=ih.1 C' hf;dsimp only;rcases q with ⟨q1,q2⟩|⟨q1,q2,q3⟩
       · rw[XJ q1];exact⟨λ_ q=>(nomatch q),λ_ _=>q2⟩
       · rw[XI q1];exact⟨λC q=>by injection q with q;subst q;exact⟨q2,q1,q3⟩,λ_ q=>nomatch q⟩
 · have hn:dH (tx b)=none:=by
    unfold dH;rw[XI (λz=>hl ((yG b).mp z))]
   rw[hn];refine⟨λC h=>?_,λ_ _=>rfl⟩;exfalso;unfold readCard at h;cases q:linesIn lineIn (b.length+1) 0 none b with
   |error e=>rw[q] at h;cases h
   |ok h' =>
    rcases pz _ _ _ _ _ (Z9 _) q with z|z
    · subst z;have q':linesIn lineIn 1 0 none []=.ok h':=q;have q':(Except.ok none:Except Fault (Option Card))=.ok h':=q';injection q' with q';subst q';rw[q] at h;cases h
    · exact hl z
def Fits (fd acc:aar)(p:W):Prop:=∃n:Nat,ay p=(n:Int)/\n∈fd/\∀x,acc.getLast?=some x->x < n
theorem Cg {fd acc:aar}{p:W}:Fits fd acc p↔0<=ay p/\(ay p).toNat∈fd/\∀x∈acc.getLast?,x < (ay p).toNat:=by
 constructor
 · rintro⟨n,e,h1,h2⟩;have en:(ay p).toNat=n:=by omega
   rw[en];exact⟨by omega,h1,λx hx=>h2 x hx⟩
 · rintro⟨h0,h1,h2⟩;exact⟨_,by omega,h1,λx hx=>h2 x hx⟩
instance {fd acc:aar}{p:W}:Decidable (Fits fd acc p):=decidable_of_iff _ Cg.symm
def jl (fd:aar):List W->aar->Option (aar)
 |[],acc=>some acc
 |p::r,acc=>if Fits fd acc p then jl fd r (acc++[(ay p).toNat]) else none
def setM (fd:aar)(w:W):Option (aar):=jl fd (aY 44 [] w) []
theorem lH {x:Nat}{l:aar}:risesN (x::l)=true↔(∀y,l.head?=some y->x < y)/\risesN l=true:=by
 cases l with
 |nil=>exact⟨λ_=>⟨λ_ z=>(by cases z),rfl⟩,λ_=>rfl⟩
 |cons y r =>
  show (decide (x < y)&&risesN (y::r))=true↔_;rw[XR,XS];exact⟨λ⟨a,b⟩=>⟨λz e=>by injection e with e;omega,b⟩,λ⟨a,b⟩=>⟨a y rfl,b⟩⟩
theorem mapM_some {α β:Type}{f:α->Option β}{x:α}{r:List α}{t:List β}:(x::r).mapM f=some t↔∃b s,f x=some b/\r.mapM f=some s/\t=b::s:=by
 rw[List.mapM_cons];cases h:f x with
 |none =>
  constructor
  · intro z;cases z
  · rintro⟨b,s,e,_⟩;cases e
 |some b =>
  cases h2:r.mapM f with
  |none =>
   constructor
   · intro z;rw[show ((some b:Option β) >>= λb=>(none:Option (List β)) >>= λs=>pure (b::s))=none from rfl] at z;cases z
   · rintro⟨b,s,_,e,_⟩;cases e
  |some s =>
   constructor
   · intro z;have z:some (b::s)=some t:=z;injection z with z;exact⟨b,s,rfl,rfl,z.symm⟩
   · rintro⟨b',s',e1,e2,rfl⟩;injection e1 with e1;injection e2 with e2;subst e1 e2;rfl
theorem ij {fd:aar}(hf:∀x∈fd,x<=24):∀(ps:List Bytes) (acc s:aar),jl fd (ps.map tx) acc=some s↔∃t,ps.mapM numberOf=some t/\s=acc++t/\(∀x y,acc.getLast?=some x->t.head?=some y->x < y)/\risesN t=true/\∀x∈t,x∈fd
 |[],acc,s=>by
  show some acc=some s↔_;constructor
  · intro e;injection e with e;exact⟨[],rfl,by simp[e],λ_ _ _ z=>(by cases z),rfl,λ_ z=>(by cases z)⟩
  · rintro⟨t,e,rfl,_⟩;have e:some []=some t:=e;injection e with e;subst e;simp
 |p::r,acc,s=>by
  show (if Fits fd acc (tx p) then jl fd (r.map tx) (acc++[(ay (tx p)).toNat]) else none)=some s↔_;constructor
  · intro h;split at h
    · rename_i hn;obtain⟨n,e1,e2,e3⟩:=hn;have QO:=hf n e2;have e4:=(d8 (w:=p) (m:=n) (by omega)).mp e1;obtain⟨t,a1,a2,a3,a4,a5⟩:=(ij hf r _ s).mp h;have en:(ay (tx p)).toNat=n:=by omega
      rw[en] at a2 a3;refine⟨n::t,mapM_some.mpr ⟨n,t,e4,a1,rfl⟩,by rw[a2,Y_];rfl,λx y hx hy=>?_,lH.mpr ⟨λy hy=>a3 n y (by rw[List.getLast?_append];rfl) hy,a4⟩,λx hx=>?_⟩
      · injection hy with hy;subst hy;exact e3 x hx
      · rcases XN.mp hx with rfl|hx
        · exact e2
        · exact a5 x hx
    · cases h
  · rintro⟨t,a1,a2,a3,a4,a5⟩;obtain⟨n,t',e4,Vd,rfl⟩:=mapM_some.mp a1;have e2:=a5 n (by simp);have QO:=hf n e2;have e1:=(d8 (w:=p) (m:=n) (by omega)).mpr e4;rw[XJ ⟨n,e1,e2,λx hx=>a3 x n hx rfl⟩];have en:(ay (tx p)).toNat=n:=by omega
    rw[en];obtain⟨r1,r2⟩:=lH.mp a4;refine (ij hf r _ s).mpr ⟨t',Vd,by rw[a2,Y_];rfl,λx y hx hy=>?_,r2,λx hx=>a5 x (by simp[hx])⟩;rw[List.getLast?_append] at hx;have hx:some n=some x:=hx;injection hx with hx;subst hx;exact r1 y hy
theorem Ki {fd t:aar}(h:∀x∈t,x∈fd):t.all fd.contains=true:=by
 rw[Yd];intro x hx;rw[YO];exact Yn (h x hx)
theorem Lv {fd t:aar}(h:t.all fd.contains=true):∀x∈t,x∈fd:=λx hx=>by
 have:=(Yd.mp h) x hx;rw[YO] at this;exact X4 this
theorem Ay {e:Nat}{fd:aar}:setIn e fd []=.error ⟨3,e⟩:=rfl
theorem qL {e:Nat}{fd:aar}(hf:∀x∈fd,x<=24){w:Word}{r:List Word}:setIn e fd (w::r)=match setM fd (tx w.w) with
  |none=>.error ⟨4,w.at_⟩
  |some s=>.ok ((s,w.at_),r):=by
 have sp:aY 44 [] (tx w.w)=(splitOn 44 [] w.w).map tx:=ie (c:=44) (by decide) w.w [];show (match (splitOn 44 [] w.w).mapM numberOf with
 |none=>(Except.error ⟨4,w.at_⟩:Except Fault ((aar×Nat)×List Word))
 |some s=>if risesN s=true/\s.all fd.contains=true then (pure ((s,w.at_),r):Except Fault _) else .error ⟨4,w.at_⟩)=_
 unfold setM;rw[sp];generalize splitOn 44 [] w.w=ps;cases h:jl fd (ps.map tx) [] with
 |some s =>
  obtain⟨t,a1,a2,_,a4,a5⟩:=(ij hf ps [] s).mp h;rw[YC] at a2;subst a2;rw[a1];show (if risesN s=true/\s.all fd.contains=true then (pure ((s,w.at_),r):Except Fault _) else .error ⟨4,w.at_⟩)=_;rw[XJ ⟨a4,Ki a5⟩];rfl
 |none =>
  cases h1:ps.mapM numberOf with
  |none=>rfl
  |some t =>
   show (if risesN t=true/\t.all fd.contains=true then (pure ((t,w.at_),r):Except Fault _) else .error ⟨4,w.at_⟩)=_;rw[XI];rintro⟨b1,b2⟩;have:=(ij hf ps [] t).mpr ⟨t,h1,by simp,λ_ _ z=>(by cases z),b1,Lv b2⟩;rw[this] at h;cases h
theorem qw {fd:aar}:∀(ps:List W) (acc s:aar),jl fd ps acc=some s->ps≠[]∨acc≠[]->s≠[]
 |[],acc,s,h,hn=>by
  have h:some acc=some s:=h;injection h with h;subst h;simpa using hn
 |p::r,acc,s,h,_=>by
  have h:(if Fits fd acc p then jl fd r (acc++[(ay p).toNat]) else none)=some s:=h;split at h
  · exact qw r _ s h (.inr (by simp))
  · cases h
theorem uV {c:Nat}:∀(l w:W),aY c w l≠[]
 |[],w=>by show [w]≠[];simp
 |x::r,w=>by
  unfold aY;split
  · simp
  · exact uV r _
theorem AL {l:aar}(h:risesN l=true):ck l:=by
 induction l with
 |nil=>exact List.Pairwise.nil
 |cons x r ih =>
  obtain⟨h1,h2⟩:=lH.mp h;have ih:=ih h2;refine List.Pairwise.cons (λy hy=>?_) ih;cases r with
  |nil=>cases hy
  |cons z r =>
   have h1:=h1 z rfl;rcases XN.mp hy with rfl|hy
   · exact h1
   · have:=(Y0.mp ih).1 y hy;omega
theorem di {e:Nat}{fd:aar}(hf:∀x∈fd,x<=24){l:List Word}{x:(aar×Nat)×List Word}(h:setIn e fd l=.ok x):bK fd x.1.1/\x.1.1≠[]/\∃w,l=w::x.2/\x.1.2=w.at_/\setM fd (tx w.w)=some x.1.1:=by
 cases l with
 |nil=>cases h
 |cons w r =>
  rw[qL hf] at h;cases hs:setM fd (tx w.w) with
  |none=>rw[hs] at h;cases h
  |some s =>
   rw[hs] at h;injection h with h;subst h;have sp:aY 44 [] (tx w.w)=(splitOn 44 [] w.w).map tx:=ie (c:=44) (by decide) w.w [];have PR:=hs;unfold setM at PR;have ne:s≠[]:=qw _ _ _ PR (.inl (uV _ _));rw[sp] at PR;obtain⟨t,_,a2,_,a4,a5⟩:=(ij hf _ _ s).mp PR;rw[YC] at a2;subst a2;exact⟨⟨AL a4,a5⟩,ne,w,rfl,rfl,hs⟩
theorem CI {e:Nat}{s:String}:must e s []=.error ⟨3,e⟩:=rfl
theorem rD {e:Nat}{s:String}{w:Word}{r:List Word}:must e s (w::r)=if w.w=ascii s then .ok r else .error ⟨3,w.at_⟩:=rfl
abbrev Got:=Except Fault (aaq×List Word)
def jq (e:Nat):aaq->aaq->List Word->Got
 |[],acc,l=>.ok (acc,l)
 |h::t,acc,l=>match (if 0 < acc.length then must e "/" l else .ok l) with
  |.error x=>.error x
  |.ok m=>match setIn e h m with
   |.error x=>.error x
   |.ok s=>jq e t (acc++[s.1.1]) s.2
def xP (e k:Nat)(heads:aar)(l:List Word):Got:=match setIn e heads l with
 |.error x=>.error x
 |.ok s=>if k<=s.1.1.length then .ok ([s.1.1],s.2) else .error ⟨4,s.1.2⟩
def sG (e k:Nat)(heads sa:aar)(m:List Word):Got:=match setIn e heads m with
 |.error x=>.error x
 |.ok b=>if (∀x∈b.1.1,¬x∈sa)/\k<=sa.length+b.1.1.length then .ok ([sa,b.1.1],b.2) else .error ⟨4,b.1.2⟩
def sM (e k:Nat)(heads sa:aar)(p:Nat)(r:List Word):Got:=if sa.length < k then (match must e "with" r with
  |.error x=>.error x
  |.ok m=>sG e k heads sa m) else .error ⟨4,p⟩
def yd (e k:Nat)(heads:aar)(l:List Word):Got:=match setIn e heads l with
 |.error x=>.error x
 |.ok a=>sM e k heads a.1.1 a.1.2 a.2
def iX (x:Got):Except Fault (aaq):=match x with
 |.error t=>.error t
 |.ok y=>match y.2 with
  |[]=>.ok y.1
  |w::_=>.error ⟨3,w.at_⟩
theorem Hk {e:Nat}{p:Pool}{heads:aar}{l:List Word}:boxIn e p heads l=iX (xP e p.k heads l):=by
 unfold boxIn xP;cases h:setIn e heads l with
 |error x=>rfl
 |ok s =>
  by_cases hk:p.k<=s.1.1.length
  · show (holds (decide (p.k<=s.1.1.length)) 4 s.1.2 >>= λ_=>closed s.2 >>= λ_=>pure [s.1.1])=iX (if p.k<=s.1.1.length then .ok ([s.1.1],s.2) else .error ⟨4,s.1.2⟩);rw[XJ hk];unfold holds;rw[XJ (Yn hk)];show (closed s.2 >>= λ_=>pure [s.1.1])=iX (.ok ([s.1.1],s.2));unfold iX;show _=(match s.2 with
     |[]=>(Except.ok [s.1.1]:Except Fault _)
     |w::_=>.error ⟨3,w.at_⟩)
    cases s.2 <;> rfl
  · show (holds (decide (p.k<=s.1.1.length)) 4 s.1.2 >>= λ_=>closed s.2 >>= λ_=>pure [s.1.1])=iX (if p.k<=s.1.1.length then .ok ([s.1.1],s.2) else .error ⟨4,s.1.2⟩);rw[XI hk];unfold holds;rw[XI (by simpa using hk)];rfl
theorem Du {a b:aar}{k:Nat}:(!(b.any λ(x:Nat)=>a.contains x)&&decide (k<=a.length+b.length))=decide ((∀x∈b,¬x∈a)/\k<=a.length+b.length):=by
 rw[Ym];simp
theorem Gz {e:Nat}{p:Pool}{heads:aar}{l:List Word}:keyIn e p heads l=iX (yd e p.k heads l):=by
 unfold keyIn yd;cases h:setIn e heads l with
 |error x=>rfl
 |ok a =>
  show (holds (decide (a.1.1.length < p.k)) 4 a.1.2 >>= λ_=>must e "with" a.2 >>= λm=>setIn e heads m >>= λb=>holds (!(b.1.1.any λ(x:Nat)=>a.1.1.contains x)&&decide (p.k<=a.1.1.length+b.1.1.length)) 4 b.1.2 >>= λ_=>closed b.2 >>= λ_=>pure [a.1.1,b.1.1])
   = iX (if a.1.1.length < p.k then (match must e "with" a.2 with
    |.error x=>.error x
    |.ok m=>match setIn e heads m with
     |.error x=>.error x
     |.ok b=>if (∀x∈b.1.1,¬x∈a.1.1)/\p.k<=a.1.1.length+b.1.1.length then .ok ([a.1.1,b.1.1],b.2) else .error ⟨4,b.1.2⟩) else .error ⟨4,a.1.2⟩)
  by_cases hk:a.1.1.length < p.k
  · rw[XJ hk];unfold holds;rw[XJ (Yn hk)];cases hm:must e "with" a.2 with
    |error x=>rfl
    |ok m =>
     show (setIn e heads m >>= λb=>(if (!(b.1.1.any λ(x:Nat)=>a.1.1.contains x)&&decide (p.k<=a.1.1.length+b.1.1.length))=true then Except.ok () else .error ⟨4,b.1.2⟩) >>= λ_=>closed b.2 >>= λ_=>pure [a.1.1,b.1.1])=iX (match setIn e heads m with
      |.error x=>.error x
      |.ok b=>if (∀x∈b.1.1,¬x∈a.1.1)/\p.k<=a.1.1.length+b.1.1.length then .ok ([a.1.1,b.1.1],b.2) else .error ⟨4,b.1.2⟩)
     cases hb:setIn e heads m with
     |error x=>rfl
     |ok b =>
      show ((if (!(b.1.1.any λ(x:Nat)=>a.1.1.contains x)&&decide (p.k<=a.1.1.length+b.1.1.length))=true then Except.ok () else .error ⟨4,b.1.2⟩) >>= λ_=>closed b.2 >>= λ_=>pure [a.1.1,b.1.1])=iX (if (∀x∈b.1.1,¬x∈a.1.1)/\p.k<=a.1.1.length+b.1.1.length then .ok ([a.1.1,b.1.1],b.2) else .error ⟨4,b.1.2⟩);rw[Du];by_cases hq:(∀x∈b.1.1,¬x∈a.1.1)/\p.k<=a.1.1.length+b.1.1.length
      · rw[XJ hq,XJ (Yn hq)];show (closed b.2 >>= λ_=>pure [a.1.1,b.1.1])=(match b.2 with
         |[]=>Except.ok [a.1.1,b.1.1]
         |w::_=>.error ⟨3,w.at_⟩)
        cases b.2 <;> rfl
      · rw[XI hq,XI (by rw[XS];exact hq)];rfl
  · rw[XI hk];unfold holds;rw[XI (by simpa using hk)];rfl
def mI (acc:aaq)(x:Except Fault (aaq)):Except Fault (aaq):=match x with
 |.error t=>.error t
 |.ok y=>.ok (acc++y)
theorem CT {e:Nat}:∀(fs acc:aaq) (l:List Word),acc≠[]->fs≠[]->iX (jq e fs acc l)=mI acc (must e "/" l >>= λm=>setsIn e fs m)
 |[],_,_,_,h=>absurd rfl h
 |h::t,acc,l,ha,_=>by
  have hl:0 < acc.length:=YL.mpr ha;unfold jq;rw[XJ hl];cases hm:must e "/" l with
  |error x=>rfl
  |ok m =>
   show iX (match setIn e h m with
    |.error x=>.error x
    |.ok s=>jq e t (acc++[s.1.1]) s.2)=mI acc (setsIn e (h::t) m)
   cases t with
   |nil =>
    show _=mI acc (setIn e h m >>= λs=>closed s.2 >>= λ_=>pure [s.1.1]);cases hs:setIn e h m with
    |error x=>rfl
    |ok s =>
     show iX (.ok (acc++[s.1.1],s.2))=mI acc (closed s.2 >>= λ_=>pure [s.1.1]);unfold iX;show (match s.2 with
      |[]=>(Except.ok (acc++[s.1.1]):Except Fault _)
      |w::_=>.error ⟨3,w.at_⟩)=_
     cases s.2 <;> rfl
   |cons h2 t2 =>
    show _=mI acc (setIn e h m >>= λs=>must e "/" s.2 >>= λm=>setsIn e (h2::t2) m >>= λr=>pure (s.1.1::r));cases hs:setIn e h m with
    |error x=>rfl
    |ok s =>
     show iX (jq e (h2::t2) (acc++[s.1.1]) s.2)=mI acc (must e "/" s.2 >>= λm=>setsIn e (h2::t2) m >>= λr=>pure (s.1.1::r));rw[CT (h2::t2) (acc++[s.1.1]) s.2 (by simp) (by simp)];cases must e "/" s.2 with
     |error x=>rfl
     |ok m2 =>
      show mI _ (setsIn e (h2::t2) m2)=mI acc (setsIn e (h2::t2) m2 >>= λr=>pure (s.1.1::r));cases setsIn e (h2::t2) m2 with
      |error x=>rfl
      |ok r =>
       show Except.ok (acc++[s.1.1]++r)=Except.ok (acc++(s.1.1::r));rw[Y_];rfl
theorem Jn {e:Nat}{fs:aaq}{l:List Word}:setsIn e fs l=iX (jq e fs [] l):=by
 cases fs with
 |nil =>
  show (closed l).map (λ(_:Unit)=>[])=(match l with
   |[]=>Except.ok []
   |w::_=>.error ⟨3,w.at_⟩)
  cases l <;> rfl
 |cons h t =>
  show _=iX (match setIn e h l with
   |.error x=>.error x
   |.ok s=>jq e t ([]++[s.1.1]) s.2)
  cases t with
  |nil =>
   show (setIn e h l >>= λs=>closed s.2 >>= λ_=>pure [s.1.1])=_;cases hs:setIn e h l with
   |error x=>rfl
   |ok s =>
    show (closed s.2 >>= λ_=>pure [s.1.1])=(match s.2 with
     |[]=>Except.ok ([]++[s.1.1])
     |w::_=>.error ⟨3,w.at_⟩)
    cases s.2 <;> rfl
  |cons h2 t2 =>
   show (setIn e h l >>= λs=>must e "/" s.2 >>= λm=>setsIn e (h2::t2) m >>= λr=>pure (s.1.1::r))=_;cases hs:setIn e h l with
   |error x=>rfl
   |ok s =>
    show (must e "/" s.2 >>= λm=>setsIn e (h2::t2) m >>= λr=>pure (s.1.1::r))=iX (jq e (h2::t2) ([]++[s.1.1]) s.2);rw[CT (h2::t2) ([]++[s.1.1]) s.2 (by simp) (by simp)];cases must e "/" s.2 with
    |error x=>rfl
    |ok m2 =>
     show (setsIn e (h2::t2) m2 >>= λr=>pure (s.1.1::r))=mI _ (setsIn e (h2::t2) m2);cases setsIn e (h2::t2) m2 with
     |error x=>rfl
     |ok r=>rfl
structure DU (p:aK):Prop where
 ne:p.fields≠[]
 len:p.fields.length<=24
 hi:∀fd∈p.fields,∀x∈fd,x<=24
 unit:1<=p.unit
 six:p.fields.length<=6
 Ew:p.kind=.any->p.fields.length<=3
 lo:∀fd∈p.fields,∀x∈fd,1<=x
 Kn:p.kind=.order->p.fields.length<=4
 K5:p.kind≠.legs->∀fd∈p.fields,fd≠[]
 rise:∀fd∈p.fields,ck fd
def fF (e:Nat)(p:aK)(how:Nat)(l:List Word):Got:=if how=0 then jq e p.fields [] l else if how=1 then xP e p.fields.length (p.fields.getD 0 []) l else yd e p.fields.length (p.fields.getD 0 []) l
def cS (p:aK):Bool:=p.kind==.order||p.kind==.any
def jk (p:aK)(w:Bytes):Option Nat:=if w=ascii "on" then some 0 else if w=ascii "box"/\cS p=true then some 1 else if w=ascii "key"/\cS p=true then some 2 else none
def dU (ps:List aK)(w:W):Option Nat:=ps.findIdx? λp=>p.name==w
def cK (n:Nat):How:=if n=0 then .on else if n=1 then .box else .key
structure bL where
 pool:Nat
 how:Nat
 stake:Nat
 sets:aaq
structure sH (p:aK)(how:Nat)(sets:aaq):Prop where
 ok:DU p
 way:how=0∨cS p=true
 read:∃e l r,fF e p how l=.ok (sets,r)
def eN (u:Nat)(w:W):Prop:=1<=ay w/\ay w<=1000000/\ay w % (u:Int)=0
instance {u:Nat}{w:W}:Decidable (eN u w):=by unfold eN;exact inferInstance
def HX (i how stake hp sp:Nat)(p:aK)(sets:aaq):Except Fault bL :=
 if countM p.kind (cK how) p.fields.length sets=0 then .error ⟨6,hp⟩ else if 2147483647 < stake*countM p.kind (cK how) p.fields.length sets then .error ⟨7,sp⟩ else .ok ⟨i,how,stake,sets⟩
def xy (e i how stake hp sp:Nat)(p:aK)(x:Got):Except Fault bL:=match iX x with
 |.error t=>.error t
 |.ok sets=>HX i how stake hp sp p sets
def JD (e i:Nat)(p:aK)(stake sp:Nat):List Word->Except Fault bL
 |[]=>.error ⟨3,e⟩
 |hw::r=>match jk p hw.w with
  |none=>.error ⟨3,hw.at_⟩
  |some how=>xy e i how stake hw.at_ sp p (fF e p how r)
def Jq (e i:Nat)(p:aK):List Word->Except Fault bL
 |[]=>.error ⟨3,e⟩
 |sw::r=>if eN p.unit (tx sw.w) then JD e i p (ay (tx sw.w)).toNat sw.at_ r else .error ⟨4,sw.at_⟩
def AR (e i:Nat)(p:aK)(l:List Word):Except Fault bL:=match must e "for" l with
 |.error t=>.error t
 |.ok m=>Jq e i p m
def Ja (e:Nat)(ps:List aK):List Word->Except Fault bL
 |[]=>.error ⟨3,e⟩
 |n::r=>match dU ps (tx n.w) with
  |none=>.error ⟨5,n.at_⟩
  |some i=>match ps[i]? with
   |none=>.error ⟨5,n.at_⟩
   |some p=>AR e i p r
def Bs (e:Nat)(ps:List aK)(l:List Word):Except Fault bL:=match must e "bet" l with
 |.error t=>.error t
 |.ok m=>Ja e ps m
theorem xg {ps:List aK}{w:W}{i:Nat}(h:dU ps w=some i):i < ps.length:=by
 unfold dU at h;rw[ZX] at h;exact h.1
theorem vw {v:Bytes}(h:isName v=true):∀c∈v,t_ c.toNat=true:=λc hc=>by
 rw[←j3] at h;have h2:=kI h;have:sg c.toNat∈tx v:=Yh.mpr ⟨c,hc,rfl⟩;have h3:=h2.2 _ this;rw[pf,pY] at h3;unfold t_;rw[h3];rfl
theorem EL {C:Card}(o:cz C)(v:Bytes):dU (C.pools.map (aC C)) (tx v)=C.pools.findIdx? λp=>p.name==v:=by
 unfold dU;rw[List.findIdx?_map];have:∀(l:List Pool),(∀p∈l,isName p.name=true)->List.findIdx? ((λp=>p.name==tx v) ∘ aC C) l=l.findIdx? λp=>p.name==v:=λl=>by
  induction l with
  |nil=>intro _;rfl
  |cons p r ih =>
   intro hn;rw[List.findIdx?_cons,List.findIdx?_cons,ih λq hq=>hn q (by simp[hq])];have e:((λp=>p.name==tx v) ∘ aC C) p=(p.name==v):=by
    show (tx p.name==tx v)=_;rw[Ym,Yx,Yx];constructor
    · intro z;have:=(rF (v:=p.name) (w:=v) (vw (hn p (by simp)))).mp;have e2:tx p.name=p.name.map UInt8.toNat:=(rF (v:=p.name) (w:=p.name) (vw (hn p (by simp)))).mpr rfl;exact (this (by rw[←z,e2])).symm
    · intro z;rw[z]
   rw[e]
 exact this C.pools λp hp=>(o.pools p hp).name
theorem qh {C:Card}(o:cz C){r:Nat}(h1:1<=r)(h2:r<=C.races.length):cQ (C.headsOf r):=by
 unfold Card.headsOf;rw[XU (by omega)];exact o.heads _ (Zz _)
theorem iH {p:Pool}(h:p.kind=.order∨p.kind=.any):p.places=p.k:=by
 unfold Pool.places;rw[XI];rcases h with h|h <;> rw[h] <;> decide
theorem gZ {C:Card}{p:Pool}(h:dZ C p)(hk:p.kind≠.legs):fieldsOf C p=List.replicate p.places (C.headsOf p.race):=by
 unfold fieldsOf;rw[XI hk]
theorem sP {k:Kind}:mostK k<=6:=by cases k <;> decide
theorem lr {C:Card}{p:Pool}(h:dZ C p):1<=p.places:=by
 unfold Pool.places;split
 · exact XT _
 · have:=h.JU;have:1<=leastK p.kind:=by cases p.kind <;> decide
   omega
theorem Aa {C:Card}{p:Pool}(h:dZ C p):p.places<=6:=by
 unfold Pool.places;split
 · decide
 · have:=h.HQ;have:=sP (k:=p.kind);omega
theorem Lu {C:Card}(o:cz C){p:Pool}(h:dZ C p):DU (aC C p):=by
 have hu:=h.unit;by_cases hk:p.kind=.legs
 · have e:(aC C p).fields=((rh C).drop (p.race - 1)).take p.k:=by
    show fieldsOf C p=_;unfold fieldsOf;rw[XJ hk];exact rb C p hk h.DA (h.legs hk)
   have hl:=h.legs hk;have hr:=h.DA;have QP:=h.JU;have hm:2<=p.k:=by rw[hk] at QP;exact QP
   have hn:(rh C).length=C.races.length:=by unfold rh;rw[XH]
   have hlen:(aC C p).fields.length=p.k:=by
    rw[e,X7,Yz];omega
   have of:∀fd∈(aC C p).fields,cQ fd:=λfd hf=>by
    rw[e] at hf;have:fd∈rh C:=Zf (Zn hf);unfold rh at this;obtain⟨r,hr,rfl⟩:=Yh.mp this;exact o.heads r hr
   refine⟨λz=>by rw[z] at hlen;simp at hlen;omega,by have:=h.HQ;have:=sP (k:=p.kind);omega,λfd hf x hx=>?_,hu,by have:=h.HQ;have:=sP (k:=p.kind);omega,λz=>(by have z:p.kind=.any:=z;rw[hk] at z;cases z),λfd hf x hx=>(of fd hf).lo x hx,λz=>(by have z:p.kind=.order:=z;rw[hk] at z;cases z),λz=>absurd hk z,λfd hf=>(of fd hf).rise⟩;exact (of fd hf).hi x hx
 · have e:(aC C p).fields=List.replicate p.places (C.headsOf p.race):=gZ h hk;have p1:=lr h;have p2:=Aa h;have of:∀fd∈(aC C p).fields,cQ fd:=λfd hf=>by
    rw[e] at hf;rw[YI hf];exact qh o h.DA h.Ko
   refine⟨λz=>by rw[z] at e;have:=YN List.length e;simp at this;omega,by rw[e,Yi];omega,λfd hf x hx=>?_,hu,by rw[e,Yi];omega,λz=>by
    have z:p.kind=.any:=z;rw[e,Yi,iH (.inr z)];have:=h.HQ;rw[z] at this;exact this,λfd hf x hx=>(of fd hf).lo x hx,λz=>by
    have z:p.kind=.order:=z;rw[e,Yi,iH (.inl z)];have:=h.HQ;rw[z] at this;exact this,λ_ fd hf z=>by
    rw[e] at hf;rw[YI hf] at z;have f:=h.vJ hk;rw[z] at f;have l:=h.JU;have:1<=leastK p.kind:=by cases p.kind <;> decide
    have f:p.k<=0:=f;omega,λfd hf=>(of fd hf).rise⟩
   exact (of fd hf).hi x hx
theorem qz {e:Nat}:∀(fs acc:aaq) (l:List Word) (s:aaq) (r:List Word),(∀fd∈fs,∀x∈fd,x<=24)->jq e fs acc l=.ok (s,r)->s.length=acc.length+fs.length/\(∀x∈s,x∈acc∨∃fd∈fs,bK fd x/\x≠[])/\(∀x∈acc,x∈s)/\∀fd∈fs,∃x∈s,bK fd x/\x≠[]
 |[],acc,l,s,r,_,h=>by
  have h:(Except.ok (acc,l):Got)=.ok (s,r):=h;injection h with h;injection h with h1 h2;subst h1;exact⟨rfl,λx hx=>.inl hx,λx hx=>hx,λfd hf=>by cases hf⟩
 |f::fs,acc,l,s,r,hf,h=>by
  have h:(match (if 0 < acc.length then must e "/" l else .ok l) with
   |.error x=>(Except.error x:Got)
   |.ok m=>match setIn e f m with
    |.error x=>.error x
    |.ok s=>jq e fs (acc++[s.1.1]) s.2)=.ok (s,r):=h
  cases hm:(if 0 < acc.length then must e "/" l else .ok l) with
  |error x=>rw[hm] at h;cases h
  |ok m =>
   rw[hm] at h;have h:(match setIn e f m with
    |.error x=>(Except.error x:Got)
    |.ok s=>jq e fs (acc++[s.1.1]) s.2)=.ok (s,r):=h
   have ef:=hf f (by simp);cases hs:setIn e f m with
   |error x=>rw[hs] at h;cases h
   |ok y =>
    rw[hs] at h;obtain⟨g,ne,_⟩:=di ef hs;obtain⟨i1,i2,i3,i4⟩:=qz fs (acc++[y.1.1]) y.2 s r (λfd MP=>hf fd (by simp[MP])) h;refine⟨by rw[i1];simp;omega,λx hx=>?_,λx hx=>i3 x (by simp[hx]),λfd MP=>?_⟩
    · rcases i2 x hx with z|⟨fd,MP,z⟩
      · rcases Yw.mp z with z|z
        · exact .inl z
        · rw[XZ] at z;subst z;exact .inr ⟨f,by simp,g,ne⟩
      · exact .inr ⟨fd,by simp[MP],z⟩
    · rcases XN.mp MP with rfl|MP
      · exact⟨y.1.1,i3 _ (by simp),g,ne⟩
      · exact i4 fd MP
theorem Dn {e:Nat}{heads:aar}(Na:∀x∈heads,x<=24)(fs acc:aaq)(l:List Word)(s:aaq)(r:List Word)(hf:∀fd∈fs,fd=heads)(h:jq e fs acc l=.ok (s,r)):s.length=acc.length+fs.length/\∀x∈s,x∈acc∨bK heads x:=by
 obtain⟨h1,h2,_⟩:=qz fs acc l s r (λfd MP=>by rw[hf fd MP];exact Na) h;exact⟨h1,λx hx=>(h2 x hx).imp id λ⟨fd,MP,g,_⟩=>by rwa [hf fd MP] at g⟩
theorem ze {e k:Nat}{heads:aar}(Na:∀x∈heads,x<=24){l r:List Word}{s:aaq}(h:xP e k heads l=.ok (s,r)):∃t,s=[t]/\k<=t.length/\bK heads t:=by
 unfold xP at h;cases hs:setIn e heads l with
 |error x=>rw[hs] at h;cases h
 |ok y =>
  rw[hs] at h;have h:(if k<=y.1.1.length then (Except.ok ([y.1.1],y.2):Got) else .error ⟨4,y.1.2⟩)=.ok (s,r):=h;split at h
  · rename_i hk;injection h with h;injection h with h1 h2;exact⟨_,h1.symm,hk,(di Na hs).1⟩
  · cases h
theorem yp {e k:Nat}{heads:aar}(Na:∀x∈heads,x<=24){l r:List Word}{s:aaq}(h:yd e k heads l=.ok (s,r)):∃a b,s=[a,b]/\a.length < k/\(∀x∈b,¬x∈a)/\k<=a.length+b.length/\bK heads a/\bK heads b/\a≠[]:=by
 unfold yd at h;cases hs:setIn e heads l with
 |error x=>rw[hs] at h;cases h
 |ok y =>
  rw[hs] at h;have h:sM e k heads y.1.1 y.1.2 y.2=.ok (s,r):=h;unfold sM at h;split at h
  · rename_i hk;cases hm:must e "with" y.2 with
    |error x=>rw[hm] at h;cases h
    |ok m =>
     rw[hm] at h;have h:sG e k heads y.1.1 m=.ok (s,r):=h;unfold sG at h;cases hb:setIn e heads m with
     |error x=>rw[hb] at h;cases h
     |ok z =>
      rw[hb] at h;have h:(if (∀x∈z.1.1,¬x∈y.1.1)/\k<=y.1.1.length+z.1.1.length then (Except.ok ([y.1.1,z.1.1],z.2):Got) else .error ⟨4,z.1.2⟩)=.ok (s,r):=h;split at h
      · rename_i hq;injection h with h;injection h with h1 h2;exact⟨_,_,h1.symm,hk,hq.1,hq.2,(di Na hs).1,(di Na hb).1,(di Na hs).2.1⟩
      · cases h
  · cases h
theorem jT {s:aar}(h:ck s)(Na:∀x∈s,x<=24):s.length<=25:=by
 have:=h_ (m:=List.range 25) h.nodup λx hx=>Zw.mpr (by have:=Na x hx;omega);simpa using this
structure Dc (ss:aaq):Prop where
 len:ss.length<=6
 good:∀s∈ss,ck s/\∀x∈s,x<=24
 lo:∀s∈ss,∀x∈s,1<=x
structure uH (kd:Kind)(gs:List (aaq)):Prop where
 ne:gs≠[]
 vJ:gs.length<=4096
 ok:∀g∈gs,Dc g
 any:kd=.any->∀g∈gs,g.length<=3
theorem tF {p:aK}(o:DU p):p.fields.getD 0 []∈p.fields:=by
 have hl:0 < p.fields.length:=YL.mpr o.ne;have eg:p.fields.getD 0 []=p.fields[0]:=by rw[Yq,XU hl];rfl
 rw[eg];exact Zz hl
theorem sH.all {p:aK}{how:Nat}{sets:aaq}(m:sH p how sets):(∀s∈sets,s≠[]/\∃fd∈p.fields,bK fd s)/\(how=0->sets.length=p.fields.length/\∀fd∈p.fields,fd≠[])/\(how=1->∃t,sets=[t]/\p.fields.length<=t.length)/\(how≠0->how≠1->∃a b,sets=[a,b]/\a.length < p.fields.length/\(∀x∈b,¬x∈a)/\p.fields.length<=a.length+b.length):=by
 obtain⟨e,l,r,hr⟩:=m.read;unfold fF at hr;by_cases h0:how=0
 · rw[XJ h0] at hr;obtain⟨h1,h2,_,h4⟩:=qz _ [] l sets r m.ok.hi hr;refine⟨λs hs=>?_,λ_=>⟨by simpa using h1,λfd hf z=>?_⟩,λz=>by omega,λz=>absurd h0 z⟩
   · obtain⟨fd,hf,g,ne⟩:=(h2 s hs).resolve_left (by simp);exact⟨ne,fd,hf,g⟩
   · obtain⟨s,_,g,ne⟩:=h4 fd hf;obtain⟨x,hx⟩:=List.exists_mem_of_ne_nil s ne;have:=g.sub x hx;rw[z] at this;cases this
 · rw[XI h0] at hr;have f:=m.ok.hi _ (tF m.ok);by_cases h1:how=1
   · rw[XJ h1] at hr;obtain⟨t,rfl,h2,g⟩:=ze f hr;have pos:0 < p.fields.length:=YL.mpr m.ok.ne;exact⟨λs hs=>by rw[XZ.mp hs];exact⟨λz=>by rw[z] at h2;have h2:p.fields.length<=0:=h2;omega,_,tF m.ok,g⟩,λz=>absurd z h0,λ_=>⟨t,rfl,h2⟩,λ_ z=>absurd h1 z⟩
   · rw[XI h1] at hr;obtain⟨a,b,rfl,z2,z3,z4,g1,g2,g3⟩:=yp f hr;refine⟨λs hs=>?_,λz=>absurd z h0,λz=>absurd z h1,λ_ _=>⟨a,b,rfl,z2,z3,z4⟩⟩;rcases XN.mp hs with e|e
     · rw[e];exact⟨g3,_,tF m.ok,g1⟩
     · rw[XZ.mp e];exact⟨λz=>by rw[z] at z4;simp at z4;omega,_,tF m.ok,g2⟩
theorem sH.good {p:aK}{how:Nat}{sets:aaq}(m:sH p how sets):∀s∈sets,ck s/\(∀x∈s,x<=24)/\∀x∈s,1<=x:=λs hs=>by
 obtain⟨_,fd,hf,g⟩:=m.all.1 s hs;exact⟨g.rise,λx hx=>m.ok.hi fd hf x (g.sub x hx),λx hx=>m.ok.lo fd hf x (g.sub x hx)⟩
theorem sH.small {p:aK}{how:Nat}{sets:aaq}(m:sH p how sets):sets.length<=6/\∀s∈sets,s.length<=25:=by
 refine⟨?_,λs hs=>jT (m.good s hs).1 (m.good s hs).2.1⟩;have h6:=m.ok.six;obtain⟨_,h0,h1,h2⟩:=m.all;by_cases z0:how=0
 · rw[(h0 z0).1];exact h6
 · by_cases z1:how=1
   · obtain⟨t,rfl,_⟩:=h1 z1;show 1<=6;decide
   · obtain⟨a,b,rfl,_⟩:=h2 z0 z1;show 2<=6;decide
theorem sS {a:Nat}{B:aar}:∀g:aaq,(jr a B g).length<=g.length
 |[]=>XT _
 |s::g=>by
  have:=sS (a:=a) (B:=B) g;show ((if s==B then [[a]::g] else [])++(jr a B g).map λr=>s::r).length<=_;rw[X6,XH,XW];split
  · show 1+_<=_;omega
  · show 0+_<=_;omega
theorem qv {α β:Type}{f:α->List β}{c:Nat}:∀{l:List α},(∀x∈l,(f x).length<=c)->(l.flatMap f).length<=l.length*c
 |[],_=>Ye _
 |x::l,h=>by
  rw[Z2,X6,XW,Nat.succ_mul];have:=h x (by simp);have:=qv (l:=l) λy hy=>h y (by simp[hy]);omega
theorem nc {B:aar}{k:Nat}:∀{A:aar} {gs:List (aaq)},(∀g∈gs,g.length=k)->(bH B A gs).length<=gs.length*k ^ A.length
 |[],gs,_=>by simp[bH]
 |a::A,gs,h=>by
  have ih:=nc (B:=B) (A:=A) (gs:=gs.flatMap (jr a B)) (k:=k) λg hg=>by
   obtain⟨g0,h0,hr⟩:=ZO.mp hg;rw[(ow hr).1,h g0 h0]
  have l1:(gs.flatMap (jr a B)).length<=gs.length*k:=qv λg hg=>by rw[←h g hg];exact sS g
  show (bH B A (gs.flatMap (jr a B))).length<=_;rw[XW,ZN,ZY (k ^ A.length) k,←Nat.mul_assoc];exact Yu ih (Nat.mul_le_mul_right _ l1)
theorem EI {t:aar}{k:Nat}(h6:k<=6)(g:ck t/\(∀x∈t,x<=24)/\∀x∈t,1<=x):Dc (List.replicate k t) :=
 ⟨by rw[Yi];exact h6,λs hs=>by rw[YI hs];exact⟨g.1,g.2.1⟩,λs hs=>by rw[YI hs];exact g.2.2⟩
theorem uH.bH {kd:Kind}{A B:aar}{k:Nat}(gA:ck A/\(∀x∈A,x<=24)/\∀x∈A,1<=x)(gB:ck B/\(∀x∈B,x<=24)/\∀x∈B,1<=x)(Mh:∀x∈B,¬x∈A)(hA:A.length < k)(h4:k<=4)(h3:kd=.any->k<=3):uH kd (bH B A [List.replicate k B]):=by
 obtain⟨h1,h2⟩:=i6 (B:=B) (k:=k) (A:=A) (had:=[]) (gs:=[List.replicate k B]) (λx hx m=>Mh x m (by simpa using hx)) (by simpa using gA.1.nodup) (by simp) (λg hg=>by
  rw[XZ] at hg;subst hg;exact⟨by simp,λs hs=>.inl (YI hs),by simp⟩)
 obtain⟨q,e⟩:=lB (B:=B) (A:=A) (P:=[]) (j:=k) (rest:=[]) (λx hx m=>Mh x m (by simpa using hx)) (by omega);rw[Y6,YC,YC] at e;rw[YC] at h2;have len:=nc (B:=B) (A:=A) (k:=k) (gs:=[List.replicate k B]) (λg hg=>by rw[XZ.mp hg,Yi]);have pw:k ^ A.length<=4 ^ 3:=Yu (Nat.pow_le_pow_left h4 _) (ZL (by decide) (by omega));have is:∀g∈Bw.bH B A [List.replicate k B],∀s∈g,ck s/\(∀x∈s,x<=24)/\∀x∈s,1<=x:=λg hg s hs=>by
  rcases (h2 g hg).are s hs with rfl|⟨a,ha,rfl⟩
  · exact gB
  · exact⟨by simp,λx hx=>by rw[XZ.mp hx];exact gA.2.1 a ha,λx hx=>by rw[XZ.mp hx];exact gA.2.2 a ha⟩
 refine⟨by rw[e];simp,by rw[YV,Nat.one_mul] at len;omega,λg hg=>⟨by rw[(h2 g hg).len];omega,λs hs=>⟨(is g hg s hs).1,(is g hg s hs).2.1⟩,λs hs=>(is g hg s hs).2.2⟩,λz g hg=>by rw[(h2 g hg).len];exact h3 z⟩
theorem sH.k4 {p:aK}{how:Nat}{sets:aaq}(m:sH p how sets)(h0:how≠0):p.fields.length<=4:=by
 have w:=m.way.resolve_left h0;unfold cS at w;rw[YH] at w;rcases w with w|w
 · exact m.ok.Kn (Za w)
 · exact Nat.le_succ_of_le (m.ok.Ew (Za w))
theorem uH.cut {kd:Kind}{gs:List (aaq)}(o:uH kd gs):uH kd (gs.take 1) :=
 ⟨λz=>o.ne (by simpa using z),by have:=o.vJ;rw[X7];omega,λg hg=>o.ok g (Zn hg),λz g hg=>o.any z g (Zn hg)⟩
theorem sH.Ji {p:aK}{how:Nat}{sets:aaq}(m:sH p how sets):uH p.kind (jA p.kind (cK how) p.fields.length sets):=by
 obtain⟨_,h0,h1,h2⟩:=m.all;have good:=m.good;have one:∀{ss:aaq},Dc ss->(p.kind=.any->ss.length<=3)->uH p.kind [ss]:=λo h=>⟨by simp,by show 1<=4096;decide,λg hg=>by rw[XZ.mp hg];exact o,λz g hg=>by rw[XZ.mp hg];exact h z⟩;unfold cK;by_cases z0:how=0
 · rw[XJ z0];have hl:=(h0 z0).1;exact one ⟨by rw[hl];exact m.ok.six,λs hs=>⟨(good s hs).1,(good s hs).2.1⟩,λs hs=>(good s hs).2.2⟩ λz=>by rw[hl];exact m.ok.Ew z
 · rw[XI z0];have k4:=m.k4 z0;by_cases z1:how=1
   · rw[XJ z1];obtain⟨t,rfl,_⟩:=h1 z1;exact one (EI m.ok.six (good t (by simp))) λz=>by rw[Yi];exact m.ok.Ew z
   · rw[XI z1];obtain⟨a,b,rfl,q1,q2,q3⟩:=h2 z0 z1;have G:uH p.kind (Bw.bH b a [List.replicate p.fields.length b]):=uH.bH (good a (by simp)) (good b (by simp)) q2 q1 k4 m.ok.Ew;show uH p.kind (if p.kind=.any then (Bw.bH b a [List.replicate p.fields.length b]).take 1 else Bw.bH b a [List.replicate p.fields.length b]);split
     · exact G.cut
     · exact G
theorem sH.K5 {p:aK}{how:Nat}{sets:aaq}(m:sH p how sets):∀fd∈p.fields,fd≠[]:=by
 by_cases hk:p.kind=.legs
 · refine (m.all.2.1 (m.way.resolve_right λw=>?_)).2;unfold cS at w;rw[hk] at w;cases w
 · exact m.ok.K5 hk
theorem sH.Ls {p:aK}{how:Nat}{sets:aaq}(m:sH p how sets):∀g∈jA p.kind (cK how) p.fields.length sets,g≠[]/\∀s∈g,s≠[]:=by
 obtain⟨ha,h0,h1,h2⟩:=m.all;have pos:0 < p.fields.length:=YL.mpr m.ok.ne;unfold cK;intro g hg;by_cases z0:how=0
 · rw[XJ z0] at hg;have e:g=sets:=XZ.mp hg;subst e;exact⟨λz=>by have:=(h0 z0).1;rw[z] at this;simp at this;omega,λs hs=>(ha s hs).1⟩
 · rw[XI z0] at hg;by_cases z1:how=1
   · rw[XJ z1] at hg;obtain⟨t,rfl,_⟩:=h1 z1;have e:g=List.replicate p.fields.length t:=XZ.mp hg;subst e;exact⟨λz=>by have:=YN List.length z;rw[Yi] at this;have:p.fields.length=0:=this;omega,λs hs=>by rw[YI hs];exact (ha t (by simp)).1⟩
   · rw[XI z1] at hg;obtain⟨a,b,rfl,q1,q2,q3⟩:=h2 z0 z1;have hg:g∈Bw.bH b a [List.replicate p.fields.length b]:=by
      have hg:g∈(if p.kind=.any then (Bw.bH b a [List.replicate p.fields.length b]).take 1 else Bw.bH b a [List.replicate p.fields.length b]):=hg;split at hg
      · exact Zn hg
      · exact hg
     have G:=(i6 (B:=b) (k:=p.fields.length) (A:=a) (had:=[]) (gs:=[List.replicate p.fields.length b]) (λx hx m=>q2 x m (by simpa using hx)) (by simpa using (m.good a (by simp)).1.nodup) (by simp) (λg hg=>by
      rw[XZ] at hg;subst hg;exact⟨by simp,λs hs=>.inl (YI hs),by simp⟩)).2 g hg
     refine⟨λz=>by have:=G.len;rw[z] at this;simp at this;omega,λs hs=>?_⟩;rcases G.are s hs with rfl|⟨x,_,rfl⟩
     · exact (ha s (by simp)).1
     · simp
theorem BA {h:Nat}:cK h=.box↔h=1:=by
 unfold cK;by_cases h0:h=0
 · rw[XJ h0];constructor
   · intro z;cases z
   · intro z;omega
 · rw[XI h0];by_cases h1:h=1
   · rw[XJ h1];simp[h1]
   · rw[XI h1];constructor
     · intro z;cases z
     · intro z;exact absurd z h1
theorem vR {h:Nat}:cK h=.on↔h=0:=by
 unfold cK;by_cases h0:h=0
 · rw[XJ h0];simp[h0]
 · rw[XI h0];by_cases h1:h=1
   · rw[XJ h1];constructor
     · intro z;cases z
     · intro z;omega
   · rw[XI h1];constructor
     · intro z;cases z
     · intro z;exact absurd z h0
theorem Bp {h:Nat}:cK h=.key↔h≠0/\h≠1:=by
 unfold cK;by_cases h0:h=0
 · rw[XJ h0];constructor
   · intro z;cases z
   · intro z;exact absurd h0 z.1
 · rw[XI h0];by_cases h1:h=1
   · rw[XJ h1];constructor
     · intro z;cases z
     · intro z;exact absurd h1 z.2
   · rw[XI h1];simp[h0,h1]
theorem kb {C:Card}{p:Pool}:cS (aC C p)=true↔p.kind=.order∨p.kind=.any:=by
 show (p.kind==.order||p.kind==.any)=true↔_;cases p.kind <;> decide
theorem vZ {α:Type}{n:Nat}{x d:α}(h:1<=n):(List.replicate n x).getD 0 d=x:=by
 cases n with
 |zero=>omega
 |succ n=>rfl
theorem B1 {C:Card}(o:cz C){i:Nat}{p:Pool}(hi:C.pool i=p)(hP:dZ C p){how stake e:Nat}{l r:List Word}{sets:aaq}(way:how=0∨cS (aC C p)=true)(h:fF e (aC C p) how l=.ok (sets,r)):yW C ⟨i,cK how,sets,stake⟩ p:=by
 have nm:p.kind≠.legs->fieldsOf C p=List.replicate p.places (C.headsOf p.race):=gZ hP;have gh:=qh o hP.DA hP.Ko;unfold fF at h;have OO:p.kind=.place∨p.kind=.legs->how=0:=λz=>by
  rcases way with w|w
  · exact w
  · rw[kb] at w;rcases z with z|z <;> rcases w with w|w <;> rw[z] at w <;> cases w
 have OP:how≠0->(aC C p).fields.getD 0 []=C.headsOf p.race/\(aC C p).fields.length=p.k:=λhn=>by
  have w:p.kind=.order∨p.kind=.any:=by
   rcases way with w|w
   · exact absurd w hn
   · exact kb.mp w
  have hl:p.kind≠.legs:=by rcases w with w|w <;> rw[w] <;> decide
  have e:(aC C p).fields=List.replicate p.places (C.headsOf p.race):=nm hl;rw[e,Yi];exact⟨vZ (lr hP),iH w⟩
 have NQ:how=0->p.kind≠.legs->sets.length=p.places/\∀s∈sets,bK (C.headsOf p.race) s:=λhz hl=>by
  rw[XJ hz] at h;have e:(aC C p).fields=List.replicate p.places (C.headsOf p.race):=nm hl;rw[e] at h;obtain⟨h1,h2⟩:=Dn gh.hi _ [] l sets r (λfd hf=>YI hf) h;rw[Yi] at h1;exact⟨by simpa using h1,λs hs=>(h2 s hs).resolve_left (by simp)⟩
 have Nv:how=1->∃t,sets=[t]/\p.k<=t.length/\bK (C.headsOf p.race) t:=λhz=>by
  obtain⟨f1,f2⟩:=OP (by omega);rw[XI (by omega),XJ hz,f1,f2] at h;exact ze gh.hi h
 have keyOk:how≠0->how≠1->∃a b,sets=[a,b]/\a.length < p.k/\(∀x∈b,¬x∈a)/\p.k<=a.length+b.length/\bK (C.headsOf p.race) a/\bK (C.headsOf p.race) b:=λh0 h1=>by
  obtain⟨f1,f2⟩:=OP h0;rw[XI h0,XI h1,f1,f2] at h;obtain⟨a,b,z1,z2,z3,z4,z5,z6,_⟩:=yp gh.hi h;exact⟨a,b,z1,z2,z3,z4,z5,z6⟩
 refine⟨hi,λ_=>gh,λh1 h2=>?_,λh1 s hs=>?_,λh1=>?_,λh1=>vR.mpr (OO (.inr h1)),λh1 h2 h3=>?_,λh1=>?_,λh1=>?_⟩
 · refine⟨?_,hP.HQ⟩;have:=hP.JU;have e2:leastK p.kind=2:=by
    cases hk:p.kind with
    |place=>exact absurd hk h2
    |order=>rfl
    |any=>rfl
    |legs=>exact absurd hk h1
   omega
 · by_cases z0:how=0
   · exact (NQ z0 h1).2 s hs
   · by_cases z1:how=1
     · obtain⟨t,e,_,g⟩:=Nv z1;have hs:s∈sets:=hs;rw[e,XZ] at hs;subst hs;exact g
     · obtain⟨a,b,e,_,_,_,g1,g2⟩:=keyOk z0 z1;have hs:s∈sets:=hs;rw[e] at hs;rcases XN.mp hs with rfl|hs
       · exact g1
       · rw[XZ] at hs;subst hs;exact g2
 · have z0:=OO (.inl h1);refine⟨vR.mpr z0,?_⟩;have:=(NQ z0 (by rw[h1];decide)).1;rw[show p.places=1 by unfold Pool.places;rw[XJ h1]] at this;exact this
 · have z0:=vR.mp h3;have:=(NQ z0 h1).1;rw[show p.places=p.k by unfold Pool.places;rw[XI h2]] at this;exact this
 · obtain⟨t,e,hk,_⟩:=Nv (BA.mp h1);exact⟨t,e,hk⟩
 · obtain⟨z0,z1⟩:=Bp.mp h1;obtain⟨a,b,e,h2,h3,h4,_⟩:=keyOk z0 z1;exact⟨a,b,e,h2,h3,h4⟩
theorem Fm {C:Card}(o:cz C){i:Nat}{p:Pool}(hi:C.pool i=p)(hP:dZ C p){how stake e:Nat}{l r:List Word}{sets:aaq}(way:how=0∨cS (aC C p)=true)(h:fF e (aC C p) how l=.ok (sets,r)) :
  countM p.kind (cK how) (aC C p).fields.length sets=C.manyOf ⟨i,cK how,sets,stake⟩:=by
 rw[uB (B1 o hi hP way h)];show _=countM p.kind (cK how) p.k sets;by_cases h0:how=0
 · rw[vR.mpr h0];rfl
 · have w:p.kind=.order∨p.kind=.any:=by
    rcases way with w|w
    · exact absurd w h0
    · exact kb.mp w
   have hl:p.kind≠.legs:=by rcases w with w|w <;> rw[w] <;> decide
   have e:(aC C p).fields=List.replicate p.places (C.headsOf p.race):=gZ hP hl;rw[e,Yi,iH w]
def xJ (h:How):Nat:=match h with
 |.on=>0
 |.box=>1
 |.key=>2
theorem EA {h:Nat}(h2:h<=2):xJ (cK h)=h:=by
 have:h=0∨h=1∨h=2:=by omega
 rcases this with rfl|rfl|rfl <;> rfl
def sY (x:Except Fault Bet):Except Fault bL:=match x with
 |.error t=>.error t
 |.ok b=>.ok ⟨b.pool,xJ b.how,b.stake,b.sets⟩
def jn (C:Card)(hp sp:Nat)(b:Bet):Except Fault Bet:=holds (decide (0 < C.manyOf b)) 6 hp >>= λ_=>holds (decide (b.stake*C.manyOf b<=COST)) 7 sp >>= λ_=>pure b
theorem Fo {C:Card}{i how stake hp sp:Nat}{p:Pool}{sets:aaq}(h2:how<=2)(hm:countM p.kind (cK how) (aC C p).fields.length sets=C.manyOf ⟨i,cK how,sets,stake⟩) :
  HX i how stake hp sp (aC C p) sets=sY (jn C hp sp ⟨i,cK how,sets,stake⟩):=by
 have hm:countM (aC C p).kind (cK how) (aC C p).fields.length sets=C.manyOf ⟨i,cK how,sets,stake⟩:=hm;unfold HX jn;rw[hm];generalize C.manyOf ⟨i,cK how,sets,stake⟩=m;by_cases h0:m=0
 · rw[XJ h0];unfold holds;rw[XI (by simp[h0])];rfl
 · rw[XI h0];unfold holds;rw[XJ (show decide (0 < m)=true from Yn (by omega))];by_cases h1:2147483647 < stake*m
   · rw[XJ h1];show _=sY ((if decide (stake*m<=COST)=true then Except.ok () else .error ⟨7,sp⟩) >>= λ_=>pure _);rw[XI (by rw[XS];unfold COST;omega)];rfl
   · rw[XI h1];show _=sY ((if decide (stake*m<=COST)=true then Except.ok () else .error ⟨7,sp⟩) >>= λ_=>pure _);rw[XJ (by rw[XS];unfold COST;omega)];show _=Except.ok (⟨i,xJ (cK how),stake,sets⟩:bL);rw[EA h2]
def sE (C:Card)(e i:Nat)(p:Pool)(stake sp:Nat)(l:List Word):Except Fault Bet:=next e l >>= λw =>
 if w.1.w=ascii "on" then (setsIn e (if p.kind=.legs then C.sets p else List.replicate p.places (C.headsOf p.race)) w.2).map (λ(q:aaq)=>(⟨i,.on,q,stake⟩:Bet)) >>= λb=>jn C w.1.at_ sp b
 else if w.1.w=ascii "box"/\(p.kind==.order||p.kind==.any)=true then (boxIn e p (C.headsOf p.race) w.2).map (λ(q:aaq)=>(⟨i,.box,q,stake⟩:Bet)) >>= λb=>jn C w.1.at_ sp b
 else if w.1.w=ascii "key"/\(p.kind==.order||p.kind==.any)=true then (keyIn e p (C.headsOf p.race) w.2).map (λ(q:aaq)=>(⟨i,.key,q,stake⟩:Bet)) >>= λb=>jn C w.1.at_ sp b
 else (.error ⟨3,w.1.at_⟩:Except Fault Bet) >>= λb=>jn C w.1.at_ sp b
theorem pU {C:Card}(o:cz C){i:Nat}{p:Pool}(hi:C.pool i=p)(hP:dZ C p){e how stake hp sp:Nat}(h2:how<=2)(way:how=0∨cS (aC C p)=true){r:List Word}{x:Except Fault (aaq)}(hx:x=iX (fF e (aC C p) how r)) :
  xy e i how stake hp sp (aC C p) (fF e (aC C p) how r)=sY ((x.map λ(q:aaq)=>(⟨i,cK how,q,stake⟩:Bet)) >>= λb=>jn C hp sp b):=by
 subst hx;unfold xy;cases hs:fF e (aC C p) how r with
 |error t=>rfl
 |ok y =>
  obtain⟨sets,r'⟩:=y;cases r' with
  |nil =>
   show HX i how stake hp sp (aC C p) sets=sY (jn C hp sp ⟨i,cK how,sets,stake⟩);exact Fo h2 (Fm o hi hP way hs)
  |cons w r'=>rfl
theorem CY {C:Card}(o:cz C){i:Nat}{p:Pool}(hi:C.pool i=p)(hP:dZ C p){e stake sp:Nat}{l:List Word}:JD e i (aC C p) stake sp l=sY (sE C e i p stake sp l):=by
 cases l with
 |nil=>rfl
 |cons w r =>
  show (match jk (aC C p) w.w with
   |none=>(Except.error ⟨3,w.at_⟩:Except Fault bL)
   |some how=>xy e i how stake w.at_ sp (aC C p) (fF e (aC C p) how r))=sY (if w.w=ascii "on" then (setsIn e (if p.kind=.legs then C.sets p else List.replicate p.places (C.headsOf p.race)) r).map (λ(q:aaq)=>(⟨i,.on,q,stake⟩:Bet)) >>= λb=>jn C w.at_ sp b
   else if w.w=ascii "box"/\cS (aC C p)=true then (boxIn e p (C.headsOf p.race) r).map (λ(q:aaq)=>(⟨i,.box,q,stake⟩:Bet)) >>= λb=>jn C w.at_ sp b
   else if w.w=ascii "key"/\cS (aC C p)=true then (keyIn e p (C.headsOf p.race) r).map (λ(q:aaq)=>(⟨i,.key,q,stake⟩:Bet)) >>= λb=>jn C w.at_ sp b
   else (.error ⟨3,w.at_⟩:Except Fault Bet) >>= λb=>jn C w.at_ sp b)
  have fld:cS (aC C p)=true->(aC C p).fields.getD 0 []=C.headsOf p.race/\(aC C p).fields.length=p.k:=λhw=>by
   have w:=kb.mp hw;have hl:p.kind≠.legs:=by rcases w with w|w <;> rw[w] <;> decide
   have e:(aC C p).fields=List.replicate p.places (C.headsOf p.race):=gZ hP hl;rw[e,Yi];exact⟨vZ (lr hP),iH w⟩
  unfold jk;by_cases c0:w.w=ascii "on"
  · rw[XJ c0,XJ c0];refine pU o hi hP (by decide) (.inl rfl) ?_;rw[Jn];rfl
  · rw[XI c0,XI c0];by_cases c1:w.w=ascii "box"/\cS (aC C p)=true
    · rw[XJ c1,XJ c1];refine pU (how:=1) o hi hP (by decide) (.inr c1.2) ?_;obtain⟨f1,f2⟩:=fld c1.2;rw[Hk];unfold fF;rw[XI (by decide),XJ rfl,f1,f2]
    · rw[XI c1,XI c1];by_cases c2:w.w=ascii "key"/\cS (aC C p)=true
      · rw[XJ c2,XJ c2];refine pU (how:=2) o hi hP (by decide) (.inr c2.2) ?_;obtain⟨f1,f2⟩:=fld c2.2;rw[Gz];unfold fF;rw[XI (by decide),XI (by decide),f1,f2]
      · rw[XI c2,XI c2];rfl
def tail3 (C:Card)(e i:Nat)(p:Pool)(l:List Word):Except Fault Bet:=must e "for" l >>= λm=>number e 1 STAKE m >>= λs=>holds (s.1.1 % p.unit==0) 4 s.1.2 >>= λ_=>sE C e i p s.1.1 s.1.2 s.2
theorem Aq {u:Nat}(hu:1<=u){v:Bytes}:eN u (tx v)↔∃n,numberOf v=some n/\1<=n/\n<=1000000/\n % u=0/\(ay (tx v)).toNat=n:=by
 unfold eN;constructor
 · rintro⟨h1,h2,h3⟩;obtain⟨n,e,a,b,c⟩:=(fg (w:=v) (lo:=1) (hi:=1000000) (by decide)).mp ⟨h1,h2⟩;refine⟨n,e,a,b,?_,by omega⟩;rw[c] at h3;have:((n % u:Nat):Int)=0:=by rw[Int.natCast_emod];exact h3
   omega
 · rintro⟨n,e,a,b,c,d⟩;obtain⟨h1,h2⟩:=(fg (w:=v) (lo:=1) (hi:=1000000) (by decide)).mpr ⟨n,e,a,b,by rw[(d8 (w:=v) (m:=n) (by omega)).mpr e]⟩;refine⟨h1,h2,?_⟩;rw[(d8 (w:=v) (m:=n) (by omega)).mpr e,←Int.natCast_emod,c];rfl
theorem BO {C:Card}(o:cz C){i:Nat}{p:Pool}(hi:C.pool i=p)(hP:dZ C p){e:Nat}{l:List Word}:AR e i (aC C p) l=sY (tail3 C e i p l):=by
 unfold AR tail3;cases hm:must e "for" l with
 |error t=>rfl
 |ok m =>
  show Jq e i (aC C p) m=sY (number e 1 STAKE m >>= λs=>holds (s.1.1 % p.unit==0) 4 s.1.2 >>= λ_=>sE C e i p s.1.1 s.1.2 s.2);cases m with
  |nil=>rfl
  |cons w r =>
   show (if eN p.unit (tx w.w) then JD e i (aC C p) (ay (tx w.w)).toNat w.at_ r else .error ⟨4,w.at_⟩)=sY ((match numberOf w.w with
    |none=>.error ⟨4,w.at_⟩
    |some n=>if n < 1∨STAKE < n then .error ⟨4,w.at_⟩ else pure ((n,w.at_),r)) >>= λs=>holds (s.1.1 % p.unit==0) 4 s.1.2 >>= λ_=>sE C e i p s.1.1 s.1.2 s.2)
   have key:=Aq hP.unit (v:=w.w);cases hn:numberOf w.w with
   |none =>
    rw[XI (λz=>by obtain⟨n,e,_⟩:=key.mp z;rw[hn] at e;cases e)];rfl
   |some n =>
    show _=sY ((if n < 1∨STAKE < n then .error ⟨4,w.at_⟩ else pure ((n,w.at_),r)) >>= λs=>holds (s.1.1 % p.unit==0) 4 s.1.2 >>= λ_=>sE C e i p s.1.1 s.1.2 s.2);by_cases c:n < 1∨STAKE < n
    · rw[XJ c,XI (λz=>by
       obtain⟨n',e,a,b,_⟩:=key.mp z;rw[hn] at e;injection e with e;unfold STAKE at c;omega)]
      rfl
    · rw[XI c];show _=sY (holds (n % p.unit==0) 4 w.at_ >>= λ_=>sE C e i p n w.at_ r);unfold holds;by_cases d:n % p.unit=0
      · have hs:eN p.unit (tx w.w):=key.mpr ⟨n,hn,by omega,by unfold STAKE at c;omega,d,by
         rw[(d8 (w:=w.w) (m:=n) (by unfold STAKE at c;omega)).mpr hn];rfl⟩
        rw[XJ hs,XJ (by rw[d];rfl)];have en:(ay (tx w.w)).toNat=n:=by rw[(d8 (w:=w.w) (m:=n) (by unfold STAKE at c;omega)).mpr hn];rfl
        rw[en];exact CY o hi hP
      · rw[XI (λz=>by
         obtain⟨n',e,_,_,h,_⟩:=key.mp z;rw[hn] at e;injection e with e;subst e;exact d h),XI (by simpa using d)]
        rfl
theorem BC {C:Card}(o:cz C){e:Nat}{l:List Word}:Bs e (C.pools.map (aC C)) l=sY (C.betIn ⟨l,e⟩):=by
 have eb:C.betIn ⟨l,e⟩=(must e "bet" l >>= λm=>next e m >>= λn=>match C.pools.findIdx? λ(p:Pool)=>p.name==n.1.w with
  |none=>.error ⟨5,n.1.at_⟩
  |some i=>tail3 C e i (C.pool i) n.2):=rfl
 rw[eb];unfold Bs;cases hm:must e "bet" l with
 |error t=>rfl
 |ok m =>
  show Ja e (C.pools.map (aC C)) m=sY (next e m >>= λn=>match C.pools.findIdx? λ(p:Pool)=>p.name==n.1.w with
   |none=>.error ⟨5,n.1.at_⟩
   |some i=>tail3 C e i (C.pool i) n.2)
  cases m with
  |nil=>rfl
  |cons n r =>
   show (match dU (C.pools.map (aC C)) (tx n.w) with
    |none=>(Except.error ⟨5,n.at_⟩:Except Fault bL)
    |some i=>match (C.pools.map (aC C))[i]? with
     |none=>.error ⟨5,n.at_⟩
     |some p=>AR e i p r)=sY (match C.pools.findIdx? λ(p:Pool)=>p.name==n.w with
    |none=>.error ⟨5,n.at_⟩
    |some i=>tail3 C e i (C.pool i) r)
   rw[EL o];cases hf:C.pools.findIdx? λ(p:Pool)=>p.name==n.w with
   |none=>rfl
   |some i =>
    have LX:i < C.pools.length:=by
     rw[ZX] at hf;exact hf.1
    have hg:(C.pools.map (aC C))[i]?=some (aC C C.pools[i]):=by rw[XO,XU LX];rfl
    have hp:C.pool i=C.pools[i]:=by unfold Card.pool;rw[XU LX];rfl
    show (match (C.pools.map (aC C))[i]? with
     |none=>(Except.error ⟨5,n.at_⟩:Except Fault bL)
     |some p=>AR e i p r)=sY (tail3 C e i (C.pool i) r)
    rw[hg];show AR e i (aC C C.pools[i]) r=_;rw[BO o hp (o.pools _ (Zz LX)),hp]
def dv (ps:List aK)(b:Bytes):Except Fault bL:=match upTo b with
 |none=>.error ⟨1,b.length⟩
 |some (l,r)=>match badByte true 0 l with
  |some i=>.error ⟨2,i⟩
  |none=>match Bs l.length ps (wordsFrom 0 [] l) with
   |.error t=>.error t
   |.ok x=>if r=[] then .ok x else .error ⟨8,l.length+1⟩
def Gk (ps:List aK)(l r:Bytes):Except Fault bL:=match badByte true 0 l with
  |some i=>.error ⟨2,i⟩
  |none=>match Bs l.length ps (wordsFrom 0 [] l) with
   |.error t=>.error t
   |.ok x=>if r=[] then .ok x else .error ⟨8,l.length+1⟩
theorem wW {ps:List aK}{b:Bytes}(h:upTo b=none):dv ps b=.error ⟨1,b.length⟩:=by
 unfold dv;rw[h]
theorem xl {ps:List aK}{b l r:Bytes}(h:upTo b=some (l,r)):dv ps b=Gk ps l r:=by
 unfold dv;rw[h];rfl
def fM (t b:Bytes):Except (List Int) bL:=if 65536 < t.length∨4096 < b.length then .error [-2] else match dH (tx t) with
 |none=>.error [-8]
 |some ps=>match dv ps b with
  |.error f=>.error [-6,(f.kind:Nat),(f.place:Nat)]
  |.ok y=>.ok y
theorem Fd {C:Card}(o:cz C)(b:Bytes):dv (C.pools.map (aC C)) b=sY (C.readBet b):=by
 unfold dv Card.readBet;cases upTo b with
 |none=>rfl
 |some x =>
  obtain⟨l,r⟩:=x;show (match badByte true 0 l with
   |some i=>(Except.error ⟨2,i⟩:Except Fault bL)
   |none=>match Bs l.length (C.pools.map (aC C)) (wordsFrom 0 [] l) with
    |.error t=>.error t
    |.ok x=>if r=[] then .ok x else .error ⟨8,l.length+1⟩)=sY (match badByte true 0 l with
   |some i=>.error ⟨2,i⟩
   |none=>match C.betIn ⟨wordsFrom 0 [] l,l.length⟩ with
    |.error e=>.error e
    |.ok x=>if r.isEmpty=true then .ok x else .error ⟨8,l.length+1⟩)
  cases badByte true 0 l with
  |some i=>rfl
  |none =>
   show (match Bs l.length (C.pools.map (aC C)) (wordsFrom 0 [] l) with
    |.error t=>(Except.error t:Except Fault bL)
    |.ok x=>if r=[] then .ok x else .error ⟨8,l.length+1⟩)=sY (match C.betIn ⟨wordsFrom 0 [] l,l.length⟩ with
    |.error e=>.error e
    |.ok x=>if r.isEmpty=true then .ok x else .error ⟨8,l.length+1⟩)
   rw[BC o];cases C.betIn ⟨wordsFrom 0 [] l,l.length⟩ with
   |error t=>rfl
   |ok x =>
    cases r with
    |nil=>rfl
    |cons c r=>rfl
theorem Cd (t:Bytes)(ps:List aK)(h:dH (tx t)=some ps):∀p∈ps,DU p:=by
 cases hc:readCard t with
 |error e=>rw[(ma t).2 e hc] at h;cases h
 |ok C =>
  obtain⟨o,_,h2⟩:=(ma t).1 C hc;rw[h2] at h;injection h with h;subst h;intro p hp;obtain⟨q,hq,rfl⟩:=Yh.mp hp;exact Lu o (o.pools q hq)
def EJ (a:Ans):List Int:=a.code::a.nums
theorem EO (t b:Bytes):(∃z:Int,fM t b=.error [z]/\∀G,ToteBetCalls.ofBet t b G=says z)∨(∃k p:Int,fM t b=.error [-6,k,p]/\∀G,ToteBetCalls.ofBet t b G=says (-6)) ∨
  ∃(C:Card) (x:Bet),cz C/\dH (tx t)=some (C.pools.map (aC C))/\fM t b=.ok ⟨x.pool,xJ x.how,x.stake,x.sets⟩/\∀G,ToteBetCalls.ofBet t b G=G C x:=by
 by_cases hb:4096 < b.length
 · left;refine⟨-2,?_,λG=>XJ (show ToteBetCalls.LOOKED < b.length from hb)⟩;unfold fM;exact XJ (.inr hb)
 have eO:∀G,ToteBetCalls.ofBet t b G=ofCard t λC=>match C.readBet b with
  |.error _=>says (-6)
  |.ok x=>G C x:=λG=>XI (show ¬ToteBetCalls.LOOKED < b.length from hb)
 by_cases ht:65536 < t.length
 · left;refine⟨-2,?_,λG=>(eO G).trans (XJ (show TEXT < t.length from ht))⟩;unfold fM;exact XJ (.inl ht)
 have eL:fM t b=match dH (tx t) with
  |none=>.error [-8]
  |some ps=>match dv ps b with
   |.error f=>.error [-6,(f.kind:Nat),(f.place:Nat)]
   |.ok y=>.ok y:=by
  unfold fM;exact XI (by omega)
 have eC:∀G,ToteBetCalls.ofBet t b G=match readCard t with
  |.error _=>says (-8)
  |.ok C=>match C.readBet b with
   |.error _=>says (-6)
   |.ok x=>G C x:=λG=>(eO G).trans (XI (show ¬TEXT < t.length from ht))
 cases hc:readCard t with
 |error e =>
  left;refine⟨-8,?_,λG=>?_⟩
  · rw[eL,(ma t).2 e hc]
  · rw[eC,hc]
 |ok C =>
  right;obtain⟨o,_,h2⟩:=(ma t).1 C hc;have eR:fM t b=match dv (C.pools.map (aC C)) b with
   |.error f=>.error [-6,(f.kind:Nat),(f.place:Nat)]
   |.ok y=>.ok y:=by rw[eL,h2]
  rw[Fd o] at eR;cases hr:C.readBet b with
  |error e =>
   left;rw[hr] at eR;exact⟨(e.kind:Nat),(e.place:Nat),eR,λG=>by rw[eC,hc];show (match C.readBet b with|.error _=>_|.ok x=>_)=_;rw[hr]⟩
  |ok x =>
   right;rw[hr] at eR;exact⟨C,x,o,h2,eR,λG=>by rw[eC,hc];show (match C.readBet b with|.error _=>_|.ok x=>_)=_;rw[hr]⟩
def Rs (t b:Bytes)(g:bL->aK->List Int)(zs:List Int):Prop :=
 (∃xs,fM t b=.error xs/\zs=xs.take 1)∨∃y ps p,fM t b=.ok y/\dH (tx t)=some ps/\ps[y.pool]?=some p/\sH p y.how y.sets/\zs=g y p
theorem A7 {t b:Bytes}{g:bL->aK->List Int}{G:Card->Bet->Ans}{zs:List Int}(h:Rs t b g zs)
  (hg:∀(C:Card) (x:Bet),cz C->∀p∈C.pools,C.pool x.pool=p->sH (aC C p) (xJ x.how) x.sets->g ⟨x.pool,xJ x.how,x.stake,x.sets⟩ (aC C p)=EJ (G C x)):zs=EJ (ToteBetCalls.ofBet t b G):=by
 rcases EO t b with ⟨z,h1,h2⟩|⟨k,p,h1,h2⟩|⟨C,x,o,h0,h1,h2⟩
 · rw[h2];rcases h with ⟨xs,e,rfl⟩|⟨y,ps,p,e,_⟩
   · rw[h1] at e;cases e;rfl
   · rw[h1] at e;cases e
 · rw[h2];rcases h with ⟨xs,e,rfl⟩|⟨y,ps,p,e,_⟩
   · rw[h1] at e;cases e;rfl
   · rw[h1] at e;cases e
 · rw[h2];rcases h with ⟨xs,e,rfl⟩|⟨y,ps,p,e,e1,e2,m,rfl⟩
   · rw[h1] at e;cases e
   · rw[h1] at e;cases e;rw[h0] at e1;cases e1;rw[XO] at e2;obtain⟨q,hq,rfl⟩:=Yj.mp e2;exact hg C x o q (Yc hq) (by unfold Card.pool;rw[hq];rfl) m
def qE (y:bL)(_:aK):List Int:=([0,((y.pool:Nat):Int),((y.how:Nat):Int),((y.stake:Nat):Int),((y.sets.length:Nat):Int)]:List Int)++y.sets.flatMap λs=>((s.length:Nat):Int)::s.map λ(n:Nat)=>(n:Int)
theorem Az {t b:Bytes}{zs:List Int}(h:Rs t b qE zs):zs=EJ (ToteBetCalls.answer (.means t b)):=by
 refine A7 h λC x o p hp hi m=>?_;unfold qE EJ tells ToteBetCalls.betNums;have e:xJ x.how=ToteBetCalls.howNo x.how:=by cases x.how <;> rfl
 simp only[e,X3,List.map_flatMap,X1,Y6,ZP,YC]
theorem sC (x:Nat):∀(ss:aaq) (b:Nat) (s:aar),bitsOf x b (ss++[s])=bitsOf x b ss++(if s.contains x=true then [b*2 ^ ss.length] else [])
 |[],b,s=>by
  show (if s.contains x=true then [b] else [])++[]=[]++(if s.contains x=true then [b*2 ^ 0] else []);simp
 |t::ss,b,s=>by
  show (if t.contains x=true then [b] else [])++bitsOf x (2*b) (ss++[s])=((if t.contains x=true then [b] else [])++bitsOf x (2*b) ss)++_;rw[sC x ss (2*b) s,Y_];have e:2*b*2 ^ ss.length=b*2 ^ (t::ss).length:=by
   rw[XW,ZN,ZY 2 b,Nat.mul_assoc,ZY 2]
  rw[e]
theorem vP (x:Nat):∀(ss:aaq) (b:Nat),∀c∈bitsOf x b ss,∃p,p < ss.length/\c=b*2 ^ p
 |[],b,c,h=>by cases h
 |t::ss,b,c,h=>by
  have h:c∈(if t.contains x=true then [b] else [])++bitsOf x (2*b) ss:=h;rcases Yw.mp h with h|h
  · split at h
    · rw[XZ] at h;exact⟨0,by simp,by simp[h]⟩
    · cases h
  · obtain⟨p,h1,h2⟩:=vP x ss (2*b) c h;exact⟨p+1,by simp;omega,by rw[h2,ZN,ZY 2 b,Nat.mul_assoc,ZY 2]⟩
theorem qf (x:Nat):∀(ss:aaq) (b:Nat),(bitsOf x b ss).length<=ss.length
 |[],b=>XT _
 |t::ss,b=>by
  show ((if t.contains x=true then [b] else [])++bitsOf x (2*b) ss).length<=_;rw[X6,XW];have:=qf x ss (2*b);split
  · simp;omega
  · simp;omega
theorem Fp {m p:Nat}:(m &&& 2 ^ p≠0)↔bB m (2 ^ p)=true:=by
 unfold bB;have e:(m / 2 ^ p % 2==1)=m.testBit p:=by
  rw[Nat.testBit_eq_decide_div_mod_eq,Ym,Yx,XS]
 rw[e];constructor
 · intro h;cases ht:m.testBit p with
   |true=>rfl
   |false =>
    refine absurd (Nat.eq_of_testBit_eq λi=>?_) h;rw[Nat.testBit_and,Nat.testBit_two_pow,Nat.zero_testBit];by_cases c:p=i
    · subst c;rw[ht];rfl
    · rw[Yv c,Bool.and_false]
 · intro h z;have:=YN (λn=>Nat.testBit n p) z;simp only[Nat.testBit_and,Nat.testBit_two_pow,Nat.zero_testBit,h] at this;simp at this
theorem Hu {m b:Nat}(h:bB m b=true)(hb:0 < b):b<=m:=by
 unfold bB at h;rw[Yx] at h;by_cases z:b<=m
 · exact z
 · rw[Nat.div_eq_of_lt (by omega)] at h;cases h
theorem CU:∀(ss:aaq) (m:Nat),1<=m->m < 2 ^ ss.length->sel m ss≠[]
 |[],m,h1,h2=>by simp at h2;omega
 |s::ss,m,h1,h2=>by
  rw[qg];by_cases h:m % 2=1
  · rw[XJ h];simp
  · rw[XI h];have:=CU ss (m / 2) (by omega) (by rw[XW,ZN] at h2;omega);simpa using this
def pB (x:Nat)(z:Nat):Bool:=decide (1<=z)&&decide (z < x)
theorem EM {x:Nat}(hx:1<=x):(λz=>pB x z||z==x)=pB (x+1):=by
 funext z;unfold pB;rw[Ym];simp;omega
theorem J2 (x:Nat):pB x x=false:=by unfold pB;simp
theorem GA:pB 1=λ_=>false:=by
 funext z;unfold pB;rw[Bool.eq_false_iff];simp;omega
theorem GP:pB 25=la:=by
 funext z;unfold pB la;rw[Ym];simp;omega
def cC (ss:aaq)(x m:Nat):Nat:=dk (sel m ss) (pB x)
theorem p9 (ss:aaq)(x:Nat):cC ss x 0=1:=by
 unfold cC;rw[vM];rfl
theorem D7 {ss:aaq}{m:Nat}(h1:1<=m)(h2:m < 2 ^ ss.length):cC ss 1 m=0:=by
 unfold cC;rw[GA];have:=CU ss m h1 h2;cases hs:sel m ss with
 |nil=>exact absurd hs this
 |cons s r =>
  unfold dk;have e:s.filter (λ_=>false)=[]:=by
   rw[List.filter_eq_nil_iff];intro _ _ z;cases z
  rw[e];rfl
theorem CC {ss:aaq}(nd:∀s∈ss,s.Nodup){x m:Nat}(hx:1<=x):cC ss (x+1) m=cC ss x m+(((bitsOf x 1 ss).filter (bB m)).map λb=>cC ss x (m - b)).sum:=by
 unfold cC;rw[←EM hx];exact zI x m ss (pB x) nd (J2 x)
theorem BE {ss:aaq}:cC ss 25 (2 ^ ss.length - 1)=dk ss la:=by
 unfold cC;rw[vN,GP]
def jR (ss:aaq)(x f i:Nat):aar:=(List.range (f+1)).map λm=>if f - i < m then cC ss (x+1) m else cC ss x m
def tab (ss:aaq)(x f:Nat):aar:=(List.range (f+1)).map λm=>cC ss x m
theorem AV (ss:aaq)(x f:Nat):jR ss x f 0=tab ss x f:=by
 unfold jR tab;refine YA λm hm=>?_;have:=Zw.mp hm;rw[XI (by omega)]
theorem AO (ss:aaq)(x f:Nat):jR ss x f f=tab ss (x+1) f:=by
 unfold jR tab;refine YA λm hm=>?_;by_cases h:m=0
 · subst h;rw[XI (by omega),p9,p9]
 · rw[XJ (by omega)]
theorem s_ {ss:aaq}{x f i m:Nat}(h:m<=f):(jR ss x f i)[m]?=some (if f - i < m then cC ss (x+1) m else cC ss x m):=by
 unfold jR;rw[XO,Zr (by omega)];rfl
theorem CG {ss:aaq}{x f m:Nat}(h:m<=f):(tab ss x f)[m]?=some (cC ss x m):=by
 unfold tab;rw[XO,Zr (by omega)];rfl
theorem Ci {ss:aaq}{x f i:Nat}(hi:i < f):(jR ss x f i).set (f - i) (cC ss (x+1) (f - i))=jR ss x f (i+1):=by
 refine Z3 λm=>?_;rw[List.getElem?_set];have hl:(jR ss x f i).length=f+1:=by unfold jR;rw[XH,ZZ]
 by_cases hm:m<=f
 · rw[s_ (i:=i+1) hm];by_cases e:f - i=m
   · rw[XJ e,XJ (by omega),XJ (by omega),e]
   · rw[XI e,s_ hm];congr 1;by_cases h2:f - i < m
     · rw[XJ h2,XJ (by omega)]
     · rw[XI h2,XI (by omega)]
 · have Sz:(jR ss x f (i+1)).length=f+1:=by unfold jR;rw[XH,ZZ]
   rw[XI (by omega),YK (by omega),YK (by omega)]
theorem Af {ss:aaq}:[1]++List.replicate (2 ^ ss.length - 1) 0=tab ss 1 (2 ^ ss.length - 1):=by
 have hp:0 < 2 ^ ss.length:=Nat.pow_pos (by decide);refine Z3 λm=>?_;by_cases hm:m<=2 ^ ss.length - 1
 · rw[CG hm];cases m with
   |zero=>rw[p9];rfl
   |succ m =>
    rw[D7 (by omega) (by omega)];show (List.replicate (2 ^ ss.length - 1) 0)[m]?=some 0;rw[List.getElem?_replicate,XJ (by omega)]
 · unfold tab;rw[YK (by simp;omega),YK (by simp;omega)]
def iu (g:aaq)(s:aar):Bool:=(s.zip g).all λz=>z.2.contains z.1
def kP (g:aaq)(s:aar):Nat:=if iu g s=true then product ((g.drop s.length).map List.length) else 0
def gu (s t:aar):aar:=t.filter λx=>!s.contains x
def tS (g:aaq)(s:aar):Nat:=if iu g s=true/\s.Nodup then dk ((g.drop s.length).map (gu s)) la else 0
def pre (R:aaq)(s:aar):Nat:=R.countP λr=>s.isPrefixOf r
theorem kg {α:Type}{p q:Prop} [Decidable p] [Decidable q] {a b:α}(h:p↔q):(if p then a else b)=if q then a else b:=by
 by_cases z:p
 · rw[XJ z,XJ (h.mp z)]
 · rw[XI z,XI λy=>z (h.mpr y)]
theorem lM (R:aaq):pre R []=R.length:=by
 unfold pre;rw[List.countP_eq_length];intro r _;simp
theorem BN {x y:Nat}{s:aar}(R:aaq):pre (R.map λr=>y::r) (x::s)=if (y==x)=true then pre R s else 0:=by
 unfold pre;rw[List.countP_map];by_cases e:y=x
 · rw[XJ (by simpa using e)];congr 1;funext r;simp[e]
 · rw[XI (by simpa using e),List.countP_eq_zero];intro r _;have:¬x=y:=λz=>e z.symm;simp[this]
theorem uJ {x:Nat}{s t:aar}(nd:t.Nodup)(f:Nat->aaq):pre (t.flatMap λy=>(f y).map λr=>y::r) (x::s)=if t.contains x=true then pre (f x) s else 0:=by
 have e:pre (t.flatMap λy=>(f y).map λr=>y::r) (x::s)=(t.map λy=>if (y==x)=true then pre (f x) s else 0).sum:=by
  unfold pre;rw[List.countP_flatMap];refine YN List.sum (YA λy _=>?_);show pre ((f y).map λr=>y::r) (x::s)=_;rw[BN];by_cases z:y=x
  · subst z;rfl
  · rw[XI (by simpa using z),XI (by simpa using z)]
 rw[e,nQ,k8 nd];split <;> simp
theorem uP:∀(g:aaq) (s:aar),(∀t∈g,t.Nodup)->s.length<=g.length->kP g s=pre (rowsOf g) s
 |g,[],_,_=>by
  rw[lM,jM];unfold kP iu;simp
 |[],x::s,_,h=>by simp at h
 |t::g,x::s,nd,h=>by
  have ih:=uP g s (λu hu=>nd u (by simp[hu])) (by simpa using h);unfold rowsOf;rw[uJ (nd t (by simp)) λ_=>rowsOf g,←ih];unfold kP iu;simp only[List.zip_cons_cons,ZU,XW,List.drop_succ_cons,XR];by_cases c:t.contains x=true
  · rw[XJ c];by_cases d:((s.zip g).all λz=>z.2.contains z.1)=true
    · rw[XJ d,XJ ⟨c,d⟩]
    · rw[XI d,XI λz=>d z.2]
  · rw[XI c,XI λz=>c z.1]
theorem vE:∀(g:aaq) (s had:aar),(∀t∈g,t.Nodup)->s.length<=g.length->pre (apartRows g had) s=if iu g s=true/\s.Nodup/\∀x∈s,¬x∈had then dk (g.drop s.length) (λz=>!had.contains z&&!s.contains z) else 0
 |g,[],had,_,_=>by
  rw[lM,rR,XJ ⟨by simp[iu],by simp,by simp⟩];simp
 |[],x::s,_,_,h=>by simp at h
 |t::g,x::s,had,nd,h=>by
  have ih:=vE g s (x::had) (λu hu=>nd u (by simp[hu])) (by simpa using h);unfold apartRows;rw[uJ ((nd t (by simp)).filter _) λy=>apartRows g (y::had),ih];have ep:(λz=>!(x::had).contains z&&!s.contains z)=λz=>!had.contains z&&!(x::s).contains z:=by
   funext z;simp only[List.contains_cons];cases (z==x) <;> cases had.contains z <;> cases s.contains z <;> rfl
  rw[ep];have eC:(iu (t::g) (x::s)=true/\(x::s).Nodup/\∀y∈x::s,¬y∈had)↔(t.filter λy=>!had.contains y).contains x=true/\(iu g s=true/\s.Nodup/\∀y∈s,¬y∈x::had):=by
   have ei:iu (t::g) (x::s)=true↔x∈t/\iu g s=true:=by unfold iu;simp
   rw[ei,YT,aac,YO,XS,YR];simp only[XN,not_or,Yy,YO,Yp];constructor
   · rintro⟨⟨a,b⟩,⟨n,c⟩,d,e⟩;exact⟨⟨a,d⟩,b,c,λy hy=>⟨λz=>n (z ▸ hy),e y hy⟩⟩
   · rintro⟨⟨a,d⟩,b,c,e⟩;exact⟨⟨a,b⟩,⟨λm=>(e x m).1 rfl,c⟩,d,λy hy=>(e y hy).2⟩
  rw[kg eC];by_cases c:(t.filter λy=>!had.contains y).contains x=true
  · rw[XJ c];exact kg ⟨λz=>⟨c,z⟩,λz=>z.2⟩
  · rw[XI c,XI λz=>c z.1]
theorem vj {s:aar}:∀(ss:aaq) (p:Nat->Bool),dk (ss.map (gu s)) p=dk ss λz=>p z&&!s.contains z
 |[],_=>rfl
 |t::ss,p=>by
  rw[X1];unfold dk gu;rw[List.filter_filter];refine YN List.sum (YA λy _=>?_);have:=vj (s:=s) ss λz=>p z&&z != y;unfold gu at this;rw[this];congr 1;funext z;dsimp only;cases p z <;> cases s.contains z <;> cases (z != y) <;> rfl
theorem Ee {g:aaq}{s:aar}(o:Dc g)(h:s.length<=g.length):tS g s=pre (apartRows g []) s:=by
 rw[vE g s [] (λt ht=>(o.good t ht).1.nodup) h];unfold tS;rw[kg (p:=iu g s=true/\s.Nodup) (q:=iu g s=true/\s.Nodup/\∀x∈s,¬x∈[]) ⟨λ⟨a,b⟩=>⟨a,b,by simp⟩,λ⟨a,b,_⟩=>⟨a,b⟩⟩,vj];congr 1;refine gE _ λt ht y hy=>?_;have m:=Zf ht;have:=(o.good t m).2 y hy;have:=o.lo t m y hy;unfold la;simp[*]
theorem zL {gs:List (aaq)}{s:aar}(o:uH .order gs)(h:∀g∈gs,s.length<=g.length):(gs.map λg=>tS g s).sum=pre (su .order gs) s:=by
 show _=pre (gs.flatMap λg=>apartRows g []) s;unfold pre;rw[List.countP_flatMap];exact YN List.sum (YA λg hg=>Ee (o.ok g hg) (h g hg))
theorem Bi {kd:Kind}{gs:List (aaq)}{s:aar}(h1:kd≠.order)(h2:kd≠.any)(o:uH kd gs)(h:∀g∈gs,s.length<=g.length):(gs.map λg=>kP g s).sum=pre (su kd gs) s:=by
 have e:su kd gs=gs.flatMap rowsOf:=by
  cases kd with
  |order=>exact absurd rfl h1
  |any=>exact absurd rfl h2
  |place=>rfl
  |legs=>rfl
 rw[e];unfold pre;rw[List.countP_flatMap];exact YN List.sum (YA λg hg=>uP g s (λt ht=>((o.ok g hg).good t ht).1.nodup) (h g hg))
def kQ (a:Nat)(B:aar)(g:aaq)(j:Nat):List (aaq):=((List.range j).filter λi=>g.getD i []==B).map λi=>g.take i++[[a]]++g.drop (i+1)
theorem wL (a:Nat)(B:aar)(g:aaq)(j:Nat):kQ a B g (j+1)=kQ a B g j++if (g.getD j []==B)=true then [g.take j++[[a]]++g.drop (j+1)] else []:=by
 unfold kQ;rw[List.range_succ,ZE,X3];congr 1;by_cases h:(g.getD j []==B)=true
 · rw[XJ h,YU,XJ h];rfl
 · rw[XI h,YU,XI h];rfl
theorem sJ (a:Nat)(B:aar):∀g:aaq,kQ a B g g.length=jr a B g
 |[]=>rfl
 |s::g=>by
  have ih:=sJ a B g;unfold kQ at ih ⊢;unfold jr;rw[XW,List.range_succ_eq_map,←ih,X_];have e:((List.range g.length).map Nat.succ).filter (λi=>(s::g).getD i []==B)=((List.range g.length).filter λi=>g.getD i []==B).map Nat.succ:=by
   rw[List.filter_map];rfl
  by_cases h:(s==B)=true
  · rw[List.filter_cons_of_pos (by simpa using h),XJ h,e,X1,X_];rfl
  · rw[List.filter_cons_of_neg (by simpa using h),XI h,e,X_];rfl
theorem ya {B A:aar}{a:Nat}{gs:List (aaq)}:bH B (A++[a]) gs=(bH B A gs).flatMap (jr a B):=by
 unfold bH;rw[List.foldl_append];rfl
theorem zc {B:aar}{k:Nat}:∀{A:aar} {gs:List (aaq)},(∀g∈gs,g.length=k)->∀g∈bH B A gs,g.length=k
 |[],_,h=>h
 |a::A,gs,h=>zc (A:=A) (gs:=gs.flatMap (jr a B)) λg hg=>by
  obtain⟨g0,h0,hr⟩:=ZO.mp hg;rw[(ow hr).1,h g0 h0]
theorem zu {a:Nat}{B:aar}{g:aaq}{j:Nat}:(kQ a B g j).length<=j:=by
 unfold kQ;rw[XH];exact Yu (Z7 ..) (by rw[ZZ];exact XT _)
end Bw
end
section
set_option Elab.async false
set_option linter.all false
set_option maxRecDepth 100000
namespace L2
open PySem PySem.Spec PyProof.Rows
abbrev Key:=Sum Int Str
def qm:Key->Value->Bool
 |.inl k,v=>Value.isInt k v
 |.inr x,v=>Value.isStrOf x v
def IK (w:World):Key->Int
 |.inl k=>hashInt k
 |.inr x=>hashStr w x
theorem cf:∀{k:Key} {v:Value},qm k v=true->(∃i t,k=Sum.inl i/\v=Value.int i t)∨(∃x t,k=Sum.inr x/\v=Value.str x t)
 |.inl i,v,h=>by
  obtain⟨t,e⟩:=Value.isInt_shape (k:=i) (v:=v) h;exact .inl ⟨i,t,rfl,e⟩
 |.inr x,v,h=>by
  obtain⟨t,e⟩:=Value.isStrOf_shape (x:=x) (v:=v) h;exact .inr ⟨x,t,rfl,e⟩
theorem Ax (i:Int)(t:Tok):qm (.inl i) (.int i t)=true:=by simp[qm,Value.isInt]
theorem sx (x:Str)(t:Tok):qm (.inr x) (.str x t)=true:=by simp[qm,Value.isStrOf]
theorem G8 (a b:Int):decide ((Sum.inl a:Key)=Sum.inl b)=(a==b):=by
 by_cases e:a=b
 · subst e;simp
 · have h:¬(Sum.inl a:Key)=Sum.inl b:=λq=>e (Sum.inl.inj q);rw[Yv h];exact (Yg.mpr e).symm
theorem Ii (a b:Str):decide ((Sum.inr a:Key)=Sum.inr b)=decide (a=b):=by
 by_cases e:a=b
 · subst e;simp
 · have h:¬(Sum.inr a:Key)=Sum.inr b:=λq=>e (Sum.inr.inj q);rw[Yv h,Yv e]
theorem GF (a:Int)(b:Str):decide ((Sum.inl a:Key)=Sum.inr b)=false:=Yv (λq=>nomatch q)
theorem Hm (a:Str)(b:Int):decide ((Sum.inr a:Key)=Sum.inl b)=false:=Yv (λq=>nomatch q)
def cw (prog:Program)(w:World):PySem.KeyKind prog w Key where
 is:=qm
 hash:=IK w
 inj:=λv a b ha hb=>by
  rcases cf ha with ⟨i,t,rfl,rfl⟩|⟨x,t,rfl,rfl⟩
  · rcases cf hb with ⟨j,u,rfl,e⟩|⟨y,u,rfl,e⟩
    · injection e with e1 _;rw[e1]
    · exact nomatch e
  · rcases cf hb with ⟨j,u,rfl,e⟩|⟨y,u,rfl,e⟩
    · exact nomatch e
    · injection e with e1 _;rw[e1]
 byValue:=λk v h=>by
  rcases cf h with ⟨i,t,rfl,rfl⟩|⟨x,t,rfl,rfl⟩ <;> rfl
 pyHash:=λhv h=>by
  rcases cf hv with ⟨i,t,rfl,rfl⟩|⟨x,t,rfl,rfl⟩
  · exact wpAny_pyHash_int h
  · exact wpAny_pyHash_str h
 eqBool:=λhu hv h=>by
  rcases cf hu with ⟨i,t,rfl,rfl⟩|⟨x,t,rfl,rfl⟩
  · rcases cf hv with ⟨j,u,rfl,rfl⟩|⟨y,u,rfl,rfl⟩
    · rw[G8] at h;exact wpAny_eqBool_int h
    · rw[GF] at h;exact SeqAt.EqAt.int_str i t y u _ _ _ _ h
  · rcases cf hv with ⟨j,u,rfl,rfl⟩|⟨y,u,rfl,rfl⟩
    · rw[Hm] at h;exact SeqAt.EqAt.str_int x t j u _ _ _ _ h
    · rw[Ii] at h;exact wpAny_eqBool_str h
 «strs»:=λk x t v h=>by
  rcases cf h with ⟨i,u,rfl,e⟩|⟨y,u,rfl,e⟩
  · exact nomatch e
  · injection e with e1 _;subst e1;cases v <;> rfl
theorem u5 (prog:Program)(w:World)(i:Int)(t:Tok):(cw prog w).is (.inl i) (.int i t)=true:=Ax i t
theorem vo (prog:Program)(w:World)(x:Str)(t:Tok):(cw prog w).is (.inr x) (.str x t)=true:=sx x t
inductive V where
 |b8|bl (b:Bool)|int (i:Int)|str (x:Str)|wg (b:Array UInt8)|flt (b:UInt64)|ref (a:Addr)|ty (n:String)
 deriving DecidableEq
def RelV:V->Value->Prop
 |.b8,u=>u=Value.none
 |.bl b,u=>u=Value.bool b
 |.int i,u=>∃t,u=Value.int i t
 |.str x,u=>∃t,u=Value.str x t
 |.wg b,u=>∃t,u=Value.bytes b t
 |.flt b,u=>∃t,u=Value.float b t
 |.ref a,u=>u=Value.ref a
 |.ty n,u=>u=Value.type n
abbrev Vals:List V->aaw->Prop:=Paired RelV
theorem Vals.length {xs:List V}{us:aaw}(r:Vals xs us):xs.length=us.length:=Paired.length r
theorem Vals.get:∀{xs:List V} {us:aaw} {i:Nat} {x:V},Vals xs us->xs[i]?=some x->∃u,us[i]?=some u/\RelV x u
 |_,_,_,_,.nil,e=>by simp at e
 |_,_,0,_,.cons r _,e=>by simp at e;subst e;exact⟨_,rfl,r⟩
 |_,_,i+1,x,.cons _ t,e=>by
  obtain⟨u,h1,h2⟩:=Vals.get (i:=i) (x:=x) t (by simpa using e);exact⟨u,by simpa using h1,h2⟩
theorem Vals.set {x:V}{u:Value}(r:RelV x u):∀{xs:List V} {us:aaw} (i:Nat),Vals xs us->Vals (xs.set i x) (us.set i u)
 |_,_,_,.nil=>.nil
 |_,_,0,.cons _ t=>.cons r t
 |_,_,i+1,.cons q t=>.cons q (Vals.set r i t)
theorem Vals.append:∀{xs ys:List V} {us ws:aaw},Vals xs us->Vals ys ws->Vals (xs++ys) (us++ws)
 |_,_,_,_,.nil,s=>s
 |_,_,_,_,.cons r t,s=>.cons r (Vals.append t s)
theorem Vals.take:∀{xs:List V} {us:aaw} (n:Nat),Vals xs us->Vals (xs.take n) (us.take n)
 |_,_,0,_=>.nil
 |_,_,_+1,.nil=>.nil
 |_,_,n+1,.cons r t=>.cons r (Vals.take n t)
theorem Vals.drop:∀{xs:List V} {us:aaw} (n:Nat),Vals xs us->Vals (xs.drop n) (us.drop n)
 |_,_,0,r=>r
 |_,_,_+1,.nil=>.nil
 |_,_,n+1,.cons _ t=>Vals.drop n t
def jc:Option V->Option Value->Prop
 |some v,some u=>RelV v u
 |none,none=>True
 |_,_=>False
def KV {κ:Type}:List (κ×V)->List (κ×Value)->Prop:=Paired λ(p:κ×V) (q:κ×Value)=>p.1=q.1/\RelV p.2 q.2
def kV:Key->V
 |.inl i=>.int i
 |.inr x=>.str x
inductive HO where
 |lst (xs:List V)
 |tup (xs:List V)
 |dK (LN:List (Key×V))|dT (LN:List (List Key×V))
 |set (S:Int->Bool) (n:Nat)
 |ins (C dx:Addr) (fs:List (Str×V))
 |own (x:Addr)
 |xd (fs:List (Str×V))
 |met (f x:Addr)
 |rng (lo hi:Int)
 |frz (o:Obj) (u:HO)
 |tbl (ps:Array Value)
 |ext (φ:Heap->Prop)
abbrev Hp:=Addr->Option HO
def upd (H:Hp)(a:Addr)(o:HO):Hp:=λb=>if b=a then some o else H b
theorem ae {H:Hp}{a:Addr}{o:HO}:upd H a o a=some o:=by unfold upd;rw[XJ rfl]
theorem aq {H:Hp}{a b:Addr}{o:HO}(h:b≠a):upd H a o b=H b:=by unfold upd;rw[XI h]
theorem cy {H:Hp}{a:Addr}{o u:HO}:upd (upd H a o) a u=upd H a u:=by
 funext b;unfold upd;split <;> rfl
theorem dG {H:Hp}{a b:Addr}{o u:HO}(h:H a=some o)(h':H b=some u)(d:o≠u):a≠b:=by
 intro e;subst e;rw[h] at h';exact d (Yl h')
theorem ao {H:Hp}{a b:Addr}{o:HO}(h:H a=some o)(h':H b=none):a≠b:=by
 intro e;subst e;rw[h] at h';cases h'
section
variable (P:Program)(w:World)
def bM (H:Hp) (h:Heap) (a:Addr):HO->Prop
 |.lst xs=>xs.length<=sizeLine/\∃(LO:aaw) (n:Nat),Vals xs LO/\h.get? a=some {cls:=.type "list",data:=.seq LO.toArray n}
 |.tup xs=>xs.length<=sizeLine/\∃LO:aaw,Vals xs LO/\IsTup h a LO.toArray
 |.dK LN=>LN.length<=sizeLine/\(a==sysModules)=false/\∃vs,KV LN vs/\h.DictOf (cw P w) a vs
 |.dT LN=>LN.length<=sizeLine/\(a==sysModules)=false/\∃xs:List (List Key×Addr×Value),
   Paired (λ(p:List Key×V) (q:List Key×Addr×Value)=>p.1=q.1/\H q.2.1=some (.tup (p.1.map kV))/\RelV p.2 q.2.2) LN xs /\
   ∃o es ep,h.get? a=some o/\o.ExactDict/\o.data=.dict es ep/\es.toList=xs.map (entryOfKey (tupleKind (cw P w)))/\(xs.map (·.1)).Nodup
 |.set S n=>h.SetOf (intKind P w) a S n
 |.ins C dx fs=>H dx=some (.own a)/\fs.length<=1000/\dx≠a/\h.get? a=some (PySem.W.instObj C dx) /\
   ∃mA,h.Ns1 dx mA/\(∀f,jc (fs.lookup f) (mA f))/\PySem.Within mA (fs.map (·.1))
 |.own _=>∃o,h.get? a=some o
 |.xd fs=>∃mA,h.Ns1 a mA/\∀f,jc (fs.lookup f) (mA f)
 |.rng lo hi=>∃t u v,h.get? a=some {cls:=.type "range",data:=.fields #[.int lo t,.int hi u,.int 1 v]}
 |.frz o u=>h.get? a=some o/\bM H h a u
 |.tbl ps=>h.get? a=some {cls:=.none,data:=.fields ps}
 |.met f x=>h.get? a=some (PySem.W.methodObj (.ref f) (.ref x))
 |.ext φ=>φ h/\(∃o,h.get? a=some o)/\∀h1 h2:Heap,φ h1->(∀o,h1.get? a=some o->h2.get? a=some o)->φ h2
def iy (H:Hp)(h:Heap):Prop:=∀a o,H a=some o->bM P w H h a o
end
section
variable {P:Program}{w:World}{H H':Hp}{h h':Heap}{a:Addr}{o:HO}
theorem bM.lt (x:bM P w H h a o):a < h.objs.size:=by
 cases o with
 |lst xs=>obtain⟨_,_,_,_,e⟩:=x;exact XX e
 |tup xs=>obtain⟨_,_,_,p⟩:=x;exact p.lt
 |dK LN=>obtain⟨_,_,_,_,o,_,_,e,_⟩:=x;exact XX e
 |dT LN=>obtain⟨_,_,_,_,o,_,_,e,_⟩:=x;exact XX e
 |set S n=>obtain⟨o,_,_,_,e,_⟩:=x;exact XX e
 |ins C dx fs=>obtain⟨_,_,_,e,_⟩:=x;exact XX e
 |own y=>obtain⟨_,e⟩:=x;exact XX e
 |xd fs=>obtain⟨_,⟨_,_,_,e,_⟩,_⟩:=x;exact XX e
 |rng lo hi=>obtain⟨_,_,_,e⟩:=x;exact XX e
 |frz ob u=>obtain⟨e,_⟩:=x;exact XX e
 |tbl ps=>exact XX (show h.get? a=some _ from x)
 |met f y=>exact XX (show h.get? a=some _ from x)
 |ext φ=>obtain⟨_,⟨_,e⟩,_⟩:=x;exact XX e
theorem Paired.d9 {α β:Type}{F G:α->β->Prop}:∀{l₁:List α} {l₂:List β},Paired F l₁ l₂->(∀a b,F a b->G a b)->Paired G l₁ l₂
 |_,_,.nil,_=>.nil
 |_,_,.cons r t,f=>.cons (f _ _ r) (Paired.d9 t f)
theorem bM.kM (x:bM P w H h a o)(k:∀b u,(b=a∨H b=some (.own a))->h.get? b=some u->h'.get? b=some u)
  (ho:∀b,H b=some (.own a)->H' b=some (.own a))(ht:∀b xs,H b=some (.tup xs)->H' b=some (.tup xs)):bM P w H' h' a o:=by
 induction o with
 |lst xs=>obtain⟨z,LO,n,r,e⟩:=x;exact⟨z,LO,n,r,k _ _ (.inl rfl) e⟩
 |tup xs=>obtain⟨z,LO,r,ob,e,c⟩:=x;exact⟨z,LO,r,ob,k _ _ (.inl rfl) e,c⟩
 |dK LN=>obtain⟨z,y,vs,r,ob,es,ep,e,c⟩:=x;exact⟨z,y,vs,r,ob,es,ep,k _ _ (.inl rfl) e,c⟩
 |dT LN =>
  obtain⟨z,y,xs,r,ob,es,ep,e,c⟩:=x;exact⟨z,y,xs,Paired.d9 r λp q z=>⟨z.1,ht _ _ z.2.1,z.2.2⟩,ob,es,ep,k _ _ (.inl rfl) e,c⟩
 |set S n=>obtain⟨ob,es,ep,t,e,c⟩:=x;exact⟨ob,es,ep,t,k _ _ (.inl rfl) e,c⟩
 |ins C dx fs =>
  obtain⟨d,z,ne,e,mA,⟨od,es,ep,e2,c⟩,r⟩:=x;exact⟨ho _ d,z,ne,k _ _ (.inl rfl) e,mA,⟨od,es,ep,k _ _ (.inr d) e2,c⟩,r⟩
 |own y=>obtain⟨ob,e⟩:=x;exact⟨ob,k _ _ (.inl rfl) e⟩
 |xd fs=>obtain⟨mA,⟨od,es,ep,e,c⟩,r⟩:=x;exact⟨mA,⟨od,es,ep,k _ _ (.inl rfl) e,c⟩,r⟩
 |rng lo hi=>obtain⟨t,u,v,e⟩:=x;exact⟨t,u,v,k _ _ (.inl rfl) e⟩
 |frz ob u ih=>obtain⟨e,q⟩:=x;exact⟨k _ _ (.inl rfl) e,ih q⟩
 |tbl ps =>
  have e:h.get? a=some {cls:=.none,data:=.fields ps}:=x;show h'.get? a=some {cls:=.none,data:=.fields ps};exact k a _ (.inl rfl) e
 |met f y =>
  have e:h.get? a=some (PySem.W.methodObj (.ref f) (.ref y)):=x;show h'.get? a=some (PySem.W.methodObj (.ref f) (.ref y));exact k a _ (.inl rfl) e
 |ext φ=>obtain⟨p,⟨o,e⟩,st⟩:=x;exact⟨st _ _ p λo q=>k _ _ (.inl rfl) q,⟨o,k _ _ (.inl rfl) e⟩,st⟩
theorem iy.lt (x:iy P w H h)(e:H a=some o):a < h.objs.size:=(x a o e).lt
theorem iy.fresh (x:iy P w H h)(e:h.objs.size<=a):H a=none:=by
 cases q:H a with
 |none=>rfl
 |some u=>exact absurd (Yo (x.lt q) e) (Y2 _)
theorem iy.kept (x:iy P w H h)(k:∀b u,h.get? b=some u->h'.get? b=some u):iy P w H h':=λa o e =>
 (x a o e).kM (λb u _ q=>k b u q) (λ_ q=>q) λ_ _ q=>q
theorem iy.laid (x:iy P w H h)(k:∀b u,h.get? b=some u->h'.get? b=some u)(hp:h.objs.size<=a)(new:bM P w (upd H a o) h' a o):iy P w (upd H a o) h':=λb u e=>by
 have hn:=x.fresh hp;by_cases hb:b=a
 · subst hb;rw[ae] at e;cases e;exact new
 · rw[aq hb] at e;exact (x b u e).kM (λc v _ q=>k c v q) (λc q=>by rw[aq (ao q hn)];exact q) λc xs q=>by rw[aq (ao q hn)];exact q
end
def Rd (H:Hp)(a:Addr)(u:HO):Prop:=H a=some u∨∃o,H a=some (.frz o u)
theorem Rd.ok {P:Program}{w:World}{H:Hp}{h:Heap}{a:Addr}{u:HO}(r:Rd H a u)(x:iy P w H h):bM P w H h a u:=by
 rcases r with r|⟨o,r⟩
 · exact x a u r
 · obtain⟨_,q⟩:=x a _ r;exact q
def J0:Option HO->Prop
 |some (.lst _)=>True
 |some (.dK _)=>True
 |some (.dT _)=>True
 |some (.set _ _)=>True
 |some (.ins _ _ _)=>True
 |some (.ext _)=>True
 |_=>False
section
variable {P:Program}{w:World}{H:Hp}{h h':Heap}{x e:Addr}{o':HO}
theorem iy.write (ok:iy P w H h) (mu:J0 (H x)) (he:e=x∨H e=some (.own x)) (k:∀b u,b≠e->h.get? b=some u->h'.get? b=some u) (Og:∃u,h'.get? e=some u)
  (new:bM P w (upd H x o') h' x o'):iy P w (upd H x o') h':=λb u q=>by
 have OQ:∀c y,H c=some (.own y)->c≠x:=λc y r z=>by subst z;rw[r] at mu;exact mu
 have QQ:∀c xs,H c=some (.tup xs)->c≠x:=λc xs r z=>by subst z;rw[r] at mu;exact mu
 by_cases hb:b=x
 · subst hb;rw[ae] at q;cases q;exact new
 · rw[aq hb] at q;by_cases NR:b=e
   · have q':H b=some (.own x):=by
      rcases he with z|z
      · exact absurd (NR.trans z) hb
      · rw[NR];exact z
     rw[q] at q';cases q';obtain⟨v,hv⟩:=Og;exact⟨v,by rw[NR];exact hv⟩
   · refine (ok b u q).kM (λc v hc r=>k c v ?_ r) (λc r=>by rw[aq (OQ c b r)];exact r) λc xs r=>by rw[aq (QQ c xs r)];exact r
     rcases hc with rfl|hc
     · exact NR
     · rintro rfl;rcases he with z|z
       · exact OQ c b hc z
       · rw[hc] at z;cases z;exact hb rfl
end
structure Un (fs ex:List Addr)(H H':Hp)(h h':Heap):Prop where
 keep:∀b o,h.get? b=some o->H b=none->b∉fs->b∉ex->h'.get? b=some o
 slot:∀b o,h.get? b=some o->H b=none->b∈fs->b∉ex->∃sl,h'.get? b=some {o with slots:=sl}
 free:∀b o,h.get? b=some o->H b=none->b∉ex->H' b=none
 there:∀b o,h.get? b=some o->b∉ex->∃o',h'.get? b=some o'
 om:∀b xs,H b=some (.tup xs)->H' b=some (.tup xs)
 nq:∀b o u,H b=some (.frz o u)->H' b=some (.frz o u)
 oh:∀b ps,H b=some (.tbl ps)->∃more,H' b=some (.tbl (ps++more))
section
variable {fs Mj ex ex':List Addr}{H H1 H2:Hp}{h h1 h2 h':Heap}{a x e:Addr}{o:HO}
theorem Un.any (u:Un fs ex H H1 h h1) {b:Addr} {ob:Obj} (q:h.get? b=some ob) (n:H b=none) (hx:b∉ex):∃sl,h1.get? b=some {ob with slots:=sl}:=by
 by_cases hb:b∈fs
 · exact u.slot b ob q n hb hx
 · exact⟨ob.slots,u.keep b ob q n hb hx⟩
theorem Un.kept (k:∀b u,h.get? b=some u->h'.get? b=some u):Un fs ex H H h h' :=
 ⟨λb ob q _ _ _=>k b ob q,λb ob q _ _ _=>⟨ob.slots,k b ob q⟩,λ_ _ _ n _=>n,λb ob q _=>⟨ob,k b ob q⟩,λ_ _ q=>q,λ_ _ _ q=>q,λ_ ps q=>⟨#[],by rw[q];simp⟩⟩
theorem Un.refl:Un fs ex H H h h:=Un.kept λ_ _ q=>q
theorem Un.laid (k:∀b u,h.get? b=some u->h'.get? b=some u)(hp:h.objs.size<=a)(hn:H a=none):Un fs ex H (upd H a o) h h' where
 keep:=λb u q _ _ _=>k b u q
 slot:=λb u q _ _ _=>⟨u.slots,k b u q⟩
 free:=λb u q n _=>by rw[aq (Yk (Yo (XX q) hp))];exact n
 there:=λb u q _=>⟨u,k b u q⟩
 om:=λb xs q=>by rw[aq (ao q hn)];exact q
 nq:=λb u xs q=>by rw[aq (ao q hn)];exact q
 oh:=λb ps q=>⟨#[],by rw[aq (ao q hn),q];simp⟩
theorem Un.write (mu:J0 (H x))(he:e=x∨H e=some (.own x))(k:∀b u,b≠e->h.get? b=some u->h'.get? b=some u)(Og:∃u,h'.get? e=some u):Un fs ex H (upd H x o) h h':=by
 have hx:∀b,H b=none->b≠x:=λb n z=>by subst z;rw[n] at mu;exact mu
 have hb:∀b,H b=none->b≠e:=λb n z=>by
  subst z;rcases he with r|r
  · exact hx b n r
  · rw[n] at r;cases r
 have hm:∀b u,H b=some u->¬J0 (some u)->b≠x:=λb u q nm z=>by subst z;rw[q] at mu;exact nm mu
 refine⟨λb u q n _ _=>k b u (hb b n) q,λb u q n _ _=>⟨u.slots,k b u (hb b n) q⟩,λb u q n _=>by rw[aq (hx b n)];exact n,λb u q _=>?_,
  λb xs q=>by rw[aq (hm b _ q λz=>z)];exact q,λb u xs q=>by rw[aq (hm b _ q λz=>z)];exact q,λb ps q=>⟨#[],by rw[aq (hm b _ q λz=>z),q];simp⟩⟩
 by_cases NR:b=e
 · subst NR;exact Og
 · exact⟨u,k b u NR q⟩
end
def Kc (h:Heap)(H:Hp):List Addr:=(List.range h.objs.size).filter λa=>(H a).isSome
def tE (h:Heap)(H:Hp):Heap:=PySem.W.hideAll h (Kc h H)
theorem Ai (h:Heap)(H:Hp):(tE h H).objs.size=h.objs.size:=PySem.W.hideAll_size _ _
theorem A6 {h:Heap}{H:Hp}{b:Addr}{o:Obj}(e:h.get? b=some o)(n:H b=none):(tE h H).get? b=some o :=
 PySem.W.hideAll_get _ e λhm=>by
  have q:(H b).isSome=true:=(YR.mp hm).2;rw[n] at q;simp at q
theorem Ej {h:Heap}{H:Hp}{b:Addr}{o:Obj}(e:(tE h H).get? b=some o):h.get? b=some o/\H b=none:=by
 have e':h.get? b=some o:=PySem.W.of_hideAll (Kc h H) e;refine⟨e',?_⟩;cases q:H b with
 |none=>rfl
 |some x =>
  have hm:b∈Kc h H:=YR.mpr ⟨Zw.mpr (XX e'),by simp[q]⟩;have z:(tE h H).get? b=none:=PySem.W.hideAll_none (Kc h H) hm;rw[z] at e;cases e
structure Mod (K:aas)(mg:aau)(base:Heap):Prop where
 F6:K.In base
 glob:base.Ns mainGlobals mg
 blt:∃mb,base.Ns builtinsNs mb/\∀x:Str,x≠"__name__"->mb x=bootBuiltins x
 nolimit:base.NoLimit
structure Cx where
 prog:Program
 w:World
 K:aas
 mg:Str->Option Value
 base:Heap
 A:Around
 N:List Str
 kN:Shared
 Iv:Hp
 env:Env
 outer:List Env
 stack:List Env
 ex:List Addr
 fn:Str->Bool
 calm:Bool
 pn:aav
 xe:Value->Shared->Prop
def wj (l:List Env):List Addr:=l.filterMap (·.frame)
abbrev Cx.fs (X:Cx):List Addr:=wj X.outer
def Iu (sc:Scope)(x:Str):Prop:=sc.names.lookup x=some .local∨sc.names.lookup x=some .cell∨sc.names.lookup x=some .free
def Loc (sc:Scope)(x:Str):Prop:=sc.names.lookup x=some .local∨sc.names.lookup x=some .cell
def Look (env:Env)(h:Heap)(m:aau)(x:Str)(u:Value):Prop :=
 (env.kindOf x=some .local/\m x=some u)∨((env.kindOf x=some .cell∨env.kindOf x=some .free)/\∃c,env.cells.lookup x=some c/\h.IsCell c (some u))
structure Cx.Ok (X:Cx):Prop where
 mod:Mod X.K X.mg X.base
 kind:X.env.scope.kind=.function
 glob:X.env.globals=mainGlobals
 blt:X.env.builtins=builtinsNs
 above:X.kN.heap.objs.size<=X.env.locals
 inj:∀x y c,X.env.cells.lookup x=some c->X.env.cells.lookup y=some c->x=y
 has:∀x,(X.env.kindOf x=some .cell∨X.env.kindOf x=some .free)->∃c,X.env.cells.lookup x=some c
 Iq:∀x c,X.fn x=true->X.env.cells.lookup x=some c->X.kN.heap.objs.size<=c
 hd:X.calm=true->X.A.handled=none
 frames:X.A.frames=some X.stack
 Gg:X.stack=X.outer∨(X.stack=X.env::X.outer/\X.env.frame=some X.env.locals)
 IP:∀b∈X.ex,b≠X.env.locals/\∀x c,X.env.cells.lookup x=some c->c≠b
 bs:∀b o,X.base.get? b=some o->X.kN.heap.get? b=some o/\X.Iv b=none
 C_:X.base.objs.size<=X.kN.heap.objs.size
 zx:∀b o,X.base.get? b=some o->b∉X.ex
 zt:∀b∈X.ex,b∉X.fs
 ml:X.kN.heap.FunFrames X.base X.outer
 FY:∀b∈X.fs,X.Iv b=none
structure Inv (X:Cx)(pins:aav)(σ:List (Option V))(H:Hp)(s:Shared):Prop where
 ok:X.Ok
 os:s.os=X.kN.os
 bare:AllBare s.gens
 base:Un X.fs X.ex X.Iv H X.kN.heap s.heap
 loc:∃m,s.heap.Ns X.env.locals m/\∀(i:Nat) (x:Str) (v:V),X.N[i]?=some x->σ[i]?=some (some v)->Iu X.env.scope x->∃u,RelV v u/\Look X.env s.heap m x u
 cell:∀x c,X.env.cells.lookup x=some c->∃v,s.heap.IsCell c v
 free:H X.env.locals=none
 gj:∀x c,X.env.cells.lookup x=some c->H c=none
 pin:∀p∈X.pn++pins,s.heap.get? p.1=some p.2/\H p.1=none/\p.1≠X.env.locals/\p.1∉X.fs/\∀v,p.2.data≠.cell v
 bu:iy X.prog X.w H s.heap
 len:σ.length=X.N.length
section
variable {X:Cx}{pins:aav}{σ:List (Option V)}{H H':Hp}{s:Shared}{h':Heap}
theorem Cx.Ok.KH (ok:X.Ok) {b:Addr} {o:Obj} (e:X.base.get? b=some o):b∉X.fs:=λhb=>by
 have:=(ok.ml.mem hb).1;rw[e] at this;cases this
theorem Inv.bs (I:Inv X pins σ H s):∀b o,X.base.get? b=some o->s.heap.get? b=some o/\H b=none:=λb o e =>
 ⟨I.base.keep b o (I.ok.bs b o e).1 (I.ok.bs b o e).2 (I.ok.KH e) (I.ok.zx b o e),I.base.free b o (I.ok.bs b o e).1 (I.ok.bs b o e).2 (I.ok.zx b o e)⟩
theorem Inv.bk (I:Inv X pins σ H s):∀b o,X.base.get? b=some o->s.heap.get? b=some o:=λb o e=>(I.bs b o e).1
theorem Inv.mod (I:Inv X pins σ H s):Mod X.K X.mg X.base:=I.ok.mod
theorem Inv.mX (I:Inv X pins σ H s):X.K.In s.heap:=I.ok.mod.F6.keeps I.bk
theorem Inv.lt (I:Inv X pins σ H s):X.env.locals < s.heap.objs.size:=let ⟨_,hn,_⟩:=I.loc;hn.lt
theorem Inv.sz (I:Inv X pins σ H s):X.kN.heap.objs.size<=s.heap.objs.size:=Yu I.ok.above (Nat.le_of_lt I.lt)
theorem Inv.Le (I:Inv X pins σ H s){a:Addr}(h:s.heap.objs.size<=a):a∉X.fs:=λhb=>by
 obtain⟨_,o,ho,_⟩:=I.ok.ml.mem hb;exact absurd (Yo (XX ho) (Yu I.sz h)) (Y2 _)
theorem Inv.Ga (I:Inv X pins σ H s):∀x c,X.env.cells.lookup x=some c->c≠X.env.locals:=λx c e z=>by
 obtain⟨v,o,ho,hd⟩:=I.cell x c e;obtain⟨m,⟨o',es,ep,Ma,Mm,_⟩,_⟩:=I.loc;rw[z,Ma] at ho;cases ho;rw[Mm] at hd;cases hd
theorem Inv.ml (I:Inv X pins σ H s):s.heap.FunFrames X.base X.outer:=by
 have all:∀(l:List Env),(∀b∈wj l,b∈X.fs)->X.kN.heap.FunFrames X.base l->s.heap.FunFrames X.base l:=by
  intro l
  induction l with
  |nil=>intro _ _;trivial
  |cons env r ih =>
   intro hs hl;obtain⟨hk,⟨L,o,hf,hn,ho,hd⟩,hr⟩:=hl;have hL:L∈X.fs:=hs L (by unfold wj;rw[aag,hf];exact Yt);obtain⟨sl,e⟩:=I.base.slot L o ho (I.ok.FY L hL) hL λz=>I.ok.zt L z hL;exact⟨hk,⟨L,_,hf,hn,e,hd⟩,ih (λb hb=>hs b (by unfold wj;rw[aag,hf];exact X2 _ hb)) hr⟩
 exact all X.outer (λ_ hb=>hb) I.ok.ml
theorem Inv.stack (I:Inv X pins σ H s):s.heap.FunFrames X.base X.stack:=by
 rcases I.ok.Gg with e|⟨e,hf⟩
 · rw[e];exact I.ml
 · rw[e];obtain⟨m,hn,_⟩:=I.loc;refine .cons (by rw[I.ok.kind];decide) hf hn ?_ I.ml;exact Heap.get?_none_of_le (Yu I.ok.C_ I.ok.above)
theorem Inv.wO (I:Inv X pins σ H s):∀b∈wj X.stack,b∈X.env.locals::X.fs:=λb hb=>by
 rcases I.ok.Gg with e|⟨e,hf⟩
 · rw[e] at hb;exact X2 _ hb
 · rw[e] at hb;unfold wj at hb;rw[aag,hf] at hb;exact hb
theorem Inv.uz (I:Inv X pins σ H s):∀b∈wj X.stack,H b=none:=λb hb=>by
 rcases XN.mp (I.wO b hb) with e|hb
 · rw[e];exact I.free
 · obtain⟨_,o,ho,_⟩:=I.ok.ml.mem hb;exact I.base.free b o ho (I.ok.FY b hb) λz=>I.ok.zt b z hb
theorem xo {h:Heap}{b:Addr}(z:h.objs.size<=b):h.get? b=none:=by
 cases e:h.get? b with
 |none=>rfl
 |some o=>exact absurd (Yo (XX e) z) (Y2 _)
theorem Inv.Ge {g':Array GenState}{t':Nat}{d':Drawn}{ch:List Addr}(I:Inv X pins σ H s)
  (Mc:∀b∈ch,(b∈X.ex∨X.kN.heap.get? b=none)/\b≠X.env.locals/\(∀x c,X.env.cells.lookup x=some c->c≠b)/\∀p∈X.pn++pins,p.1≠b)
  (keep:∀b o,b≠X.env.locals->b∉X.fs->b∉ch->s.heap.get? b=some o->H b=none->h'.get? b=some o)
  (slot:∀b o,b≠X.env.locals->b∈X.fs->b∉ch->s.heap.get? b=some o->H b=none->∃sl,h'.get? b=some {o with slots:=sl})(free:∀b o,b∉ch->s.heap.get? b=some o->H b=none->H' b=none)
  (there:∀b o,b∉ch->s.heap.get? b=some o->∃o',h'.get? b=some o')
  (om:∀b xs,H b=some (.tup xs)->H' b=some (.tup xs))(nq:∀b o u,H b=some (.frz o u)->H' b=some (.frz o u))(oh:∀b ps,H b=some (.tbl ps)->∃more,H' b=some (.tbl (ps++more)))
  (ns:∀m,s.heap.Ns X.env.locals m->h'.Ns X.env.locals m)(bu:iy X.prog X.w H' h')(hg:AllBare g') :
  Inv X pins σ H' {s with heap:=h',gens:=g',drawn:=d',toks:=t'}:=by
 have SA:∀b o,X.kN.heap.get? b=some o->b≠X.env.locals:=λb o e=>Yk (Yo (XX e) I.ok.above);have PU:∀b o,X.kN.heap.get? b=some o->b∉X.ex->b∉ch:=λb o e hx hb=>by
  rcases (Mc b hb).1 with z|z
  · exact hx z
  · rw[z] at e;cases e
 have cellK:∀x c,X.env.cells.lookup x=some c->∀v,s.heap.IsCell c v->h'.IsCell c v:=λx c e v ⟨o,ho,hd⟩=>by
  have OR:c∉ch:=λz=>(Mc c z).2.2.1 x c e rfl;by_cases hc:c∈X.fs
  · obtain⟨sl,q⟩:=slot c o (I.Ga x c e) hc OR ho (I.gj x c e);exact⟨_,q,hd⟩
  · exact⟨o,keep c o (I.Ga x c e) hc OR ho (I.gj x c e),hd⟩
 refine⟨I.ok,I.os,hg,⟨λb o e n hb hx=>?_,λb o e n hb hx=>?_,λb o e n hx=>?_,λb o e hx=>?_,λb xs e=>om b xs (I.base.om b xs e),λb o xs e=>nq b o xs (I.base.nq b o xs e),λb ps e=>?_⟩,?_,λx c e=>?_,?_,λx c e=>?_,λp hp=>?_,bu,I.len⟩
 · exact keep b o (SA b o e) hb (PU b o e hx) (I.base.keep b o e n hb hx) (I.base.free b o e n hx)
 · obtain⟨sl,e1⟩:=I.base.slot b o e n hb hx;obtain⟨Ve,e2⟩:=slot b _ (SA b o e) hb (PU b o e hx) e1 (I.base.free b o e n hx);exact⟨Ve,e2⟩
 · obtain⟨o',e1⟩:=I.base.there b o e hx;exact free b o' (PU b o e hx) e1 (I.base.free b o e n hx)
 · obtain⟨o',e1⟩:=I.base.there b o e hx;exact there b o' (PU b o e hx) e1
 · obtain⟨m1,e1⟩:=I.base.oh b ps e;obtain⟨m2,e2⟩:=oh b _ e1;exact⟨m1++m2,by rw[e2,Array.append_assoc]⟩
 · obtain⟨m,hn,hl⟩:=I.loc;refine⟨m,ns m hn,λi x v e1 e2 e3=>?_⟩;obtain⟨u,r,l⟩:=hl i x v e1 e2 e3;refine⟨u,r,?_⟩;rcases l with l|⟨k,c,e,z⟩
   · exact .inl l
   · exact .inr ⟨k,c,e,cellK x c e _ z⟩
 · obtain⟨v,z⟩:=I.cell x c e;exact⟨v,cellK x c e v z⟩
 · obtain⟨m,⟨o,_,_,ho,_⟩,_⟩:=I.loc;exact free _ o (λz=>(Mc _ z).2.1 rfl) ho I.free
 · obtain⟨v,o,ho,hd⟩:=I.cell x c e;exact free c o (λz=>(Mc c z).2.2.1 x c e rfl) ho (I.gj x c e)
 · obtain⟨e,n,ne,nf,d⟩:=I.pin p hp;have OR:p.1∉ch:=λz=>(Mc p.1 z).2.2.2 p hp rfl;exact⟨keep p.1 p.2 ne nf OR e n,free p.1 p.2 OR e n,ne,nf,d⟩
theorem Inv.step {g':Array GenState}{t':Nat}{d':Drawn}{ch:List Addr}(I:Inv X pins σ H s)
  (Mc:∀b∈ch,(b∈X.ex∨X.kN.heap.objs.size<=b)/\b≠X.env.locals/\(∀x c,X.env.cells.lookup x=some c->c≠b)/\∀p∈X.pn++pins,p.1≠b)
  (keep:∀b o,b≠X.env.locals->b∉X.fs->b∉ch->s.heap.get? b=some o->H b=none->h'.get? b=some o)
  (slot:∀b o,b≠X.env.locals->b∈X.fs->b∉ch->s.heap.get? b=some o->H b=none->∃sl,h'.get? b=some {o with slots:=sl})(free:∀b o,b∉ch->s.heap.get? b=some o->H b=none->H' b=none)
  (there:∀b o,b∉ch->s.heap.get? b=some o->∃o',h'.get? b=some o')
  (om:∀b xs,H b=some (.tup xs)->H' b=some (.tup xs))(nq:∀b o u,H b=some (.frz o u)->H' b=some (.frz o u))(oh:∀b ps,H b=some (.tbl ps)->∃more,H' b=some (.tbl (ps++more)))
  (ns:∀m,s.heap.Ns X.env.locals m->h'.Ns X.env.locals m)(bu:iy X.prog X.w H' h')(hg:AllBare g') :
  Inv X pins σ H' {s with heap:=h',gens:=g',drawn:=d',toks:=t'}:=I.Ge (λb hb=>⟨(Mc b hb).1.imp id λz=>xo z,(Mc b hb).2⟩) keep slot free there om nq oh ns bu hg
theorem Inv.un {t':Nat}(I:Inv X pins σ H s)(u:Un X.fs [] H H' s.heap h')(bu:iy X.prog X.w H' h'):Inv X pins σ H' {s with heap:=h',toks:=t'}:=by
 obtain⟨m,⟨o,es,ep,ho,r⟩,_⟩:=id I.loc;obtain⟨sl,hL⟩:=u.any ho I.free (by simp);exact I.step (g':=s.gens) (d':=s.drawn) (ch:=[]) (λ_ z=>nomatch z) (λb o _ hb _ e n=>u.keep b o e n hb (by simp)) (λb o _ hb _ e n=>u.slot b o e n hb (by simp)) (λb o _ e n=>u.free b o e n (by simp)) (λb o _ e=>u.there b o e (by simp)) u.om u.nq u.oh (λm' hm=>by
  obtain⟨o',QR,QS,Ma,r'⟩:=hm;rw[ho] at Ma;cases Ma;exact⟨_,QR,QS,hL,r'⟩) bu I.bare
theorem Inv.Fz {g':Array GenState}{t':Nat}{d':Drawn}{ch:List Addr}(I:Inv X pins σ H s)(u:Un (wj X.stack) ch H H' s.heap h')(bu:iy X.prog X.w H' h')(hg:AllBare g')
  (Mc:∀b∈ch,(b∈X.ex∨X.kN.heap.get? b=none)/\b≠X.env.locals/\(∀x c,X.env.cells.lookup x=some c->c≠b)/\∀p∈X.pn++pins,p.1≠b) :
  Inv X pins σ H' {s with heap:=h',gens:=g',drawn:=d',toks:=t'}:=by
 obtain⟨m,⟨o,es,ep,ho,r⟩,_⟩:=id I.loc;obtain⟨sl,hL⟩:=u.any ho I.free λz=>(Mc _ z).2.1 rfl;exact I.Ge (ch:=ch) Mc (λb o hL hb hc e n=>u.keep b o e n (λz=>(XN.mp (I.wO b z)).elim hL hb) hc) (λb o _ _ hc e n=>u.any e n hc) (λb o hc e n=>u.free b o e n hc) (λb o hc e=>u.there b o e hc) u.om u.nq u.oh (λm' hm=>by
  obtain⟨o',QR,QS,Ma,r'⟩:=hm;rw[ho] at Ma;cases Ma;exact⟨_,QR,QS,hL,r'⟩) bu hg
theorem Inv.call {g':Array GenState}{t':Nat}{d':Drawn}{ch:List Addr}(I:Inv X pins σ H s)(u:Un (wj X.stack) ch H H' s.heap h')(bu:iy X.prog X.w H' h')(hg:AllBare g')
  (Mc:∀b∈ch,(b∈X.ex∨X.kN.heap.objs.size<=b)/\b≠X.env.locals/\(∀x c,X.env.cells.lookup x=some c->c≠b)/\∀p∈X.pn++pins,p.1≠b) :
  Inv X pins σ H' {s with heap:=h',gens:=g',drawn:=d',toks:=t'}:=I.Fz u bu hg (λb hb=>⟨(Mc b hb).1.imp id λz=>xo z,(Mc b hb).2⟩)
theorem Inv.turned {t':Nat}{it:Addr}(I:Inv X pins σ H s)(k:∀b o,b≠it->s.heap.get? b=some o->h'.get? b=some o)(hn:H it=none)(hL:it≠X.env.locals)
  (h1:it∈X.ex∨X.kN.heap.objs.size<=it)(h2:∀x c,X.env.cells.lookup x=some c->c≠it)(h3:∀p∈X.pn++pins,p.1≠it):Inv X pins σ H {s with heap:=h',toks:=t'}:=by
 have Nw:∀b u,H b=some u->b≠it:=λb u e z=>by rw[z,hn] at e;cases e
 refine I.step (g':=s.gens) (d':=s.drawn) (ch:=[it]) (λb hb=>?_) (λb o _ _ hc e _=>k b o (λz=>hc (by simp[z])) e) (λb o _ _ hc e _=>⟨o.slots,k b o (λz=>hc (by simp[z])) e⟩) (λ_ _ _ _ n=>n)
  (λb o hc e=>⟨o,k b o (λz=>hc (by simp[z])) e⟩) (λ_ _ e=>e) (λ_ _ _ e=>e) (λb ps e=>⟨#[],by rw[e];simp⟩) (λm hm=>?_) (λb u e=>?_) I.bare
 · have e:b=it:=by simpa using hb
   subst e;exact⟨h1,hL,h2,h3⟩
 · obtain⟨o,es,ep,ho,r⟩:=hm;exact⟨o,es,ep,k _ o (aaj hL) ho,r⟩
 · refine (I.bu b u e).kM (λc v hc q=>k c v ?_ q) (λ_ q=>q) λ_ _ q=>q;rcases hc with z|z
   · rw[z];exact Nw b u e
   · exact Nw c _ z
theorem Inv.tok (I:Inv X pins σ H s)(t:Nat):Inv X pins σ H {s with toks:=t}:=I.un (h':=s.heap) (t':=t) Un.refl I.bu
theorem Inv.kept {t':Nat}(I:Inv X pins σ H s)(k:∀b u,s.heap.get? b=some u->h'.get? b=some u):Inv X pins σ H {s with heap:=h',toks:=t'}:=I.un (Un.kept k) (I.bu.kept k)
theorem Inv.laid {a:Addr}{o:HO}{t':Nat}(I:Inv X pins σ H s)(k:∀b u,s.heap.get? b=some u->h'.get? b=some u)(hp:s.heap.objs.size<=a)(new:bM X.prog X.w (upd H a o) h' a o) :
  Inv X pins σ (upd H a o) {s with heap:=h',toks:=t'}:=I.un (Un.laid k hp (I.bu.fresh hp)) (I.bu.laid k hp new)
theorem Inv.write {x e:Addr}{o:HO}{t':Nat}(I:Inv X pins σ H s)(mu:J0 (H x))(he:e=x∨H e=some (.own x))(k:∀b u,b≠e->s.heap.get? b=some u->h'.get? b=some u)(Og:∃u,h'.get? e=some u)
  (new:bM X.prog X.w (upd H x o) h' x o):Inv X pins σ (upd H x o) {s with heap:=h',toks:=t'}:=I.un (Un.write mu he k Og) (I.bu.write mu he k Og new)
theorem Inv.weak {σ':List (Option V)}(I:Inv X pins σ H s)(hl:σ'.length=σ.length)(w:∀(i:Nat) v,σ'[i]?=some (some v)->σ[i]?=some (some v)):Inv X pins σ' H s :=
 ⟨I.ok,I.os,I.bare,I.base,let ⟨m,hn,OM⟩:=I.loc;⟨m,hn,λi x v e1 e2 e3=>OM i x v e1 (w i v e2) e3⟩,I.cell,I.free,I.gj,I.pin,I.bu,hl.trans I.len⟩
theorem Inv.mN {pins':aav}(I:Inv X pins σ H s)(h:∀p∈pins',s.heap.get? p.1=some p.2/\H p.1=none/\p.1≠X.env.locals/\p.1∉X.fs/\∀v,p.2.data≠.cell v):Inv X pins' σ H s :=
 ⟨I.ok,I.os,I.bare,I.base,I.loc,I.cell,I.free,I.gj,λp hp=>(Yw.mp hp).elim (λz=>I.pin p (List.mem_append_left _ z)) (h p),I.bu,I.len⟩
theorem o_ {N:List Str}(hN:N.Nodup){i j:Nat}{x:Str}(a:N[i]?=some x)(b:N[j]?=some x):i=j:=by
 obtain⟨h1,e1⟩:=XY.mp a;obtain⟨h2,e2⟩:=XY.mp b;exact (List.getElem_inj hN).mp (e1.trans e2.symm)
theorem sD {M:Model}{A:Around}{E:aat}{i:Nat}{x:Str}{v:V}{u:Value}{Q:Unit->Shared->Prop}(I:Inv X pins σ H s)(hN:X.N.Nodup)(hi:X.N[i]?=some x)(hx:Loc X.env.scope x)(r:RelV v u)
  (h:∀s',Inv X pins (σ.set i (some v)) H s'->(∃a,Heap.SameBut a s.heap s'.heap/\(a=X.env.locals∨X.env.cells.lookup x=some a))->Q () s')(hf:X.fn x=true∨X.env.scope.names.lookup x=some .local:=by first|exact .inl rfl|exact .inr rfl|assumption):wpAny M A (storeName X.env x u) Q E s:=by
 obtain⟨m,hn,hl⟩:=id I.loc;have QT:(X.env.scope.kind==.class||(X.env.scope.kind==.module&&X.env.locals != X.env.globals))=false:=by rw[I.ok.kind];rfl
 have hiσ:i < σ.length:=by rw[I.len];exact (XY.mp hi).1
 have Ga:=I.Ga;have tracked:∀{a:Addr} {h':Heap},(∃o,s.heap.get? a=some o/\H a=none)->Heap.SameBut a s.heap h'->iy X.prog X.w H h':=λ{a h'} ha hs b ob e=>by
  obtain⟨_,_,Md⟩:=ha;refine (I.bu b ob e).kM (λc w' hc q=>(hs.2 c ?_).trans q) (λ_ q=>q) λ_ _ q=>q;rintro rfl;rcases hc with rfl|hc
  · rw[Md] at e;cases e
  · rw[Md] at hc;cases hc
 rcases hx with hk|hk
 · refine wpAny_storeName_local hk hn (λh' M0 hs=>?_) QT;obtain⟨oL,_,_,Vf,_⟩:=id hn;refine h _ ⟨I.ok,I.os,I.bare,⟨λb o e n hb hx=>?_,λb o e n hb hx=>?_,I.base.free,λb o e hx=>?_,I.base.om,I.base.nq,I.base.oh⟩,⟨_,M0,λj y v' e1 e2 e3=>?_⟩,λy c e=>?_,I.free,I.gj,λp hp=>?_,tracked ⟨oL,Vf,I.free⟩ hs,by simpa using I.len⟩ ⟨_,hs,.inl rfl⟩
   · exact (hs.2 b (Yk (Yo (XX e) I.ok.above))).trans (I.base.keep b o e n hb hx)
   · obtain⟨sl,e1⟩:=I.base.slot b o e n hb hx;exact⟨sl,(hs.2 b (Yk (Yo (XX e) I.ok.above))).trans e1⟩
   · obtain⟨o',e1⟩:=I.base.there b o e hx;exact⟨o',(hs.2 b (Yk (Yo (XX e) I.ok.above))).trans e1⟩
   · by_cases hj:j=i
     · subst hj;rw[hi] at e1;cases e1;rw[Z1 hiσ] at e2;cases e2;exact⟨u,r,.inl ⟨hk,by simp⟩⟩
     · rw[List.getElem?_set_ne (aaj hj)] at e2;obtain⟨u',r',q⟩:=hl j y v' e1 e2 e3;refine⟨u',r',?_⟩;rcases q with ⟨k,e⟩|⟨k,c,e,z⟩
       · refine .inl ⟨k,?_⟩;have:y≠x:=λe=>hj (o_ hN e1 (e ▸ hi));simp[this,e]
       · exact .inr ⟨k,c,e,z.sameBut hs (Ga y c e)⟩
   · obtain⟨w',z⟩:=I.cell y c e;exact⟨w',z.sameBut hs (Ga y c e)⟩
   · obtain⟨e,n,ne,nf,d⟩:=I.pin p hp;exact⟨(hs.2 p.1 ne).trans e,n,ne,nf,d⟩
 · have QU:X.fn x=true:=by
    rcases hf with z|z
    · exact z
    · rw[z] at hk;cases hk
   obtain⟨c,hc⟩:=I.ok.has x (.inl hk);obtain⟨w',z⟩:=I.cell x c hc;refine wpAny_storeName_cell I.ok.kind hk hc z (λh' OF hs=>?_);obtain⟨oc,SD,QV⟩:=id z;refine h {s with heap:=h'} ⟨I.ok,I.os,I.bare,⟨λb o e n hb hx=>?_,λb o e n hb hx=>?_,I.base.free,λb o e hx=>?_,I.base.om,I.base.nq,I.base.oh⟩,⟨m,hn.sameBut hs (aaj (Ga x c hc)),λj y v' e1 e2 e3=>?_⟩,λy c' e=>?_,I.free,I.gj,λp hp=>?_,tracked ⟨oc,SD,I.gj x c hc⟩ hs,by simpa using I.len⟩ ⟨c,hs,.inr hc⟩
   · exact (hs.2 b (Yk (Yo (XX e) (I.ok.Iq x c QU hc)))).trans (I.base.keep b o e n hb hx)
   · obtain⟨sl,e1⟩:=I.base.slot b o e n hb hx;exact⟨sl,(hs.2 b (Yk (Yo (XX e) (I.ok.Iq x c QU hc)))).trans e1⟩
   · obtain⟨o',e1⟩:=I.base.there b o e hx;exact⟨o',(hs.2 b (Yk (Yo (XX e) (I.ok.Iq x c QU hc)))).trans e1⟩
   · by_cases hj:j=i
     · subst hj;rw[hi] at e1;cases e1;rw[Z1 hiσ] at e2;cases e2;exact⟨u,r,.inr ⟨.inl hk,c,hc,OF⟩⟩
     · rw[List.getElem?_set_ne (aaj hj)] at e2;obtain⟨u',r',q⟩:=hl j y v' e1 e2 e3;refine⟨u',r',?_⟩;rcases q with q|⟨k,c',e,z'⟩
       · exact .inl q
       · refine .inr ⟨k,c',e,z'.sameBut hs ?_⟩;rintro rfl;exact hj (o_ hN e1 (I.ok.inj _ _ _ e hc ▸ hi))
   · by_cases QW:c'=c
     · subst QW;exact⟨_,OF⟩
     · obtain⟨w2,z2⟩:=I.cell y c' e;exact⟨w2,z2.sameBut hs QW⟩
   · obtain⟨e,n,ne,nf,d⟩:=I.pin p hp;refine⟨(hs.2 p.1 ?_).trans e,n,ne,nf,d⟩;intro q;rw[q,SD] at e;have q':oc=p.2:=Yl e;exact d w' (by rw[←q'];exact QV)
theorem lR {M:Model}{A:Around}{E:aat}{i:Nat}{x:Str}{v:V}{u:Value}{Q:Unit->Shared->Prop}(I:Inv X pins σ H s)(hN:X.N.Nodup)(hi:X.N[i]?=some x)(hx:Loc X.env.scope x)(r:RelV v u)
  (h:∀s',Inv X pins (σ.set i (some v)) H s'->Q () s')(hf:X.fn x=true∨X.env.scope.names.lookup x=some .local:=by first|exact .inl rfl|exact .inr rfl|assumption):wpAny M A (storeName X.env x u) Q E s :=
 sD I hN hi hx r (λs' I' _=>h s' I') hf
theorem Inv.FG {s':Shared}{ch:List Addr}(I:Inv X pins σ H s)(ho:s'.os=s.os)(u:Un (wj X.stack) ch H H' s.heap s'.heap)(bu:iy X.prog X.w H' s'.heap)(hg:AllBare s'.gens)
  (Mc:∀b∈ch,(b∈X.ex∨X.kN.heap.get? b=none)/\b≠X.env.locals/\(∀x c,X.env.cells.lookup x=some c->c≠b)/\∀p∈X.pn++pins,p.1≠b):Inv X pins σ H' s':=by
 obtain⟨h',g',d',t',o'⟩:=s';have e:o'=s.os:=ho;subst e;exact I.Fz (g':=g') (t':=t') (d':=d') u bu hg Mc
theorem Inv.Fw {s':Shared}{ch:List Addr}(I:Inv X pins σ H s)(ho:s'.os=s.os)(u:Un (wj X.stack) ch H H' s.heap s'.heap)(bu:iy X.prog X.w H' s'.heap)(hg:AllBare s'.gens)
  (Mc:∀b∈ch,(b∈X.ex∨X.kN.heap.objs.size<=b)/\b≠X.env.locals/\(∀x c,X.env.cells.lookup x=some c->c≠b)/\∀p∈X.pn++pins,p.1≠b):Inv X pins σ H' s':=I.FG ho u bu hg (λb hb=>⟨(Mc b hb).1.imp id λz=>xo z,(Mc b hb).2⟩)
end
abbrev XK:=Value->Option Addr->Hp->Prop
abbrev St:=List (Option V)
abbrev VK:=V->Hp->Prop
abbrev TE:=St->Hp->VK->Prop
abbrev TT:=St->Hp->(Bool->Hp->Prop)->Prop
abbrev TA:=St->Hp->(List V->Hp->Prop)->Prop
structure Ends where
 nx:St->Hp->Prop
 rt:VK
 bk:St->Hp->Prop:=λ_ _=>False
 ct:St->Hp->Prop:=λ_ _=>False
abbrev TS:=Ends->St->Hp->Prop
def EP (X:Cx)(pins:aav)(σ:St)(Q:VK)(u:Value)(s':Shared):Prop:=∃v H',Inv X pins σ H' s'/\RelV v u/\Q v H'
def TP (X:Cx)(pins:aav)(σ:St)(Q:Bool->Hp->Prop)(b:Bool)(s':Shared):Prop:=∃H',Inv X pins σ H' s'/\Q b H'
def AP (X:Cx)(pins:aav)(σ:St)(Q:List V->Hp->Prop)(us:aaw)(s':Shared):Prop:=∃vs H',Inv X pins σ H' s'/\Vals vs us/\Q vs H'
def SP (X:Cx)(pins:aav)(D:Ends)(f:Flow)(s':Shared):Prop :=
 match f with
 |.next=>∃σ' H',Inv X pins σ' H' s'/\D.nx σ' H'
 |.brk=>∃σ' H',Inv X pins σ' H' s'/\D.bk σ' H'
 |.cont=>∃σ' H',Inv X pins σ' H' s'/\D.ct σ' H'
 |.ret u=>∃v σ' H',Inv X pins σ' H' s'/\RelV v u/\D.rt v H'
def PE (X:Cx)(e:Expr)(t:TE):Prop :=
 ∀(pins:aav) (s:Shared) (σ:St) (H:Hp) (Q:VK),Inv X pins σ H s->t σ H Q->wpAny (model X.prog X.w) X.A (eval e X.env) (EP X pins σ Q) X.xe s
def PT (X:Cx)(e:Expr)(t:TT):Prop :=
 ∀(pins:aav) (s:Shared) (σ:St) (H:Hp) (Q:Bool->Hp->Prop),Inv X pins σ H s->t σ H Q->wpAny (model X.prog X.w) X.A (isTrue e X.env (eval e X.env)) (TP X pins σ Q) X.xe s
def PW (X:Cx)(e:Expr)(t:TT):Prop :=
 ∀(whole:Sem Value) (pins:aav) (s:Shared) (σ:St) (H:Hp) (Q:Bool->Hp->Prop),Inv X pins σ H s->t σ H Q->wpAny (model X.prog X.w) X.A (isTrue e X.env whole) (TP X pins σ Q) X.xe s
theorem PW.pt {X:Cx}{e:Expr}{t:TT}(h:PW X e t):PT X e t:=h _
def PA (X:Cx)(es:List Expr)(t:TA):Prop :=
 ∀(pos:Pos) (pins:aav) (s:Shared) (σ:St) (H:Hp) (Q:List V->Hp->Prop),Inv X pins σ H s->t σ H Q->wpAny (model X.prog X.w) X.A (spliced (backTo pos (starEach es X.env))) (AP X pins σ Q) X.xe s
def PS (X:Cx)(st:Stmt)(t:TS):Prop :=
 ∀(pins:aav) (s:Shared) (σ:St) (H:Hp) (D:Ends),Inv X pins σ H s->t D σ H->wpAny (model X.prog X.w) X.A (exec st X.env) (SP X pins D) X.xe s
def qR (X:Cx)(st:List Stmt)(t:TS):Prop :=
 ∀(pins:aav) (s:Shared) (σ:St) (H:Hp) (D:Ends),Inv X pins σ H s->t D σ H->wpAny (model X.prog X.w) X.A (execs st X.env) (SP X pins D) X.xe s
def KW (X:Cx)(st:Stmt)(t:TS):Prop :=
 ∀(s:Shared) (σ:St) (H:Hp) (D:Ends),Inv X [] σ H s->t D σ H->wpAny (model X.prog X.w) X.A (exec st X.env) (SP X [] D) X.xe s
def B7 (X:Cx)(st:List Stmt)(t:TS):Prop :=
 ∀(s:Shared) (σ:St) (H:Hp) (D:Ends),Inv X [] σ H s->t D σ H->wpAny (model X.prog X.w) X.A (execs st X.env) (SP X [] D) X.xe s
theorem bA {α:Type}{t:Sem α}{Q Q':α->Shared->Prop}{M:Model}{A:Around}{E:aat}{s:Shared}(h:wpAny M A t Q E s)(hQ:∀a s,Q a s->Q' a s):wpAny M A t Q' E s:=YZ h hQ λ_ _ x=>x
section
variable {X:Cx}
def cJ (i:Nat):TE:=λσ H Q=>∃v,σ[i]?=some (some v)/\Q v H
def tC (v:V):TE:=λ_ H Q=>Q v H
theorem GL {i:Nat}{x:Str}{pos:Pos}(hN:X.N[i]?=some x)(hv:Iu X.env.scope x)(hd:(x==("__debug__":Str))=false:=by decide)(Mp:(x==("__classdict__":Str))=false:=by decide):PE X (.Name x pos) (cJ i):=by
 intro pins s σ H Q I h;obtain⟨v,e,h⟩:=h;obtain⟨m,hn,hl⟩:=I.loc;obtain⟨u,r,l⟩:=hl i x v hN e hv;have fin:EP X pins σ Q u s:=⟨v,H,I,r,h⟩;rcases l with ⟨hk,hm⟩|⟨hk,c,hc,Mx⟩
 · exact wpAny_Name (wpAny_loadName_local I.ok.kind hk hn hm fin) hd
 · rcases hk with hk|hk
   · exact wpAny_Name (wpAny_loadName_cell I.ok.kind hk hc Mx fin) hd
   · exact wpAny_Name (wpAny_loadName_free I.ok.kind hk hc Mx fin Mp) hd
theorem ax {i j pos}:PE X (.Constant (.int i) j pos) (tC (.int i)):=λ_ _ _ H _ I h=>wpAny_Constant_int ⟨.int i,H,I.tok _,⟨_,rfl⟩,h⟩
theorem mK {b j pos}:PE X (.Constant (.bool b) j pos) (tC (.bl b)):=λ_ _ _ H _ I h=>Constant_bool ⟨.bl b,H,I,rfl,h⟩
theorem cF {j pos}:PE X (.Constant .none j pos) (tC .b8):=λ_ _ _ H _ I h=>Constant_none ⟨.b8,H,I,rfl,h⟩
theorem bt {x j pos}:PE X (.Constant (.str x) j pos) (tC (.str x)):=λ_ _ _ H _ I h=>Calls.Constant_str ⟨.str x,H,I.tok _,⟨_,rfl⟩,h⟩
def Gl (X:Cx)(x:Str):Prop:=X.env.kindOf x=some .globalImplicit
theorem lY {E:aat}{pins:aav}{s:Shared}{σ:St}{H:Hp}{x:Str}{u:Value}{pos:Pos}{Q:aat}(I:Inv X pins σ H s)(hg:Gl X x)(hm:X.mg x=some u)(h:Q u s)
  (hd:(x==("__debug__":Str))=false:=by decide):wpAny (model X.prog X.w) X.A (eval (.Name x pos) X.env) Q E s :=
 Calls.Name_function_global I.ok.kind hg (Calls.loadGlobal_global (by rw[I.ok.glob];exact I.mod.glob.keeps I.bk) hm h) hd
theorem lz {E:aat}{pins:aav}{s:Shared}{σ:St}{H:Hp}{x:Str}{u:Value}{pos:Pos}{Q:aat}(I:Inv X pins σ H s)(hg:Gl X x)(hm:X.mg x=none)(hv:bootBuiltins x=some u)(h:Q u s)
  (hn:x≠"__name__":=by decide)(hd:(x==("__debug__":Str))=false:=by decide):wpAny (model X.prog X.w) X.A (eval (.Name x pos) X.env) Q E s:=by
 obtain⟨mb,h1,h2⟩:=I.mod.blt;exact Calls.Name_function_global I.ok.kind hg (Calls.loadGlobal_builtin (by rw[I.ok.glob];exact I.mod.glob.keeps I.bk) hm (by rw[I.ok.blt];exact h1.keeps I.bk) ((h2 x hn).trans hv) h) hd
theorem D1 {x:Str}{v:V}{u:Value}{pos:Pos}(hg:Gl X x)(hm:X.mg x=some u)(r:RelV v u)(hd:(x==("__debug__":Str))=false:=by decide):PE X (.Name x pos) (tC v) :=
 λ_ _ _ H _ I h=>lY I hg hm ⟨v,H,I,r,h⟩ hd
variable {a b:Expr}{ta tb:TE}{pos:Pos}
def PC (X:Cx) (op:CmpOp) (a b:Expr) (t:TE):Prop :=
 ∀(pins:aav) (s:Shared) (σ:St) (H:Hp) (Q:VK),Inv X pins σ H s->t σ H Q ->
  wpAny (model X.prog X.w) X.A (eval a X.env) (λv s₁=>wpAny (model X.prog X.w) X.A (eval b X.env) (λu s₂=>wpAny (model X.prog X.w) X.A (compareOp op v u) (EP X pins σ Q) X.xe s₂) X.xe s₁) X.xe s
def tB (t:TE):TT:=λσ H Q=>t σ H λx H1=>∃c,x=.bl c/\Q c H1
theorem HM {op:CmpOp}{t:TE}(h:PC X op a b t)(h1:behindInMarks op b=false:=by first|exact MQ _ (by decide) (by decide)|rfl):PE X (.Compare a [op] [b] pos) t:=λpins s σ H Q I hw=>wpAny_Compare1 (h pins s σ H Q I hw) h1
theorem pI {op:CmpOp}{t:TE}(h:PC X op a b t)(h1:behindInMarks op b=false:=by first|exact MQ _ (by decide) (by decide)|rfl):PT X (.Compare a [op] [b] pos) (tB t):=by
 intro pins s σ H Q I hw;refine wpAny_isTrue_Compare1 (bA (h pins s σ H _ I hw) λv s1 h1=>bA h1 λu s2 h2=>bA h2 λc s3 ⟨x,H1,I1,r1,q1⟩=>?_) h1;obtain⟨d,rfl,q⟩:=q1;cases r1;exact YW ⟨H1,I1,q⟩
theorem ib {e:Expr}{t:TE}(h:PE X e t)(he:∀whole,isTrue e X.env whole=(do let v ←whole;standAt e.pos;holding [v] (truthy v)):=by intro _;rfl):PT X e (tB t):=by
 intro pins s σ H Q I hw;refine isTrue_plain (bA (h pins s σ H _ I hw) λv s1 ⟨x,H1,I1,r1,q1⟩=>?_) (he _);obtain⟨d,rfl,q⟩:=q1;cases r1;exact YW ⟨H1,I1,q⟩
variable {tA PV:TT}{rest:List Expr}
def JV (t u:TT):TT:=λσ H Q=>t σ H λc H1=>if c=true then u σ H1 Q else Q false H1
def Lg (t u:TT):TT:=λσ H Q=>t σ H λc H1=>if c=true then Q true H1 else u σ H1 Q
def Jc (t:TT):TT:=λσ H Q=>t σ H λc H1=>Q (!c) H1
theorem oF (ha:PT X a tA):PW X (.BoolOp .And [a] pos) tA:=by
 intro wh pins s σ H Q I h;refine isTrue_and (bA (ha pins s σ H Q I h) λc s1 e=>?_);cases c with
 |true=>exact isTrue_and_nil e
 |false=>exact e
theorem cU (ha:PT X a tA):PW X (.BoolOp .Or [a] pos) tA:=by
 intro wh pins s σ H Q I h;refine isTrue_or (bA (ha pins s σ H Q I h) λc s1 e=>?_);cases c with
 |false=>exact isTrue_or_nil e
 |true=>exact e
theorem tV (ha:PT X a tA)(hb:PW X (.BoolOp .And (b::rest) pos) PV):PW X (.BoolOp .And (a::b::rest) pos) (JV tA PV):=by
 intro wh pins s σ H Q I h;refine isTrue_and (bA (ha pins s σ H _ I h) λc s1 ⟨H1,I1,q1⟩=>?_);cases c with
 |true=>exact hb wh pins s1 σ H1 Q I1 q1
 |false=>exact⟨H1,I1,q1⟩
theorem eD (ha:PT X a tA)(hb:PW X (.BoolOp .Or (b::rest) pos) PV):PW X (.BoolOp .Or (a::b::rest) pos) (Lg tA PV):=by
 intro wh pins s σ H Q I h;refine isTrue_or (bA (ha pins s σ H _ I h) λc s1 ⟨H1,I1,q1⟩=>?_);cases c with
 |true=>exact⟨H1,I1,q1⟩
 |false=>exact hb wh pins s1 σ H1 Q I1 q1
theorem cB (ha:PT X a tA):PT X (.UnaryOp .Not a pos) (Jc tA):=by
 intro pins s σ H Q I h;exact isTrue_not (ha pins s σ H (λc H1=>Q (!c) H1) I h)
def FV (ta tb:TE):TE:=λσ H Q=>ta σ H λx H1=>∃c,x=.bl c/\if c=true then tb σ H1 Q else Q (.bl false) H1
def JP (ta tb:TE):TE:=λσ H Q=>ta σ H λx H1=>∃c,x=.bl c/\if c=true then Q (.bl true) H1 else tb σ H1 Q
theorem yi {op}{t:TE}(h:PE X a t):PE X (.BoolOp op [a] pos) t:=λpins s σ H Q I hw=>BoolOp_one (h pins s σ H Q I hw)
theorem xE (ha:PE X a ta)(hb:PE X (.BoolOp .And (b::rest) pos) tb):PE X (.BoolOp .And (a::b::rest) pos) (FV ta tb):=by
 intro pins s σ H Q I h;refine BoolOp_and (bA (ha pins s σ H _ I h) λv s1 ⟨x,H1,I1,r1,q1⟩=>?_);obtain⟨c,rfl,q1⟩:=q1;cases r1;refine YW ?_;cases c with
 |true=>exact hb pins s1 σ H1 Q I1 q1
 |false=>exact⟨.bl false,H1,I1,rfl,q1⟩
theorem II (ha:PE X a ta)(hb:PE X (.BoolOp .Or (b::rest) pos) tb):PE X (.BoolOp .Or (a::b::rest) pos) (JP ta tb):=by
 intro pins s σ H Q I h;refine BoolOp_or (bA (ha pins s σ H _ I h) λv s1 ⟨x,H1,I1,r1,q1⟩=>?_);obtain⟨c,rfl,q1⟩:=q1;cases r1;refine YW ?_;cases c with
 |false=>exact hb pins s1 σ H1 Q I1 q1
 |true=>exact⟨.bl true,H1,I1,rfl,q1⟩
def LJ (t:TT)(ta tb:TE):TE:=λσ H Q=>t σ H λc H1=>if c=true then ta σ H1 Q else tb σ H1 Q
theorem Cn {c:Expr}(hc:PT X c tA)(ha:PE X a ta)(hb:PE X b tb):PE X (.IfExp c a b pos) (LJ tA ta tb):=by
 intro pins s σ H Q I h;refine wpAny_IfExp (bA (hc pins s σ H _ I h) λd s1 ⟨H1,I1,q1⟩=>?_);cases d with
 |true=>exact ha pins s1 σ H1 Q I1 q1
 |false=>exact hb pins s1 σ H1 Q I1 q1
end
def aO (K:aas)(H:Hp)(a:Addr)(xs:List V):Prop :=
 Rd H a (.lst xs) ∨
  ∃(o:Obj) (LO:Array Value) (n:Nat),K.lookup a=some o/\o.cls=.type "list"/\o.dict=none/\o.data=.seq LO n/\LO.size<=sizeLine/\Vals xs LO.toList
def b6 (K:aas)(H:Hp)(a:Addr)(xs:List V):Prop :=
 Rd H a (.tup xs) ∨
  ∃(o:Obj) (LO:Array Value) (n:Nat),K.lookup a=some o/\o.cls=.type "tuple"/\o.data=.seq LO n/\LO.size<=sizeLine/\Vals xs LO.toList
def Bx:Value->Option V
 |.none=>some .b8
 |.bool b=>some (.bl b)
 |.int i _=>some (.int i)
 |.str x _=>some (.str x)
 |.bytes b _=>some (.wg b)
 |.float b _=>some (.flt b)
 |.ref a=>some (.ref a)
 |.type n=>some (.ty n)
 |_=>none
theorem RelV.abs {x:V}{u:Value}(r:RelV x u):Bx u=some x:=by
 cases x with
 |b8=>cases r;rfl
 |bl _=>cases r;rfl
 |int _=>obtain⟨t,rfl⟩:=r;rfl
 |str _=>obtain⟨t,rfl⟩:=r;rfl
 |wg _=>obtain⟨t,rfl⟩:=r;rfl
 |flt _=>obtain⟨t,rfl⟩:=r;rfl
 |ref _=>cases r;rfl
 |ty _=>cases r;rfl
theorem RelV.inj {x y:V}{u:Value}(r:RelV x u)(q:RelV y u):x=y:=Yl (r.abs.symm.trans q.abs)
theorem Vals.inj:∀{xs ys:List V} {us:aaw},Vals xs us->Vals ys us->xs=ys
 |_,_,_,.nil,.nil=>rfl
 |_,_,_,.cons r t,.cons r' t'=>by rw[r.inj r',Vals.inj t t']
section
variable {X:Cx}{pins:aav}{σ:St}{H:Hp}{s:Shared}{a:Addr}{xs ys:List V}
theorem aO.of {K:aas} (h:H a=some (.lst xs)):aO K H a xs:=.inl (.inl h)
theorem b6.of {K:aas}(h:H a=some (.tup xs)):b6 K H a xs:=.inl (.inl h)
theorem Inv.list (I:Inv X pins σ H s)(h:aO X.K H a xs):∃LO:aaw,Vals xs LO/\PlainL s.heap a LO.toArray/\xs.length<=sizeLine:=by
 rcases h with h|⟨o,LO,n,hk,hc,hd,hs,hz,r⟩
 · obtain⟨z,LO,n,r,e⟩:=h.ok I.bu;exact⟨LO,r,⟨_,n,e,rfl,rfl,rfl⟩,z⟩
 · refine⟨LO.toList,r,⟨o,n,I.mX a o hk,hc,hd,by simpa using hs⟩,?_⟩;have e:=r.length;simp only[Zs] at e;omega
theorem Inv.tuple (I:Inv X pins σ H s)(h:b6 X.K H a xs):∃LO:aaw,Vals xs LO/\IsTup s.heap a LO.toArray/\xs.length<=sizeLine:=by
 rcases h with h|⟨o,LO,n,hk,hc,hs,hz,r⟩
 · obtain⟨z,LO,r,p⟩:=h.ok I.bu;exact⟨LO,r,p,z⟩
 · refine⟨LO.toList,r,⟨o,I.mX a o hk,hc,n,by simpa using hs⟩,?_⟩;have e:=r.length;simp only[Zs] at e;omega
theorem Inv.qI (I:Inv X pins σ H s)(h:aO X.K H a xs)(h':aO X.K H a ys):xs=ys:=by
 obtain⟨LO,r,⟨o,n,e,_,_,d⟩,_⟩:=I.list h;obtain⟨its',r',⟨o',n',e',_,_,d'⟩,_⟩:=I.list h';rw[e] at e';cases e';rw[d] at d';injection d' with d1 _;have:LO=its':=by simpa using YN Array.toList d1
 subst this;exact r.inj r'
theorem Inv.rW (I:Inv X pins σ H s)(h:b6 X.K H a xs)(h':b6 X.K H a ys):xs=ys:=by
 obtain⟨LO,r,⟨o,e,_,n,d⟩,_⟩:=I.tuple h;obtain⟨its',r',⟨o',e',_,n',d'⟩,_⟩:=I.tuple h';rw[e] at e';cases e';rw[d] at d';injection d' with d1 _;have:LO=its':=by simpa using YN Array.toList d1
 subst this;exact r.inj r'
end
abbrev Cx.iD (X:Cx)(E:aat):Cx:={X with xe:=E}
abbrev Cx.HS (X:Cx):Cx:=X.iD λ_ _=>False
theorem Cx.Ok.iD {X:Cx}(ok:X.Ok)(E:aat):(X.iD E).Ok :=
 ⟨ok.mod,ok.kind,ok.glob,ok.blt,ok.above,ok.inj,ok.has,ok.Iq,ok.hd,ok.frames,ok.Gg,ok.IP,ok.bs,ok.C_,ok.zx,ok.zt,ok.ml,ok.FY⟩
theorem Cx.Ok.dq {X:Cx}{E:aat}(ok:(X.iD E).Ok):X.Ok :=
 ⟨ok.mod,ok.kind,ok.glob,ok.blt,ok.above,ok.inj,ok.has,ok.Iq,ok.hd,ok.frames,ok.Gg,ok.IP,ok.bs,ok.C_,ok.zx,ok.zt,ok.ml,ok.FY⟩
section
variable {X:Cx}{pins:aav}{σ:St}{H:Hp}{s:Shared}{E:aat}
theorem Inv.iD (I:Inv X pins σ H s) (E:aat):Inv (X.iD E) pins σ H s:=⟨I.ok.iD E,I.os,I.bare,I.base,I.loc,I.cell,I.free,I.gj,I.pin,I.bu,I.len⟩
theorem Inv.dq (I:Inv (X.iD E) pins σ H s):Inv X pins σ H s:=⟨I.ok.dq,I.os,I.bare,I.base,I.loc,I.cell,I.free,I.gj,I.pin,I.bu,I.len⟩
theorem SP.dq {D:Ends}{f:Flow}{s':Shared}(h:SP (X.iD E) pins D f s'):SP X pins D f s':=by
 cases f with
 |next=>obtain⟨σ',H',I,q⟩:=h;exact⟨σ',H',I.dq,q⟩
 |brk=>obtain⟨σ',H',I,q⟩:=h;exact⟨σ',H',I.dq,q⟩
 |cont=>obtain⟨σ',H',I,q⟩:=h;exact⟨σ',H',I.dq,q⟩
 |ret u=>obtain⟨v,σ',H',I,r,q⟩:=h;exact⟨v,σ',H',I.dq,r,q⟩
theorem qR.HS {st:List Stmt}{t:TS}(h:qR X.HS st t):qR X st t:=λpins s σ H D I hw =>
 YZ (h pins s σ H D (I.iD _) hw) (λ_ _ q=>q.dq) λ_ _ z=>False.elim z
end
section
variable {X:Cx}{st:Stmt}{rest:List Stmt}{t u:TS}{e:Expr}{te:TE}{pos:Pos}
def Jz:TS:=λD σ H=>D.nx σ H
def EC (t u:TS):TS:=λD σ H=>t {D with nx:=u D} σ H
theorem aB:qR X [] Jz:=λ_ _ σ H _ I h=>ZH ⟨σ,H,I,h⟩
theorem af (h1:PS X st t)(h2:qR X rest u):qR X (st::rest) (EC t u):=by
 intro pins s σ H D I h;refine wpAny_execs_cons (bA (h1 pins s σ H {D with nx:=u D} I h) λf s1 q=>?_);cases f with
 |next =>
  obtain⟨σ',H',I',q⟩:=q;exact h2 pins s1 σ' H' D I' q
 |ret v=>exact q
 |brk=>exact q
 |cont=>exact q
theorem ak (h1:PS X st t):qR X [st] t:=by
 intro pins s σ H D I h;refine wpAny_execs_cons (bA (h1 pins s σ H D I h) λf s1 q=>?_);cases f with
 |next=>exact ZH q
 |ret v=>exact q
 |brk=>exact q
 |cont=>exact q
theorem Inv.quiet {pins:aav}{σ:St}{H:Hp}{s:Shared}(I:Inv X pins σ H s):interactive X.env=false:=by simp[interactive,I.ok.kind]
def JG (te:TE):TS:=λD σ H=>te σ H λ_ H1=>D.nx σ H1
theorem cX (he:PE X e te)(hs:swapsWith e none pos.line X.env=pure false:=by rfl):PS X (.Expr e pos) (JG te):=by
 intro pins s σ H D I h;exact wpAny_Expr_any (bA (he pins s σ H _ I h) λv s1 ⟨x,H1,I1,r1,q1⟩=>⟨σ,H1,I1,q1⟩) I.quiet hs
def EV (te:TE):TS:=λD σ H=>te σ H D.rt
theorem az (he:PE X e te):PS X (.Return (some e) pos) (EV te):=by
 intro pins s σ H D I h;exact wpAny_Return_some (bA (he pins s σ H _ I h) λv s1 ⟨x,H1,I1,r1,q1⟩=>⟨x,σ,H1,I1,r1,q1⟩)
def Jl (c:TT)(t u:TS):TS:=λD σ H=>c σ H λb H1=>if b=true then t D σ H1 else u D σ H1
theorem aP {c:Expr}{a b:List Stmt}{tc:TT}(hc:PT X c tc)(ha:qR X a t)(hb:qR X b u):PS X (.If c a b pos) (Jl tc t u):=by
 intro pins s σ H D I h;refine wpAny_If (bA (hc pins s σ H _ I h) λd s1 ⟨H1,I1,q1⟩=>?_);cases d with
 |true=>exact ha pins s1 σ H1 D I1 q1
 |false=>exact hb pins s1 σ H1 D I1 q1
end
abbrev TG:=V->St->Hp->(St->Hp->Prop)->Prop
abbrev Im:=List V->St->Hp->(St->Hp->Prop)->Prop
def PG (X:Cx)(target:Expr)(t:TG):Prop :=
 ∀(pins:aav) (s:Shared) (σ:St) (H:Hp) (v:V) (u:Value) (Q:St->Hp->Prop),Inv X pins σ H s->RelV v u->t v σ H Q ->
  wpAny (model X.prog X.w) X.A (assign target X.env u) (λ_ s'=>∃σ' H',Inv X pins σ' H' s'/\Q σ' H') X.xe s
def J5 (X:Cx)(ts:List Expr)(t:Im):Prop :=
 ∀(pins:aav) (s:Shared) (σ:St) (H:Hp) (vs:List V) (us:aaw) (Q:St->Hp->Prop),Inv X pins σ H s->Vals vs us->t vs σ H Q ->
  wpAny (model X.prog X.w) X.A (assignInOrder ((assignEach ts X.env).map (·.2)) us) (λ_ s'=>∃σ' H',Inv X pins σ' H' s'/\Q σ' H') X.xe s
abbrev Gr:=V->V->V->Hp->(Hp->Prop)->Prop
def Jf (X:Cx)(t:Gr):Prop :=
 ∀(pins:aav) (s:Shared) (σ:St) (H:Hp) (o i v:V) (ov iv u:Value) (Q:Hp->Prop),Inv X pins σ H s->RelV o ov->RelV i iv->RelV v u->t o i v H Q ->
  wpAny (model X.prog X.w) X.A (setItem ov iv u) (λ_ s'=>∃H',Inv X pins σ H' s'/\Q H') X.xe s
abbrev Ir:=V->V->Hp->VK->Prop
def Kq (X:Cx)(op:Operator)(t:Ir):Prop :=
 ∀(pins:aav) (s:Shared) (σ:St) (H:Hp) (x y:V) (v u:Value) (Q:VK),Inv X pins σ H s->RelV x v->RelV y u->t x y H Q ->
  wpAny (model X.prog X.w) X.A (inplaceOp op v u) (EP X pins σ Q) X.xe s
section
variable {X:Cx}{pos:Pos}
def fB (i:Nat):TG:=λv σ H Q=>Q (σ.set i (some v)) H
theorem sO {i:Nat}{x:Str}(hN:X.N.Nodup)(hi:X.N[i]?=some x)(hx:Loc X.env.scope x)(hf:X.fn x=true∨X.env.scope.names.lookup x=some .local:=by first|exact .inl rfl|exact .inr rfl|assumption):PG X (.Name x pos) (fB i):=by
 intro pins s σ H v u Q I r h;exact wpAny_assign_Name (lR I hN hi hx r (λs' I'=>⟨_,H,I',h⟩) hf)
def E1:Im:=λvs σ H Q=>vs=[]/\Q σ H
def pK (t:TG)(u:Im):Im:=λvs σ H Q=>∃v r,vs=v::r/\t v σ H λσ' H'=>u r σ' H' Q
theorem jh:J5 X [] E1:=by
 intro pins s σ H vs us Q I r h;obtain⟨e,h⟩:=h;subst e;cases r;exact assignInOrder_nil ⟨σ,H,I,h⟩
theorem cg {e:Expr}{es:List Expr}{t:TG}{u:Im}(h1:PG X e t)(h2:J5 X es u)
  (hs:(assignEach (e::es) X.env).map (·.2)=assign e X.env::(assignEach es X.env).map (·.2):=by rfl):J5 X (e::es) (pK t u):=by
 intro pins s σ H vs us Q I r h;obtain⟨v,vr,e1,h⟩:=h;subst e1;cases r with
 |cons r rr =>
  rw[hs];refine assignInOrder_cons (bA (h1 pins s σ H _ _ _ I r h) λ_ s1 ⟨σ1,H1,I1,q1⟩=>?_);exact h2 pins s1 σ1 H1 _ _ Q I1 rr q1
def EH (K:aas)(n:Nat)(t:Im):TG:=λv σ H Q=>∃a xs,v=.ref a/\b6 K H a xs/\xs.length=n/\t xs σ H Q
theorem lD {es:List Expr}{k:Nat}{t:Im}{n:Nat}(hc:X.calm=true)(h:J5 X es t)
  (hn:(assignEach es X.env).length=n:=by rfl)(Ms:(assignEach es X.env).findIdx? (·.1)=none:=by rfl):PG X (.Tuple es k pos) (EH X.K n t):=by
 intro pins s σ H v u Q I r hw;obtain⟨a,xs,e1,hq,hl,hw⟩:=hw;subst e1;cases r;obtain⟨LO,rv,ht,hz⟩:=I.tuple hq;refine assign_Tuple_tuple (I.ok.hd hc) ht (by simp[hn,←hl,rv.length]) Ms λh' hx=>?_;have I1:Inv X pins σ H {s with heap:=h'}:=I.kept (t':=s.toks) λb o e=>hx b o (Yk (XX e)) e;exact h pins _ σ H xs _ Q I1 (by simpa using rv) hw
def yf (te:TE)(g:TG):TS:=λD σ H=>te σ H λx H1=>g x σ H1 D.nx
theorem BR {tg e:Expr}{te:TE}{g:TG}(he:PE X e te)(hg:PG X tg g)(hs:swapsWithSole [tg] e pos.line X.env=pure false:=by rfl)(hw:swappedStores [tg] e X.env=pure none:=by rfl)
  (h1:(assignEach [tg] X.env).map (·.2)=[assign tg X.env]:=by rfl):PS X (.Assign [tg] e pos) (yf te g):=by
 intro pins s σ H D I h;refine wpAny_Assign_stores (bA (he pins s σ H _ I h) λv s1 ⟨x,H1,I1,r1,q1⟩=>?_) hs hw;rw[h1];exact bA (hg pins s1 σ H1 x v _ I1 r1 q1) λ_ s2 q=>q
theorem o4 {i:Nat}{x:Str}{e:Expr}{te:TE}{pos':Pos}(hN:X.N.Nodup)(hi:X.N[i]?=some x)(hx:Loc X.env.scope x)(he:PE X e te)(hs:swapsWith e (some (.Name x pos')) pos.line X.env=pure false:=by rfl)(hf:X.fn x=true∨X.env.scope.names.lookup x=some .local:=by first|exact .inl rfl|exact .inr rfl|assumption) :
  PS X (.Assign [.Name x pos'] e pos) (yf te (fB i)):=by
 intro pins s σ H D I h;refine wpAny_Assign_Name (bA (he pins s σ H _ I h) λv s1 ⟨y,H1,I1,r1,q1⟩=>?_) hs;exact lR I1 hN hi hx r1 (λs2 I2=>⟨_,H1,I2,q1⟩) hf
def KP (i:Nat)(te:TE)(ti:Ir):TS:=λD σ H=>∃x,σ[i]?=some (some x)/\te σ H λy H1=>ti x y H1 λz H2=>D.nx (σ.set i (some z)) H2
theorem BV {i:Nat}{x:Str}{e:Expr}{te:TE}{op:Operator}{ti:Ir}{pos':Pos}(hN:X.N.Nodup)(hi:X.N[i]?=some x)(hx:Loc X.env.scope x)(he:PE X e te)(ho:Kq X op ti)(hf:X.fn x=true∨X.env.scope.names.lookup x=some .local:=by first|exact .inl rfl|exact .inr rfl|assumption) :
  PS X (.AugAssign (.Name x pos') op e pos) (KP i te ti):=by
 intro pins s σ H D I h;obtain⟨v,e1,h⟩:=h;obtain⟨m,hn,hl⟩:=I.loc;have Vg:Iu X.env.scope x:=by rcases hx with k|k;exact .inl k;exact .inr (.inl k)
 obtain⟨u,r,l⟩:=hl i x v hi e1 Vg;refine wpAny_AugAssign_Name ?_;have go:wpAny (model X.prog X.w) X.A (eval e X.env) (λw s₂=>wpAny (model X.prog X.w) X.A (inplaceOp op u w) (λr s₃=>wpAny (model X.prog X.w) X.A (storeName X.env x r) (λ_=>SP X pins D .next) X.xe s₃) X.xe s₂) X.xe s:=by
  refine bA (he pins s σ H _ I h) λw s1 ⟨y,H1,I1,r1,q1⟩=>?_;refine bA (ho pins s1 σ H1 v y u w _ I1 r r1 q1) λz s2 ⟨zv,H2,I2,r2,q2⟩=>?_;exact lR I2 hN hi hx r2 (λs3 I3=>⟨_,H2,I3,q2⟩) hf
 rcases l with ⟨hk,hm⟩|⟨hk,c,hc,Mx⟩
 · exact wpAny_loadName_local I.ok.kind hk hn hm go
 · rcases hk with hk|hk
   · exact wpAny_loadName_cell I.ok.kind hk hc Mx go
   · rcases hx with k|k
     · have:X.env.scope.names.lookup x=some .free:=hk;rw[k] at this;cases this
     · have:X.env.scope.names.lookup x=some .free:=hk;rw[k] at this;cases this
def IZ (to ti te:TE)(Nb:V->V->Hp->VK->Prop)(PX:Ir)(Nc:Gr):TS:=λD σ H=>to σ H λo H1=>ti σ H1 λi H2=>Nb o i H2 λx H3=>te σ H3 λy H4=>PX x y H4 λz H5=>Nc o i z H5 λH6=>D.nx σ H6
def JC (X:Cx)(t:V->V->Hp->VK->Prop):Prop :=
 ∀(pins:aav) (s:Shared) (σ:St) (H:Hp) (o i:V) (ov iv:Value) (Q:VK),Inv X pins σ H s->RelV o ov->RelV i iv->t o i H Q ->
  wpAny (model X.prog X.w) X.A (getItem ov iv) (EP X pins σ Q) X.xe s
theorem Fv {o i e:Expr}{to ti te:TE}{Nb:V->V->Hp->VK->Prop}{PX:Ir}{Nc:Gr}{op:Operator}{L6:Pos}(ho:PE X o to)(hi:PE X i ti)(hg:JC X Nb)(he:PE X e te)(hp:Kq X op PX)(hs:Jf X Nc)
  (ha:∀ov iv new,augStore i ov iv new=(do holding [new,ov,iv] (setItem ov iv new);release [new,ov,iv] [];pure .next):=by intros;rfl):PS X (.AugAssign (.Subscript o i L6) op e pos) (IZ to ti te Nb PX Nc):=by
 intro pins s σ H D I h;refine wpAny_AugAssign_SubscriptAny (bA (ho pins s σ H _ I h) λov s1 ⟨x1,H1,I1,r1,q1⟩=>?_) ha;refine bA (hi pins s1 σ H1 _ I1 q1) λiv s2 ⟨x2,H2,I2,r2,q2⟩=>?_;refine bA (hg pins s2 σ H2 x1 x2 ov iv _ I2 r1 r2 q2) λold s3 ⟨x3,H3,I3,r3,q3⟩=>?_;refine bA (he pins s3 σ H3 _ I3 q3) λv s4 ⟨x4,H4,I4,r4,q4⟩=>?_;refine bA (hp pins s4 σ H4 x3 x4 old v _ I4 r3 r4 q4) λnew s5 ⟨x5,H5,I5,r5,q5⟩=>?_;exact bA (hs pins s5 σ H5 x1 x2 x5 ov iv new _ I5 r1 r2 r5 q5) λ_ s6 ⟨H6,I6,q6⟩=>⟨σ,H6,I6,q6⟩
def LA (f:Int->Int->Int):Ir:=λx y H Q=>∃i j,x=.int i/\y=.int j/\Q (.int (f i j)) H
theorem B8:Kq X .Add (LA λi j=>i+j):=by
 intro pins s σ H x y v u Q I r1 r2 h;obtain⟨i,j,e1,e2,q⟩:=h;subst e1;subst e2;obtain⟨t,rfl⟩:=r1;obtain⟨t',rfl⟩:=r2;exact iadd_int ⟨.int _,H,I.tok _,⟨_,rfl⟩,q⟩
end
section
variable {X:Cx}{pos:Pos}
def xA (c:TT) (tb:TS):TS:=λD σ H=>∃W:Nat->St->Hp->Prop,(∃m,W m σ H)/\∀m σ H,W m σ H ->
 c σ H λb H1=>if b=true then ∃N:St->Hp->Prop,(∀σ' H',N σ' H'->∃m',m' < m/\W m' σ' H')/\tb {D with nx:=N,ct:=N,bk:=D.nx} σ H1 else D.nx σ H1
theorem BZ {c:Expr}{body:List Stmt}{tc:TT}{tb:TS}(hp:PassesOwn (model X.prog X.w) X.A X.env X.xe)(hc:PT X c tc)(hb:qR X body tb):PS X (.While c body [] pos) (xA tc tb):=by
 intro pins s σ H D I h;obtain⟨W,⟨m0,w0⟩,turn⟩:=h;refine wpAny_While (codeAny_whileLoop (λn s'=>∃σ' H',Inv X pins σ' H' s'/\W n σ' H') ?_ m0 ⟨σ,H,I,w0⟩);rintro n s1 ⟨σ1,H1,I1,w1⟩;refine Y1 hp (bA (hc pins s1 σ1 H1 _ I1 (turn n σ1 H1 w1)) λb s2 ⟨H2,I2,q2⟩=>?_);cases b with
 |true =>
  obtain⟨N,hN,q2⟩:=q2;rw[XJ rfl];refine Y1 hp (bA (hb pins s2 σ1 H2 _ I2 q2) λf s3 q3=>?_);cases f with
  |next =>
   obtain⟨σ3,H3,I3,n3⟩:=q3;obtain⟨m',hm,w3⟩:=hN σ3 H3 n3;exact⟨m',hm,σ3,H3,I3,w3⟩
  |cont =>
   obtain⟨σ3,H3,I3,n3⟩:=q3;obtain⟨m',hm,w3⟩:=hN σ3 H3 n3;exact⟨m',hm,σ3,H3,I3,w3⟩
  |brk=>exact q3
  |ret v=>exact q3
 |false =>
  rw[XI X8];exact ZH ⟨σ1,H2,I2,q2⟩
end
structure It where
 go:Nat->Hp->Prop
 we:Nat->Hp->V->Hp->Prop
 stop:Nat->Hp->Prop
def mY (X:Cx)(pins:aav)(H:Hp)(b:Addr):Prop :=
 H b=none/\b≠X.env.locals/\b∉X.fs/\(b∈X.ex∨X.kN.heap.objs.size<=b)/\(∀x c,X.env.cells.lookup x=some c->c≠b)/\∀p∈X.pn++pins,p.1≠b
theorem Inv.xY {X:Cx}{pins:aav}{σ:St}{H H':Hp}{s:Shared}{b:Addr}(I:Inv X pins σ H s)(hb:s.heap.objs.size<=b)(hn:H' b=none):mY X pins H' b:=by
 refine⟨hn,Nat.ne_of_gt (Yo I.lt hb),I.Le hb,.inr (Yu I.sz hb),λx c e z=>?_,λp hp z=>?_⟩
 · obtain⟨v,q⟩:=I.cell x c e;exact absurd (Yo q.lt (by rw[z];exact hb)) (Y2 _)
 · exact absurd (Yo (XX (I.pin p hp).1) (by rw[z];exact hb)) (Y2 _)
structure Turn (P:Program)(w:World)(K:aas)(tg:Expr)(J:It)(fp:List Addr)(it:Addr)(tn:Nat->Heap->Prop):Prop where
 mem:it∈fp
 obj:∀i h,tn i h->∀b∈fp,∃o,h.get? b=some o/\∀v,o.data≠.cell v
 keep:∀i h h',tn i h->(∀b∈fp,∀o,h.get? b=some o->h'.get? b=some o)->tn i h'
 item:∀(X:Cx),X.prog=P->X.w=w->X.K=K->X.calm=true->∀(i:Nat) (pins:aav) (s:Shared) (σ:St) (H:Hp) (E:aat),Inv X pins σ H s->(∀b∈fp,mY X pins H b)->tn i s.heap->J.go i H ->
  wpAny (model P w) X.A (pyNext (.ref it)) (λr s1=>∃u,r=some u /\
   wpAny (model P w) X.A (letOwnedTupleGo tg (.ref it) u) (λ_ s2=>∃x H',Inv X pins σ H' s2/\RelV x u/\J.we i H x H'/\tn (i+1) s2.heap/\∀b∈fp,H' b=none) E s1) E s
 done:∀(X:Cx),X.prog=P->X.w=w->X.K=K->X.calm=true->∀(i:Nat) (pins:aav) (s:Shared) (σ:St) (H:Hp) (E:aat),Inv X pins σ H s->(∀b∈fp,mY X pins H b)->tn i s.heap->J.stop i H ->
  wpAny (model P w) X.A (pyNext (.ref it)) (λr s1=>r=none/\Inv X pins σ H s1) E s
 self:∀(A:Around) (i:Nat) (s:Shared) (Q:aat) (E:aat),tn i s.heap->Q (.ref it) s->wpAny (model P w) A (pyIter (.ref it)) Q E s
abbrev TI:=St->Hp->(It->Hp->Prop)->Prop
def K4 (X:Cx)(pins:aav)(σ:St)(tg:Expr)(R:It->Hp->Prop)(PY:Value)(s2:Shared):Prop :=
 ∃(it:Addr) (fp:List Addr) (tn:Nat->Heap->Prop) (J:It) (H':Hp),PY=.ref it/\Inv X pins σ H' s2/\Turn X.prog X.w X.K tg J fp it tn/\tn 0 s2.heap/\(∀b∈fp,mY X pins H' b)/\R J H'
def PI (X:Cx)(tg iter:Expr)(wi:TI):Prop :=
 ∀(pins:aav) (s:Shared) (σ:St) (H:Hp) (R:It->Hp->Prop),Inv X pins σ H s->wi σ H R ->
  wpAny (model X.prog X.w) X.A (eval iter X.env) (λv s1=>wpAny (model X.prog X.w) X.A (pyIter v) (K4 X pins σ tg R) X.xe s1) X.xe s
theorem vn {M:Model}{A:Around}{E:aat}{s:Shared}{tg:Expr}{it:Addr}{u:Value}{o:Obj}{n:String}{vs:Array Value}{Q:Unit->Shared->Prop}(ho:s.heap.get? it=some o)(hc:o.cls=.type n)(hd:o.data=.fields vs)
  (hn:["enumerate","zip","dict_itemiterator","dict_reverseitemiterator","odict_iterator","itertools.zip_longest","itertools.pairwise"].contains n=false)(hQ:Q () s):wpAny M A (letOwnedTupleGo tg (.ref it) u) Q E s:=by
 unfold letOwnedTupleGo;cases tg <;> first
  |exact XQ hQ
  |(cases u <;> first
    |exact XQ hQ
    |(refine XG (wpAny_load ho ?_)
      rw[hc,hd];show wpAny M A (if (["enumerate","zip","dict_itemiterator","dict_reverseitemiterator","odict_iterator","itertools.zip_longest","itertools.pairwise"].contains n&&vs[0]?==some (rawInt _))=true then _ else _) Q E s;rw[XI (by intro h;rw[hn,Bool.false_and] at h;cases h)];exact XQ hQ))
def C8 (K:aas)(a:Addr):It :=
 ⟨λi H=>∃xs x,aO K H a xs/\xs[i]?=some x,λi H x H'=>H'=H/\∀xs,aO K H a xs->xs[i]?=some x,λi H=>∃xs,aO K H a xs/\xs.length<=i⟩
def IJ (K:aas)(a:Addr):It :=
 ⟨λi H=>∃xs x,b6 K H a xs/\xs[i]?=some x,λi H x H'=>H'=H/\∀xs,b6 K H a xs->xs[i]?=some x,λi H=>∃xs,b6 K H a xs/\xs.length<=i⟩
def AH (lo:Int)(n:Nat):It:=⟨λi _=>i < n,λi H x H'=>H'=H/\x=.int (lo+i),λi _=>n<=i⟩
theorem zZ {P:Program}{w:World}{K:aas}{tg:Expr}(a it:Addr):Turn P w K tg (C8 K a) [it] it (λi h=>h.IsListIter it a i) where
 mem:=by simp
 obj:=λi h st b hb=>by
  have e:b=it:=by simpa using hb
  subst e;obtain⟨o,e,c,d⟩:=st;exact⟨o,e,λv z=>by rw[d] at z;cases z⟩
 keep:=λi h h' st k=>st.at λo e=>k it (by simp) o e
 item:=by
  intro X hP hw hK hc i pins s σ H E I hf st hg;subst hP hw hK;obtain⟨xs,x,hq,hx⟩:=hg;obtain⟨LO,rv,p,hz⟩:=I.list hq;obtain⟨u,hu,ru⟩:=rv.get hx;obtain⟨f0,f1,f2,f3,f4,f5⟩:=hf it (by simp);refine wpAny_pyNext_list_item st p.isList (x:=u) (by simpa using hu) λh' My sb=>?_;have I1:Inv X pins σ H {s with heap:=h'}:=I.turned (t':=s.toks) (λb o hb e=>(sb.2 b hb).trans e) f0 f1 f3 f4 f5;obtain⟨o,e,c,d⟩:=id My;exact⟨u,rfl,vn (s:={s with heap:=h'}) e c d (by decide) ⟨x,H,I1,ru,⟨rfl,λys hy=>by rw[I.qI hy hq];exact hx⟩,My,λb hb=>(hf b hb).1⟩⟩
 done:=by
  intro X hP hw hK hc i pins s σ H E I hf st hg;subst hP hw hK;obtain⟨xs,hq,hx⟩:=hg;obtain⟨LO,rv,p,hz⟩:=I.list hq;obtain⟨f0,f1,f2,f3,f4,f5⟩:=hf it (by simp);have hl:=rv.length;exact wpAny_pyNext_list_end (I.ok.hd hc) st p.isList (by simp;omega) λh' eb=>⟨rfl,I.turned (t':=s.toks) (λb o hb e=>eb b o hb e) f0 f1 f3 f4 f5⟩
 self:=λ_ _ _ _ _ st h=>wpAny_pyIter_listiter st h
theorem yg {P:Program}{w:World}{K:aas}{tg:Expr}(a it:Addr):Turn P w K tg (IJ K a) [it] it (λi h=>h.IsTupleIter it a i) where
 mem:=by simp
 obj:=λi h st b hb=>by
  have e:b=it:=by simpa using hb
  subst e;obtain⟨o,e,c,d⟩:=st;exact⟨o,e,λv z=>by rw[d] at z;cases z⟩
 keep:=λi h h' st k=>st.at λo e=>k it (by simp) o e
 item:=by
  intro X hP hw hK hc i pins s σ H E I hf st hg;subst hP hw hK;obtain⟨xs,x,hq,hx⟩:=hg;obtain⟨LO,rv,p,hz⟩:=I.tuple hq;obtain⟨u,hu,ru⟩:=rv.get hx;obtain⟨f0,f1,f2,f3,f4,f5⟩:=hf it (by simp);refine wpAny_pyNext_tuple_item st (show s.heap.IsTuple a LO.toArray from p) (x:=u) (by simpa using hu) λh' My sb=>?_;have I1:Inv X pins σ H {s with heap:=h'}:=I.turned (t':=s.toks) (λb o hb e=>(sb.2 b hb).trans e) f0 f1 f3 f4 f5;obtain⟨o,e,c,d⟩:=id My;exact⟨u,rfl,vn (s:={s with heap:=h'}) e c d (by decide) ⟨x,H,I1,ru,⟨rfl,λys hy=>by rw[I.rW hy hq];exact hx⟩,My,λb hb=>(hf b hb).1⟩⟩
 done:=by
  intro X hP hw hK hc i pins s σ H E I hf st hg;subst hP hw hK;obtain⟨xs,hq,hx⟩:=hg;obtain⟨LO,rv,p,hz⟩:=I.tuple hq;obtain⟨f0,f1,f2,f3,f4,f5⟩:=hf it (by simp);have hl:=rv.length;exact wpAny_pyNext_tuple_end (I.ok.hd hc) st (show s.heap.IsTuple a LO.toArray from p) (by simp;omega) λh' eb=>⟨rfl,I.turned (t':=s.toks) (λb o hb e=>eb b o hb e) f0 f1 f3 f4 f5⟩
 self:=λ_ _ _ _ _ st h=>wpAny_pyIter_tupleiter st h
theorem xU {P:Program}{w:World}{K:aas}{tg:Expr}(it:Addr)(lo:Int)(n:Nat):Turn P w K tg (AH lo n) [it] it (λi h=>IsRangeIter h it (lo+(i:Nat)*1) ((n:Int) - (i:Nat)) 1) where
 mem:=by simp
 obj:=λi h st b hb=>by
  have e:b=it:=by simpa using hb
  subst e;exact⟨_,st,λv z=>by
   have z':Data.fields _=Data.cell v:=z;cases z'⟩
 keep:=λi h h' st k=>k it (by simp) _ st
 item:=by
  intro X hP hw hK hc i pins s σ H E I hf st hg;subst hP hw hK;obtain⟨f0,f1,f2,f3,f4,f5⟩:=hf it (by simp);have W:=Walks.range (prog:=X.prog) (w:=X.w) (I.ok.hd hc) it lo 1 n;refine W.item i s _ _ hg st λv h' tk hv My kk=>?_;obtain⟨t,rfl⟩:=hv;have I1:Inv X pins σ H {s with heap:=h',toks:=tk}:=I.turned (λb o hb e=>kk b o (by simpa using hb) e) f0 f1 f3 f4 f5;refine⟨_,rfl,vn (s:={s with heap:=h',toks:=tk}) (n:="range_iterator") My rfl rfl (by decide) ⟨.int (lo+i),H,I1,⟨t,?_⟩,⟨rfl,rfl⟩,My,λb hb=>(hf b hb).1⟩⟩;rw[Int.mul_one]
 done:=by
  intro X hP hw hK hc i pins s σ H E I hf st hg;subst hP hw hK;obtain⟨f0,f1,f2,f3,f4,f5⟩:=hf it (by simp);exact wpAny_pyNext_range_end (I.ok.hd hc) st (by have:n<=i:=hg;omega) λh' eb=>⟨rfl,I.turned (t':=s.toks) (λb o hb e=>eb b o hb e) f0 f1 f3 f4 f5⟩
 self:=λ_ _ _ _ _ st h=>wpAny_pyIter_rangeiter st h
section
variable {X:Cx}{tg:Expr}
def FE (K:aas) (tl:TE):TI:=λσ H R=>tl σ H λx H1=>∃a,x=.ref a/\(∃xs,aO K H1 a xs)/\R (C8 K a) H1
def KA (K:aas)(tl:TE):TI:=λσ H R=>tl σ H λx H1=>∃a,x=.ref a/\(∃xs,b6 K H1 a xs)/\R (IJ K a) H1
theorem bG {l:Expr}{tl:TE}(hl:PE X l tl):PI X tg l (FE X.K tl):=by
 intro pins s σ H R I h;refine bA (hl pins s σ H _ I h) λv s1 ⟨x,H1,I1,r1,q1⟩=>?_;obtain⟨a,e,⟨xs,hq⟩,q⟩:=q1;subst e;cases r1;obtain⟨LO,rv,p,hz⟩:=I1.list hq;refine wpAny_pyIter_list p.isList ?_;refine⟨s1.heap.objs.size,[s1.heap.objs.size],_,_,H1,rfl,I1.kept (t':=s1.toks) λb o e=>XM _ e,zZ a _,⟨_,X0 _ rfl,rfl,rfl⟩,λb hb=>?_,q⟩;have e:b=s1.heap.objs.size:=by simpa using hb
 subst e;exact I1.xY (XT _) (I1.bu.fresh (XT _))
theorem Hi {l:Expr}{tl:TE}(hl:PE X l tl):PI X tg l (KA X.K tl):=by
 intro pins s σ H R I h;refine bA (hl pins s σ H _ I h) λv s1 ⟨x,H1,I1,r1,q1⟩=>?_;obtain⟨a,e,⟨xs,hq⟩,q⟩:=q1;subst e;cases r1;obtain⟨LO,rv,p,hz⟩:=I1.tuple hq;refine wpAny_pyIter_tuple (show s1.heap.IsTuple a LO.toArray from p) ?_;refine⟨s1.heap.objs.size,[s1.heap.objs.size],_,_,H1,rfl,I1.kept (t':=s1.toks) λb o e=>XM _ e,yg a _,⟨_,X0 _ rfl,rfl,rfl⟩,λb hb=>?_,q⟩;have e:b=s1.heap.objs.size:=by simpa using hb
 subst e;exact I1.xY (XT _) (I1.bu.fresh (XT _))
theorem vb {pins:aav}{σ:St}{H:Hp}{s:Shared}{R:It->Hp->Prop}{E:aat}{lo hi:Int}{t u v:Tok}{tk:Nat}(I:Inv X pins σ H s)(h1:-(2 ^ 62)<=lo)(h2:lo < 2 ^ 62)(h3:-(2 ^ 62)<=hi)(h4:hi < 2 ^ 62)
  (q:R (AH lo (hi - lo).toNat) H):wpAny (model X.prog X.w) X.A (pyIter (.ref s.heap.objs.size)) (K4 X pins σ tg R) E {s with heap:=s.heap.push {cls:=.type "range",data:=.fields #[.int lo t,.int hi u,.int 1 v]},toks:=tk}:=by
 refine wpAny_pyIter_range (IsRange.new ..) (small_one h1 h2 h3 h4) ?_;have I1:Inv X pins σ H {s with heap:=s.heap.push {cls:=.type "range",data:=.fields #[.int lo t,.int hi u,.int 1 v]},toks:=tk}:=I.kept λb o e=>XM _ e;refine⟨(s.heap.push {cls:=.type "range",data:=.fields #[.int lo t,.int hi u,.int 1 v]}).objs.size,[(s.heap.push {cls:=.type "range",data:=.fields #[.int lo t,.int hi u,.int 1 v]}).objs.size],_,_,H,rfl,
  I1.kept (t':=tk) λb o e=>XM _ e,xU _ lo (hi - lo).toNat,?_,λb hb=>?_,q⟩
 · have e1:lo+((0:Nat):Int)*1=lo:=by simp
   have e2:(((hi - lo).toNat:Nat):Int) - ((0:Nat):Int)=Builtin.Range.rangeSize lo hi 1:=by rw[rangeSize_one];split <;> omega
   show IsRangeIter _ _ (lo+((0:Nat):Int)*1) ((((hi - lo).toNat:Nat):Int) - ((0:Nat):Int)) 1;rw[e1,e2];exact X0 _ rfl
 · have e:b=(s.heap.push {cls:=.type "range",data:=.fields #[.int lo t,.int hi u,.int 1 v]}).objs.size:=by simpa using hb
   subst e;exact I1.xY (XT _) (I1.bu.fresh (XT _))
def B_ (ta:TA):TI:=λσ H R=>ta σ H λvs H1=>∃j:Int,vs=[.int j]/\-(2 ^ 62)<=j/\j < 2 ^ 62/\R (AH 0 j.toNat) H1
def F_ (ta:TA):TI:=λσ H R=>ta σ H λvs H1=>∃i j:Int,vs=[.int i,.int j]/\(-(2 ^ 62)<=i/\i < 2 ^ 62/\-(2 ^ 62)<=j/\j < 2 ^ 62)/\R (AH i (j - i).toNat) H1
theorem gi {a:Expr}{ta:TA}{p pos:Pos}(hg:Gl X "range")(hm:X.mg "range"=none)(ha:PA X [a] ta)(hs:starEach [a] X.env=[(false,eval a X.env)]:=by rfl):PI X tg (.Call (.Name "range" p) [a] [] pos) (B_ ta):=by
 intro pins s σ H R I h;refine Call_ (lz I hg hm boot_range (Y8 (bA (ha pos pins s σ H _ I h) λus s1 ⟨vs,H1,I1,r1,q1⟩=>?_) hs rfl));obtain⟨j,e,q1,q2,q⟩:=q1;subst e;cases r1 with
 |cons r rr =>
  cases rr;obtain⟨t,rfl⟩:=r;exact call_range_1 (vb I1 (by omega) (by omega) q1 q2 (by simpa using q))
theorem sA {a b:Expr}{ta:TA}{p pos:Pos}(hg:Gl X "range")(hm:X.mg "range"=none)(ha:PA X [a,b] ta)(hs:starEach [a,b] X.env=[(false,eval a X.env),(false,eval b X.env)]:=by rfl)(NS:starEach [b] X.env=[(false,eval b X.env)]:=by rfl) :
  PI X tg (.Call (.Name "range" p) [a,b] [] pos) (F_ ta):=by
 intro pins s σ H R I h;refine Call_ (lz I hg hm boot_range (Y8 (bA (ha pos pins s σ H _ I h) λus s1 ⟨vs,H1,I1,r1,q1⟩=>?_) (by rw[hs,NS]) (by rw[NS];rfl)));obtain⟨i,j,e,⟨q1,q2,q3,q4⟩,q⟩:=q1;subst e;cases r1 with
 |cons r rr =>
  cases rr with
  |cons r' rr =>
   cases rr;obtain⟨t,rfl⟩:=r;obtain⟨t',rfl⟩:=r';exact call_range_2 (vb I1 q1 q2 q3 q4 q)
def Ig (wi:TI)(g:TG)(tb:TS):TS:=λD σ H=>wi σ H λJ H1=>∃W:Nat->Nat->St->Hp->Prop,(∃m,W 0 m σ H1)/\∀i m σ H,W i m σ H ->
 (J.stop i H/\D.nx σ H)∨(J.go i H/\∃N:St->Hp->Prop,(∀σ' H',N σ' H'->∃m',m' < m/\W (i+1) m' σ' H')/\∀x H',J.we i H x H'->g x σ H' λσ2 H2=>tb {D with nx:=N,ct:=N,bk:=D.nx} σ2 H2)
def ng (fp:List Addr)(h:Heap):aav:=fp.filterMap λb=>(h.get? b).map λo=>(b,o)
theorem gD {fp:List Addr}{h:Heap}{b:Addr}{o:Obj}(hb:b∈fp)(e:h.get? b=some o):(b,o)∈ng fp h:=List.mem_filterMap.mpr ⟨b,hb,by rw[e];rfl⟩
theorem Al {fp:List Addr}{h:Heap}{p:Addr×Obj}(hp:p∈ng fp h):p.1∈fp/\h.get? p.1=some p.2:=by
 obtain⟨b,hb,e⟩:=List.mem_filterMap.mp hp;cases q:h.get? b with
 |none=>rw[q] at e;cases e
 |some o =>
  rw[q] at e;have e':(b,o)=p:=Yl e;subst e';exact⟨hb,q⟩
theorem Inv.pinned {pins:aav}{σ:St}{H:Hp}{s:Shared}{fp:List Addr}(I:Inv X pins σ H s)(hf:∀b∈fp,mY X pins H b)(ho:∀b∈fp,∃o,s.heap.get? b=some o/\∀v,o.data≠.cell v):Inv X (pins++ng fp s.heap) σ H s :=
 I.mN λp hp=>(Yw.mp hp).elim (λz=>I.pin p (YF _ z)) λz=>by
  obtain⟨hb,e⟩:=Al z;obtain⟨f0,f1,f2,_⟩:=hf p.1 hb;obtain⟨o,e',d⟩:=ho p.1 hb;rw[e] at e';cases e';exact⟨e,f0,f1,f2,d⟩
theorem Inv.iz {pins pl:aav}{σ:St}{H:Hp}{s:Shared}(I:Inv X (pins++pl) σ H s):Inv X pins σ H s:=I.mN λp hp=>I.pin p (YF _ (List.mem_append_left _ hp))
theorem cT {iter:Expr}{body:List Stmt}{wi:TI}{g:TG}{tb:TS}{pos:Pos}(hp:PassesOwn (model X.prog X.w) X.A X.env X.xe)(hc:X.calm=true)(hi:PI X tg iter wi)(hg:PG X tg g)(hb:qR X body tb)
  (hs:∀x,foldedSetIterable iter X.env x=pure x:=by intro _;rfl):PS X (.For tg iter body [] pos) (Ig wi g tb):=by
 intro pins s σ H D I h;refine wpAny_For (bA (hi pins s σ H _ I h) λv s1 h1=>bA h1 λPY s2 h2=>?_) hs;obtain⟨it,fp,tn,J,H2,e,I2,T,Oh,f2,W,⟨m0,w0⟩,turn⟩:=h2;subst e;have L9:∀{H':Hp},(∀b∈fp,H' b=none)->∀b∈fp,mY X pins H' b:=λhn b hb=>⟨hn b hb,(f2 b hb).2⟩;refine codeAny_forLoop_any (λn s'=>∃i σ' H',Inv X pins σ' H' s'/\tn i s'.heap/\(∀b∈fp,H' b=none)/\W i n σ' H') ?_ m0 ⟨0,σ,H2,I2,Oh,λb hb=>(f2 b hb).1,w0⟩;rintro n s3 ⟨i,σ3,H3,I3,NT,OS,w3⟩;rcases turn i n σ3 H3 w3 with ⟨stop,qn⟩|⟨go,N,hN,step⟩
 · refine Y1 hp (bA (T.done X rfl rfl rfl hc i pins s3 σ3 H3 X.xe I3 (L9 OS) NT stop) λr s4 ⟨hr,I4⟩=>?_);subst hr;exact ZH ⟨σ3,H3,I4,qn⟩
 · refine Y1 hp (bA (T.item X rfl rfl rfl hc i pins s3 σ3 H3 X.xe I3 (L9 OS) NT go) λr s4 ⟨u,hr,h4⟩=>?_);subst hr;refine Y1 hp (bA h4 λ_ s5 ⟨x,H5,I5,r5,y5,M3,QX⟩=>?_);have QY:=I5.pinned (L9 QX) (T.obj _ _ M3);refine Y1 hp (bA (hg _ s5 σ3 H5 x u _ QY r5 (step x H5 y5)) λ_ s6 ⟨σ6,H6,I6,q6⟩=>?_);refine Y1 hp (bA (hb _ s6 σ6 H6 _ I6 q6) λf s7 q7=>?_);have again:∀{σ7:St} {H7:Hp},Inv X (pins++ng fp s5.heap) σ7 H7 s7->N σ7 H7->∃m,m < n/\∃i σ' H',Inv X pins σ' H' s7/\tn i s7.heap/\(∀b∈fp,H' b=none)/\W i m σ' H':=λ{σ7 H7} I7 n7=>by
    obtain⟨m',hm,w7⟩:=hN σ7 H7 n7;refine⟨m',hm,i+1,σ7,H7,I7.iz,T.keep _ _ _ M3 λb hb o e=>(I7.pin (b,o) (YF _ (YF _ (gD hb e)))).1,λb hb=>?_,w7⟩;obtain⟨o,e,d⟩:=T.obj _ _ M3 b hb;exact (I7.pin (b,o) (YF _ (YF _ (gD hb e)))).2.1
   cases f with
   |next=>obtain⟨σ7,H7,I7,n7⟩:=q7;exact again I7 n7
   |cont=>obtain⟨σ7,H7,I7,n7⟩:=q7;exact again I7 n7
   |brk=>obtain⟨σ7,H7,I7,q7⟩:=q7;exact⟨σ7,H7,I7.iz,q7⟩
   |ret v=>obtain⟨x7,σ7,H7,I7,r7,q7⟩:=q7;exact⟨x7,σ7,H7,I7.iz,r7,q7⟩
end
theorem cM {K:aas}{a:Addr}{xs:List V}{g:TG}{tb:TS}{D:Ends}{σ:St}{H:Hp}(Pv:Nat->St->Hp->Prop)(h0:Pv 0 σ H)(hl:∀i σ H,i<=xs.length->Pv i σ H->aO K H a xs)
  (hs:∀i x σ H,xs[i]?=some x->Pv i σ H->g x σ H λσ2 H2=>tb {D with nx:=Pv (i+1),ct:=Pv (i+1),bk:=D.nx} σ2 H2)(hd:∀σ H,Pv xs.length σ H->D.nx σ H) :
  ∃W:Nat->Nat->St->Hp->Prop,(∃m,W 0 m σ H)/\∀i m σ H,W i m σ H ->
   ((C8 K a).stop i H/\D.nx σ H)∨((C8 K a).go i H/\∃N:St->Hp->Prop,(∀σ' H',N σ' H'->∃m',m' < m/\W (i+1) m' σ' H')/\∀x H',(C8 K a).we i H x H'->g x σ H' λσ2 H2=>tb {D with nx:=N,ct:=N,bk:=D.nx} σ2 H2):=by
 refine⟨λi m σ H=>m=xs.length - i/\i<=xs.length/\Pv i σ H,⟨xs.length,by simp,Ye _,h0⟩,?_⟩;rintro i m σ H ⟨rfl,hi,p⟩;have q:=hl i σ H hi p;by_cases LU:i < xs.length
 · refine .inr ⟨⟨xs,xs[i],q,by simp[LU]⟩,Pv (i+1),λσ' H' p'=>⟨xs.length - (i+1),by omega,rfl,LU,p'⟩,λx H' y=>?_⟩;obtain⟨e,y⟩:=y;subst e;exact hs i x σ _ (y xs q) p
 · have e:i=xs.length:=by omega
   subst e;exact .inl ⟨⟨xs,q,XT _⟩,hd σ H p⟩
theorem mV {lo:Int}{n:Nat}{g:TG}{tb:TS}{D:Ends}{σ:St}{H:Hp}(Pv:Nat->St->Hp->Prop)(h0:Pv 0 σ H)
  (hs:∀i σ H,i < n->Pv i σ H->g (.int (lo+i)) σ H λσ2 H2=>tb {D with nx:=Pv (i+1),ct:=Pv (i+1),bk:=D.nx} σ2 H2)(hd:∀σ H,Pv n σ H->D.nx σ H) :
  ∃W:Nat->Nat->St->Hp->Prop,(∃m,W 0 m σ H)/\∀i m σ H,W i m σ H ->
   ((AH lo n).stop i H/\D.nx σ H)∨((AH lo n).go i H/\∃N:St->Hp->Prop,(∀σ' H',N σ' H'->∃m',m' < m/\W (i+1) m' σ' H')/\∀x H',(AH lo n).we i H x H'->g x σ H' λσ2 H2=>tb {D with nx:=N,ct:=N,bk:=D.nx} σ2 H2):=by
 refine⟨λi m σ H=>m=n - i/\i<=n/\Pv i σ H,⟨n,by simp,Ye _,h0⟩,?_⟩;rintro i m σ H ⟨rfl,hi,p⟩;by_cases LU:i < n
 · refine .inr ⟨LU,Pv (i+1),λσ' H' p'=>⟨n - (i+1),by omega,rfl,LU,p'⟩,λx H' y=>?_⟩;obtain⟨e,y⟩:=y;subst e y;exact hs i σ _ LU p
 · have e:i=n:=by omega
   subst e;exact .inl ⟨XT _,hd σ H p⟩
abbrev R2:=V->V->Hp->VK->Prop
def jU (X:Cx)(f:Value->Value->Sem Value)(r:R2):Prop :=
 ∀(pins:aav) (s:Shared) (σ:St) (H:Hp) (x y:V) (v u:Value) (Q:VK),Inv X pins σ H s->RelV x v->RelV y u->r x y H Q ->
  wpAny (model X.prog X.w) X.A (f v u) (EP X pins σ Q) X.xe s
def KL (X:Cx)(f:Value->Sem Value)(r:V->Hp->VK->Prop):Prop :=
 ∀(pins:aav) (s:Shared) (σ:St) (H:Hp) (x:V) (v:Value) (Q:VK),Inv X pins σ H s->RelV x v->r x H Q ->
  wpAny (model X.prog X.w) X.A (f v) (EP X pins σ Q) X.xe s
def iE (X:Cx)(f:Value)(r:List V->Hp->VK->Prop):Prop :=
 ∀(pins:aav) (s:Shared) (σ:St) (H:Hp) (xs:List V) (us:aaw) (Q:VK),Inv X pins σ H s->Vals xs us->r xs H Q ->
  wpAny (model X.prog X.w) X.A (call f us) (EP X pins σ Q) X.xe s
def kK (r:R2)(ta tb:TE):TE:=λσ H Q=>ta σ H λx H1=>tb σ H1 λy H2=>r x y H2 Q
def Lk (r:V->Hp->VK->Prop)(ta:TE):TE:=λσ H Q=>ta σ H λx H1=>r x H1 Q
def rI (C:Int->Int->Prop)(g:Int->Int->V):R2:=λx y H Q=>∃i j,x=.int i/\y=.int j/\C i j/\Q (g i j) H
def qM (g:Int->Int->V):R2:=λx y H Q=>∃i j,x=.int i/\y=.int j/\Q (g i j) H
def rU (g:Int->V):V->Hp->VK->Prop:=λx H Q=>∃i,x=.int i/\Q (g i) H
section
variable {X:Cx}{a b c:Expr}{ta tb tc:TE}{pos:Pos}
theorem HF (ha:PE X a ta) (hb:PE X b tb) {pins:aav} {s:Shared} {σ:St} {H:Hp} {R:V->V->Hp->Prop} (I:Inv X pins σ H s)
  (h:ta σ H λx H1=>tb σ H1 λy H2=>R x y H2) {Q:aat} {f:Value->Value->Sem Value}
  (hf:∀v u s2 x y H2,Inv X pins σ H2 s2->RelV x v->RelV y u->R x y H2->wpAny (model X.prog X.w) X.A (f v u) Q X.xe s2) :
  wpAny (model X.prog X.w) X.A (eval a X.env) (λv s₁=>wpAny (model X.prog X.w) X.A (eval b X.env) (λu s₂=>wpAny (model X.prog X.w) X.A (f v u) Q X.xe s₂) X.xe s₁) X.xe s:=by
 refine bA (ha pins s σ H _ I h) λv s1 ⟨x,H1,I1,r1,q1⟩=>?_;refine bA (hb pins s1 σ H1 _ I1 q1) λu s2 ⟨y,H2,I2,r2,q2⟩=>?_;exact hf v u s2 x y H2 I2 r1 r2 q2
theorem bJ {op:Operator}{r:R2}(ho:jU X (binaryOp op) r)(ha:PE X a ta)(hb:PE X b tb):PE X (.BinOp a op b pos) (kK r ta tb):=by
 intro pins s σ H Q I h;exact wpAny_BinOp (HF ha hb I h λv u s2 x y H2 I2 rx ry q=>ho pins s2 σ H2 x y v u Q I2 rx ry q)
theorem vI {op:UnaryOp}{r:V->Hp->VK->Prop}(ho:KL X (unaryOp op) r)(ha:PE X a ta):PE X (.UnaryOp op a pos) (Lk r ta):=by
 intro pins s σ H Q I h;exact UnaryOp_ (bA (ha pins s σ H _ I h) λv s1 ⟨x,H1,I1,r1,q1⟩=>ho pins s1 σ H1 x v Q I1 r1 q1)
theorem Jv {f:Value->Value->Sem Value}{C:Int->Int->Prop}{g:Int->Int->Int}
  (rule:∀(i j:Int) (t u:Tok) (s:Shared) (Q:aat) (E:aat),C i j->Q (.int (g i j) s.toks) {s with toks:=s.toks+1}->wpAny (model X.prog X.w) X.A (f (.int i t) (.int j u)) Q E s) :
  jU X f (rI C λi j=>.int (g i j)):=by
 intro pins s σ H x y v u Q I rx ry h;obtain⟨i,j,rfl,rfl,hc,q⟩:=h;obtain⟨t,rfl⟩:=rx;obtain⟨t',rfl⟩:=ry;exact rule i j t t' s _ _ hc ⟨.int (g i j),H,I.tok _,⟨_,rfl⟩,q⟩
theorem Ih {f:Value->Value->Sem Value}{g:Int->Int->Int}
  (rule:∀(i j:Int) (t u:Tok) (s:Shared) (Q:aat) (E:aat),Q (.int (g i j) s.toks) {s with toks:=s.toks+1}->wpAny (model X.prog X.w) X.A (f (.int i t) (.int j u)) Q E s) :
  jU X f (qM λi j=>.int (g i j)):=by
 intro pins s σ H x y v u Q I rx ry h;obtain⟨i,j,rfl,rfl,q⟩:=h;obtain⟨t,rfl⟩:=rx;obtain⟨t',rfl⟩:=ry;exact rule i j t t' s _ _ ⟨.int (g i j),H,I.tok _,⟨_,rfl⟩,q⟩
theorem HW {f:Value->Value->Sem Value}{g:Int->Int->Bool}
  (rule:∀(i j:Int) (t u:Tok) (s:Shared) (Q:aat) (E:aat),Q (.bool (g i j)) s->wpAny (model X.prog X.w) X.A (f (.int i t) (.int j u)) Q E s) :
  jU X f (qM λi j=>.bl (g i j)):=by
 intro pins s σ H x y v u Q I rx ry h;obtain⟨i,j,rfl,rfl,q⟩:=h;obtain⟨t,rfl⟩:=rx;obtain⟨t',rfl⟩:=ry;exact rule i j t t' s _ _ ⟨.bl (g i j),H,I,rfl,q⟩
def Kt (i j:Int):Prop:=0 < j/\j < 1073741824
def E6 (i j:Int):Prop:=0<=j/\j<=1000000/\i.natAbs < 2 ^ 64
def AA (i j:Int):Prop:=(-(2 ^ 64) < i/\i < 2 ^ 64)∨(-(2 ^ 64) < j/\j < 2 ^ 64)
theorem AA.ok {i j:Int}(h:AA i j):IntMulOk i j:=by
 rcases h with ⟨h1,h2⟩|⟨h1,h2⟩
 · exact .of_left (intBits_le_64 h1 h2)
 · exact .of_right (intBits_le_64 h1 h2)
theorem eK:jU X (binaryOp .Add) (qM λi j=>.int (i+j)):=Ih λ_ _ _ _ _ _ _ q=>add_int q
theorem fH:jU X (binaryOp .Sub) (qM λi j=>.int (i - j)):=Ih λ_ _ _ _ _ _ _ q=>sub_int q
theorem yb:jU X (binaryOp .Mult) (rI AA λi j=>.int (i*j)):=Jv λ_ _ _ _ _ _ _ hc q=>mul_int q hc.ok
theorem Fl:jU X (binaryOp .FloorDiv) (rI Kt λi j=>.int (i / j)):=Jv λi j _ _ _ _ _ hc q=>by
 have h1:(0:Int) < j:=hc.1;have h2:j < 1073741824:=hc.2;exact floordiv_int (by omega) (by rw[Int.fdiv_eq_ediv_of_nonneg i (by omega)];exact q) (.inl (PyProof.noPylong_small (by omega)))
theorem GU:jU X (binaryOp .Mod) (rI (λ_ j=>0 < j) λi j=>.int (i % j)):=Jv λi j _ _ _ _ _ hc q=>by
 have h1:(0:Int) < j:=hc;exact mod_int' (by omega) (by rw[Int.fmod_eq_emod_of_nonneg i (by omega)];exact q)
theorem BS:jU X (binaryOp .LShift) (rI E6 λi j=>.int (i*2 ^ j.toNat)):=Jv λ_ _ _ _ _ _ _ hc q=>lshift_int_small hc.1 hc.2.1 hc.2.2 q
theorem HL:jU X (binaryOp .BitAnd) (qM λi j=>.int (Builtin.bitAnd i j)):=Ih λ_ _ _ _ _ _ _ q=>and_int q
theorem Dz:jU X (inplaceOp .Mult) (rI AA λi j=>.int (i*j)):=Jv λ_ _ _ _ _ _ _ hc q=>imul_int q hc.ok
theorem LG {f:Value->Sem Value}{g:Int->Int}
  (rule:∀(i:Int) (t:Tok) (s:Shared) (Q:aat) (E:aat),Q (.int (g i) s.toks) {s with toks:=s.toks+1}->wpAny (model X.prog X.w) X.A (f (.int i t)) Q E s) :
  KL X f (rU λi=>.int (g i)):=by
 intro pins s σ H x v Q I rx h;obtain⟨i,rfl,q⟩:=h;obtain⟨t,rfl⟩:=rx;exact rule i t s _ _ ⟨.int (g i),H,I.tok _,⟨_,rfl⟩,q⟩
theorem oT:KL X (unaryOp .USub) (rU λi=>.int (-i)):=LG λ_ _ _ _ _ q=>neg_int q
end
def Ea:V->V->Bool
 |.b8,.b8=>true|.b8,.int _=>true|.int _,.b8=>true|.b8,.bl _=>true|.bl _,.b8=>true|.b8,.str _=>true|.str _,.b8=>true
 |.int _,.int _=>true|.bl _,.bl _=>true|.str _,.str _=>true|.wg _,.wg _=>true
 |.int _,.str _=>true|.str _,.int _=>true|.bl _,.str _=>true|.str _,.bl _=>true
 |_,_=>false
def J7:R2:=λx y H Q=>Ea x y=true/\Q (.bl (decide (x=y))) H
def Li:R2:=λx y H Q=>Ea x y=true/\Q (.bl (!decide (x=y))) H
theorem a7 {i j:Int}:decide (V.int i=V.int j)=(i==j):=by
 rw[Ym];simp
theorem CQ {i j:Bool}:decide (V.bl i=V.bl j)=(i==j):=by
 rw[Ym];simp
theorem ym {i j:Str}:decide (V.str i=V.str j)=(i==j):=by
 rw[Ym];simp
theorem yD {i j:Array UInt8}:decide (V.wg i=V.wg j)=(i.toList==j.toList):=by
 rw[Ym];cases i;cases j;simp
section
variable {X:Cx}{a b c:Expr}{ta tb tc:TE}{pos:Pos}
theorem bq {pins:aav} {σ:St} {H:Hp} {s:Shared} {Q:VK} {k k':Bool} (I:Inv X pins σ H s) (q:Q (.bl k) H) (e:k=k'):EP X pins σ Q (.bool k') s:=by
 subst e;exact⟨.bl k,H,I,rfl,q⟩
theorem cn:jU X (compareOp .Eq) J7:=by
 intro pins s σ H x y v u Q I rx ry h;obtain⟨hs,q⟩:=h;cases x with
 |b8 =>
  cases rx;cases y with
  |b8=>cases ry;exact PySem.EqNone.eq_none_none (bq I q (by simp))
  |bl j=>cases ry;exact PySem.EqNone.eq_none_bool (bq I q (by simp))
  |int j=>obtain⟨t',rfl⟩:=ry;exact PySem.EqNone.eq_none_int (bq I q (by simp))
  |str j=>obtain⟨t',rfl⟩:=ry;exact PySem.EqNone.eq_none_str (bq I q (by simp))
  |_=>exact absurd (show false=true from hs) X8
 |bl i =>
  cases rx;cases y with
  |b8=>cases ry;exact PySem.EqNone.eq_bool_none (bq I q (by simp))
  |bl j=>cases ry;exact eq_bool (bq I q CQ)
  |str j=>obtain⟨t',rfl⟩:=ry;exact PySem.EqMixed.eq_bool_str (bq I q (by simp))
  |_=>exact absurd (show false=true from hs) X8
 |int i =>
  obtain⟨t,rfl⟩:=rx;cases y with
  |b8=>cases ry;exact PySem.EqNone.eq_int_none (bq I q (by simp))
  |int j=>obtain⟨t',rfl⟩:=ry;exact eq_int (bq I q a7)
  |str j=>obtain⟨t',rfl⟩:=ry;exact PySem.EqMixed.eq_int_str (bq I q (by simp))
  |_=>exact absurd (show false=true from hs) X8
 |str i =>
  obtain⟨t,rfl⟩:=rx;cases y with
  |b8=>cases ry;exact PySem.EqNone.eq_str_none (bq I q (by simp))
  |bl j=>cases ry;exact PySem.EqMixed.eq_str_bool (bq I q (by simp))
  |int j=>obtain⟨t',rfl⟩:=ry;exact PySem.EqMixed.eq_str_int (bq I q (by simp))
  |str j=>obtain⟨t',rfl⟩:=ry;exact eq_str (bq I q ym)
  |_=>exact absurd (show false=true from hs) X8
 |wg i =>
  obtain⟨t,rfl⟩:=rx;cases y with
  |wg j=>obtain⟨t',rfl⟩:=ry;exact PySem.W.eq_bytes (bq I q yD)
  |_=>exact absurd (show false=true from hs) X8
 |_=>cases y <;> exact absurd (show false=true from hs) X8
theorem p8:jU X (compareOp .NotEq) Li:=by
 intro pins s σ H x y v u Q I rx ry h;obtain⟨hs,q⟩:=h;cases x with
 |b8 =>
  cases rx;cases y with
  |b8=>cases ry;exact PySem.EqNone.ne_none_none (bq I q (by simp))
  |bl j=>cases ry;exact PySem.EqNone.ne_none_bool (bq I q (by simp))
  |int j=>obtain⟨t',rfl⟩:=ry;exact PySem.EqNone.ne_none_int (bq I q (by simp))
  |str j=>obtain⟨t',rfl⟩:=ry;exact PySem.EqNone.ne_none_str (bq I q (by simp))
  |_=>exact absurd (show false=true from hs) X8
 |bl i =>
  cases rx;cases y with
  |b8=>cases ry;exact PySem.EqNone.ne_bool_none (bq I q (by simp))
  |bl j=>cases ry;exact ne_bool (bq I q (YN not CQ))
  |str j=>obtain⟨t',rfl⟩:=ry;exact PySem.EqMixed.ne_bool_str (bq I q (by simp))
  |_=>exact absurd (show false=true from hs) X8
 |int i =>
  obtain⟨t,rfl⟩:=rx;cases y with
  |b8=>cases ry;exact PySem.EqNone.ne_int_none (bq I q (by simp))
  |int j=>obtain⟨t',rfl⟩:=ry;exact ne_int (bq I q (YN not a7))
  |str j=>obtain⟨t',rfl⟩:=ry;exact PySem.EqMixed.ne_int_str (bq I q (by simp))
  |_=>exact absurd (show false=true from hs) X8
 |str i =>
  obtain⟨t,rfl⟩:=rx;cases y with
  |b8=>cases ry;exact PySem.EqNone.ne_str_none (bq I q (by simp))
  |bl j=>cases ry;exact PySem.EqMixed.ne_str_bool (bq I q (by simp))
  |int j=>obtain⟨t',rfl⟩:=ry;exact PySem.EqMixed.ne_str_int (bq I q (by simp))
  |str j=>obtain⟨t',rfl⟩:=ry;exact ne_str (bq I q (YN not ym))
  |_=>exact absurd (show false=true from hs) X8
 |wg i =>
  obtain⟨t,rfl⟩:=rx;cases y with
  |wg j=>obtain⟨t',rfl⟩:=ry;exact PySem.W.ne_bytes (bq I q (YN not yD))
  |_=>exact absurd (show false=true from hs) X8
 |_=>cases y <;> exact absurd (show false=true from hs) X8
theorem nS:jU X (compareOp .Lt) (qM λi j=>.bl (decide (i < j))):=HW λ_ _ _ _ _ _ _ q=>lt_int q
theorem cj:jU X (compareOp .LtE) (qM λi j=>.bl (decide (i<=j))):=HW λ_ _ _ _ _ _ _ q=>le_int q
theorem kZ:jU X (compareOp .Gt) (qM λi j=>.bl (decide (j < i))):=HW λ_ _ _ _ _ _ _ q=>gt_int q
theorem ui:jU X (compareOp .Is) (λx y H Q=>y=.b8/\Q (.bl (decide (x=.b8))) H):=by
 intro pins s σ H x y v u Q I rx ry h;obtain⟨rfl,q⟩:=h;cases ry;refine is_none_gen (bq I q ?_);cases x <;> first
  |(cases rx;rfl)
  |(obtain⟨t,rfl⟩:=rx;rfl)
theorem aJ (b:Expr){op:CmpOp}(h:op≠.In:=by decide)(h2:op≠.NotIn:=by decide):behindInMarks op b=false:=by
 have e1:(op==CmpOp.In)=false:=by cases op <;> first|rfl|exact absurd rfl h
 have e2:(op==CmpOp.NotIn)=false:=by cases op <;> first|rfl|exact absurd rfl h2
 cases b <;> simp[behindInMarks,e1,e2]
theorem fm {op:CmpOp}{r:R2}(ho:jU X (compareOp op) r)(ha:PE X a ta)(hb:PE X b tb)(hm:behindInMarks op b=false):PE X (.Compare a [op] [b] pos) (kK r ta tb):=by
 intro pins s σ H Q I h;exact wpAny_Compare1 (HF ha hb I h λv u s2 x y H2 I2 rx ry q=>ho pins s2 σ H2 x y v u Q I2 rx ry q) hm
def qj (t:TE):TT:=λσ H Q=>t σ H λx H'=>∃k,x=.bl k/\Q k H'
theorem aA {op:CmpOp}{r:R2}(ho:jU X (compareOp op) r)(ha:PE X a ta)(hb:PE X b tb)(hm:behindInMarks op b=false):PT X (.Compare a [op] [b] pos) (qj (kK r ta tb)):=by
 intro pins s σ H Q I h;refine wpAny_isTrue_Compare1 (bA (ha pins s σ H _ I h) λv s1 ⟨x,H1,I1,r1,q1⟩=>bA (hb pins s1 σ H1 _ I1 q1) λu s2 ⟨y,H2,I2,r2,q2⟩ =>
  bA (ho pins s2 σ H2 x y v u _ I2 r1 r2 q2) λc s3 ⟨z,H3,I3,r3,k,e,q3⟩=>?_) hm
 subst e;cases r3;exact YW ⟨H3,I3,q3⟩
def xH (r r':R2)(ta tb tc:TE):TE:=λσ H Q=>ta σ H λx H1=>tb σ H1 λy H2=>r x y H2 λz H3=>∃k,z=.bl k /\
 (if k=true then tc σ H3 λw' H4=>r' y w' H4 Q else Q (.bl false) H3)
theorem cE {op QZ:CmpOp}{r r':R2}(ho:jU X (compareOp op) r)(Ma:jU X (compareOp QZ) r')(ha:PE X a ta)(hb:PE X b tb)(hc:PE X c tc)
  (hm:lastMarks [op,QZ] [b,c]=false:=by with_unfolding_all rfl):PT X (.Compare a [op,QZ] [b,c] pos) (qj (xH r r' ta tb tc)):=by
 intro pins s σ H Q I h;refine isTrue_chain (bA (ha pins s σ H _ I h) λv s1 ⟨x,H1,I1,r1,q1⟩=>test_link (bA (hb pins s1 σ H1 _ I1 q1) λu s2 ⟨y,H2,I2,r2,q2⟩ =>
  bA (ho pins s2 σ H2 x y v u _ I2 r1 r2 q2) λd s3 ⟨z,H3,I3,r3,k,e,q3⟩=>?_)) hm
 subst e;cases r3;refine YW ?_;cases k with
 |false =>
  obtain⟨k',e',q'⟩:=q3;cases e';exact ite_ff ⟨H3,I3,q'⟩
 |true =>
  refine ite_tt (test_last (bA (hc pins s3 σ H3 _ I3 q3) λw' s4 ⟨z',H4,I4,r4,q4⟩=>bA (Ma pins s4 σ H4 y z' u w' _ I4 r2 r4 q4) λd' s5 ⟨z2,H5,I5,r5,k2,e2,q5⟩=>?_));subst e2;cases r5;exact YW ⟨H5,I5,q5⟩
theorem lG:(sizeLine:Nat) < 2 ^ 63:=by rw[Yb];decide
theorem vals1 {x:V}{us:aaw}(r:Vals [x] us):∃u,us=[u]/\RelV x u:=by
 cases r with
 |cons r1 r2=>cases r2;exact⟨_,rfl,r1⟩
theorem vals2 {x y:V}{us:aaw}(r:Vals [x,y] us):∃u w',us=[u,w']/\RelV x u/\RelV y w':=by
 cases r with
 |cons r1 r2 =>
  cases r2 with
  |cons r3 r4=>cases r4;exact⟨_,_,rfl,r1,r3⟩
end
structure xh (h:Heap)(x dx C:Addr)(mA:aau):Prop where
 obj:h.get? x=some (PySem.W.instObj C dx)
 ns:h.Ns1 dx mA
 ne:dx≠x
theorem AG {h:Heap}{dx:Addr}{mA:aau}(n:h.Ns1 dx mA):∃od,h.get? dx=some od/\∀name,PySem.W.lookIn name od=some (mA name):=by
 obtain⟨o,es,ep,ho,hd,hk,_,hm⟩:=n;refine⟨o,ho,λname=>?_⟩;have e:=hm name;unfold nsFind findBy at e;rw[←Array.find?_toList] at e;unfold PySem.W.lookIn;rw[hd];dsimp only;split
 · rename_i y q;rw[q] at e;exact YN some e
 · rename_i q;rw[q] at e;have a:es.toList.any (·.refKey)=false:=by
    rw[List.any_eq_false];intro y hy;obtain⟨z,t,Q0⟩:=hk y (Array.mem_toList_iff.mp hy);simp[DictEntry.refKey,Q0]
   have a':¬es.toList.any (·.refKey)=true:=by rw[a];exact X8
   rw[XI a'];exact YN some e
theorem xh.look {h:Heap}{x dx C:Addr}{mA:aau}(I:xh h x dx C mA):∃od,PySem.W.InstAt h x (PySem.W.instObj C dx) C (some od)/\∀name,PySem.W.lookIn name od=some (mA name) :=
 let ⟨od,ho,hl⟩:=AG I.ns
 ⟨od,⟨I.obj,rfl,rfl,ho⟩,hl⟩
section
variable {prog:Program}{w:World}{A:Around}{E:aat}{s:Shared}{K:aas}{x dx C f:Addr}{mA:aau}{name:Str}{v:Value}
theorem get_map {expr:Bool} {Q:aat} (X:K.In s.heap) (I:xh s.heap x dx C mA) (hg:PySem.W.plainGet K C name=true) (hh:PySem.W.hasDictIn K C=true)
  (ha:PySem.W.findIn K (.ref C) name=some none) (hv:mA name=some v) (PZ:PySem.W.handedIn v=true) (h:Q v {s with toks:=s.toks+1}) :
  wpAny (model prog w) A (getAttr (.ref x) name expr) Q E s:=by
 obtain⟨od,J,hl⟩:=I.look;exact PySem.W.get_value X J (PySem.W.plainGet_of hg).1 (PySem.W.findObj_own hh ha rfl (by rw[hl,hv])) PZ h
theorem B9 {pl:Sem Bool}{Q:Value×aaw->Shared->Prop}(X:K.In s.heap)(I:xh s.heap x dx C mA)(hg:PySem.W.plainGet K C name=true)
  (hf:PySem.W.findIn K (.ref C) name=some (some (.ref f)))(ht:PySem.W.isFn K (.ref f)=true)(hv:mA name=none)(h:Q (.ref f,[.ref x]) s) :
  wpAny (model prog w) A (getMethod (.ref x) name pl) Q E s:=by
 obtain⟨od,J,hl⟩:=I.look;exact PySem.W.method_fn X J (PySem.W.plainGet_of hg).1 (PySem.W.plainGet_of hg).2 hf (Yx.mp ht) (by show (PySem.W.lookIn name od).map (·.isSome)=some false;rw[hl,hv];rfl) h
theorem EY {ns:List Str}{Q:Unit->Shared->Prop}(X:K.In s.heap)(I:xh s.heap x dx C mA)
  (hs:PySem.W.findIn K (.ref C) "__setattr__"=some (some (.builtin "object.__setattr__")))(hp:PySem.W.plainOver K C=true)(ht:PySem.W.takerIn K C name=some none)(hh:PySem.W.hasDictIn K C=true)
  (hw:PySem.Within mA ns)(hsz:ns.length<=sizeLine)
  (h:∀h',xh h' x dx C (λy=>if y=name then some v else mA y)->Heap.SameBut dx s.heap h'->Q () {s with heap:=h',toks:=s.toks+2}) :
  wpAny (model prog w) A (setAttr (.ref x) name v) Q E s:=by
 obtain⟨od,J,hl⟩:=I.look;refine PySem.W.set_plain X J hs (PySem.W.osa_open (s:={s with toks:=s.toks+1}) (r:=none) X J hp ht λb=>?_);obtain⟨cd,hc,Mm⟩:=PySem.W.any_some hh;have hx:s.heap.get? x=some ⟨.ref C,some dx,.plain,#[]⟩:=I.obj;refine XG (XQ (XG (XG (wpAny_loadPart hx (XG (PySem.W.Looks.here (s:={s with toks:=s.toks+1}) (PySem.W.looks_clsIn X hc) ?_))))));rw[Mm];refine XQ (a:=some dx) (XG (XQ (XG ?_)));refine wpAny_nsSet1 (s:={s with toks:=s.toks+1}) I.ns λh' SE NS=>?_;obtain⟨oD,Vh,Vi,Q1,Q2,Vj⟩:=SE.count (PySem.Within.cons name v hw);refine XG (wpAny_lookBehind Q1 (by rw[Q2];exact pastItsLine_dict (Yu Vj (by rw[XW];omega))) ?_);exact XQ (h _ ⟨(NS.2 _ (aaj I.ne)).trans I.obj,SE,I.ne⟩ NS)
theorem B6 {R:Result->Shared->Prop}{vs:aaw}{kw:List (Str×Value)}(X:K.In s.heap)(hm:PySem.W.makesIn K C=true)
  (hi:PySem.W.findIn K (.ref C) "__init__"=some (some (.ref f)))(hf:PySem.W.typeIn K (.ref f)=some (.type "function"))
  (h:codeAny (model prog w) (A.under (.builtin "type.__call__" ⟨.ref C::vs,kw⟩)) (.call (.ref f) ⟨.ref (s.heap.objs.size+1)::vs,kw⟩) (PySem.W.InitBack (s.heap.objs.size+1) R)
   {s with heap:=(s.heap.push PySem.W.emptyDict).push (PySem.W.instObj C s.heap.objs.size)}) :
  codeAny (model prog w) A (.call (.ref C) ⟨vs,kw⟩) R s:=by
 obtain⟨hh,g,d,t,os⟩:=s;exact PySem.W.make_core (PySem.W.makes_of X hm) (PySem.W.looks_findIn X hi) (λself=>PySem.W.bind_fn X self hf) (.inl rfl) h
end
def d_ (f:Str)(v:V):List (Str×V)->List (Str×V)
 |[]=>[(f,v)]
 |(g,x)::r=>if g=f then (g,v)::r else (g,x)::d_ f v r
theorem jP (f g:Str)(v:V):∀fs:List (Str×V),(d_ f v fs).lookup g=if g=f then some v else fs.lookup g
 |[]=>by
  show List.lookup g [(f,v)]=_;by_cases h:g=f
  · have hb:(g==f)=true:=Yx.mpr h;simp only[List.lookup,hb,XJ h]
  · have hb:(g==f)=false:=Yg.mpr h;simp only[List.lookup,hb,XI h]
 |(k,x)::r=>by
  have ih:=jP f g v r;rw[show d_ f v ((k,x)::r)=(if k=f then (k,v)::r else (k,x)::d_ f v r) from rfl];by_cases hk:k=f
  · rw[XJ hk];by_cases h:g=k
    · have hb:(g==k)=true:=Yx.mpr h;simp only[List.lookup,hb,XJ (h.trans hk)]
    · have hb:(g==k)=false:=Yg.mpr h;simp only[List.lookup,hb,XI (λe:g=f=>h (e.trans hk.symm))]
  · rw[XI hk];by_cases h:g=k
    · have hb:(g==k)=true:=Yx.mpr h;simp only[List.lookup,hb,XI (λe:g=f=>hk (h.symm.trans e))]
    · have hb:(g==k)=false:=Yg.mpr h;simp only[List.lookup,hb];exact ih
theorem mR (f:Str)(v:V):∀fs:List (Str×V),f∈(d_ f v fs).map (·.1)/\∀g,g∈fs.map (·.1)->g∈(d_ f v fs).map (·.1)
 |[]=>⟨by simp[d_],λg h=>by simp at h⟩
 |(k,x)::r=>by
  obtain⟨i1,i2⟩:=mR f v r;rw[show d_ f v ((k,x)::r)=(if k=f then (k,v)::r else (k,x)::d_ f v r) from rfl];by_cases hk:k=f
  · rw[XJ hk];subst hk;exact⟨by simp,λg h=>by simpa using h⟩
  · rw[XI hk];refine⟨?_,λg h=>?_⟩
    · rw[X1];exact X2 _ i1
    · rw[X1] at h ⊢;rcases XN.mp h with e|e
      · exact XN.mpr (.inl e)
      · exact X2 _ (i2 g e)
theorem nO (f:Str)(v:V):∀fs:List (Str×V),(d_ f v fs).length<=fs.length+1
 |[]=>by simp[d_]
 |(k,x)::r=>by
  have ih:=nO f v r;rw[show d_ f v ((k,x)::r)=(if k=f then (k,v)::r else (k,x)::d_ f v r) from rfl];by_cases hk:k=f
  · rw[XJ hk,XW,XW];omega
  · rw[XI hk,XW,XW];omega
theorem jc.some_of {v:V}{o:Option Value}(r:jc (some v) o):∃u,o=some u/\RelV v u:=by
 cases o with
 |none=>exact (show False from r).elim
 |some u=>exact⟨u,rfl,r⟩
theorem jc.none_of {o:Option Value}(r:jc none o):o=none:=by
 cases o with
 |none=>rfl
 |some u=>exact (show False from r).elim
theorem sr {v:V}{u:Value}(r:RelV v u):PySem.W.handedIn u=true:=by
 cases v with
 |b8=>cases (show u=Value.none from r);rfl
 |bl b=>cases (show u=Value.bool b from r);rfl
 |int i=>obtain⟨t,e⟩:=(show ∃t,u=Value.int i t from r);cases e;rfl
 |str x=>obtain⟨t,e⟩:=(show ∃t,u=Value.str x t from r);cases e;rfl
 |wg b=>obtain⟨t,e⟩:=(show ∃t,u=Value.bytes b t from r);cases e;rfl
 |flt b=>obtain⟨t,e⟩:=(show ∃t,u=Value.float b t from r);cases e;rfl
 |ref a=>cases (show u=Value.ref a from r);rfl
 |ty n=>cases (show u=Value.type n from r);rfl
section
variable {P:Program}{w:World}{H H':Hp}{h h':Heap}{a C dx:Addr}{fs Mj:List (Str×V)}
theorem t8 (bu:iy P w H h) (e:H a=some (.ins C dx fs)):∃mA,xh h a dx C mA/\(∀f,jc (fs.lookup f) (mA f))/\PySem.Within mA (fs.map (·.1))/\fs.length<=1000/\H dx=some (.own a):=by
 obtain⟨d,z,ne,ob,mA,n,r,q⟩:=(show bM P w H h a (.ins C dx fs) from bu a _ e);exact⟨mA,⟨ob,n,ne⟩,r,q,z,d⟩
end
structure zk (K:aas)(C:Addr):Prop where
 pg:PySem.W.plainGet K C Str.empty=true
 hd:PySem.W.hasDictIn K C=true
 po:PySem.W.plainOver K C=true
 sa:PySem.W.findIn K (.ref C) "__setattr__"=some (some (.builtin "object.__setattr__"))
theorem zk.get {K:aas}{C:Addr}(c:zk K C)(f:Str):PySem.W.plainGet K C f=true:=c.pg
def ia (K:aas)(C:Addr)(f:Str):Prop:=PySem.W.findIn K (.ref C) f=some none
theorem ia.JO {K:aas}{C:Addr}{f:Str}(n:ia K C f):PySem.W.takerIn K C f=some none:=by
 unfold PySem.W.takerIn;rw[show PySem.W.findIn K (.ref C) f=some none from n];rfl
structure Meth (K:aas)(C:Addr)(m:Str)(f:Addr):Prop where
 at_:PySem.W.findIn K (.ref C) m=some (some (.ref f))
 fn:PySem.W.isFn K (.ref f)=true
 kp:PySem.W.keepIn K (.ref f)=true
section
variable {X:Cx}{pins:aav}{σ:St}{H:Hp}{s:Shared}{a C dx:Addr}{fs:List (Str×V)}{f:Str}{v:V}{A:Around}{E:aat}
theorem pj {b:Bool} {Q:aat} (I:Inv X pins σ H s) (e:H a=some (.ins C dx fs)) (c:zk X.K C) (n:ia X.K C f) (l:fs.lookup f=some v)
  (h:∀u s',Inv X pins σ H s'->RelV v u->Q u s'):wpAny (model X.prog X.w) A (getAttr (.ref a) f b) Q E s:=by
 obtain⟨mA,O,r,_,_,_⟩:=t8 I.bu e;obtain⟨u,hu,ru⟩:=jc.some_of (v:=v) (o:=mA f) (by rw[←l];exact r f);exact get_map I.mX O (c.get f) c.hd n hu (sr ru) (h u _ (I.tok _) ru)
theorem qD {m:Str}{g:Addr}{pl:Sem Bool}{Q:Value×aaw->Shared->Prop}(I:Inv X pins σ H s)(e:H a=some (.ins C dx fs))(c:zk X.K C)(k:Meth X.K C m g)(l:fs.lookup m=none)
  (h:Q (.ref g,[.ref a]) s):wpAny (model X.prog X.w) A (getMethod (.ref a) m pl) Q E s:=by
 obtain⟨mA,O,r,_,_,_⟩:=t8 I.bu e;have hn:mA m=none:=jc.none_of (by rw[←l];exact r m);exact B9 I.mX O (c.get m) k.at_ k.fn hn h
theorem qi {y:V}{u:Value}{Q:Unit->Shared->Prop}(I:Inv X pins σ H s)(e:H a=some (.ins C dx fs))(c:zk X.K C)(n:ia X.K C f)(hl:fs.length < 1000)(ry:RelV y u)
  (h:∀s',Inv X pins σ (upd H a (.ins C dx (d_ f y fs))) s'->Q () s'):wpAny (model X.prog X.w) A (setAttr (.ref a) f u) Q E s:=by
 obtain⟨mA,O,r,wi,_,ho⟩:=t8 I.bu e;have hz:(fs.map (·.1)).length<=sizeLine:=by rw[XH,Yb];omega
 refine EY I.mX O c.sa c.po n.JO c.hd wi hz λh' O' sb=>h _ ?_;have hd:∃o,h'.get? dx=some o:=let ⟨o,_,_,e',_⟩:=O'.ns;⟨o,e'⟩;refine I.write (x:=a) (e:=dx) (by rw[e];exact True.intro) (.inr ho) (λb q hb z=>(sb.2 b hb).trans z) hd ?_;refine⟨by rw[aq O.ne];exact ho,?_,O.ne,O'.obj,_,O'.ns,λg=>?_,λg hg=>?_⟩
 · have:=nO f y fs;omega
 · show jc ((d_ f y fs).lookup g) (if g=f then some u else mA g);rw[jP];by_cases q:g=f
   · rw[XJ q,XJ q];exact ry
   · rw[XI q,XI q];exact r g
 · by_cases q:g=f
   · rw[q];exact (mR f y fs).1
   · refine (mR f y fs).2 g (wi g λz=>hg ?_);show (if g=f then some u else mA g)=none;rw[XI q];exact z
theorem Inv.made (I:Inv X pins σ H s):Inv X pins σ (upd (upd H s.heap.objs.size (.own (s.heap.objs.size+1))) (s.heap.objs.size+1) (.ins C s.heap.objs.size []))
  {s with heap:=(s.heap.push PySem.W.emptyDict).push (PySem.W.instObj C s.heap.objs.size)}:=by
 have e1:(s.heap.push PySem.W.emptyDict).get? s.heap.objs.size=some PySem.W.emptyDict:=X0 s.heap rfl;have e2:((s.heap.push PySem.W.emptyDict).push (PySem.W.instObj C s.heap.objs.size)).get? (s.heap.objs.size+1)=some (PySem.W.instObj C s.heap.objs.size):=by
  have:=X0 (s.heap.push PySem.W.emptyDict) (o:=PySem.W.instObj C s.heap.objs.size) rfl
  rwa [YQ] at this
 have e3:(s.heap.push PySem.W.emptyDict).Ns s.heap.objs.size (λ_=>none):=⟨PySem.W.emptyDict,#[],_,e1,rfl,(λe he=>absurd he (by simp)),λ_=>rfl⟩;have I1:=I.laid (a:=s.heap.objs.size) (o:=.own (s.heap.objs.size+1)) (h':=s.heap.push PySem.W.emptyDict) (t':=s.toks) (λb u q=>XM _ q) (XT _) ⟨_,e1⟩;refine I1.laid (a:=s.heap.objs.size+1) (o:=.ins C s.heap.objs.size []) (t':=s.toks) (λb u q=>XM _ q) (aak (YQ _ _)) ?_;have ne:s.heap.objs.size≠s.heap.objs.size+1:=Yk (Z9 _);refine⟨by rw[aq ne,ae],Ye _,ne,e2,λ_=>none,(Heap.Ns1.of_empty e3).at λo q=>XM _ q,λ_=>True.intro,λy hy=>absurd rfl hy⟩
theorem yC {prog:Program}{w:World}{env:Env}{e:Expr}{f:Str}{pos:Pos}{s:Shared}{Q:aat}(hb:attributeBase e f env (eval e env)=eval e env)
  (h:wpAny (model prog w) A (eval e env) (λo s₁=>wpAny (model prog w) A (getAttr o f true) Q E s₁) E s):wpAny (model prog w) A (eval (.Attribute e f pos) env) Q E s :=
 Attribute_any_ h (by rw[arm_eval_Attribute,hb])
end
def vd (K:aas)(ta:TE)(f:Str):TE:=λσ H Q=>ta σ H λx H1=>∃a C dx fs v,x=.ref a/\H1 a=some (.ins C dx fs)/\zk K C/\ia K C f/\fs.lookup f=some v/\Q v H1
def K0 (K:aas)(ta tv:TE)(f:Str):TS:=λD σ H=>tv σ H λy H1=>ta σ H1 λx H2=>∃a C dx fs,x=.ref a/\H2 a=some (.ins C dx fs)/\zk K C/\ia K C f/\fs.length < 1000 /\
 D.nx σ (upd H2 a (.ins C dx (d_ f y fs)))
def JH (X:Cx)(op:Operator)(rd:V->V->Hp->VK->Prop):Prop :=
 ∀(pins:aav) (s:Shared) (σ:St) (H:Hp) (x y:V) (u v:Value) (Q:VK),Inv X pins σ H s->RelV x u->RelV y v->rd x y H Q->wpAny (model X.prog X.w) X.A (inplaceOp op u v) (EP X pins σ Q) X.xe s
def DV (K:aas)(ta tv:TE)(rd:V->V->Hp->VK->Prop)(f:Str):TS:=λD σ H=>ta σ H λx H1=>∃a C dx fs v,x=.ref a/\H1 a=some (.ins C dx fs)/\zk K C/\ia K C f/\fs.lookup f=some v /\
 tv σ H1 λy H2=>rd v y H2 λz H3=>∃MK Mj,H3 a=some (.ins C MK Mj)/\Mj.length < 1000/\D.nx σ (upd H3 a (.ins C MK (d_ f z Mj)))
section
variable {X:Cx}{o e value:Expr}{f:Str}{pos pos' L6:Pos}{ta tv:TE}
theorem aS (he:PE X e ta) (hb:attributeBase e f X.env (eval e X.env)=eval e X.env):PE X (.Attribute e f pos) (vd X.K ta f):=by
 intro pins s σ H Q I h;refine yC hb (bA (he pins s σ H _ I h) λu s1 ⟨x,H1,I1,rx,a,C,dx,fs,v,ex,ea,c,n,l,q⟩=>?_);subst ex;obtain rfl:u=Value.ref a:=rx;exact pj I1 ea c n l λu' s2 I2 ru=>⟨v,H1,I2,ru,q⟩
theorem cH (ha:PE X o ta)(hv:PE X value tv)(hs:swapsWith value (some (.Attribute o f pos')) pos.line X.env=pure false):PS X (.Assign [.Attribute o f pos'] value pos) (K0 X.K ta tv f):=by
 intro pins s σ H D I h;refine plainObj_wpAny_Assign_Attribute (bA (hv pins s σ H _ I h) λu s1 ⟨y,H1,I1,ry,q⟩=>bA (ha pins s1 σ H1 _ I1 q) λov s2 ⟨x,H2,I2,rx,a,C,dx,fs,ex,ea,c,n,l,q2⟩=>?_) hs;subst ex;obtain rfl:ov=Value.ref a:=rx;exact qi I2 ea c n l ry λs3 I3=>⟨σ,_,I3,q2⟩
theorem rS {op:Operator}{rd:V->V->Hp->VK->Prop}(ha:PE X o ta)(hv:PE X value tv)(Vk:JH X op rd):PS X (.AugAssign (.Attribute o f L6) op value pos) (DV X.K ta tv rd f):=by
 intro pins s σ H D I h;refine wpAny_AugAssign_AttributeAny (bA (ha pins s σ H _ I h) λov s1 ⟨x,H1,I1,rx,a,C,dx,fs,v,ex,ea,c,n,l,q⟩=>?_);subst ex;obtain rfl:ov=Value.ref a:=rx;refine pj I1 ea c n l λu s2 I2 ru=>bA (hv pins s2 σ H1 _ I2 q) λw3 s3 ⟨y,H2,I3,ry,q3⟩=>bA (Vk pins s3 σ H2 v y u w3 _ I3 ru ry q3) λw4 s4 ⟨z,H3,I4,rz,MK,Mj,Vl,l',q4⟩=>?_;exact qi I4 Vl c n l' rz λs5 I5=>⟨σ,_,I5,q4⟩
def KS:V->V->Hp->VK->Prop:=λx y H Q=>∃i j,x=.int i/\y=.int j/\Q (.int (i+j)) H
theorem C1:JH X .Add KS:=by
 rintro pins s σ H x y u v Q I rx ry ⟨i,j,rfl,rfl,q⟩;obtain⟨t,rfl⟩:=(show ∃t,u=Value.int i t from rx);obtain⟨t',rfl⟩:=(show ∃t',v=Value.int j t' from ry);exact PyProof.Rows.iadd_int ⟨.int (i+j),H,I.tok _,⟨_,rfl⟩,q⟩
end
section
variable {X:Cx}{pins:aav}{σ:St}{H:Hp}{s:Shared}{A:Around}{E:aat}{Q:aat}{c:Value}{b:Bool}
end
structure cO (k:Nat)(A:Around):Prop where
 hd:A.handled=none
 dp:A.depth+3*k+5 < recursionLimit
 un:A.units+16*k+200 < cLine
theorem cO.mono {j k:Nat}{A:Around}(r:cO k A)(h:j<=k):cO j A:=⟨r.hd,by have:=r.dp;omega,by have:=r.un;omega⟩
theorem cO.deeper {k:Nat}{A:Around}(r:cO (k+1) A)(env:Env):cO k (A.deeper env) :=
 ⟨r.hd,by have:=r.dp;show A.depth+1+3*k+5 < _;omega,by have:=r.un;show A.units+3+16*k+200 < _;omega⟩
theorem xj {A:Around}{C:Addr}{us:aaw}{kw:List (Str×Value)}:(A.under (.builtin "type.__call__" ⟨.ref C::us,kw⟩)).depth=A.depth+1:=by
 first|rfl|simp[Around.under,Code.weight,Code.isCreation,Code.isGuard,Code.isCaller,Code.frames,Code.isFrame,guardIds]
theorem wX {A:Around}{C:Addr}{us:aaw}{kw:List (Str×Value)}:(A.under (.builtin "type.__call__" ⟨.ref C::us,kw⟩)).units=A.units+1:=by
 first|rfl|simp[Around.under,Code.cUnits,Code.frames,Code.isFrame]
theorem cO.make {k:Nat}{A:Around}(r:cO (k+1) A)(C:Addr)(us:aaw)(kw:List (Str×Value)):cO k (A.under (.builtin "type.__call__" ⟨.ref C::us,kw⟩)) :=
 ⟨r.hd,by have:=r.dp;rw[xj];omega,by have:=r.un;rw[wX];omega⟩
theorem cO.depth {k:Nat}{A:Around}(r:cO k A):A.depth < recursionLimit:=by have:=r.dp;omega
theorem cO.units {k:Nat}{A:Around}(r:cO k A):A.units+64 < cLine:=by have:=r.un;omega
def eV:TA:=λ_ H Q=>Q [] H
def cI (ta:TE)(tr:TA):TA:=λσ H Q=>ta σ H λx H1=>tr σ H1 λxs H2=>Q (x::xs) H2
section
variable {X:Cx}{e:Expr}{es:List Expr}{te:TE}{t:TA}{pos:Pos}
theorem ah:PA X [] eV:=λ_ _ _ _ H Q I h=>Calls.spliced_nil ⟨[],H,I,.nil,h⟩
theorem aa (ha:PE X e te)(hr:PA X es t)(hs:starEach (e::es) X.env=(false,eval e X.env)::starEach es X.env:=by rfl):PA X (e::es) (cI te t):=by
 intro pos pins s σ H Q I h;rw[hs];show wpAny _ _ (spliced ((false,eval e X.env)::backTo pos (starEach es X.env))) _ _ s;refine aap (bA (ha pins s σ H _ I h) λu s1 ⟨x,H1,I1,r1,q1⟩=>?_);exact bA (hr pos pins s1 σ H1 _ I1 q1) λus s2 ⟨xs,H2,I2,r2,q2⟩=>⟨x::xs,H2,I2,.cons r1 r2,q2⟩
def KN (t:TA):TE:=λσ H Q=>t σ H λxs H1=>xs.length<=sizeLine/\∀p,H1 p=none->Q (.ref p) (upd H1 p (.tup xs))
def G5 (t:TA):TE:=λσ H Q=>t σ H λxs H1=>xs.length<=sizeLine/\∀p,H1 p=none->Q (.ref p) (upd H1 p (.lst xs))
theorem dg {x1}(h:PA X es t):PE X (.Tuple es x1 pos) (KN t):=by
 intro pins s σ H Q I hq;refine wpAny_Tuple_spliced (bA (h pos pins s σ H _ I hq) λus s1 ⟨xs,H1,I1,r,z,q⟩=>⟨by rw[←r.length];exact z,?_⟩);have hf:H1 s1.heap.objs.size=none:=I1.bu.fresh (XT _);refine⟨.ref s1.heap.objs.size,upd H1 s1.heap.objs.size (.tup xs),I1.laid (t':=s1.toks) (λb u e=>XM _ e) (XT _) ?_,rfl,q _ hf⟩;exact⟨z,us,r,⟨_,X0 _ rfl,rfl,_,rfl⟩⟩
theorem bT (h:PA X es t):PE X (.List es pos) (G5 t):=by
 intro pins s σ H Q I hq;refine wpAny_List_spliced (bA (h pos pins s σ H _ I hq) λus s1 ⟨xs,H1,I1,r,z,q⟩=>⟨by rw[←r.length];exact z,?_⟩);have hf:H1 s1.heap.objs.size=none:=I1.bu.fresh (XT _);refine⟨.ref s1.heap.objs.size,upd H1 s1.heap.objs.size (.lst xs),I1.laid (t':=s1.toks) (λb u e=>XM _ e) (XT _) ?_,rfl,q _ hf⟩;exact⟨z,us,0,r,X0 _ rfl⟩
end
abbrev Sp:=List V->Hp->VK->XK->Prop
abbrev mx:=List Env->Hp->Shared->XK->Value->Shared->Prop
structure wY (P:Program)(w:World)(K:aas)(mg:aau)(base:Heap)(A:Around)(outer:List Env)(s:Shared)(H:Hp):Prop where
 frames:A.frames=some outer
 mod:Mod K mg base
 bs:∀b o,base.get? b=some o->s.heap.get? b=some o/\H b=none
 C_:base.objs.size<=s.heap.objs.size
 ml:s.heap.FunFrames base outer
 FY:∀b∈wj outer,H b=none
 bu:iy P w H s.heap
 bare:AllBare s.gens
def CE (outer:List Env)(P:Program)(w:World)(H:Hp)(s:Shared)(Q:VK)(u:Value)(s':Shared):Prop :=
 ∃v H',s'.os=s.os/\AllBare s'.gens/\Un (wj outer) [] H H' s.heap s'.heap/\iy P w H' s'.heap/\RelV v u/\Q v H'
def CR (CX:mx)(outer:List Env)(P:Program)(w:World)(H:Hp)(s:Shared)(Q:VK)(E:XK)(r:Result)(s':Shared):Prop :=
 match r with
 |.ok (.ret u)=>CE outer P w H s Q u s'
 |.ok _=>False
 |.error e=>CX outer H s E e s'
structure a9 (P:Program)(w:World)(K:aas)(mg:aau)(base:Heap)(CX:mx)(k:Nat)(f:Addr)(fd:FuncData)(ps:List Str)(sp:Sp):Prop where
 len:∀vs H Q E,sp vs H Q E->vs.length=ps.length
 run:∀(A:Around) (outer:List Env) (s:Shared) (H:Hp) (args:Args) (us:aaw) (vs:List V) (Q:VK) (E:XK),cO k A->wY P w K mg base A outer s H->BindsTo s fd args (ps.zip us)->Vals vs us->sp vs H Q E ->
  codeAny (model P w) A (.call (.ref f) args) (CR CX outer P w H s Q E) s
theorem a9.mono {P:Program}{w:World}{K:aas}{mg:aau}{base:Heap}{CX:mx}{j k:Nat}{f:Addr}{fd:FuncData}{ps:List Str}{sp:Sp}(F:a9 P w K mg base CX j f fd ps sp)(h:j<=k) :
  a9 P w K mg base CX k f fd ps sp:=⟨F.len,λA outer s H args us vs Q E hr=>F.run A outer s H args us vs Q E (hr.mono h)⟩
theorem wY.make {P:Program}{w:World}{K:aas}{mg:aau}{base:Heap}{A:Around}{outer:List Env}{s:Shared}{H:Hp}(e:wY P w K mg base A outer s H)(C:Addr)(us:aaw)(kw:List (Str×Value)) :
  wY P w K mg base (A.under (.builtin "type.__call__" ⟨.ref C::us,kw⟩)) outer s H:=⟨by first|exact e.frames|(simpa [Around.under,Code.envs,Code.isFrame,pushEnvs] using e.frames),e.mod,e.bs,e.C_,e.ml,e.FY,e.bu,e.bare⟩
section
variable {X:Cx}{pins:aav}{σ:St}{H:Hp}{s s':Shared}
theorem Inv.HN (I:Inv X pins σ H s):wY X.prog X.w X.K X.mg X.base X.A X.stack s H :=
 ⟨I.ok.frames,I.ok.mod,I.bs,Yu I.ok.C_ I.sz,I.stack,I.uz,I.bu,I.bare⟩
theorem Inv.after {Q:VK}{u:Value}(I:Inv X pins σ H s)(h:CE X.stack X.prog X.w H s Q u s'):EP X pins σ Q u s':=by
 obtain⟨v,H',os,bare,un,bu,r,q⟩:=h;obtain⟨hh,g,d,t,Q3⟩:=s';obtain rfl:Q3=s.os:=os;exact⟨v,H',I.call (h':=hh) (g':=g) (d':=d) (t':=t) (ch:=[]) un bu bare (λb z=>absurd z (by simp)),r,q⟩
end
def n9 (sp:Sp)(L8:List V)(E:XK)(t:TA):TE:=λσ H Q=>t σ H λvs H1=>sp (vs++L8) H1 Q E
def uY (C:Addr)(m:Str)(sp:Sp)(L8:List V)(E:XK)(ta:TE)(t:TA):TE:=λσ H Q=>ta σ H λx H1=>∃a dx fs,x=.ref a/\H1 a=some (.ins C dx fs)/\fs.lookup m=none /\
 t σ H1 λvs H2=>sp (x::(vs++L8)) H2 Q E
def Fx (C:Addr)(sp:Sp)(L8:List V)(E:XK)(t:TA):TE:=λσ H Q=>t σ H λvs H1=>∀x dx,H1 x=none->H1 dx=none->dx≠x ->
 sp (.ref x::(vs++L8)) (upd (upd H1 dx (.own x)) x (.ins C dx [])) (λv H2=>v=.b8/\Q (.ref x) H2) E
def Binds (K:aas)(fd:FuncData)(ps:List Str)(ds:aaw):Prop :=
 ∀(s:Shared) (us:aaw),K.In s.heap->(us++ds).length=ps.length->BindsTo s fd ⟨us,[]⟩ (ps.zip (us++ds))
theorem Binds.all {K:aas}{fd:FuncData}{ps:List Str}(h:∀us:aaw,us.length=ps.length->bindArgs fd ⟨us,[]⟩=pure (ps.zip us)):Binds K fd ps []:=λs us _ hl=>by
 rw[YJ] at hl ⊢;exact .of_eq (h us hl)
def Passes (CX:mx)(X:Cx)(E:XK):Prop:=∀(pins:aav) (σ:St) (H:Hp) (s:Shared) (e:Value) (s':Shared),Inv X pins σ H s->CX X.stack H s E e s'->X.xe e s'
section
variable {X:Cx}{CX:mx}{k:Nat}{f C:Addr}{fd:FuncData}{ps:List Str}{sp:Sp}{L8:List V}{ds:aaw}{E:XK}{x m:Str}{p pos apos:Pos}{e o:Expr}{es:List Expr}{ta:TE}{t:TA}
theorem xt {pins:aav} {σ:St} {H:Hp} {s:Shared} {Q:VK} {us:aaw} {vs:List V} (F:a9 X.prog X.w X.K X.mg X.base CX k f fd ps sp) (hr:cO k X.A) (hb:Binds X.K fd ps ds) (hd:Vals L8 ds) (hx:Passes CX X E)
  (I:Inv X pins σ H s) (r:Vals vs us) (h:sp (vs++L8) H Q E):wpAny (model X.prog X.w) X.A (call (.ref f) us) (EP X pins σ Q) X.xe s:=by
 have r2:Vals (vs++L8) (us++ds):=r.append hd;have hl:(us++ds).length=ps.length:=by rw[←r2.length];exact F.len _ _ _ _ h
 refine wpAny_call (aai (F.run X.A X.stack s H ⟨us,[]⟩ (us++ds) (vs++L8) Q E hr I.HN (hb s us I.mX hl) r2 h) λr s' hq=>?_);cases r with
 |error e=>exact hx pins σ H s e s' I hq
 |ok fl =>
  cases fl with
  |ret u=>exact I.after hq
  |next=>exact False.elim hq
  |brk=>exact False.elim hq
  |cont=>exact False.elim hq
theorem D9 (F:a9 X.prog X.w X.K X.mg X.base CX k f fd ps sp)(hr:cO k X.A)(hg:Gl X x)(hm:X.mg x=some (.ref f))(hk:PySem.W.keepIn X.K (.ref f)=true)(hb:Binds X.K fd ps ds)(hd:Vals L8 ds)(hx:Passes CX X E)
  (ha:PA X (e::es) t)(Mt:(x==("__debug__":Str))=false:=by decide)(he:starEach (e::es) X.env=(false,eval e X.env)::starEach es X.env:=by rfl)(LY:(backTo pos (starEach es X.env)).any (·.1)=false:=by rfl) :
  PE X (.Call (.Name x p) (e::es) [] pos) (n9 sp L8 E t):=by
 intro pins s σ H Q I h;refine ZW (lY I hg hm ?_ Mt);refine PySem.W.callWith_K (h₀:=X.base) I.ok.mod.F6 hk (bA (ha pos pins s σ H _ I h) λus s1 ⟨vs,H1,I1,r,q⟩=>⟨I1.mX,?_⟩) he LY;exact xt F hr hb hd hx I1 r q
theorem Dq {pl:Sem Bool}(he:PE X o ta)(c:zk X.K C)(hm:Meth X.K C m f)(F:a9 X.prog X.w X.K X.mg X.base CX k f fd ps sp)(hr:cO k X.A)(hb:Binds X.K fd ps ds)(hd:Vals L8 ds)(hx:Passes CX X E)(ha:PA X (e::es) t)
  (Ms:starEach (e::es) X.env=(false,eval e X.env)::starEach es X.env:=by rfl)(LY:(backTo pos (starEach es X.env)).any (·.1)=false:=by rfl)
  (ht:eval (.Call (.Attribute o m apos) (e::es) [] pos) X.env=(do
   let ov ←eval o X.env
   standAt apos.atName
   let (f,first) ←holding [ov] (getMethod ov m pl)
   callWith pos f first (backTo pos (starEach (e::es) X.env)) (backToKw pos (keywordEach [] X.env))):=by rfl) :
  PE X (.Call (.Attribute o m apos) (e::es) [] pos) (uY C m sp L8 E ta t):=by
 intro pins s σ H Q I h;refine PySem.W.methodCall_KW (pl:=pl) (bA (he pins s σ H _ I h) λu s1 ⟨x,H1,I1,rx,a,dx,fs,ex,ea,l,q⟩=>?_) ht;subst ex;obtain rfl:u=Value.ref a:=rx;refine qD I1 ea c hm l ?_;refine PySem.W.callWith_K (first:=[.ref a]) (h₀:=X.base) I.ok.mod.F6 hm.kp (bA (ha pos pins s1 σ H1 _ I1 q) λus s2 ⟨vs,H2,I2,r,q2⟩=>⟨I2.mX,?_⟩) Ms LY;exact xt (us:=.ref a::us) (vs:=.ref a::vs) F hr hb hd hx I2 (.cons rfl r) q2
theorem Bh {pl:Sem Bool}(he:PE X o ta)(c:zk X.K C)(hm:Meth X.K C m f)(F:a9 X.prog X.w X.K X.mg X.base CX k f fd ps sp)(hr:cO k X.A)(hb:Binds X.K fd ps ds)(hd:Vals L8 ds)(hx:Passes CX X E)
  (ht:eval (.Call (.Attribute o m apos) [] [] pos) X.env=(do
   let ov ←eval o X.env
   standAt apos.atName
   let (f,first) ←holding [ov] (getMethod ov m pl)
   callWith pos f first (backTo pos (starEach [] X.env)) (backToKw pos (keywordEach [] X.env))):=by rfl) :
  PE X (.Call (.Attribute o m apos) [] [] pos) (uY C m sp L8 E ta eV):=by
 intro pins s σ H Q I h;refine PySem.W.methodCall_KW (pl:=pl) (bA (he pins s σ H _ I h) λu s1 ⟨x,H1,I1,rx,a,dx,fs,ex,ea,l,q⟩=>?_) ht;subst ex;obtain rfl:u=Value.ref a:=rx;refine qD I1 ea c hm l ?_;exact PySem.W.callWith_K0 (first:=[.ref a]) I1.mX hm.kp (xt (us:=[.ref a]) (vs:=[.ref a]) F hr hb hd hx I1 (.cons rfl .nil) q)
structure Mk (K:aas)(C f:Addr):Prop where
 makes:PySem.W.makesIn K C=true
 init:PySem.W.findIn K (.ref C) "__init__"=some (some (.ref f))
 fn:PySem.W.isFn K (.ref f)=true
 kp:PySem.W.keepIn K (.ref C)=true
theorem Ck {pins:aav}{σ:St}{H:Hp}{s:Shared}{Q:VK}{us:aaw}{vs:List V}(M:Mk X.K C f)(F:a9 X.prog X.w X.K X.mg X.base CX k f fd ps sp)(hr:cO (k+1) X.A)(hb:Binds X.K fd ps ds)(hd:Vals L8 ds)
  (hx:Passes CX X E)(I:Inv X pins σ H s)(r:Vals vs us)
  (h:∀x dx,H x=none->H dx=none->dx≠x->sp (.ref x::(vs++L8)) (upd (upd H dx (.own x)) x (.ins C dx [])) (λv H2=>v=.b8/\Q (.ref x) H2) E) :
  wpAny (model X.prog X.w) X.A (call (.ref C) us) (EP X pins σ Q) X.xe s:=by
 have hq:=h (s.heap.objs.size+1) s.heap.objs.size (I.bu.fresh (Nat.le_succ _)) (I.bu.fresh (XT _)) (Yk (Z9 _));have I2:=Inv.made (C:=C) I;have r2:Vals (V.ref (s.heap.objs.size+1)::(vs++L8)) (Value.ref (s.heap.objs.size+1)::(us++ds)):=.cons rfl (r.append hd);have hl:(Value.ref (s.heap.objs.size+1)::us++ds).length=ps.length:=by
  have e:=r2.length;rw[F.len _ _ _ _ hq] at e;exact e.symm
 refine wpAny_call (B6 (f:=f) I.mX M.makes M.init (Yx.mp M.fn) (aai (F.run _ X.stack _ _ ⟨Value.ref (s.heap.objs.size+1)::us,[]⟩ (Value.ref (s.heap.objs.size+1)::(us++ds)) _ _ E (hr.make C us [])
  (I2.HN.make C us []) (hb _ (Value.ref (s.heap.objs.size+1)::us) I2.mX hl) r2 hq) λr s' M4=>?_))
 cases r with
 |error e=>exact hx pins σ _ _ e s' I2 M4
 |ok fl =>
  cases fl with
  |ret u =>
   obtain⟨v,H',I3,rv,ev,q3⟩:=I2.after M4;subst ev;exact⟨rv,⟨V.ref (s.heap.objs.size+1),H',I3,rfl,q3⟩⟩
  |next=>exact False.elim M4
  |brk=>exact False.elim M4
  |cont=>exact False.elim M4
theorem Ep (M:Mk X.K C f)(F:a9 X.prog X.w X.K X.mg X.base CX k f fd ps sp)(hr:cO (k+1) X.A)(hg:Gl X x)(hm:X.mg x=some (.ref C))(hb:Binds X.K fd ps ds)(hd:Vals L8 ds)(hx:Passes CX X E)
  (ha:PA X (e::es) t)(Mt:(x==("__debug__":Str))=false:=by decide)(he:starEach (e::es) X.env=(false,eval e X.env)::starEach es X.env:=by rfl)(LY:(backTo pos (starEach es X.env)).any (·.1)=false:=by rfl) :
  PE X (.Call (.Name x p) (e::es) [] pos) (Fx C sp L8 E t):=by
 intro pins s σ H Q I h;refine ZW (lY I hg hm ?_ Mt);refine PySem.W.callWith_K (h₀:=X.base) I.ok.mod.F6 M.kp (bA (ha pos pins s σ H _ I h) λus s1 ⟨vs,H1,I1,r,q⟩=>⟨I1.mX,?_⟩) he LY;exact Ck M F hr hb hd hx I1 r q
end
section
variable {X:Cx}{CX:mx}{k:Nat}{f C:Addr}{fd:FuncData}{ps ks:List Str}{sp:Sp}{E:XK}{x m:Str}{p pos apos kpos:Pos}{e o:Expr}{es:List Expr}{kws:List Keyword}{te ta:TE}{t tk:TA}{nm:Option Str}
variable {g:aaw->aaw->aaw} {gV:List V->List V->List V}
end
structure aG (N P:List Str)(sc:Scope):Prop where
 kind:sc.kind=.function
 co:sc.isCoroutine=false
 gen:sc.isGenerator=false
 nd:N.Nodup
 pre:N.take P.length=P
 par:∀x∈P,sc.names.lookup x=some .local∨sc.names.lookup x=some .cell
 Io:∀y∈sc.names,y.2≠.free
theorem q_ {kindOf:Str->Option NameKind}{x:Str}:∀{binds:List (Str×Value)} {m:aau},(∀v,(x,v)∉binds)->bindL kindOf binds m x=m x
 |[],_,_=>rfl
 |(n,v)::r,m,h=>by
  unfold bindL;rw[q_ λw hw=>h w (X2 _ hw)];split
  · have:x≠n:=by rintro rfl;exact h v Yt
    simp[this]
  · rfl
theorem rQ {kindOf:Str->Option NameKind}{x:Str}:∀{binds:List (Str×Value)} {m:aau},(∀v,(x,v)∉binds)->bindC kindOf binds m x=m x
 |[],_,_=>rfl
 |(n,v)::r,m,h=>by
  unfold bindC;rw[rQ λw hw=>h w (X2 _ hw)];split
  · rfl
  · have:x≠n:=by rintro rfl;exact h v Yt
    simp[this]
theorem rG {kindOf:Str->Option NameKind}{x:Str}{v:Value}:∀{P:List Str} {vs:aaw} {i:Nat} {m:aau},P.Nodup->P[i]?=some x->vs[i]?=some v->kindOf x=some .local ->
  bindL kindOf (P.zip vs) m x=some v
 |[],_,_,_,_,h,_,_=>by simp at h
 |_::_,[],_,_,_,_,h,_=>by simp at h
 |p::P,w::vs,0,m,nd,h1,h2,hk=>by
  simp at h1 h2;subst h1;subst h2;show bindL kindOf ((p,w)::P.zip vs) m p=_;unfold bindL;rw[q_ λv hv=>(YT.mp nd).1 (List.of_mem_zip hv).1,XJ hk];simp
 |p::P,w::vs,i+1,m,nd,h1,h2,hk=>by
  show bindL kindOf ((p,w)::P.zip vs) m x=_;unfold bindL;exact rG (i:=i) (YT.mp nd).2 (by simpa using h1) (by simpa using h2) hk
theorem r8 {kindOf:Str->Option NameKind}{x:Str}{v:Value}:∀{P:List Str} {vs:aaw} {i:Nat} {m:aau},P.Nodup->P[i]?=some x->vs[i]?=some v->kindOf x≠some .local ->
  bindC kindOf (P.zip vs) m x=some v
 |[],_,_,_,_,h,_,_=>by simp at h
 |_::_,[],_,_,_,_,h,_=>by simp at h
 |p::P,w::vs,0,m,nd,h1,h2,hk=>by
  simp at h1 h2;subst h1;subst h2;show bindC kindOf ((p,w)::P.zip vs) m p=_;unfold bindC;rw[rQ λv hv=>(YT.mp nd).1 (List.of_mem_zip hv).1,XI hk];simp
 |p::P,w::vs,i+1,m,nd,h1,h2,hk=>by
  show bindC kindOf ((p,w)::P.zip vs) m x=_;unfold bindC;exact r8 (i:=i) (YT.mp nd).2 (by simpa using h1) (by simpa using h2) hk
def start (N:List Str)(vs:List V):St:=vs.map some++List.replicate (N.length - vs.length) none
def nj (CX:mx)(P:Program)(w:World)(K:aas)(mg:aau)(base:Heap)(N:List Str)(qual:Str)(scope:Scope)(f:Addr)(cd:Value)(A:Around)(outer:List Env)(s:Shared)(H:Hp)(E:XK):Cx where
 prog:=P
 w:=w
 K:=K
 mg:=mg
 base:=base
 A:=A.deeper (envOfC qual scope s.heap.objs.size f cd)
 N:=N
 kN:=s
 Iv:=H
 env:=envOfC qual scope s.heap.objs.size f cd
 outer:=outer
 stack:=envOfC qual scope s.heap.objs.size f cd::outer
 ex:=[]
 calm:=true
 fn:=λ_=>true
 pn:=[]
 xe:=λe s'=>wpAny (model P w) (A.deeper (envOfC qual scope s.heap.objs.size f cd)) (leaving (envOfC qual scope s.heap.objs.size f cd) e) (λ_ P0=>CX outer H s E e P0) (λe' P0=>CX outer H s E e' P0) s'
theorem vi {sc:Scope}{n:Nat}{x:Str}(h:sc.names.lookup x=some .cell):∃c,(cellsFrom n sc.names []).lookup x=some c:=by
 have q:=PySem.W.cellsFrom_some sc.names n [] (.inl h);exact ZT.mp q
theorem Ag {CX:mx}{P:Program}{w:World}{K:aas}{mg:aau}{base:Heap}{N ps:List Str}{qual:Str}{scope:Scope}{f:Addr}{cd:Value}{A:Around}{outer:List Env}{s s1:Shared}{H:Hp}{E:XK}{us:aaw}{vs:List V}
  (S:aG N ps scope)(hd:A.handled=none)(e0:wY P w K mg base A outer s H)(hl:vs.length=ps.length)(r:Vals vs us)
  (x:InCallC s s.heap.objs.size (bindL (envOfC qual scope s.heap.objs.size f cd).kindOf (ps.zip us) λ_=>none) (cellsFrom (s.heap.objs.size+1) scope.names []) (bindC (envOfC qual scope s.heap.objs.size f cd).kindOf (ps.zip us) λ_=>none) s1) :
  Inv (nj CX P w K mg base N qual scope f cd A outer s H E) [] (start N vs) H s1:=by
 have LY:ps.length<=N.length:=by have:=YN List.length S.pre;rw[X7] at this;omega
 obtain⟨h1,tk,rfl,hk⟩:=x.done;have Oi:∀b:Addr,b∉(nj CX P w K mg base N qual scope f cd A outer s H E).ex:=λb z=>absurd (show b∈([]:List Addr) from z) (by simp);refine⟨⟨e0.mod,S.kind,rfl,rfl,XT _,λy z c h1 h2=>?_,λy hy=>?_,λy c _ h=>?_,λ_=>hd,Around.frames_deeper e0.frames,.inr ⟨rfl,rfl⟩,λb z=>absurd z (Oi b),e0.bs,e0.C_,λb _ _=>Oi b,λb z=>absurd z (Oi b),e0.ml,e0.FY⟩,
  rfl,e0.bare,Un.kept hk,⟨_,x.toInCall.ns,λi y v h1 h2 h3=>?_⟩,λy c h=>⟨_,x.cell y c h⟩,e0.bu.fresh (XT _),λy c h=>?_,λp hp=>absurd (show p∈([]:aav) from hp) (by simp),e0.bu.kept hk,?_⟩
 · exact name_of_addr x.apart (PySem.mem_of_lookup h1) (PySem.mem_of_lookup h2)
 · have hy:scope.names.lookup y=some .cell∨scope.names.lookup y=some .free:=hy;rcases hy with hy|hy
   · exact vi hy
   · exact absurd rfl (S.Io _ (PySem.mem_of_lookup hy))
 · exact Nat.le_of_lt (x.above y c (PySem.mem_of_lookup h))
 · have hi:i < vs.length:=by
    unfold start at h2;by_cases hi:i < vs.length
    · exact hi
    · rw[aao (by simpa using hi)] at h2;rw[List.getElem?_replicate] at h2;split at h2 <;> cases h2
   have ha:vs[i]?=some v:=by
    unfold start at h2;rw[List.getElem?_append_left (by simpa using hi),XO] at h2;cases e:vs[i]? with
    |none=>rw[e] at h2;cases h2
    |some a=>rw[e] at h2;cases h2;rfl
   obtain⟨u,hu,rv⟩:=r.get ha;have hp:ps[i]?=some y:=by
    rw[←S.pre,List.getElem?_take_of_lt (by omega)];exact h1
   have SG:ps.Nodup:=by rw[←S.pre];exact S.nd.sublist (List.take_sublist _ _)
   refine⟨u,rv,?_⟩;rcases S.par y (Yc hp) with k|k
   · exact .inl ⟨k,rG SG hp hu k⟩
   · obtain⟨c,e⟩:=vi (n:=s.heap.objs.size+1) k;refine .inr ⟨.inl k,c,e,?_⟩;have q:=x.cell y c e;rw[r8 SG hp hu (by show scope.names.lookup y≠_;rw[k];decide)] at q;exact q
 · exact e0.bu.fresh (Nat.le_of_lt (x.above y c (PySem.mem_of_lookup h)))
 · unfold start;show _=N.length;rw[X6,XH,Yi];omega
theorem C2 {CX:mx}{P:Program}{w:World}{K:aas}{mg:aau}{base:Heap}{k:Nat}{f:Addr}{name qual:Str}{params:Arguments}{body:List Stmt}{scope:Scope}{dV kV doc pm LP ct oc:Value}{an od:Option Addr}
  {MG:Array (Option Value)}{N ps:List Str}{sp:Sp}(lk:K.lookup f=some ⟨oc,od,.func (PySem.W.fnOf name qual params body scope dV kV doc pm an LP ct),MG⟩)(Mp:PySem.W.codeIn K LP qual=true)(S:aG N ps scope)
  (len:∀vs H Q E,sp vs H Q E->vs.length=ps.length)
  (LW:∀(A:Around) (outer:List Env) (s:Shared) (H:Hp) (vs:List V) (Q:VK) (E:XK),cO k (A.deeper (envOfC qual scope s.heap.objs.size f LP))->sp vs H Q E ->
   ∃t,B7 (nj CX P w K mg base N qual scope f LP A outer s H E) body t/\t {nx:=λ_ H'=>Q .b8 H',rt:=Q} (start N vs) H) :
  a9 P w K mg base CX (k+1) f (PySem.W.fnOf name qual params body scope dV kV doc pm an LP ct) ps sp:=by
 refine⟨len,λA outer s H args us vs Q E hr e0 hb r Mq=>?_⟩;have hl:=len _ _ _ _ Mq;have KX:K.In s.heap:=e0.mod.F6.keeps λb o e=>(e0.bs b o e).1;have lim:s.heap.NoLimit:=e0.mod.nolimit.keeps λb o e=>(e0.bs b o e).1;have OT:∀y∈ps.zip us,scope.names.lookup y.1=some .local∨(scope.names.lookup y.1=some .cell/\((cellsFrom (s.heap.objs.size+1) scope.names []).lookup y.1).isSome=true):=λ⟨n,v⟩ hy=>by
  rcases S.par n (List.of_mem_zip hy).1 with q|q
  · exact .inl q
  · exact .inr ⟨q,PySem.W.cellsFrom_some _ _ _ (.inl q)⟩
 refine codeAny_call_function hr.depth (KX _ _ lk) rfl S.co S.gen rfl (PySem.W.codeRec_of KX Mp) (hb _ _ _ _ ?_);refine wpAny_newFunctionEnv_cells S.kind OT λenv he s1 x=>?_;subst he;refine⟨lim.keeps x.toInCall.keep,codeAny_func ?_⟩;obtain⟨t,ht,hq⟩:=LW A outer s H vs Q E (hr.deeper _) Mq;have I:Inv (nj CX P w K mg base N qual scope f LP A outer s H E) [] (start N vs) H s1:=Ag S hr.hd e0 hl r x;refine YZ (ht s1 (start N vs) H _ I hq) (λfl s' hs=>?_) λe s' hs=>hs;have fin:∀{σ':St} {H':Hp} {v:V} {u:Value},Inv (nj CX P w K mg base N qual scope f LP A outer s H E) [] σ' H' s'->RelV v u->Q v H'->CE outer P w H s Q u s' :=
  λ{σ' H' v u} J rv q=>⟨v,H',J.os,J.bare,J.base,J.bu,rv,q⟩
 cases fl with
 |ret u =>
  obtain⟨v,σ',H',J,rv,q⟩:=hs;exact fin J rv q
 |next =>
  obtain⟨σ',H',J,q⟩:=hs;exact fin (v:=V.b8) (u:=Value.none) J rfl q
 |brk =>
  obtain⟨_,_,_,q⟩:=hs;exact False.elim q
 |cont =>
  obtain⟨_,_,_,q⟩:=hs;exact False.elim q
theorem F8 {CX:mx}{P:Program}{w:World}{K:aas}{mg:aau}{base:Heap}{k:Nat}{f:Addr}{name qual:Str}{params:Arguments}{body:List Stmt}{scope:Scope}{dV kV doc pm LP ct oc:Value}{an od:Option Addr}
  {MG:Array (Option Value)}{N ps:List Str}{sp:Sp}(lk:K.lookup f=some ⟨oc,od,.func (PySem.W.fnOf name qual params body scope dV kV doc pm an LP ct),MG⟩)(Mp:PySem.W.codeIn K LP qual=true)(S:aG N ps scope)
  (len:∀vs H Q E,sp vs H Q E->vs.length=ps.length)
  (LW:∀(A:Around) (outer:List Env) (s:Shared) (H:Hp) (vs:List V) (Q:VK) (E:XK),cO k (A.deeper (envOfC qual scope s.heap.objs.size f LP))->sp vs H Q E ->
   ∃t,qR (nj CX P w K mg base N qual scope f LP A outer s H E) body t/\t {nx:=λ_ H'=>Q .b8 H',rt:=Q} (start N vs) H) :
  a9 P w K mg base CX (k+1) f (PySem.W.fnOf name qual params body scope dV kV doc pm an LP ct) ps sp:=C2 lk Mp S len λA outer s H vs Q E hr hs=>let ⟨t,ht,hq⟩:=LW A outer s H vs Q E hr hs;⟨t,λs σ H D=>ht [] s σ H D,hq⟩
section
variable {X:Cx}{x:Str}{p pos:Pos}{e:Expr}{es:List Expr}{t:TA}{id T:String}{r:List V->Hp->VK->Prop}
def G1 (r:List V->Hp->VK->Prop) (t:TA):TE:=λσ H Q=>t σ H λvs H1=>r vs H1 Q
theorem bX (hc:iE X (.builtin id) r)(hg:Gl X x)(hm:X.mg x=none)(hv:bootBuiltins x=some (.builtin id))(ha:PA X (e::es) t)(hn:x≠"__name__":=by decide)(Mt:(x==("__debug__":Str))=false:=by decide)
  (he:starEach (e::es) X.env=(false,eval e X.env)::starEach es X.env:=by rfl)(LY:(backTo pos (starEach es X.env)).any (·.1)=false:=by rfl):PE X (.Call (.Name x p) (e::es) [] pos) (G1 r t):=by
 intro pins s σ H Q I h;refine ZW (lz I hg hm hv ?_ hn Mt);exact PyProof.Rows.callWith_builtin1 (bA (ha pos pins s σ H _ I h) λus s1 ⟨vs,H1,I1,r1,q1⟩=>hc pins s1 σ H1 vs us Q I1 r1 q1) he LY
theorem jZ (hc:iE X (.type T) r)(hg:Gl X x)(hm:X.mg x=none)(hv:bootBuiltins x=some (.type T))(ha:PA X (e::es) t)(hn:x≠"__name__":=by decide)(Mt:(x==("__debug__":Str))=false:=by decide)
  (he:starEach (e::es) X.env=(false,eval e X.env)::starEach es X.env:=by rfl)(LY:(backTo pos (starEach es X.env)).any (·.1)=false:=by rfl):PE X (.Call (.Name x p) (e::es) [] pos) (G1 r t):=by
 intro pins s σ H Q I h;refine ZW (lz I hg hm hv ?_ hn Mt);exact Y8 (bA (ha pos pins s σ H _ I h) λus s1 ⟨vs,H1,I1,r1,q1⟩=>hc pins s1 σ H1 vs us Q I1 r1 q1) he LY
end
end L2
namespace HT
open PySem PyProof.Rows
section
open PySem.SeqAt
open PySem.AutoSeq1 (wpAny_loadPart')
open PySem.MeetsSeq PySem.MeetsSeq2 PySem.MeetsSeq3
end
section
variable {prog:Program}{w:World}{A:Around}{E:aat}{s:Shared}
theorem DY {t b:Addr} {vs ws:aaw} {Q:aat} (ht:IsTup s.heap t vs.toArray) (hb:IsTup s.heap b ws.toArray) (hv:vs≠[])
  (h1:ws=[]->Q (.ref t) s) (h2:ws≠[]->Q (.ref s.heap.objs.size) {s with heap:=s.heap.push {cls:=.type "tuple",data:=.seq (vs++ws).toArray}})
  (hsz:vs.length+ws.length<=sizeLine):wpAny (model prog w) A (binaryOp .Add (.ref t) (.ref b)) Q E s:=by
 obtain⟨⟨cls,dd,data,sl⟩,ho,hc,n,hd⟩:=id ht;obtain⟨⟨cls2,SI,data2,SJ⟩,P1,SK,n2,hd2⟩:=id hb;simp only at hc hd SK hd2;subst hc hd SK hd2;have e:vs.toArray++ws.toArray=(vs++ws).toArray:=by simp
 by_cases hw:ws=[]
 · exact concat_meets ⟨_,ho,rfl⟩ ⟨_,P1,rfl⟩ noFill_tuple_add seq_tuple_add PySem.F.slot_tuple_add PySem.F.entry_tuple_add (PySem.F.args_tuple_add_2 _ _)
    (tuple_addW1 t b vs.toArray ws.toArray n n2 dd SI sl SJ (by simpa using hv) (by simp[hw])) ⟨ho,P1,h1 hw⟩
 · refine concat_meets ⟨_,ho,rfl⟩ ⟨_,P1,rfl⟩ noFill_tuple_add seq_tuple_add PySem.F.slot_tuple_add PySem.F.entry_tuple_add (PySem.F.args_tuple_add_2 _ _)
    (tuple_addW2 t b vs.toArray ws.toArray n n2 dd SI sl SJ (by simpa using hv) (by simpa using hw) (by rw[X5,X5];exact hsz)) ⟨ho,P1,?_⟩
   rw[e];exact h2 hw
def b_ (n d:Nat):Option Int->Nat
 |none=>d
 |some v=>if v < 0 then (v+(n:Int)).toNat else min v.toNat n
theorem iw (n d:Nat):b_ n d none=d:=rfl
theorem iQ (n d k:Nat):b_ n d (some (k:Int))=min k n:=by
 show (if (k:Int) < 0 then ((k:Int)+(n:Int)).toNat else min (k:Int).toNat n)=min k n;rw[XI (by omega),Ys]
theorem wq (n d:Nat)(hd:d<=n)(o:Option Int):b_ n d o<=n:=by
 cases o with
 |none=>exact hd
 |some v =>
  show (if v < 0 then (v+(n:Int)).toNat else min v.toNat n)<=n;by_cases hv:v < 0
  · rw[XJ hv];omega
  · rw[XI hv];exact Nat.min_le_right _ _
theorem zo (v:Int)(n d:Nat):(if v < 0 then max (v+(n:Int)) 0 else min v (n:Int))=((b_ n d (some v):Nat):Int):=by
 show (if v < 0 then max (v+(n:Int)) 0 else min v (n:Int))=(((if v < 0 then (v+(n:Int)).toNat else min v.toNat n):Nat):Int);by_cases hv:v < 0
 · simp only[XJ hv];omega
 · simp only[XI hv];omega
theorem wx (lo hi:Option Int)(n:Nat):Builtin.Slice.sliceAdjust lo hi 1 (n:Int)=(((b_ n 0 lo:Nat):Int),((b_ n n hi:Nat):Int)):=by
 have h1:¬((1:Int) < 0):=by omega
 unfold Builtin.Slice.sliceAdjust;simp only[h1,ZI];refine Prod.ext ?_ ?_
 · cases lo with
   |none=>rfl
   |some v=>exact zo v n 0
 · cases hi with
   |none=>rfl
   |some v=>exact zo v n n
theorem wJ (i j:Nat):Builtin.Slice.slicePlaces (i:Int) (j:Int) 1=j - i:=by
 unfold Builtin.Slice.slicePlaces;have h1:(1:Int) > 0:=by omega
 simp only[h1,Zq,Int.ediv_one];split <;> omega
theorem qp {v:Value}{o:Option Int}{Q:Option Int->Shared->Prop}(p:IsPart v o)(h:Q o s):wpAny (model prog w) A (Builtin.Slice.slicePartIndex v) Q E s:=by
 cases p with
 |none=>exact slicePart_none h
 |int i t=>exact slicePart_int h
theorem iG {sl:Addr}{vl vu:Value}{lo hi:Option Int}{n:Nat}{Q:Int×Int×Nat->Shared->Prop}(hs:s.heap.IsSliceOf sl vl vu .none)(pl:IsPart vl lo)(pu:IsPart vu hi)
  (h:Q (((b_ n 0 lo:Nat):Int),1,b_ n n hi - b_ n 0 lo) s):wpAny (model prog w) A (Builtin.Slice.sliceApplied (.ref sl) (pure (n:Int))) Q E s:=by
 obtain⟨os,Nd,NU,NV⟩:=id hs;unfold Builtin.Slice.sliceApplied Builtin.Slice.sliceFields;refine XG (XG (wpAny_field Nd NV (x:=vl) rfl (XG (wpAny_field Nd NV (x:=vu) rfl (XG (wpAny_field Nd NV (x:=.none) rfl (XQ ?_)))))));refine XG (slicePart_none ?_);show wpAny _ _ (if ((1:Int)==0)=true then _ else _) _ _ s;rw[XI (by decide)];refine XG (qp pl (XG (qp pu (XG (XQ ?_)))));show wpAny _ _ (match Builtin.Slice.sliceAdjust lo hi 1 (n:Int) with|(lo,hi)=>pure (lo,(1:Int),Builtin.Slice.slicePlaces lo hi 1)) _ _ s;rw[wx lo hi n];show wpAny _ _ (pure (((b_ n 0 lo:Nat):Int),(1:Int),Builtin.Slice.slicePlaces ((b_ n 0 lo:Nat):Int) ((b_ n n hi:Nat):Int) 1)) _ _ s;rw[wJ];exact XQ h
theorem Bd (xs:Array Value)(i k:Nat):((List.range k).filterMap λ(m:Nat)=>xs[((i:Int)+(m:Int)*1).toNat]?).toArray=((xs.toList.drop i).take k).toArray:=by
 have e:(λ(m:Nat)=>xs[((i:Int)+(m:Int)*1).toNat]?)=λm=>xs[i+m]?:=by
  funext m;have:((i:Int)+(m:Int)*1).toNat=i+m:=by omega
  rw[this]
 rw[e];have:=pick_run xs i k;rw[List.filterMap_map] at this;have e2:((λx=>xs[x]?) ∘ λx=>i+x)=λm=>xs[i+m]?:=rfl;rw[e2] at this;rw[this]
theorem mr {t sl:Addr}{items:Array Value}{vl vu:Value}{lo hi:Option Int}{Q:aat}(ht:IsTup s.heap t items)(hs:s.heap.IsSliceOf sl vl vu .none)(pl:IsPart vl lo)(pu:IsPart vu hi)
  (hw:¬(b_ items.size 0 lo=0/\b_ items.size items.size hi=items.size))
  (h:Q (.ref s.heap.objs.size) {s with heap:=s.heap.push {cls:=.type "tuple",data:=.seq ((items.toList.drop (b_ items.size 0 lo)).take (b_ items.size items.size hi - b_ items.size 0 lo)).toArray}})
  (hsz:items.size<=sizeLine):wpAny (model prog w) A (getItem (.ref t) (.ref sl)) Q E s:=by
 have Mz:sizeOk (.seq ((items.toList.drop (b_ items.size 0 lo)).take (b_ items.size items.size hi - b_ items.size 0 lo)).toArray):=by
  show ((items.toList.drop (b_ items.size 0 lo)).take (b_ items.size items.size hi - b_ items.size 0 lo)).toArray.size<=sizeLine;rw[X5,X7,Yz,Zs];omega
 have hj:b_ items.size items.size hi<=items.size:=wq _ _ (XT _) hi;obtain⟨os,Nd,NU,NV⟩:=id hs;have Vm:s.TypeIs (.ref sl) "slice":=⟨os,Nd,NU⟩;unfold getItem
 try with_reducible refine ZK ?_
 first|refine XG (XQ ?_)|skip
 refine XG (wpAny_sequenceKey ht.typeIs (by decide) ?_);refine XG (YX (name:=Str.ofString "__getitem__") ht.typeIs YY
  (Y3 YY ht.typeIs entry_tuple_getitem ?_ (args_tuple_getitem _ _)))
 show wpAny _ _ (Builtin.Tuple.tupleItemsOf (.ref t) >>= _) _ _ s;refine XG (tupleItemsOf_ ht ?_);refine XG (wpAny_typeOf Vm ?_);rw[XJ (by decide)];refine XG (iG hs pl pu ?_);have M5:¬((((b_ items.size 0 lo:Nat):Int)==0&&(1:Int)==1&&(b_ items.size items.size hi - b_ items.size 0 lo)==items.size)=true):=by
  intro q;rw[XR,XR] at q;have q1:((b_ items.size 0 lo:Nat):Int)=0:=Za q.1.1;have q2:b_ items.size items.size hi - b_ items.size 0 lo=items.size:=Za q.2;exact hw ⟨by omega,by omega⟩
 show wpAny _ _ (if (((b_ items.size 0 lo:Nat):Int)==0&&(1:Int)==1&&(b_ items.size items.size hi - b_ items.size 0 lo)==items.size)=true then _ else _) _ _ s;rw[XI M5,Bd]
 first
  |exact XG (m:=Builtin.Tuple.tupleExact _) (Y9 (XQ ⟨_,rfl,XQ h⟩) Mz)
  |exact XG (m:=Builtin.Tuple.tupleExact _) (Y9 (XG (XQ (XQ ⟨_,rfl,XQ h⟩))) Mz)
  |exact XG (XG (m:=Builtin.Tuple.tupleExact _) (Y9 (XQ (XQ ⟨_,rfl,XQ h⟩)) Mz))
  |exact XG (XG (m:=Builtin.Tuple.tupleExact _) (Y9 (XQ ⟨_,rfl,XQ h⟩) Mz))
end
end HT
namespace L2
open PySem PySem.Spec PyProof.Rows
abbrev TO:=St->Hp->(Option Int->Hp->Prop)->Prop
def PO (X:Cx)(e:Option Expr)(t:TO):Prop :=
 ∀(pins:aav) (s:Shared) (σ:St) (H:Hp) (Q:Option Int->Hp->Prop),Inv X pins σ H s->t σ H Q ->
  wpAny (model X.prog X.w) X.A (evalPart e X.env) (λu s'=>∃o H',Inv X pins σ H' s'/\IsPart u o/\Q o H') X.xe s
def Ex:TO:=λ_ H Q=>Q none H
def JS (t:TE):TO:=λσ H Q=>t σ H λx H1=>∃i,x=.int i/\Q (some i) H1
theorem intsAre_of {ns:List Int}:∀{us:aaw},Vals (ns.map V.int) us->IntsAre us ns:=by
 induction ns with
 |nil=>intro us r;rw[Y6] at r;cases r;exact .nil
 |cons n ns ih =>
  intro us r;rw[X1] at r;cases r with
  |cons r1 r2 =>
   obtain⟨t,e⟩:=r1;subst e;exact .cons n t (ih r2)
section
variable {X:Cx}{e:Expr}{te:TE}{lo hi:Option Expr}{tl th:TO}{pos p2:Pos}
theorem ft:PO X none Ex:=by
 intro pins s σ H Q I h;rw[evalPart_none];exact XQ ⟨none,H,I,.none,h⟩
theorem cZ (h:PE X e te):PO X (some e) (JS te):=by
 intro pins s σ H Q I hw;rw[evalPart_some];refine bA (h pins s σ H _ I hw) λu s1 ⟨x,H1,I1,r1,q1⟩=>?_;obtain⟨i,rfl,q⟩:=q1;obtain⟨t,rfl⟩:=r1;exact⟨some i,H1,I1,.int i t,q⟩
def Jy (X:Cx)(r:V->Option Int->Option Int->Hp->VK->Prop):Prop :=
 ∀(pins:aav) (s:Shared) (σ:St) (H:Hp) (x:V) (v vl vu:Value) (lo hi:Option Int) (sl:Addr) (Q:VK),Inv X pins σ H s->RelV x v->s.heap.IsSliceOf sl vl vu .none->IsPart vl lo->IsPart vu hi->r x lo hi H Q ->
  ∃T id,typeLookup (.type T) "__getitem__"=pure (some (.builtin id))/\s.TypeIs v T/\wpAny (model X.prog X.w) X.A (getItem v (.ref sl)) (EP X pins σ Q) X.xe s
def LH (r:V->Option Int->Option Int->Hp->VK->Prop)(te:TE)(tl th:TO):TE:=λσ H Q=>te σ H λx H1=>tl σ H1 λl H2=>th σ H2 λu H3=>r x l u H3 Q
theorem cN {r:V->Option Int->Option Int->Hp->VK->Prop}(hr:Jy X r)(he:PE X e te)(hl:PO X lo tl)(hu:PO X hi th):PE X (.Subscript e (.Slice lo hi none p2) pos) (LH r te tl th):=by
 intro pins s σ H Q I h;refine Subscript_ (bA (he pins s σ H _ I h) λv s1 ⟨x,H1,I1,r1,q1⟩=>?_);refine wpAny_Slice (bA (hl pins s1 σ H1 _ I1 q1) λvl s2 ⟨l,H2,I2,pl,q2⟩=>bA (hu pins s2 σ H2 _ I2 q2) λvu s3 ⟨u,H3,I3,pu,q3⟩=>?_);rw[evalPart_none];refine XQ ?_;have I4:Inv X pins σ H3 {s3 with heap:=s3.heap.push {cls:=.type "slice",data:=.fields #[vl,vu,.none]}}:=I3.kept (t':=s3.toks) λb ob q=>XM _ q;obtain⟨T,id,hT,ht,hg⟩:=hr pins {s3 with heap:=s3.heap.push {cls:=.type "slice",data:=.fields #[vl,vu,.none]}} σ H3 x v vl vu l u s3.heap.objs.size Q I4 r1 (Heap.IsSliceOf.new ..) pl pu q3;show wpAny (model X.prog X.w) X.A (subscriptTail e (.Slice lo hi none p2) v (.ref s3.heap.objs.size)) (EP X pins σ Q) X.xe {s3 with heap:=s3.heap.push {cls:=.type "slice",data:=.fields #[vl,vu,.none]}};exact tail_any (ops:=[.ref s3.heap.objs.size,v]) ht hT hg (by with_unfolding_all rfl)
def fA (xs:List V)(lo hi:Option Int):List V:=(xs.drop (HT.b_ xs.length 0 lo)).take (HT.b_ xs.length xs.length hi - HT.b_ xs.length 0 lo)
theorem nY (xs:List V)(lo hi:Option Int):(fA xs lo hi).length<=xs.length:=by
 unfold fA;rw[X7,Yz];omega
def Kp (K:aas):V->Option Int->Option Int->Hp->VK->Prop:=λx lo hi H Q=>∃a xs,x=.ref a/\b6 K H a xs /\
 ¬(HT.b_ xs.length 0 lo=0/\HT.b_ xs.length xs.length hi=xs.length)/\∀p,H p=none->Q (.ref p) (upd H p (.tup (fA xs lo hi)))
theorem H_:Jy X (Kp X.K):=by
 intro pins s σ H x v vl vu lo hi sl Q I rx hs pl pu h;obtain⟨a,xs,rfl,hx,hw,q⟩:=h;cases rx;obtain⟨LO,r,ht,hz⟩:=I.tuple hx;have hlen:LO.toArray.size=xs.length:=by rw[X5];exact r.length.symm
 refine⟨"tuple",_,YY.lookup,ht.typeIs,?_⟩;refine HT.mr ht hs pl pu (by rw[hlen];exact hw) ?_ (by rw[hlen];exact hz);rw[hlen];refine⟨.ref s.heap.objs.size,_,I.laid (t':=s.toks) (o:=.tup (fA xs lo hi)) (λb ob q=>XM _ q) (XT _) ?_,rfl,q _ (I.bu.fresh (XT _))⟩;exact⟨Yu (nY xs lo hi) hz,_,(r.drop (HT.b_ xs.length 0 lo)).take (HT.b_ xs.length xs.length hi - HT.b_ xs.length 0 lo),IsTup.new _ _⟩
def IB (K:aas):R2:=λx y H Q=>∃a b xs ys,x=.ref a/\y=.ref b/\b6 K H a xs/\b6 K H b ys/\xs≠[]/\xs.length+ys.length<=sizeLine /\
 (ys=[]->Q (.ref a) H)/\(ys≠[]->∀p,H p=none->Q (.ref p) (upd H p (.tup (xs++ys))))
theorem Vals.oJ {xs:List V}{us:aaw}(r:Vals xs us):us=[]↔xs=[]:=by
 cases r with
 |nil=>simp
 |cons _ _=>simp
theorem DE:jU X (binaryOp .Add) (IB X.K):=by
 intro pins s σ H x y v u Q I rx ry h;obtain⟨a,b,xs,ys,rfl,rfl,ha,hb,hx,hz,q1,q2⟩:=h;cases rx;cases ry;obtain⟨LO,r1,p1,_⟩:=I.tuple ha;obtain⟨L3,r2,p2,_⟩:=I.tuple hb;refine HT.DY p1 p2 (λz=>hx (r1.oJ.mp z)) (λz=>⟨.ref a,H,I,rfl,q1 (r2.oJ.mp z)⟩) (λz=>?_) (by rw[←r1.length,←r2.length];exact hz);refine⟨.ref s.heap.objs.size,_,I.laid (t':=s.toks) (o:=.tup (xs++ys)) (λb ob q=>XM _ q) (XT _) ?_,rfl,q2 (λw=>z (r2.oJ.mpr w)) _ (I.bu.fresh (XT _))⟩;exact⟨by rw[X6];exact hz,_,r1.append r2,IsTup.new _ _⟩
end
def E4 (n:Nat)(i:Int):Option Nat:=if 0<=i then (if i < n then some i.toNat else none) else if -(n:Int)<=i then some (i+n).toNat else none
def nU {α:Type}(xs:List α)(i:Int):Option α:=(E4 xs.length i).bind λj=>xs[j]?
theorem yB {n:Nat}{i:Int}{j:Nat}(h:E4 n i=some j):seqIndex? i n=some j/\j < n/\-(n:Int)<=i/\i < n:=by
 unfold E4 at h;by_cases h0:0<=i
 · rw[XJ h0] at h;by_cases h1:i < n
   · rw[XJ h1] at h;have e:i.toNat=j:=Yl h;exact⟨by rw[seqIndex_of h0 h1,e],by omega,by omega,h1⟩
   · rw[XI h1] at h;cases h
 · rw[XI h0] at h;by_cases h1:-(n:Int)<=i
   · rw[XJ h1] at h;have e:(i+n).toNat=j:=Yl h;exact⟨by rw[seqIndex_neg (by omega) h1,e],by omega,h1,by omega⟩
   · rw[XI h1] at h;cases h
theorem sZ {α:Type}{xs:List α}{i:Int}{v:α}(h:nU xs i=some v):∃j,seqIndex? i xs.length=some j/\xs[j]?=some v/\j < xs.length/\-(xs.length:Int)<=i/\i < xs.length:=by
 unfold nU at h;cases e:E4 xs.length i with
 |none=>rw[e] at h;cases h
 |some j =>
  rw[e] at h;obtain⟨h1,h2,h3,h4⟩:=yB e;exact⟨j,h1,h,h2,h3,h4⟩
theorem cv {α:Type}{xs:List α}{j:Nat}{v:α}(h:xs[j]?=some v):nU xs (j:Int)=some v:=by
 have hj:j < xs.length:=(XY.mp h).1;have e:E4 xs.length (j:Int)=some j:=by
  unfold E4;rw[XJ (by omega),XJ (by omega)];simp
 unfold nU;rw[e];exact h
def DB (b:Expr):Prop:=∀o i,subscripted b false o i=operate [o,i] (getItem o i)
def J_ (X:Cx)(r:R2):Prop :=
 ∀(value slice:Expr) (pins:aav) (s:Shared) (σ:St) (H:Hp) (x y:V) (v u:Value) (Q:VK),Inv X pins σ H s->RelV x v->RelV y u->r x y H Q ->
  subscripted slice false v u=operate [v,u] (getItem v u)->wpAny (model X.prog X.w) X.A (subscriptTail value slice v u) (EP X pins σ Q) X.xe s
def CM (X:Cx)(id:String)(r:V->List V->Hp->VK->Prop):Prop :=
 ∀(pins:aav) (s:Shared) (σ:St) (H:Hp) (x:V) (xs:List V) (v:Value) (us:aaw) (Q:VK),Inv X pins σ H s->RelV x v->Vals xs us->r x xs H Q ->
  wpAny (model X.prog X.w) X.A (call (.builtin id) (v::us)) (EP X pins σ Q) X.xe s
section
variable {X:Cx}{a b:Expr}{ta tb:TE}{pos:Pos}
theorem bp {r:R2} (hr:J_ X r) (ha:PE X a ta) (hb:PE X b tb) (hs:DB b):PE X (.Subscript a b pos) (kK r ta tb):=by
 intro pins s σ H Q I h;exact Subscript_ (HF ha hb I h λv u s2 x y H2 I2 rx ry q=>hr a b pins s2 σ H2 x y v u Q I2 rx ry q (hs _ _))
def z_ (K:aas):R2:=λx y H Q=>∃p xs i v,x=.ref p/\y=.int i/\aO K H p xs/\nU xs i=some v/\Q v H
def IE (K:aas):R2:=λx y H Q=>∃p xs i v,x=.ref p/\y=.int i/\b6 K H p xs/\nU xs i=some v/\Q v H
def IL:R2:=λx y H Q=>∃z i c,x=.str z/\y=.int i/\z.length<=sizeLine/\nU z.cps.toList i=some c/\Q (.str ⟨#[c]⟩) H
theorem aN:J_ X (z_ X.K):=by
 intro value slice pins s σ H x y v u Q I rx ry h hs;obtain⟨p,xs,i,z,rfl,rfl,hq,he,q⟩:=h;cases rx;obtain⟨t,rfl⟩:=ry;obtain⟨LO,r,pl,hz⟩:=I.list hq;obtain⟨j,h1,h2,h3,h4,h5⟩:=sZ he;obtain⟨w,ew,NW⟩:=r.get h2;have hl:=r.length;have hn:=lG;have fin:EP X pins σ Q w s:=⟨z,H,I,NW,q⟩;by_cases h0:0<=i
 · have hj:i.toNat=j:=by
    rw[seqIndex_of h0 h5] at h1;exact Yl h1
   exact item_listR pl.isList h0 (by omega) (by rw[hj];simpa using ew) fin hs
 · have hj:(i+(LO.toArray.size:Int)).toNat=j:=by
    rw[seqIndex_neg (by omega) h4] at h1;rw[X5,←hl];exact Yl h1
   exact subscriptTail_builtinR (x:=w) pl.isList.typeIs slot_list_getitem.lookup
    (wpAny_getItem_list_neg (Q:=λr s'=>r=w/\EP X pins σ Q r s') pl.isList (by omega) (by rw[X5] <;> omega) (by omega) (by rw[hj];simpa using ew) ⟨rfl,fin⟩) hs
theorem A0:J_ X (IE X.K):=by
 intro value slice pins s σ H x y v u Q I rx ry h hs;obtain⟨p,xs,i,z,rfl,rfl,hq,he,q⟩:=h;cases rx;obtain⟨t,rfl⟩:=ry;obtain⟨LO,r,pl,hz⟩:=I.tuple hq;obtain⟨j,h1,h2,h3,h4,h5⟩:=sZ he;obtain⟨w,ew,NW⟩:=r.get h2;have hl:=r.length;have hn:=lG;have fin:EP X pins σ Q w s:=⟨z,H,I,NW,q⟩;exact subscriptTail_builtinR (x:=w) pl.typeIs slot_tuple_getitem.lookup
  (getItem_tuple (j:=j) (Q:=λr s'=>r=w/\EP X pins σ Q r s') pl (by omega) (by omega) (by rw[X5,←hl];exact h1) (by simpa using ew) ⟨rfl,fin⟩) hs
theorem tG:J_ X IL:=by
 intro value slice pins s σ H x y v u Q I rx ry h hs;obtain⟨z,i,c,rfl,rfl,hz,he,q⟩:=h;obtain⟨t,rfl⟩:=rx;obtain⟨t',rfl⟩:=ry;obtain⟨j,h1,h2,h3,h4,h5⟩:=sZ he;have hl:z.cps.toList.length=z.length:=by simp[Str.length]
 rw[hl] at h1 h4 h5;have hn:=lG;exact tail_any (Z8 s z t) slot_str_getitem.lookup (getItem_str (c:=c) (by
  have e1:decide (i < -(2 ^ 63:Int))=false:=Yv (by omega);have e2:decide (i ≥ 2 ^ 63)=false:=Yv (by omega);rw[e1,e2,ZV]) (by rw[h1];simpa using h2) ⟨.str ⟨#[c]⟩,H,I.tok _,⟨_,rfl⟩,q⟩) hs
theorem wH (LO:aaw)(n j:Nat)(u:Value):Obj.mapSeq (·.setIfInBounds j u) {cls:=.type "list",data:=.seq LO.toArray n}={cls:=.type "list",data:=.seq (LO.set j u).toArray n}:=by
 simp[Obj.mapSeq]
theorem Inv.lst {pins:aav}{σ:St}{H:Hp}{s:Shared}{p:Addr}{xs:List V}(I:Inv X pins σ H s)(h:H p=some (.lst xs)) :
  ∃(LO:aaw) (n:Nat),Vals xs LO/\s.heap.get? p=some {cls:=.type "list",data:=.seq LO.toArray n}/\xs.length<=sizeLine:=by
 obtain⟨z,LO,n,r,e⟩:=I.bu p _ h;exact⟨LO,n,r,e,z⟩
theorem Inv.HI {pins:aav}{σ:St}{H:Hp}{s:Shared}{p:Addr}{xs ys:List V}{LO its':aaw}{n n':Nat}{f:Obj->Obj}(I:Inv X pins σ H s)(h:H p=some (.lst xs))
  (ho:s.heap.get? p=some {cls:=.type "list",data:=.seq LO.toArray n})(hf:f {cls:=.type "list",data:=.seq LO.toArray n}={cls:=.type "list",data:=.seq its'.toArray n'})(r:Vals ys its')(hz:ys.length<=sizeLine)(t:Nat) :
  Inv X pins σ (upd H p (.lst ys)) {s with heap:=s.heap.update p f,toks:=t}:=by
 have e:(s.heap.update p f).get? p=some {cls:=.type "list",data:=.seq its'.toArray n'}:=by
  rw[YG f ho (by rw[hf] <;> rfl),hf]
 refine I.write (x:=p) (e:=p) (by rw[h];trivial) (.inl rfl) (λb u hb q=>(ZG _ _ (aaj hb)).trans q) ⟨_,e⟩ ?_;exact⟨hz,its',n',r,e⟩
def JQ:V->V->V->Hp->(Hp->Prop)->Prop:=λo i v H Q=>∃p xs k j,o=.ref p/\i=.int k/\H p=some (.lst xs)/\E4 xs.length k=some j/\Q (upd H p (.lst (xs.set j v)))
theorem set_list:Jf X JQ:=by
 intro pins s σ H o i v ov iv u Q I ro ri rv h;obtain⟨p,xs,k,j,rfl,rfl,hp,hj,q⟩:=h;cases ro;obtain⟨t,rfl⟩:=ri;obtain⟨LO,n,r,ho,hz⟩:=I.lst hp;obtain⟨h1,h2,h3,h4⟩:=yB hj;have hl:=r.length;have hn:=lG;have I':Inv X pins σ (upd H p (.lst (xs.set j v))) {s with heap:=s.heap.update p (Obj.mapSeq (·.setIfInBounds j u))} :=
  I.HI hp ho (wH LO n j u) (r.set rv j) (by rw[List.length_set];exact hz) s.toks
 by_cases h0:0<=k
 · have hk:k.toNat=j:=by
    rw[seqIndex_of h0 h4] at h1;exact Yl h1
   exact PySem.W.ki_setAt ho h0 (by omega) (by rw[X5,←hl];exact h4) (by rw[hk];exact⟨_,I',q⟩)
 · have hk:(k+(LO.toArray.size:Int)).toNat=j:=by
    rw[seqIndex_neg (by omega) h3] at h1;rw[X5,←hl];exact Yl h1
   exact PySem.W.ki_setBack ho (by omega) (by rw[X5,←hl];exact h3) (by omega) (by rw[hk];exact⟨_,I',q⟩)
theorem sX (lo hi:Option Int)(n:Nat):(sliceBounds lo hi none n).1=((HT.b_ n 0 lo:Nat):Int)/\(sliceBounds lo hi none n).2.1=((HT.b_ n n hi:Nat):Int)/\(sliceBounds lo hi none n).2.2=1:=by
 refine⟨?_,?_,rfl⟩
 · cases lo with
   |none=>simp[sliceBounds,HT.b_]
   |some i =>
    simp only[sliceBounds,HT.b_,Option.getD_none,show (1:Int) > 0 by decide,Zq];by_cases h:i < 0
    · simp only[h,Zq] <;> omega
    · simp only[h,ZI] <;> omega
 · cases hi with
   |none=>simp[sliceBounds,HT.b_]
   |some i =>
    simp only[sliceBounds,HT.b_,Option.getD_none,show (1:Int) > 0 by decide,Zq];by_cases h:i < 0
    · simp only[h,Zq] <;> omega
    · simp only[h,ZI] <;> omega
theorem qS (LO:aaw)(lo hi:Option Int):slicePick LO.toArray lo hi none=((LO.drop (HT.b_ LO.length 0 lo)).take (HT.b_ LO.length LO.length hi - HT.b_ LO.length 0 lo)).toArray:=by
 obtain⟨h1,h2,h3⟩:=sX lo hi LO.toArray.size;unfold slicePick;rw[h1,h2,h3];simp only[sliceRange_one,pick_run,X5] <;> rfl
def Ku (K:aas):V->Option Int->Option Int->Hp->VK->Prop:=λx lo hi H Q=>∃a xs,x=.ref a/\aO K H a xs/\∀p,H p=none->Q (.ref p) (upd H p (.lst (fA xs lo hi)))
theorem fw:Jy X (Ku X.K):=by
 intro pins s σ H x v vl vu lo hi sl Q I rx hs pl pu h;obtain⟨a,xs,rfl,hx,q⟩:=h;cases rx;obtain⟨LO,r,ht,hz⟩:=I.list hx;have hlen:=r.length;refine⟨"list",_,slot_list_getitem.lookup,ht.isList.typeIs,?_⟩;refine wpAny_getItem_list_slice ht.isList hs pl pu .none (by simp) ?_ (by rw[X5] <;> omega);rw[qS,←hlen];refine⟨.ref s.heap.objs.size,_,I.laid (t':=s.toks) (o:=.lst (fA xs lo hi)) (λb ob q=>XM _ q) (XT _) ?_,rfl,q _ (I.bu.fresh (XT _))⟩;exact⟨Yu (nY xs lo hi) hz,_,0,(r.drop (HT.b_ xs.length 0 lo)).take (HT.b_ xs.length xs.length hi - HT.b_ xs.length 0 lo),X0 _ rfl⟩
def dM:V->Bool
 |.b8=>true
 |.bl _=>true
 |.int _=>true
 |.str _=>true
 |_=>false
def sF:V->V->Bool
 |.b8,.b8=>true
 |.bl a,.bl b=>a==b
 |.bl a,.int b=>(if a then 1 else 0)==b
 |.int a,.bl b=>a==(if b then 1 else 0)
 |.int a,.int b=>a==b
 |.str a,.str b=>a==b
 |_,_=>false
theorem Hv {A:Around}{s:Shared}{y x:V}{u v:Value}(ry:RelV y u)(rx:RelV x v)(fy:dM y=true)(fx:dM x=true):SeqAt.EqAt A s u v (sF y x):=by
 cases y with
 |b8 =>
  cases ry;cases x with
  |b8=>cases rx;exact SeqAt.EqAt.same _
  |bl b=>cases rx;exact SeqAt.EqAt.none_bool b
  |int b=>obtain⟨t,rfl⟩:=rx;exact SeqAt.EqAt.none_int b t
  |str b=>obtain⟨t,rfl⟩:=rx;exact SeqAt.EqAt.none_str b t
  |_=>exact absurd (show false=true from fx) X8
 |bl a =>
  cases ry;cases x with
  |b8=>cases rx;exact SeqAt.EqAt.bool_none a
  |bl b=>cases rx;exact SeqAt.EqAt.bool_bool a b
  |int b=>obtain⟨t,rfl⟩:=rx;exact SeqAt.EqAt.bool_int a b t
  |str b=>obtain⟨t,rfl⟩:=rx;exact SeqAt.EqAt.bool_str a b t
  |_=>exact absurd (show false=true from fx) X8
 |int a =>
  obtain⟨t',rfl⟩:=ry;cases x with
  |b8=>cases rx;exact SeqAt.EqAt.int_none a t'
  |bl b=>cases rx;exact SeqAt.EqAt.int_bool a t' b
  |int b=>obtain⟨t,rfl⟩:=rx;exact SeqAt.EqAt.int_int a t' b t
  |str b=>obtain⟨t,rfl⟩:=rx;exact SeqAt.EqAt.int_str a t' b t
  |_=>exact absurd (show false=true from fx) X8
 |str a =>
  obtain⟨t',rfl⟩:=ry;cases x with
  |b8=>cases rx;exact SeqAt.EqAt.str_none a t'
  |bl b=>cases rx;exact SeqAt.EqAt.str_bool a t' b
  |int b=>obtain⟨t,rfl⟩:=rx;exact SeqAt.EqAt.str_int a t' b t
  |str b=>obtain⟨t,rfl⟩:=rx;exact SeqAt.EqAt.str_str a t' b t
  |_=>exact absurd (show false=true from fx) X8
 |_=>exact absurd (show false=true from fy) X8
def wc (x:V)(u:Value):Bool:=match u with
 |.none=>sF .b8 x
 |.bool b=>sF (.bl b) x
 |.int i _=>sF (.int i) x
 |.str z _=>sF (.str z) x
 |_=>false
theorem lh {x y:V}{u:Value}(r:RelV y u)(f:dM y=true):wc x u=sF y x:=by
 cases y with
 |b8=>cases r;rfl
 |bl b=>cases r;rfl
 |int i=>obtain⟨t,rfl⟩:=r;rfl
 |str z=>obtain⟨t,rfl⟩:=r;rfl
 |_=>exact absurd (show false=true from f) X8
theorem mB {x:V}:∀{xs:List V} {us:aaw},Vals xs us->xs.all dM=true->us.any (wc x)=xs.any λy=>sF y x
 |_,_,.nil,_=>rfl
 |y::xs,u::us,.cons r t,f=>by
  rw[ZU,XR] at f;rw[Ze,Ze,lh r f.1,mB t f.2]
theorem gG {A:Around}{s:Shared}{x:V}{v:Value}(rx:RelV x v)(fx:dM x=true):∀{xs:List V} {us:aaw},Vals xs us->xs.all dM=true->∀u∈us,SeqAt.EqAt A s u v (wc x u)
 |_,_,.nil,_=>λu hu=>by cases hu
 |y::xs,u::us,.cons r t,f=>λu' hu=>by
  rw[ZU,XR] at f;rcases XN.mp hu with rfl|hu
  · rw[lh r f.1];exact Hv r rx f.1 fx
  · exact gG rx fx t f.2 u' hu
def og (x:V)(xs:List V):Bool:=xs.any λy=>sF y x
def HJ (K:aas)(neg:Bool):R2:=λx y H Q=>∃p xs,y=.ref p/\(aO K H p xs∨b6 K H p xs)/\dM x=true/\xs.all dM=true/\Q (.bl (if neg then !og x xs else og x xs)) H
theorem gg:jU X (compareOp .In) (HJ X.K false):=by
 intro pins s σ H x y v u Q I rx ry h;obtain⟨p,xs,rfl,hq,fx,fs,q⟩:=h;cases ry;rcases hq with hq|hq
 · obtain⟨LO,r,pl,hz⟩:=I.list hq;refine SeqAt.in_listAt (wc x) pl.isList (λw hw=>gG rx fx r fs w (by simpa using hw)) ⟨.bl _,H,I,rfl,?_⟩;rw[show LO.toArray.any (wc x)=LO.any (wc x) by simp,mB r fs];exact q
 · obtain⟨LO,r,pl,hz⟩:=I.tuple hq;refine SeqAt.in_tupleAt (wc x) pl (λw hw=>gG rx fx r fs w (by simpa using hw)) ⟨.bl _,H,I,rfl,?_⟩;rw[show LO.toArray.any (wc x)=LO.any (wc x) by simp,mB r fs];exact q
theorem eh:jU X (compareOp .NotIn) (HJ X.K true):=by
 intro pins s σ H x y v u Q I rx ry h;obtain⟨p,xs,rfl,hq,fx,fs,q⟩:=h;cases ry;rcases hq with hq|hq
 · obtain⟨LO,r,pl,hz⟩:=I.list hq;refine SeqAt.notIn_listAt (wc x) pl.isList (λw hw=>gG rx fx r fs w (by simpa using hw)) ⟨.bl _,H,I,rfl,?_⟩;rw[show LO.toArray.any (wc x)=LO.any (wc x) by simp,mB r fs];exact q
 · obtain⟨LO,r,pl,hz⟩:=I.tuple hq;refine SeqAt.notIn_tupleAt (wc x) pl (λw hw=>gG rx fx r fs w (by simpa using hw)) ⟨.bl _,H,I,rfl,?_⟩;rw[show LO.toArray.any (wc x)=LO.any (wc x) by simp,mB r fs];exact q
theorem uv:iE X (.builtin "len") (λxs H Q=>∃p ys,xs=[.ref p]/\(aO X.K H p ys∨b6 X.K H p ys)/\Q (.int ys.length) H):=by
 intro pins s σ H xs us Q I r h;obtain⟨p,ys,rfl,hq,q⟩:=h;obtain⟨u,rfl,rx⟩:=vals1 r;cases rx;have hn:=lG;rcases hq with hq|hq
 · obtain⟨LO,r',pl,hz⟩:=I.list hq;have hlen:=r'.length;exact Calls.call_len_list pl.isList (by simp only[X5] <;> omega) ⟨.int ys.length,H,I.tok _,⟨s.toks+1,by rw[X5,hlen]⟩,q⟩
 · obtain⟨LO,r',pl,hz⟩:=I.tuple hq;have hlen:=r'.length;exact len_tuple pl (by simp only[X5] <;> omega) ⟨.int ys.length,H,I.tok _,⟨s.toks+1,by rw[X5,hlen]⟩,q⟩
theorem fO:iE X (.builtin "len") (λxs H Q=>∃z,xs=[.str z]/\z.length<=sizeLine/\Q (.int z.length) H):=by
 intro pins s σ H xs us Q I r h;obtain⟨z,rfl,hz,q⟩:=h;obtain⟨u,rfl,t,rfl⟩:=vals1 r;have hn:=lG;exact len_str (by omega) ⟨.int z.length,H,I.tok _,⟨_,rfl⟩,q⟩
theorem qY:iE X (.type "tuple") (λxs H Q=>∃p ys,xs=[.ref p]/\((aO X.K H p ys/\∀l,H l=none->Q (.ref l) (upd H l (.tup ys)))∨(b6 X.K H p ys/\Q (.ref p) H))):=by
 intro pins s σ H xs us Q I r h;obtain⟨p,ys,rfl,h⟩:=h;obtain⟨u,rfl,rx⟩:=vals1 r;cases rx;rcases h with ⟨hq,q⟩|⟨hq,q⟩
 · obtain⟨LO,r',pl,hz⟩:=I.list hq;have hlen:=r'.length;refine call_tuple_list pl.isList (λh' kp=>?_) (by simp only[X5] <;> omega);have I1:Inv X pins σ H {s with heap:=h'}:=I.kept (t':=s.toks) kp;have I2:Inv X pins σ (upd H h'.objs.size (.tup ys)) {s with heap:=h'.push {cls:=.type "tuple",data:=.seq LO.toArray}} :=
    I1.laid (t':=s.toks) (λb o e=>XM _ e) (XT _) (show bM X.prog X.w _ _ _ (.tup ys) from ⟨hz,LO,r',IsTup.new _ _⟩)
   exact⟨.ref h'.objs.size,_,I2,rfl,q _ (I1.bu.fresh (XT _))⟩
 · obtain⟨LO,r',pl,hz⟩:=I.tuple hq;exact call_tuple_same pl ⟨.ref p,H,I,rfl,q⟩
def Lh (K:aas)(T:String)(x:V)(H:Hp):Prop:=match x with
 |.str _=>T="str"
 |.int _=>T="int"
 |.ref p=>(T="list"/\∃xs,aO K H p xs)∨(T="tuple"/\∃o,K.lookup p=some o/\o.cls=.type "tuple"/\o.dict=none) ∨
   (T="dict"/\((∃LN,H p=some (.dK LN))∨∃LN,H p=some (.dT LN)))∨(T="set"/\∃S n,H p=some (.set S n))
 |_=>False
theorem GK {pins:aav}{σ:St}{H:Hp}{s:Shared}{T:String}{x:V}{v:Value}(I:Inv X pins σ H s)(r:RelV x v)(ty:Lh X.K T x H) :
  s.TypeIs v T/\∀a,v=.ref a->∃ob,s.heap.get? a=some ob/\ob.dict=none:=by
 cases x with
 |str z =>
  obtain⟨t,rfl⟩:=r;cases (show T="str" from ty);exact⟨Z8 s z t,λ_ e=>nomatch e⟩
 |int i =>
  obtain⟨t,rfl⟩:=r;cases (show T="int" from ty);exact⟨typeIs_int s i t,λ_ e=>nomatch e⟩
 |ref p =>
  cases r;rcases ty with ⟨rfl,xs,hq⟩|⟨rfl,o,hk,hc,hd⟩|⟨rfl,hk⟩|⟨rfl,S,n,hk⟩
  · obtain⟨LO,_,pl,_⟩:=I.list hq;refine⟨pl.isList.typeIs,λa e=>?_⟩;cases e;obtain⟨o,n,e,c,hd,_⟩:=pl;exact⟨o,e,hd⟩
  · refine⟨⟨o,I.mX p o hk,hc⟩,λa e=>?_⟩;cases e;exact⟨o,I.mX _ o hk,hd⟩
  · have z:∃o,s.heap.get? p=some o/\o.ExactDict:=by
     rcases hk with ⟨LN,hk⟩|⟨LN,hk⟩
     · obtain⟨_,_,_,_,o,_,_,e,ex,_⟩:=I.bu p _ hk;exact⟨o,e,ex⟩
     · obtain⟨_,_,_,_,o,_,_,e,ex,_⟩:=I.bu p _ hk;exact⟨o,e,ex⟩
    obtain⟨o,e,ex⟩:=z;refine⟨⟨o,e,ex.1⟩,λa e2=>?_⟩;cases e2;exact⟨o,e,ex.2.1⟩
  · obtain⟨o,_,_,_,e,ex,_⟩:=I.bu p _ hk;refine⟨⟨o,e,ex.1⟩,λa e2=>?_⟩;cases e2;exact⟨o,e,ex.2.1⟩
 |_=>exact False.elim ty
def Lq (K:aas)(T:String)(r:V->List V->Hp->VK->Prop)(to:TE)(t:TA):TE:=λσ H Q=>to σ H λx H1=>Lh K T x H1/\t σ H1 λxs H2=>r x xs H2 Q
variable {o e:Expr}{es:List Expr}{to:TE}{t:TA}{name:Str}{apos LV:Pos}{T id:String}{r:V->List V->Hp->VK->Prop}
theorem lQ (pa:PlainAttrs T) (slot:Slot T name id) (Oj:typeOf (.builtin id)=pure (.type "method_descriptor")) (hm:CM X id r) (ho:PE X o to) (ha:PA X (e::es) t)
  (L4:attributeBase o name X.env (eval o X.env)=eval o X.env:=by rfl)
  (Q4:((backTo LV (starEach (e::es) X.env)).all (λx=>!x.1)&&(backToKw LV (keywordEach [] X.env)).all (λx=>x.1.isSome)
   && decide ((e::es).length+([]:List Keyword).length+(if ([]:List Keyword).isEmpty then 0 else 1) < 30))=true:=by rfl)
  (L5:(apos.endLine==LV.line)=true:=by rfl) (hs:starEach (e::es) X.env=(false,eval e X.env)::starEach es X.env:=by rfl) (NX:(backTo LV (starEach es X.env)).any (·.1)=false:=by rfl) :
  PE X (.Call (.Attribute o name apos) (e::es) [] LV) (Lq X.K T r to t):=by
 intro pins s σ H Q I h;refine wpAny_Call_method_late L4 Q4 L5 rfl (bA (ho pins s σ H _ I h) λv s1 ⟨x,H1,I1,r1,ty,q1⟩=>?_);obtain⟨h1,h2⟩:=GK I1 r1 ty;refine⟨T,id,pa,slot,Oj,h1,h2,?_⟩;have hA:=ha LV pins s1 σ H1 _ I1 q1;rw[hs] at hA ⊢;refine Z6 (by show (false||(backTo LV (starEach es X.env)).any (·.1))=false;rw[NX] <;> rfl) (Calls.evalArgs_plain ?_);exact bA hA λus s2 ⟨vs,H2,I2,r2,q2⟩=>hm pins s2 σ H2 x vs v us Q I2 r1 r2 q2
end
def Kw (X:Cx)(id:String)(r:V->List V->Hp->VK->Prop):Prop :=
 ∀(pins:aav) (s:Shared) (σ:St) (H:Hp) (x:V) (xs:List V) (v:Value) (us:aaw) (Q:VK),Inv X pins σ H s->RelV x v->Vals xs us->r x xs H Q ->
  wpAny (model X.prog X.w) X.A (call (.builtin id) (v::us)) (EP X pins σ Q) X.xe s
theorem Vals.one:∀{x:V} {us:aaw},Vals [x] us->∃u,us=[u]/\RelV x u
 |_,_,.cons r .nil=>⟨_,rfl,r⟩
section
variable {X:Cx}{pins:aav}{σ:St}{H:Hp}{s:Shared}{l b:Addr}{xs ys zs:List V}
theorem Inv.JK {LO its':aaw} {n:Nat} {f:Array Value->Array Value} {t':Nat} (I:Inv X pins σ H s) (hH:H l=some (.lst xs))
  (e:s.heap.get? l=some {cls:=.type "list",data:=.seq LO.toArray n}) (hf:f LO.toArray=its'.toArray) (hv:Vals ys its') (hz:ys.length<=sizeLine) :
  Inv X pins σ (upd H l (.lst ys)) {s with heap:=s.heap.update l (Obj.mapSeq f),toks:=t'}:=by
 have q:=PySem.IsL.update e f;rw[hf] at q;refine I.write (x:=l) (e:=l) (by rw[hH];exact trivial) (.inl rfl) (λb' u hb hu=>(ZG s.heap (Obj.mapSeq f) (aaj hb)).trans hu) ⟨_,q⟩ ?_;exact⟨hz,its',_,hv,q⟩
theorem Inv.Kr {LO:aaw}{t':Nat}(I:Inv X pins σ H s)(hv:Vals ys LO)(hz:ys.length<=sizeLine) :
  Inv X pins σ (upd H s.heap.objs.size (.lst ys)) {s with heap:=s.heap.push {cls:=.type "list",data:=.seq LO.toArray},toks:=t'} :=
 I.laid (λ_ _ q=>XM _ q) (XT _) ⟨hz,LO,0,hv,X0 _ rfl⟩
theorem Inv.fresh (I:Inv X pins σ H s):H s.heap.objs.size=none:=I.bu.fresh (XT _)
theorem Inv.AM (I:Inv X pins σ H s)(hH:H l=some (.lst xs)):xs.length<=sizeLine/\∃(LO:aaw) (n:Nat),Vals xs LO/\xs.length=LO.length/\s.heap.get? l=some {cls:=.type "list",data:=.seq LO.toArray n}:=by
 obtain⟨z,LO,n,r,e⟩:=I.bu l _ hH;exact⟨z,LO,n,r,r.length,e⟩
theorem Cb {n:Nat}(h:n<=sizeLine):Builtin.List.listTooLong n=false:=by
 unfold Builtin.List.listTooLong;exact Yv (by omega)
end
section
variable {X:Cx}
def Ef:V->List V->Hp->VK->Prop:=λx vs H Q=>∃l xs y,x=.ref l/\vs=[y]/\H l=some (.lst xs)/\xs.length < sizeLine/\Q .b8 (upd H l (.lst (xs++[y])))
theorem gf:Kw X "list.append" Ef:=by
 intro pins s σ H x vs v us Q I rx rv h;obtain⟨l,xs,y,rfl,rfl,hH,hz,q⟩:=h;cases rx;obtain⟨u,rfl,ru⟩:=rv.one;obtain⟨z,LO,n,r,hl,e⟩:=I.AM hH;refine call_meets F.slot_list_append ⟨_,e,rfl⟩ F.entry_list_append (F.args_list_append_2 _ _) (PySem.list_append l LO.toArray n u (by rw[X5];omega)) ⟨e,?_⟩;refine⟨.b8,_,I.JK (its':=LO++[u]) hH e (by simp) (r.append (.cons ru .nil)) ?_,rfl,q⟩;rw[X6,YV];omega
def EN:V->List V->Hp->VK->Prop:=λx vs H Q=>∃l b xs zs,x=.ref l/\vs=[.ref b]/\H l=some (.lst xs)/\H b=some (.lst zs)/\xs.length+zs.length<=sizeLine/\Q .b8 (upd H l (.lst (xs++zs)))
theorem zQ:Kw X "list.extend" EN:=by
 intro pins s σ H x vs v us Q I rx rv h;obtain⟨l,b,xs,zs,rfl,rfl,hH,hB,hz,q⟩:=h;cases rx;obtain⟨u,rfl,ru⟩:=rv.one;cases ru;obtain⟨z,LO,n,r,hl,e⟩:=I.AM hH;obtain⟨z2,L3,n2,r2,Sz,e2⟩:=I.AM hB;have hsz:LO.toArray.size+L3.toArray.size<=sizeLine:=by rw[X5,X5];omega
 have OU:¬(!LO.toArray.isEmpty&&Builtin.List.listTooLong (LO.toArray.size+L3.toArray.size))=true:=by
  rw[Cb hsz,Bool.and_false];exact X8
 refine call_meets F.slot_list_extend ⟨_,e,rfl⟩ F.entry_list_extend (F.args_list_extend_2 _ _)
  (AutoSeq1.list_extend_list_list_0 l LO.toArray n b L3.toArray n2 OU (by rw[X5];omega) (by omega)) ⟨e,e2,?_⟩
 refine⟨.b8,_,I.JK (its':=LO++L3) hH e (by simp) (r.append r2) ?_,rfl,q⟩;rw[X6];omega
def KG:R2:=λx y H Q=>∃l b xs zs,x=.ref l/\y=.ref b/\H l=some (.lst xs)/\H b=some (.lst zs)/\xs.length+zs.length<=sizeLine/\∀p,H p=none->Q (.ref p) (upd H p (.lst (xs++zs)))
theorem xw:jU X (binaryOp .Add) KG:=by
 intro pins s σ H x y v u Q I rx ry h;obtain⟨l,b,xs,zs,rfl,rfl,hH,hB,hz,q⟩:=h;cases rx;cases ry;obtain⟨z,LO,n,r,hl,e⟩:=I.AM hH;obtain⟨z2,L3,n2,r2,Sz,e2⟩:=I.AM hB;refine PySem.P.add_list e e2 ?_ (by rw[X5,X5];omega);have ea:LO.toArray++L3.toArray=(LO++L3).toArray:=by simp
 rw[ea];exact⟨.ref _,_,I.Kr (t':=s.toks) (r.append r2) (by rw[X6];omega),rfl,q _ I.fresh⟩
end
section
variable {prog:Program}{w:World}{A:Around}{E:aat}{s:Shared}
end
section
variable {X:Cx}
end
theorem Vals.ints:∀{ns:List Int} {us:aaw},Vals (ns.map V.int) us->IntsAre us ns
 |[],us,h=>by
  rw[Y6] at h;cases h;exact IntsAre.nil
 |n::ns,us,h=>by
  rw[X1] at h;cases h with
  |cons r t =>
   obtain⟨k,rfl⟩:=r;exact IntsAre.cons n k (Vals.ints t)
theorem lT:∀{us:aaw} {ns:List Int},IntsAre us ns->Vals (ns.map V.int) us
 |_,_,.nil=>by rw[Y6];exact Paired.nil
 |_,_,.cons n t h=>by rw[X1];exact Paired.cons (show RelV (V.int n) (Value.int n t) from ⟨t,rfl⟩) (lT h)
theorem Vals.Kx:∀{bs:List Bool} {us:aaw},Vals (bs.map V.bl) us->us=bs.map Value.bool
 |[],us,h=>by
  rw[Y6] at h;cases h;rfl
 |b::bs,us,h=>by
  rw[X1] at h;cases h with
  |cons r t =>
   cases r;rw[Vals.Kx t,X1]
theorem Vals.xk {a:Addr}{us:aaw}(r:Vals [V.ref a] us):us=[Value.ref a]:=by
 cases r with
 |cons r t =>
  cases t;cases r;rfl
section
variable {prog:Program}{w:World}{A:Around}{E:aat}{s:Shared}{l:Addr}{LO:aaw}{ns:List Int}{Q:aat}
theorem Fe (hh:A.handled=none) (hl:s.heap.IsList l LO.toArray) (hi:IntsAre LO ns)
  (h:∀h' tk t',(∀b o,s.heap.get? b=some o->h'.get? b=some o)->Q (.int ns.sum t') {s with heap:=h',toks:=tk}):wpAny (model prog w) A (call (.builtin "sum") [.ref l]) Q E s:=by
 obtain⟨xs,e⟩:=hi.allInts.items;have hn:numsOf (intItems xs).toList=ns:=by rw[←e];exact hi.numsOf
 rw[nums_intItems] at hn;rw[e] at hl;refine PySem.sum_intListG hh hl λh' tk t' hk=>?_;have:=h h' tk t' hk;rw[preSum_eq,YD (by simp),hn];exact this
end
section
variable {X:Cx}
def JX (K:aas):List V->Hp->VK->Prop:=λvs H Q=>∃(a:Addr) (ns:List Int),vs=[V.ref a]/\aO K H a (ns.map V.int)/\Q (.int ns.sum) H
theorem xM (hc:X.calm=true):iE X (.builtin "sum") (JX X.K):=by
 intro pins s σ H vs us Q I r h;obtain⟨a,ns,rfl,hs,q⟩:=h;obtain⟨LO,rv,hl,_⟩:=I.list hs;rw[Vals.xk r];exact Fe (I.ok.hd hc) hl.isList rv.ints λh' tk t' hk=>⟨.int _,H,I.kept hk,⟨_,rfl⟩,q⟩
theorem zl {n:Nat}(h:n < 64):n<=sizeLine:=by rw[Yb];omega
end
section
variable {X:Cx}
def HR (K:aas):V->List V->Hp->VK->Prop:=λx xs H Q=>∃(a:Addr) (ys:List V) (y:V) (j:Nat) (z:V),x=V.ref a/\xs=[y]/\aO K H a ys/\dM y=true/\ys.all dM=true/\ys[j]?=some z/\sF z y=true /\
 (∀(m:Nat) (z':V),m < j->ys[m]?=some z'->sF z' y=false)/\Q (.int (j:Nat)) H
theorem y_ {ys:List V}(f:ys.all dM=true){j:Nat}{z:V}(h:ys[j]?=some z):dM z=true:=Yd.mp f z (Yc h)
theorem Co:CM X "list.index" (HR X.K):=by
 intro pins s σ H x xs v us Q I rx Q5 h;obtain⟨a,ys,y,j,z,rfl,rfl,hs,fy,Ny,hz,Vn,M5,q⟩:=h;cases rx;cases Q5 with
 |cons ry rt =>
  rename_i uy ut;cases rt;obtain⟨LO,rv,⟨⟨cls,dd,data,sl⟩,n,ho,hc,P2,hd⟩,hlen⟩:=I.list hs;simp only at hc hd;subst hc hd;obtain⟨u,hu,ru⟩:=rv.get hz;obtain⟨Ol,Vo⟩:=XY.mp hu;have hvl:=rv.length;have hj:j < LO.toArray.size:=by simpa using Ol
  have NY:=Yb;refine call_meets PySem.F.slot_list_index ⟨_,ho,rfl⟩ PySem.F.entry_list_index (PySem.F.args_list_index_2 _ _)
   (SeqAt.list_indexAt a LO.toArray n dd sl uy (wc y) j hj (by omega) ?_ ?_) ⟨ho,λu' Q6=>gG ry fy rv Ny u' (by simpa using Q6),?_⟩
  · have e1:LO.toArray[j]=u:=by simpa using Vo
    rw[e1,lh ru (y_ Ny hz)];exact Vn
  · intro m hm Vp;have Nz:m < LO.length:=by simpa using hm
    have Vq:m < ys.length:=by omega
    have NA:ys[m]?=some ys[m]:=XU Vq;obtain⟨u2,Q7,Q8⟩:=rv.get NA;obtain⟨_,Vr⟩:=XY.mp Q7;have e1:LO.toArray[m]=u2:=by simpa using Vr
    rw[e1,lh Q8 (y_ Ny NA)];exact M5 m _ Vp NA
  · exact⟨.int (j:Nat),H,I.tok _,⟨_,rfl⟩,q⟩
end
section
variable {X:Cx}
end
theorem u9 {prog:Program}{w:World}{A:Around}{E:aat}{s:Shared}{l:Addr}{items:Array Value}{Q:aat}(hl:s.heap.IsList l items)
  (h:∀s₂:Shared,s₂={s with heap:=s.heap.push {cls:=.type "list_iterator",data:=.fields #[.ref l,.int 0 0]}} ->
   (s₂.heap.IsListIter s.heap.objs.size l 0/\s₂.heap.IsList l items)->l≠s.heap.objs.size->Q (.ref s.heap.objs.size) s₂):wpAny (model prog w) A (pyIter (.ref l)) Q E s:=by
 have LU:l < s.heap.objs.size:=by obtain⟨_,e,_⟩:=hl;exact XX e
 exact wpAny_pyIter_list hl (h _ rfl ⟨⟨_,X0 _ rfl,rfl,rfl⟩,hl.push _⟩ (Yk LU))
theorem nN {prog:Program}{w:World}{A:Around}{bs:List Bool}{LO:aaw}(e:LO=bs.map Value.bool) :
  TruthOf prog w A (λi v=>LO.toArray[i]?=some v) (λi=>bs.getD i false):=λi v s Q E hv hq=>by
 have PZ:LO[i]?=some v:=by simpa using hv
 rw[e,XO] at PZ;obtain⟨b,hb,rfl⟩:=Yj.mp PZ;have hg:bs.getD i false=b:=by rw[Yq,hb] <;> rfl
 have M4:Q (bs.getD i false) s:=hq;rw[hg] at M4;exact YW M4
theorem any_range:∀bs:List Bool,(List.range bs.length).any (λi=>bs.getD i false)=bs.any id
 |[]=>rfl
 |b::bs=>by
  rw[XW,List.range_succ_eq_map,Ze,Z4,Ze,←any_range bs]
  all_goals rfl
theorem all_range:∀bs:List Bool,(List.range bs.length).all (λi=>bs.getD i false)=bs.all id
 |[]=>rfl
 |b::bs=>by
  rw[XW,List.range_succ_eq_map,ZU,ZQ,ZU,←all_range bs]
  all_goals rfl
section
variable {X:Cx}
def KO (K:aas):List V->Hp->VK->Prop:=λvs H Q=>∃(a:Addr) (bs:List Bool),vs=[V.ref a]/\aO K H a (bs.map V.bl)/\Q (.bl (bs.any id)) H
def Kk (K:aas):List V->Hp->VK->Prop:=λvs H Q=>∃(a:Addr) (bs:List Bool),vs=[V.ref a]/\aO K H a (bs.map V.bl)/\Q (.bl (bs.all id)) H
theorem Cu (hc:X.calm=true):iE X (.builtin "any") (KO X.K):=by
 intro pins s σ H vs us Q I r h;obtain⟨a,bs,rfl,hs,q⟩:=h;obtain⟨LO,rv,hl,_⟩:=I.list hs;rw[Vals.xk r];have hb:=rv.Kx;refine call_any_walk (u9 hl.isList λs₂ e2 st L0=>?_);subst e2;refine⟨_,_,_,_,_,_,_,rfl,Walks.list (A:=X.A.in1) (I.ok.hd hc) _ a L0 LO.toArray,st,nN hb,λh' tk hk=>?_⟩;refine⟨.bl _,H,I.kept λb o eo=>hk b o (λMu=>?_) (XM _ eo),?_,q⟩
 · rcases XN.mp Mu with e1|Mu
   · exact absurd (e1 ▸ XX eo) (Y2 _)
   · cases Mu
 · show Value.bool _=Value.bool _;rw[←any_range,hb,X5,XH]
theorem xa (hc:X.calm=true):iE X (.builtin "all") (Kk X.K):=by
 intro pins s σ H vs us Q I r h;obtain⟨a,bs,rfl,hs,q⟩:=h;obtain⟨LO,rv,hl,_⟩:=I.list hs;rw[Vals.xk r];have hb:=rv.Kx;refine call_all_walk (u9 hl.isList λs₂ e2 st L0=>?_);subst e2;refine⟨_,_,_,_,_,_,_,rfl,Walks.list (A:=X.A.in1) (I.ok.hd hc) _ a L0 LO.toArray,st,nN hb,λh' tk hk=>?_⟩;refine⟨.bl _,H,I.kept λb o eo=>hk b o (λMu=>?_) (XM _ eo),?_,q⟩
 · rcases XN.mp Mu with e1|Mu
   · exact absurd (e1 ▸ XX eo) (Y2 _)
   · cases Mu
 · show Value.bool _=Value.bool _;rw[←all_range,hb,X5,XH]
end
mutual
inductive Dp (K:aas)(H:Hp):V->PyData->Prop
 |b8:Dp K H .b8 .none
 |bl (b:Bool):Dp K H (.bl b) (.bool b)
 |int (i:Int):Dp K H (.int i) (.int i)
 |str (x:Str):Dp K H (.str x) (.str x)
 |lst {a:Addr} {xs:List V} {ds:List PyData}:aO K H a xs->r_ K H xs ds->Dp K H (.ref a) (.list ds)
 |tup {a:Addr} {xs:List V} {ds:List PyData}:b6 K H a xs->r_ K H xs ds->Dp K H (.ref a) (.tuple ds)
inductive r_ (K:aas)(H:Hp):List V->List PyData->Prop
 |nil:r_ K H [] []
 |cons {v:V} {vs:List V} {d:PyData} {ds:List PyData}:Dp K H v d->r_ K H vs ds->r_ K H (v::vs) (d::ds)
end
section
variable {X:Cx}{pins:aav}{σ:St}{H:Hp}{s:Shared}
mutual
theorem Dp.reads (I:Inv X pins σ H s):∀(d:PyData) (v:V) (u:Value),Dp X.K H v d->RelV v u->∃as,Reads s.heap u d as
 |.none,_,_,h,r=>by
  cases h;cases r;exact⟨_,Reads.none⟩
 |.bool b,_,_,h,r=>by
  cases h;cases r;exact⟨_,Reads.bool b⟩
 |.int i,_,_,h,r=>by
  cases h;obtain⟨t,rfl⟩:=r;exact⟨_,Reads.int i t⟩
 |.str x,_,_,h,r=>by
  cases h;obtain⟨t,rfl⟩:=r;exact⟨_,Reads.str x t⟩
 |.list ds,_,_,h,r=>by
  cases h with
  |lst hs ha =>
   cases r;obtain⟨LO,rv,⟨o,n,ho,hc,_,hd⟩,_⟩:=I.list hs;obtain⟨as,hr⟩:=Dp.readsAll I ds _ LO ha rv;exact⟨_,Reads.list ho hc hd hr⟩
 |.tuple ds,_,_,h,r=>by
  cases h with
  |tup hs ha =>
   cases r;obtain⟨LO,rv,⟨o,ho,hc,n,hd⟩,_⟩:=I.tuple hs;obtain⟨as,hr⟩:=Dp.readsAll I ds _ LO ha rv;exact⟨_,Reads.tuple ho hc hd hr⟩
 |.dict _,_,_,h,_=>by cases h
theorem Dp.readsAll (I:Inv X pins σ H s):∀(ds:List PyData) (vs:List V) (us:aaw),r_ X.K H vs ds->Vals vs us->∃as,ReadsAll s.heap us ds as
 |[],_,_,h,r=>by
  cases h;cases r;exact⟨_,ReadsAll.nil⟩
 |d::ds,_,_,h,r=>by
  cases h with
  |cons h1 h2 =>
   cases r with
   |cons r1 r2 =>
    obtain⟨as,q1⟩:=Dp.reads I d _ _ h1 r1;obtain⟨bs,q2⟩:=Dp.readsAll I ds _ _ h2 r2;exact⟨_,ReadsAll.cons q1 q2⟩
end
end
section
variable {X:Cx}
def Lc (K:aas):R2:=λx y H Q=>∃d e,Dp K H x d/\Dp K H y e/\SeqAt.shaped d=true/\SeqAt.shaped e=true/\Q (.bl (PyData.eqv d e)) H
theorem Gq (hu:X.A.units+64 < cLine):jU X (compareOp .Eq) (Lc X.K):=by
 intro pins s σ H x y v u Q I rx ry h;obtain⟨d,e,hd,he,sd,se,q⟩:=h;obtain⟨as,r1⟩:=Dp.reads I d x v hd rx;obtain⟨bs,r2⟩:=Dp.reads I e y u he ry;exact SeqAt.compareEq_shaped r1 r2 sd se hu ⟨.bl _,H,I,rfl,q⟩
end
end L2
namespace L2
open PySem PySem.Spec PyProof.Rows
abbrev BQ (h:Heap)(c:Addr)(v:Option Value):Prop:=h.IsCell c v
def KC (scope sc:Scope):Scope :=
 {scope with names:=scope.names.map λ(n,k)=>if (k==.free&&sc.kind==.function&&sc.names.lookup n==some .cell) then (n,.cell) else (n,k)}
def bN (cells:List (Str×Addr)):List (Str×NameKind)->List (Str×Addr)->List (Str×Addr)
 |[],acc=>acc
 |(n,k)::r,acc=>if k==.free then bN cells r ((n,(cells.lookup n).getD 0)::acc) else bN cells r acc
theorem mj (env:Env)(f:Str×NameKind->List (Str×Addr)->Sem (ForInStep (List (Str×Addr))))
  (hf:∀n k c,f (n,k) c=if k==.free then (do let a ←cellOf env n;pure (.yield ((n,a)::c))) else pure (.yield c)) :
  ∀(names:List (Str×NameKind)) (acc:List (Str×Addr)),(∀y∈names,y.2=.free->∃c,env.cells.lookup y.1=some c)->forIn names acc f=pure (bN env.cells names acc)
 |[],acc,_=>by rw[List.forIn_nil];rfl
 |(n,k)::r,acc,h=>by
  rw[List.forIn_cons,hf];have ih:=λacc=>mj env f hf r acc λy hy=>h y (X2 _ hy);unfold bN;by_cases hk:(k==NameKind.free)=true
  · rw[XJ hk,XJ hk];obtain⟨c,hc⟩:=h (n,k) Yt (by simpa using hk);have e:cellOf env n=pure c:=by unfold cellOf;rw[hc]
    rw[e];have e2:(env.cells.lookup n).getD 0=c:=by rw[hc];rfl
    rw[e2];exact ih _
  · rw[XI hk,XI hk];exact ih _
theorem wC {scope:Scope}{env:Env}(h:∀y∈scope.names,y.2=.free->∃c,env.cells.lookup y.1=some c):closureFor scope env=pure (bN env.cells scope.names []):=by
 simp only[closureFor];rw[mj env _ (λn k c=>rfl) scope.names [] h];rfl
theorem mem_lookup {α:Type}:∀{l:List (Str×α)} {n:Str} {c:α},(n,c)∈l->∃c',l.lookup n=some c'
 |(k,v)::r,n,c,h=>by
  rw[Zx];cases hb:n==k with
  |true=>exact⟨_,rfl⟩
  |false =>
   rcases XN.mp h with e|h
   · cases e;simp at hb
   · exact mem_lookup h
theorem gJ {cells:List (Str×Addr)}:∀{names:List (Str×NameKind)} {acc:List (Str×Addr)} {n:Str} {c:Addr},(n,c)∈bN cells names acc->(n,c)∈acc∨((n,.free)∈names/\c=(cells.lookup n).getD 0)
 |[],_,_,_,h=>.inl h
 |(m,k)::r,acc,n,c,h=>by
  unfold bN at h;split at h
  · rename_i hk;have hk:k=.free:=by simpa using hk
    rcases gJ h with h|⟨h1,h2⟩
    · rcases XN.mp h with e|h
      · cases e;exact .inr ⟨hk ▸ Yt,rfl⟩
      · exact .inl h
    · exact .inr ⟨X2 _ h1,h2⟩
  · rcases gJ h with h|⟨h1,h2⟩
    · exact .inl h
    · exact .inr ⟨X2 _ h1,h2⟩
theorem jC {cells:List (Str×Addr)}:∀{names:List (Str×NameKind)} {acc:List (Str×Addr)} {p:Str×Addr},p∈acc->p∈bN cells names acc
 |[],_,_,h=>h
 |(m,k)::r,acc,p,h=>by
  unfold bN;split
  · exact jC (X2 _ h)
  · exact jC h
theorem jy {cells:List (Str×Addr)}:∀{names:List (Str×NameKind)} {acc:List (Str×Addr)} {n:Str},(n,.free)∈names->(n,(cells.lookup n).getD 0)∈bN cells names acc
 |(m,k)::r,acc,n,h=>by
  unfold bN;rcases XN.mp h with e|h
  · cases e;exact jC Yt
  · split
    · exact jy h
    · exact jy h
theorem iF:∀{names:List (Str×NameKind)} {h:Heap} {acc:List (Str×Addr)} {x:Str} {c:Addr},(x,c)∈cellsFrom h.objs.size names acc ->
  (x,c)∈acc∨((x,.cell)∈names/\h.objs.size<=c/\BQ (pushCells h names) c none)
 |[],_,_,_,_,h=>.inl h
 |(n,k)::r,h,acc,x,c,hm=>by
  unfold cellsFrom at hm;unfold pushCells;split at hm
  · rename_i hk;rw[XJ hk];have hk:k=.cell:=by simpa using hk
    rw[←YQ h {cls:=.type "cell",data:=.cell none}] at hm;rcases iF hm with hm|⟨h1,h2,h3⟩
    · rcases XN.mp hm with e|hm
      · cases e;exact .inr ⟨hk ▸ Yt,XT _,_,pushCells_keeps r _ _ _ (X0 _ rfl),rfl⟩
      · exact .inl hm
    · rw[YQ] at h2;exact .inr ⟨X2 _ h1,Nat.le_of_succ_le h2,h3⟩
  · rename_i hk;rw[XI hk];rcases iF hm with hm|⟨h1,h2,h3⟩
    · exact .inl hm
    · exact .inr ⟨X2 _ h1,h2,h3⟩
theorem jX:∀{names:List (Str×NameKind)} {n:Nat} {acc:List (Str×Addr)} {p:Str×Addr},p∈acc->p∈cellsFrom n names acc
 |[],_,_,_,h=>h
 |(m,k)::r,n,acc,p,h=>by
  unfold cellsFrom;split
  · exact jX (X2 _ h)
  · exact jX h
theorem nI:∀{names:List (Str×NameKind)} {n:Nat} {acc:List (Str×Addr)} {x:Str},(x,.cell)∈names->∃c,(x,c)∈cellsFrom n names acc
 |(m,k)::r,n,acc,x,h=>by
  unfold cellsFrom;rcases XN.mp h with e|h
  · cases e;exact⟨n,jX Yt⟩
  · split
    · exact nI h
    · exact nI h
theorem nE:∀{names:List (Str×NameKind)} {h:Heap} {acc:List (Str×Addr)} {x y:Str} {c:Addr},(∀p∈acc,p.2 < h.objs.size)->(∀x y c,(x,c)∈acc->(y,c)∈acc->x=y) ->
  (x,c)∈cellsFrom h.objs.size names acc->(y,c)∈cellsFrom h.objs.size names acc->x=y
 |[],_,_,_,_,_,_,hi,h1,h2=>hi _ _ _ h1 h2
 |(n,k)::r,h,acc,x,y,c,hl,hi,h1,h2=>by
  unfold cellsFrom at h1 h2;split at h1
  · rename_i hk;rw[XJ hk] at h2;rw[←YQ h {cls:=.type "cell",data:=.cell none}] at h1 h2;refine nE (h:=h.push _) (λp hp=>?_) (λx y c a b=>?_) h1 h2
    · rw[YQ];rcases XN.mp hp with rfl|hp
      · exact Z9 _
      · exact Nat.lt_succ_of_lt (hl p hp)
    · rcases XN.mp a with e|a <;> rcases XN.mp b with e'|b
      · cases e;cases e';rfl
      · cases e;exact absurd (hl _ b) (Y2 _)
      · cases e';exact absurd (hl _ a) (Y2 _)
      · exact hi _ _ _ a b
  · rename_i hk;rw[XI hk] at h2;exact nE hl hi h1 h2
theorem vq {M:Model}{A:Around}{E:aat}{s:Shared}{scope:Scope}{globals:Addr}{closure:List (Str×Addr)}{qual:Str}{func:Option Addr}{code:Value}{around:Env}{builtins:Addr}{Q:Env->Shared->Prop}
  (h:Q (newEnv scope s.heap.objs.size globals (cellsFrom (s.heap.objs.size+1) scope.names closure) qual func code (some around) builtins)
   {s with heap:=pushCells (s.heap.push {cls:=.type "dict",data:=.dict #[]}) scope.names}) :
  wpAny M A (newFunctionEnv scope globals closure [] qual func code (some around) builtins) Q E s:=by
 simp only[newFunctionEnv,Option.isSome_some,Zq];refine XG (wpAny_alloc ?_);refine XG (wpAny_layCells _ (λn k c=>rfl) scope.names closure _ _ ?_);rw[show ({s with heap:=s.heap.push {cls:=.type "dict",data:=.dict #[]}}:Shared).heap.objs.size=s.heap.objs.size+1 from YQ ..];rw[List.forIn_nil];exact XG (XQ (XQ h))
theorem ju {sc:Scope}:∀{names:List (Str×NameKind)} {x:Str} {k:NameKind},
  (names.map λ(n,k)=>if (k==NameKind.free&&sc.kind==.function&&sc.names.lookup n==some .cell) then (n,NameKind.cell) else (n,k)).lookup x=some k ->
  ∃k',names.lookup x=some k'/\(k=k'∨(k'=.free/\k=.cell))
 |[],_,_,h=>by simp at h
 |(n,k₀)::r,x,k,h=>by
  have ih:=@ju sc r x k;have h':List.lookup x ((if (k₀==NameKind.free&&sc.kind==.function&&sc.names.lookup n==some .cell)=true then (n,NameKind.cell) else (n,k₀))::(r.map _))=some k:=h;cases hx:x==n with
  |true =>
   simp only[Zx,hx];by_cases hc:(k₀==NameKind.free&&sc.kind==.function&&sc.names.lookup n==some .cell)=true
   · rw[XJ hc] at h';simp only[Zx,hx] at h';cases h';simp only[XR,Yx] at hc;exact⟨k₀,rfl,.inr ⟨hc.1.1,rfl⟩⟩
   · rw[XI hc] at h';simp only[Zx,hx] at h';cases h';exact⟨_,rfl,.inl rfl⟩
  |false =>
   simp only[Zx,hx];by_cases hc:(k₀==NameKind.free&&sc.kind==.function&&sc.names.lookup n==some .cell)=true
   · rw[XJ hc] at h';simp only[Zx,hx] at h';exact ih h'
   · rw[XI hc] at h';simp only[Zx,hx] at h';exact ih h'
structure vF (N:List Str)(sc scope:Scope)(own:List (Str×Nat)):Prop where
 kind:scope.kind=.function
 uniq:∀y∈scope.names,scope.names.lookup y.1=some y.2
 ix:∀p∈own,N[p.2]?=some p.1
 free:∀y∈scope.names,y.2=.free->sc.names.lookup y.1=some .cell∨sc.names.lookup y.1=some .free
 own:∀y∈scope.names,y.2=.local∨y.2=.cell->y.1∈own.map (·.1)∨y.1∉N
def wipe (σ:St):aar->St
 |[]=>σ
 |v::vs=>(wipe σ vs).set v none
theorem jB (σ:St):∀vs:aar,(wipe σ vs).length=σ.length
 |[]=>rfl
 |v::vs=>by unfold wipe;rw[List.length_set,jB σ vs]
theorem nG {σ:St}{i:Nat}{x:V}:∀{vs:aar},(wipe σ vs)[i]?=some (some x)->σ[i]?=some (some x)/\i∉vs
 |[],h=>⟨h,by simp⟩
 |v::vs,h=>by
  unfold wipe at h;by_cases hi:v=i
  · subst hi;by_cases hv:v < (wipe σ vs).length
    · rw[Z1 hv] at h;cases h
    · rw[YK (by simpa using hv)] at h;cases h
  · rw[List.getElem?_set_ne hi] at h;obtain⟨h1,h2⟩:=nG h;exact⟨h1,by simp only[XN,not_or];exact⟨λe=>hi e.symm,h2⟩⟩
abbrev Cx.qO (X:Cx)(s:Shared)(H:Hp)(scope:Scope)(LR:Env)(fp:List Addr):Cx:={X with kN:=s,Iv:=H,env:=LR,outer:=X.stack,ex:=fp,fn:=λx=>scope.names.lookup x==some .cell,pn:=[],xe:=λ_ _=>False}
section
variable {X:Cx}{pins:aav}{σ:St}{H:Hp}{s:Shared}
theorem uS {scope:Scope} {own:List (Str×Nat)} {fp:List Addr} (I:Inv X pins σ H s) (ok:vF X.N X.env.scope scope own) (hN:X.N.Nodup) (NB:∀b∈fp,mY X pins H b/\b < s.heap.objs.size) :
  Inv (X.qO s H scope (compEnvC scope (cellsFrom (s.heap.objs.size+1) scope.names (bN X.env.cells scope.names [])) s.heap.objs.size X.env) fp) [] (wipe σ (own.map (·.2))) H {s with heap:=pushCells (s.heap.push {cls:=.type "dict",data:=.dict #[]}) scope.names}:=by
 have Md:∀y∈scope.names,y.2=.free->∃c,X.env.cells.lookup y.1=some c:=λy hy e=>by
  rcases ok.free y hy e with k|k
  · exact I.ok.has _ (.inl k)
  · exact I.ok.has _ (.inr k)
 generalize Mn:compEnvC scope (cellsFrom (s.heap.objs.size+1) scope.names (bN X.env.cells scope.names [])) s.heap.objs.size X.env=LR;have kp:∀b o,s.heap.get? b=some o->(pushCells (s.heap.push {cls:=.type "dict",data:=.dict #[]}) scope.names).get? b=some o:=λb o e=>pushCells_keeps _ _ _ _ (XM _ e);have hL:LR.locals=s.heap.objs.size:=by rw[←Mn];rfl
 have NZ:LR.cells=cellsFrom (s.heap.objs.size+1) scope.names (bN X.env.cells scope.names []):=by rw[←Mn];rfl
 have Q9:LR.scope=KC scope X.env.scope:=by rw[←Mn];rfl
 rw[←YQ s.heap {cls:=.type "dict",data:=.dict #[]}] at NZ;have cm:∀{y c},(y,c)∈bN X.env.cells scope.names []->X.env.cells.lookup y=some c/\c < s.heap.objs.size:=λ{y c} hm=>by
  rcases gJ hm with hm|⟨h1,rfl⟩
  · cases hm
  · obtain⟨c,hc⟩:=Md _ h1 rfl;rw[hc];obtain⟨w,z⟩:=I.cell _ _ hc;exact⟨rfl,z.lt⟩
 have mem:∀{y c},LR.cells.lookup y=some c->(X.env.cells.lookup y=some c/\c < s.heap.objs.size)∨(s.heap.objs.size+1<=c/\BQ (pushCells (s.heap.push {cls:=.type "dict",data:=.dict #[]}) scope.names) c none):=λ{y c} e=>by
  rw[NZ] at e;rcases iF (PySem.mem_of_lookup e) with hm|⟨_,h2,h3⟩
  · exact .inl (cm hm)
  · rw[YQ] at h2;exact .inr ⟨h2,h3⟩
 have look:∀{y},scope.names.lookup y=some .free->∃c,LR.cells.lookup y=some c/\X.env.cells.lookup y=some c:=λ{y} hl=>by
  have hy:(y,NameKind.free)∈scope.names:=PySem.mem_of_lookup hl;obtain⟨c',e'⟩:=mem_lookup (jX (names:=scope.names) (n:=(s.heap.push {cls:=.type "dict",data:=.dict #[]}).objs.size) (jy (cells:=X.env.cells) (acc:=[]) hy));rw[←NZ] at e';refine⟨c',e',?_⟩;rw[NZ] at e';rcases iF (PySem.mem_of_lookup e') with hm|⟨h1,_,_⟩
  · exact (cm hm).1
  · have:=ok.uniq _ h1;rw[hl] at this;cases this
 have Vs:(X.qO s H scope LR fp).Ok:=by
  refine⟨I.ok.mod,by show LR.scope.kind=_;rw[Q9];exact ok.kind,by show LR.globals=_;rw[←Mn];exact I.ok.glob,by show LR.builtins=_;rw[←Mn];exact I.ok.blt,by show s.heap.objs.size<=LR.locals;rw[hL];exact XT _,
   λy z c e1 e2=>?_,λy hy=>?_,λy c z e=>?_,I.ok.hd,I.ok.frames,.inl rfl,λb hb=>⟨?_,λy c e z=>?_⟩,I.bs,Yu I.ok.C_ I.sz,λb o e hb=>?_,λb hb z=>?_,I.stack,I.uz⟩
  · have e1:LR.cells.lookup y=some c:=e1;have e2:LR.cells.lookup z=some c:=e2;rw[NZ] at e1 e2;refine nE (λp hp=>?_) (λy z c a b=>I.ok.inj y z c (cm a).1 (cm b).1) (PySem.mem_of_lookup e1) (PySem.mem_of_lookup e2);rw[YQ];exact Nat.lt_succ_of_lt (cm (y:=p.1) (c:=p.2) hp).2
  · show ∃c,LR.cells.lookup y=some c;have key:∀k,LR.kindOf y=some k->(k=.cell∨k=.free)->∃c,LR.cells.lookup y=some c:=λk hk Q_=>by
     unfold Env.kindOf at hk;rw[Q9] at hk;obtain⟨k',e,r⟩:=ju hk;have:k'=.cell∨k'=.free:=by
      rcases r with rfl|⟨rfl,_⟩
      · exact Q_
      · exact .inr rfl
     rcases this with rfl|rfl
     · obtain⟨c,hm⟩:=nI (n:=(s.heap.push {cls:=.type "dict",data:=.dict #[]}).objs.size) (acc:=bN X.env.cells scope.names []) (PySem.mem_of_lookup e);obtain⟨c',e'⟩:=mem_lookup hm;exact⟨c',by rw[NZ];exact e'⟩
     · obtain⟨c,h1,_⟩:=look e;exact⟨c,h1⟩
    rcases hy with hy|hy
    · exact key _ hy (.inl rfl)
    · exact key _ hy (.inr rfl)
  · have z:(scope.names.lookup y==some NameKind.cell)=true:=z;have z:scope.names.lookup y=some .cell:=by simpa using z
    have e:LR.cells.lookup y=some c:=e;rw[NZ] at e;rcases iF (PySem.mem_of_lookup e) with hm|⟨_,h2,_⟩
    · rcases gJ hm with hm|⟨h1,_⟩
      · cases hm
      · have q:=ok.uniq _ h1;rw[z] at q;cases q
    · rw[YQ] at h2;exact Nat.le_of_succ_le h2
  · show b≠LR.locals;rw[hL];exact Yk (NB b hb).2
  · have e:LR.cells.lookup y=some c:=e;rcases mem e with ⟨h1,_⟩|⟨h1,_⟩
    · exact (NB b hb).1.2.2.2.2.1 y c h1 z
    · have h2:s.heap.objs.size+1<=b:=by rw[←z];exact h1
      exact absurd (Yo (NB b hb).2 (Nat.le_of_succ_le h2)) (Y2 _)
  · rcases (NB b hb).1.2.2.2.1 with z|z
    · exact I.ok.zx b o e z
    · exact absurd (Yo (XX e) (Yu I.ok.C_ z)) (Y2 _)
  · rcases XN.mp (I.wO b z) with z|z
    · exact (NB b hb).1.2.1 z
    · exact (NB b hb).1.2.2.1 z
 refine⟨Vs,rfl,I.bare,Un.kept kp,⟨λ_=>none,?_,λi y av e1 e2 e3=>?_⟩,λy c e=>?_,?_,λy c e=>?_,λp hp=>?_,I.bu.kept kp,by rw[jB];exact I.len⟩
 · show Heap.Ns _ LR.locals _;rw[hL];exact Heap.Ns.keeps (Heap.Ns.new ..) λb o e=>pushCells_keeps _ _ _ _ e
 · obtain⟨e2,L0⟩:=nG e2;have P4:scope.names.lookup y=some .free/\(LR.kindOf y=some .cell∨LR.kindOf y=some .free):=by
    have key:∀k,LR.scope.names.lookup y=some k->k=.local∨k=.cell∨k=.free->scope.names.lookup y=some .free/\(LR.kindOf y=some .cell∨LR.kindOf y=some .free):=λk hk Q_=>by
     have OO:=hk;rw[Q9] at hk;obtain⟨k',e,r⟩:=ju hk;have no:¬(k'=.local∨k'=.cell):=λhh=>by
      rcases ok.own _ (PySem.mem_of_lookup e) hh with e'|e'
      · obtain⟨p,hp,Vt⟩:=Yh.mp e';have e3:=ok.ix p hp;have:p.1=y:=Vt;rw[this] at e3;exact L0 (Yh.mpr ⟨p,hp,o_ hN e3 e1⟩)
      · exact e' (Yc e1)
     rcases r with rfl|⟨rfl,rfl⟩
     · rcases Q_ with rfl|rfl|rfl
       · exact absurd (.inl rfl) no
       · exact absurd (.inr rfl) no
       · exact⟨e,.inr OO⟩
     · exact⟨e,.inl OO⟩
    have e3:Iu LR.scope y:=e3;rcases e3 with e3|e3|e3
    · exact key _ e3 (.inl rfl)
    · exact key _ e3 (.inr (.inl rfl))
    · exact key _ e3 (.inr (.inr rfl))
   obtain⟨m,hn,hl⟩:=I.loc;have Ra:Iu X.env.scope y:=(ok.free _ (PySem.mem_of_lookup P4.1) rfl).elim (λk=>.inr (.inl k)) (λk=>.inr (.inr k));obtain⟨w,r,q⟩:=hl i y av e1 e2 Ra;refine⟨w,r,.inr ⟨P4.2,?_⟩⟩;obtain⟨c,h1,h2⟩:=look P4.1;rcases q with ⟨k,_⟩|⟨_,c',e',z⟩
   · have k:X.env.scope.names.lookup y=some .local:=k;rcases ok.free _ (PySem.mem_of_lookup P4.1) rfl with k'|k' <;> rw[show X.env.scope.names.lookup y=_ from k'] at k <;> cases k
   · rw[h2] at e';cases e';exact⟨c,h1,z.keeps kp⟩
 · have e:LR.cells.lookup y=some c:=e;rcases mem e with ⟨h1,_⟩|⟨_,z⟩
   · obtain⟨w,z⟩:=I.cell y c h1;exact⟨w,z.keeps kp⟩
   · exact⟨_,z⟩
 · show H LR.locals=none;rw[hL];exact I.bu.fresh (XT _)
 · have e:LR.cells.lookup y=some c:=e;rcases mem e with ⟨h1,_⟩|⟨h1,_⟩
   · exact I.gj y c h1
   · exact I.bu.fresh (Nat.le_of_succ_le h1)
 · exact absurd (show p∈([]:aav)++[] from hp) (by simp)
theorem Hj {E:aat}{D:Addr}{xs:List V}{y:V}{v:Value}{Q:aat}(I:Inv X pins σ H s)(hD:H D=some (.lst xs))(hz:xs.length < sizeLine)(r:RelV y v)
  (h:∀s',Inv X pins σ (upd H D (.lst (xs++[y]))) s'->Q .none s'):wpAny (model X.prog X.w) X.A (call (.builtin "list.append") [.ref D,v]) Q E s:=by
 obtain⟨hz',LO,n,ri,e⟩:=I.bu D _ hD;have hl:=ri.length;refine append_at (hsz:=by rw[X5];omega) e λh' sb Ma=>?_;refine h {s with heap:=h'} (I.write (t':=s.toks) (by rw[hD];trivial) (.inl rfl) (λb u hb q=>(sb.2 b hb).trans q) ⟨_,Ma⟩ ⟨by rw[X6];exact hz,LO++[v],n+1,ri.append (.cons r .nil),?_⟩);rw[Ma];simp
def JF (X:Cx)(ifs:List Expr)(t:TT):Prop :=
 ∀(pins:aav) (s:Shared) (σ:St) (H:Hp) (Q:Bool->Hp->Prop),Inv X pins σ H s->t σ H Q ->
  wpAny (model X.prog X.w) X.A (forIn ifs true λc r=>if r=true then do let ok ←isTrue c X.env (eval c X.env);pure (ForInStep.yield ok) else pure (ForInStep.yield r)) (TP X pins σ Q) X.xe s
def A5:TT:=λ_ H Q=>Q true H
theorem cp:JF X [] A5:=λ_ _ _ H _ I h=>wpAny_tests_nil ⟨H,I,h⟩
theorem oA {c:Expr}{t:TT}(h:PT X c t):JF X [c] t:=λpins s σ H Q I hw=>wpAny_tests_one (h pins s σ H Q I hw)
end
theorem zw {α:Type}{t:Sem α}{Q Q':α->Shared->Prop}{M:Model}{A:Around}{E:aat}{s:Shared}(h:wpAny M A t Q (λ_ _=>False) s)(hQ:∀a s,Q a s->Q' a s):wpAny M A t Q' E s:=YZ h hQ λ_ _ z=>False.elim z
theorem tN {prog:Program}{w:World}{A:Around}{R:Result->Shared->Prop}{s:Shared}{elt target iter:Expr}{ifs:List Expr}{scope:Scope}{pos:Pos}{it acc:Value}{env:Env}(I:Nat->Shared->Prop)
  (turn:∀n s,I n s->wpAny (model prog w) A (pyNext it) (λr s₁=>match r with
   |none=>R (.ok .next) s₁
   |some v=>wpAny (model prog w) A (letOwnedTupleGo target it v) (λ_ s₁'=>wpAny (model prog w) A (assign target env v) (λ_ s₂ =>
     wpAny (model prog w) A (forIn ifs true λc r=>if r=true then do let ok ←isTrue c env (eval c env);pure (ForInStep.yield ok) else pure (ForInStep.yield r)) (λok s₃ =>
      if ok=true then wpAny (model prog w) A (eval elt env) (λx s₄ =>
       wpAny (model prog w) A (call (.builtin "list.append") [acc,x]) (λ_ s₅=>∃m,m < n/\I m s₅) (notedBy (model prog w) A env λe s'=>R (.error e) s') s₄) (notedBy (model prog w) A env λe s'=>R (.error e) s') s₃
      else ∃m,m < n/\I m s₃) (notedBy (model prog w) A env λe s'=>R (.error e) s') s₂) (notedBy (model prog w) A env λe s'=>R (.error e) s') s₁') (notedBy (model prog w) A env λe s'=>R (.error e) s') s₁) (notedBy (model prog w) A env λe s'=>R (.error e) s') s)
  (n:Nat) (h:I n s) :
  codeAny (model prog w) A (.compLoop (.ListComp elt [⟨target,iter,ifs,0⟩] scope pos) 0 it acc env) R s:=by
 refine codeAny_loop rfl I (λn s hI=>?_) n h;show wpAny _ A ((compTurn (.ListComp elt [⟨target,iter,ifs,0⟩] scope pos) 0 it acc env).onRaise (λx=>do noteFrame x env;theTreesLotGoes x)) _ _ s;refine wpAny_noted ?_;rw[compTurn_list];refine XG (wpAny_standAt (XG (YZ (turn n s hI) (λr s₁ h₁=>?_) λ_ _ h'=>h')));cases r with
 |none=>exact XQ h₁
 |some v =>
  refine XG (YZ h₁ (λ_ s₁' h₁'=>?_) λ_ _ h'=>h');refine XG (YZ h₁' (λ_ s₂ h₂=>XG (YZ h₂ (λok s₃ h₃=>?_) λ_ _ h'=>h')) λ_ _ h'=>h');cases ok with
  |false=>exact XQ ⟨rfl,h₃⟩
  |true =>
   exact XG (XG (YZ h₃ (λx s₄ h₄=>XG (YZ h₄ (λ_ s₅ h₅=>XQ (XQ ⟨rfl,h₅⟩)) λ_ _ h'=>h')) λ_ _ h'=>h'))
section
variable {X:Cx}
def Hd (wi:TI) (g:TG) (tt:TT) (te:TE) (vs:aar):TE:=λσ H Q=>wi σ H λJ H1=>∀D,H1 D=none->∃W:Nat->Nat->Hp->Prop,(∃m,W 0 m (upd H1 D (.lst [])))/\∀i m H,W i m H ->
 (J.stop i H/\Q (.ref D) H)∨(J.go i H/\∃Nx:Hp->Prop,(∀H',Nx H'->∃m',m' < m/\W (i+1) m' H')/\∀x H',J.we i H x H'->g x (wipe σ vs) H' λσ2 H2=>wipe σ2 vs=wipe σ vs/\tt σ2 H2 λb H3 =>
  if b=true then te σ2 H3 λy H4=>∃acc,H4 D=some (.lst acc)/\acc.length < sizeLine/\Nx (upd H4 D (.lst (acc++[y]))) else Nx H3)
theorem zb {pins:aav}{s:Shared}{σ:St}{H:Hp}{Q:VK}{elt tg iter:Expr}{ifs:List Expr}{scope:Scope}{own:List (Str×Nat)}{pos pos':Pos}{wi:TI}{g:TG}{tt:TT}{te:TE}{use:Option (Value->Sem Unit)}{Qf:aat}
  (hc:X.calm=true)(hN:X.N.Nodup)(I:Inv X pins σ H s)(hi:PI X tg iter wi)(ok:vF X.N X.env.scope scope own)
  (hg:∀(s:Shared) (H:Hp) (C:Addr) (cl:List (Str×Addr)) (fp:List Addr),PG (X.qO s H scope (compEnvC scope cl C X.env) fp) tg g)(ht:∀(s:Shared) (H:Hp) (C:Addr) (cl:List (Str×Addr)) (fp:List Addr),JF (X.qO s H scope (compEnvC scope cl C X.env) fp) ifs tt)
  (he:∀(s:Shared) (H:Hp) (C:Addr) (cl:List (Str×Addr)) (fp:List Addr),PE (X.qO s H scope (compEnvC scope cl C X.env) fp) elt te)(hs:∀x,foldedSetIterable iter X.env x=pure x)
  (h:Hd wi g tt te (own.map (·.2)) σ H Q)
  (Vu:∀D C s' m H',Inv X pins σ H' s'->Q (.ref D) H'->s'.heap.Ns C m->mY X pins H' C->compPost (model X.prog X.w) X.A X.xe use Qf (.ref D) C (.ok .next) s') :
  wpAny (model X.prog X.w) X.A (comprehension (.ListComp elt [⟨tg,iter,ifs,0⟩] scope pos) scope X.env pos' (newList []) false (eval iter X.env) use) Qf X.xe s:=by
 have Md:∀y∈scope.names,y.2=.free->∃c,X.env.cells.lookup y.1=some c:=λy hy e=>by
  rcases ok.free y hy e with k|k
  · exact I.ok.has _ (.inl k)
  · exact I.ok.has _ (.inr k)
 refine wpAny_comprehension_free (use:=use) rfl hs (wC Md) ok.kind (λy hy e=>by rw[ok.uniq y hy,e])
  (bA (hi pins s σ H _ I h) λxv s1 hx=>bA hx λPY s2 h2=>?_)
 obtain⟨it,fp,tn,J,H2,e,I2,T,Oh,f2,q⟩:=h2;subst e;refine Y9 (vq ?_) (by show 0<=sizeLine;decide);generalize hD:s2.heap.objs.size=D;have Vv:H2 D=none:=I2.bu.fresh (aak hD);obtain⟨W,⟨m0,w0⟩,turn⟩:=q D Vv;generalize SM:({s2 with heap:=s2.heap.push {cls:=.type "list",data:=.seq ([]:aaw).toArray}}:Shared)=s3;have I3:Inv X pins σ (upd H2 D (.lst [])) s3:=by
  rw[←SM];refine I2.laid (t':=s2.toks) (λb o e=>XM _ e) (aak hD) ⟨Ye _,[],0,.nil,?_⟩;rw[←hD];exact X0 _ rfl
 have h3:s3.heap=s2.heap.push {cls:=.type "list",data:=.seq ([]:aaw).toArray}:=by rw[←SM]
 have sz:∀b∈fp,b < s2.heap.objs.size:=λb hb=>by
  obtain⟨o,e,_⟩:=T.obj _ _ Oh b hb;exact XX e
 have f3:∀b∈fp,mY X pins (upd H2 D (.lst [])) b/\b < s3.heap.objs.size:=λb hb=>by
  have LU:=sz b hb;refine⟨⟨?_,(f2 b hb).2⟩,by rw[h3,YQ];exact Nat.lt_succ_of_lt LU⟩;rw[aq (by rw[←hD];exact Yk LU)];exact (f2 b hb).1
 have NT:tn 0 s3.heap:=T.keep _ _ _ Oh λb _ o e=>by rw[h3];exact XM _ e
 have I4:=uS I3 ok hN f3;have pg:=hg s3 (upd H2 D (.lst [])) s3.heap.objs.size (cellsFrom (s3.heap.objs.size+1) scope.names (bN X.env.cells scope.names [])) fp;have pt:=ht s3 (upd H2 D (.lst [])) s3.heap.objs.size (cellsFrom (s3.heap.objs.size+1) scope.names (bN X.env.cells scope.names [])) fp;have pe:=he s3 (upd H2 D (.lst [])) s3.heap.objs.size (cellsFrom (s3.heap.objs.size+1) scope.names (bN X.env.cells scope.names [])) fp;show codeAny _ _ (.compStart (.ListComp elt [⟨tg,iter,ifs,0⟩] scope pos) 0 (.ref it) (.ref D) (compEnvC scope (cellsFrom (s3.heap.objs.size+1) scope.names (bN X.env.cells scope.names [])) s3.heap.objs.size X.env)) (compPost (model X.prog X.w) X.A X.xe use Qf (.ref D) s3.heap.objs.size) {s3 with heap:=pushCells (s3.heap.push {cls:=.type "dict",data:=.dict #[]}) scope.names};have OV:∀b∈fp,(upd H2 D (.lst [])) b=none:=λb hb=>(f3 b hb).1.1;generalize Vw:compEnvC scope (cellsFrom (s3.heap.objs.size+1) scope.names (bN X.env.cells scope.names [])) s3.heap.objs.size X.env=ce at I4 pg pt pe ⊢;have cL:ce.locals=s3.heap.objs.size:=by subst Vw;rfl
 generalize hH3:upd H2 D (.lst [])=H3 at I3 I4 pg pt pe w0 OV f3;generalize Vx:({s3 with heap:=pushCells (s3.heap.push {cls:=.type "dict",data:=.dict #[]}) scope.names}:Shared)=s4 at I4 ⊢;have SN:tn 0 s4.heap:=T.keep _ _ _ NT λb _ o e=>by rw[←Vx];exact pushCells_keeps _ _ _ _ (XM _ e)
 have L9:∀{σ':St} {H':Hp} {s':Shared},Inv (X.qO s3 H3 scope ce fp) [] σ' H' s'->(∀b∈fp,H' b=none)->∀b∈fp,mY (X.qO s3 H3 scope ce fp) [] H' b:=λ{σ' H' s'} I' hn b hb =>
  ⟨hn b hb,(I'.ok.IP b hb).1,I'.ok.zt b hb,.inl hb,λx c e=>(I'.ok.IP b hb).2 x c e,λp hp=>absurd (show p∈([]:aav)++[] from hp) (by simp)⟩
 have loop:codeAny (model X.prog X.w) X.A (.compLoop (.ListComp elt [⟨tg,iter,ifs,0⟩] scope pos) 0 (.ref it) (.ref D) ce) (compPost (model X.prog X.w) X.A X.xe use Qf (.ref D) s3.heap.objs.size) s4:=by
  refine tN (λn s'=>∃i H',Inv (X.qO s3 H3 scope ce fp) [] (wipe σ (own.map (·.2))) H' s'/\tn i s'.heap/\(∀b∈fp,H' b=none)/\W i n H') ?_ m0 ⟨0,H3,I4,SN,OV,w0⟩;rintro n s5 ⟨i,H5,I5,M3,n5,w5⟩;rcases turn i n H5 w5 with ⟨stop,qq⟩|⟨go,Nx,Vy,step⟩
  · have td:=T.done (X.qO s3 H3 scope ce fp) rfl rfl rfl hc i [] s5 _ H5 (λ_ _=>False) I5 (L9 I5 n5) M3 stop;refine zw td λr s6 ⟨hr,I6⟩=>?_;subst hr;have I7:Inv X pins σ H5 s6:=I3.Fw (ch:=fp) I6.os I6.base I6.bu I6.bare λb hb=>⟨(f3 b hb).1.2.2.2.1,(f3 b hb).1.2.1,(f3 b hb).1.2.2.2.2.1,(f3 b hb).1.2.2.2.2.2⟩;have nC:H5 s3.heap.objs.size=none:=by
     have z:H5 ce.locals=none:=I6.free;rw[cL] at z;exact z
    obtain⟨m,hn,_⟩:=I6.loc;have hn:s6.heap.Ns ce.locals m:=hn;rw[cL] at hn;exact Vu D s3.heap.objs.size s6 m H5 I7 qq hn (I3.xY (XT _) nC)
  · have ti:=T.item (X.qO s3 H3 scope ce fp) rfl rfl rfl hc i [] s5 _ H5 (λ_ _=>False) I5 (L9 I5 n5) M3 go;refine zw ti λr s6 ⟨u,hr,h6⟩=>?_;subst hr;refine zw h6 λ_ s7 ⟨x,H7,I7,r7,y7,Rb,n7⟩=>?_;have Vz:=I7.pinned (L9 I7 n7) (T.obj _ _ Rb);refine zw (pg _ s7 _ H7 x u _ Vz r7 (step x H7 y7)) λ_ s8 ⟨σ8,H8,I8,SO,q8⟩=>?_;refine zw (pt _ s8 σ8 H8 _ I8 q8) λb s9 ⟨H9,I9,q9⟩=>?_;have fin:∀{s':Shared} {H':Hp},Inv (X.qO s3 H3 scope ce fp) ([]++ng fp s7.heap) σ8 H' s'->Nx H'->∃m,m < n/\∃i H',Inv (X.qO s3 H3 scope ce fp) [] (wipe σ (own.map (·.2))) H' s'/\tn i s'.heap/\(∀b∈fp,H' b=none)/\W i m H':=λ{s' H'} I' nx=>by
     obtain⟨m',hm,w'⟩:=Vy H' nx;have OW:∀b∈fp,∀o,s7.heap.get? b=some o->s'.heap.get? b=some o/\H' b=none:=λb hb o e =>
      let z:=I'.pin (b,o) (YF _ (YF _ (gD hb e)))
      ⟨z.1,z.2.1⟩
     have hl:(wipe σ (own.map (·.2))).length=σ8.length:=by rw[←SO,jB]
     refine⟨m',hm,i+1,H',(I'.iz (pins:=[])).weak hl (λj v e=>?_),T.keep _ _ _ Rb λb hb o e=>(OW b hb o e).1,λb hb=>?_,w'⟩
     · rw[←SO] at e;exact (nG e).1
     · obtain⟨o,e,_⟩:=T.obj _ _ Rb b hb;exact (OW b hb o e).2
    cases b with
    |false =>
     simp only[Y7,ZI] at q9 ⊢;exact fin I9 q9
    |true =>
     simp only[Zq] at q9 ⊢;refine zw (pe _ s9 σ8 H9 _ I9 q9) λz s10 ⟨yv,H10,VA,VB,acc,Rc,Rf,nx⟩=>?_;exact Hj (X:=X.qO s3 H3 scope ce fp) VA Rc Rf VB λs11 VC=>fin VC nx
 exact codeAny_compStart_list loop (T.self X.A 0 _ _ _ SN loop)
theorem fz {elt tg iter:Expr}{ifs:List Expr}{scope:Scope}{own:List (Str×Nat)}{pos:Pos}{wi:TI}{g:TG}{tt:TT}{te:TE}(hc:X.calm=true)(hN:X.N.Nodup)(hi:PI X tg iter wi)(ok:vF X.N X.env.scope scope own)
  (hg:∀(s:Shared) (H:Hp) (C:Addr) (cl:List (Str×Addr)) (fp:List Addr),PG (X.qO s H scope (compEnvC scope cl C X.env) fp) tg g)(ht:∀(s:Shared) (H:Hp) (C:Addr) (cl:List (Str×Addr)) (fp:List Addr),JF (X.qO s H scope (compEnvC scope cl C X.env) fp) ifs tt)
  (he:∀(s:Shared) (H:Hp) (C:Addr) (cl:List (Str×Addr)) (fp:List Addr),PE (X.qO s H scope (compEnvC scope cl C X.env) fp) elt te)(hs:∀x,foldedSetIterable iter X.env x=pure x:=by intro _;rfl) :
  PE X (.ListComp elt [⟨tg,iter,ifs,0⟩] scope pos) (Hd wi g tt te (own.map (·.2))):=by
 intro pins s σ H Q I h;rw[eval_ListComp];refine zb hc hN I hi ok hg ht he hs h λD C s' m H' I' q hn f=>⟨m,hn,λNC sb=>?_⟩;obtain⟨f0,f1,f2,f3,f4,f5⟩:=f;exact⟨.ref D,H',I'.turned (t':=s'.toks) (λb o hb e=>(sb.2 b hb).trans e) f0 f1 f3 f4 f5,rfl,q⟩
theorem qG {i:Nat}{y:Str}{py:Pos}{elt tg iter:Expr}{ifs:List Expr}{scope:Scope}{own:List (Str×Nat)}{pos OX:Pos}{wi:TI}{g:TG}{tt:TT}{te:TE}(hc:X.calm=true)(hN:X.N.Nodup)(hy:X.N[i]?=some y)(SQ:X.env.scope.names.lookup y=some .local)
  (VD:swapsWith (.ListComp elt [⟨tg,iter,ifs,0⟩] scope pos) (some (.Name y py)) OX.line X.env=pure true)(hi:PI X tg iter wi)(ok:vF X.N X.env.scope scope own)
  (hg:∀(s:Shared) (H:Hp) (C:Addr) (cl:List (Str×Addr)) (fp:List Addr),PG (X.qO s H scope (compEnvC scope cl C X.env) fp) tg g)(ht:∀(s:Shared) (H:Hp) (C:Addr) (cl:List (Str×Addr)) (fp:List Addr),JF (X.qO s H scope (compEnvC scope cl C X.env) fp) ifs tt)
  (he:∀(s:Shared) (H:Hp) (C:Addr) (cl:List (Str×Addr)) (fp:List Addr),PE (X.qO s H scope (compEnvC scope cl C X.env) fp) elt te)(hs:∀x,foldedSetIterable iter X.env x=pure x:=by intro _;rfl) :
  PS X (.Assign [.Name y py] (.ListComp elt [⟨tg,iter,ifs,0⟩] scope pos) OX) (yf (Hd wi g tt te (own.map (·.2))) (fB i)):=by
 intro pins s σ H D I h;rw[exec_Assign_Name_used _ _ _ _ VD];refine XG (wpAny_standAt (XG ?_));show wpAny _ X.A (do let _ ←comprehension (.ListComp elt [⟨tg,iter,ifs,0⟩] scope pos) scope X.env (firstIterPos [⟨tg,iter,ifs,0⟩] pos) (newList []) false (eval iter X.env) (some (assign (.Name y py) X.env))) _ _ s;have h:Hd wi g tt te (own.map (·.2)) σ H (λx H1=>fB i x σ H1 D.nx):=h;refine XG (bA (zb (Qf:=λ_ s'=>SP X pins D .next s') hc hN I hi ok hg ht he hs h λL C s' m H' I' q hn f=>?_) λ_ s' hq=>XQ (XQ hq));show wpAny _ _ (assign (.Name y py) X.env (.ref L)) _ _ _;refine wpAny_assign_Name (sD (v:=V.ref L) I' hN hy (.inl SQ) rfl (λs2 I2 ⟨a,sb,ha⟩=>?_) (.inr SQ));obtain⟨f0,f1,f2,f3,f4,f5⟩:=f;have VE:C≠a:=by
  rcases ha with z|z
  · rw[z];exact f1
  · exact λe=>f4 y a z e.symm
 refine⟨m,hn.sameBut sb VE,λh3 VF=>?_⟩;exact⟨_,H',I2.turned (t':=s2.toks) (λb o hb e=>(VF.2 b hb).trans e) f0 f1 f3 f4 f5,q⟩
theorem sQ {elt:Expr}{gs:List Comprehension}{scope:Scope}{pos py:Pos}{y:Str}{l:Nat}{env:Env}(hk:env.scope.kind=.function)(hy:env.scope.names.lookup y=some .local)(hl:(py.line==pos.line)=true)
  (ha:(scope.names.any λ(n,k)=>n==y&&(k==.local||k==.cell))=false):swapsWith (.ListComp elt gs scope pos) (some (.Name y py)) l env=pure true:=by
 have ky:env.kindOf y=some .local:=hy;have hb:env.blockKind=.function:=by unfold Env.blockKind;rw[hk];rfl
 unfold swapsWith;simp only[hb,ky,ha,Expr.pos,hl];rfl
end
theorem mP {lo:Int}{n:Nat}{g:TG}{tt:TT}{te:TE}{vs:aar}{σ:St}{H1:Hp}{D:Addr}{Qd:Hp->Prop}(Pv:Nat->Hp->Prop)(h0:Pv 0 (upd H1 D (.lst [])))
  (hs:∀i H,i < n->Pv i H->g (.int (lo+i)) (wipe σ vs) H λσ2 H2=>wipe σ2 vs=wipe σ vs/\tt σ2 H2 λb H3 =>
   if b=true then te σ2 H3 λy H4=>∃acc,H4 D=some (.lst acc)/\acc.length < sizeLine/\Pv (i+1) (upd H4 D (.lst (acc++[y]))) else Pv (i+1) H3) (hd:∀H,Pv n H->Qd H) :
  ∃W:Nat->Nat->Hp->Prop,(∃m,W 0 m (upd H1 D (.lst [])))/\∀i m H,W i m H ->
   ((AH lo n).stop i H/\Qd H)∨((AH lo n).go i H/\∃Nx:Hp->Prop,(∀H',Nx H'->∃m',m' < m/\W (i+1) m' H')/\∀x H',(AH lo n).we i H x H'->g x (wipe σ vs) H' λσ2 H2=>wipe σ2 vs=wipe σ vs/\tt σ2 H2 λb H3 =>
    if b=true then te σ2 H3 λy H4=>∃acc,H4 D=some (.lst acc)/\acc.length < sizeLine/\Nx (upd H4 D (.lst (acc++[y]))) else Nx H3):=by
 refine⟨λi m H=>m=n - i/\i<=n/\Pv i H,⟨n,by simp,Ye _,h0⟩,?_⟩;rintro i m H ⟨rfl,hi,p⟩;by_cases LU:i < n
 · refine .inr ⟨LU,Pv (i+1),λH' p'=>⟨n - (i+1),by omega,rfl,LU,p'⟩,λx H' y=>?_⟩;obtain⟨e,y⟩:=y;subst e y;exact hs i _ LU p
 · have e:i=n:=by omega
   subst e;exact .inl ⟨XT _,hd H p⟩
theorem iZ {K:aas}{a:Addr}{xs:List V}{g:TG}{tt:TT}{te:TE}{vs:aar}{σ:St}{H1:Hp}{D:Addr}{Qd:Hp->Prop}(Pv:Nat->Hp->Prop)(h0:Pv 0 (upd H1 D (.lst [])))(hl:∀i H,i<=xs.length->Pv i H->aO K H a xs)
  (hs:∀i x H,xs[i]?=some x->Pv i H->g x (wipe σ vs) H λσ2 H2=>wipe σ2 vs=wipe σ vs/\tt σ2 H2 λb H3 =>
   if b=true then te σ2 H3 λy H4=>∃acc,H4 D=some (.lst acc)/\acc.length < sizeLine/\Pv (i+1) (upd H4 D (.lst (acc++[y]))) else Pv (i+1) H3) (hd:∀H,Pv xs.length H->Qd H) :
  ∃W:Nat->Nat->Hp->Prop,(∃m,W 0 m (upd H1 D (.lst [])))/\∀i m H,W i m H ->
   ((C8 K a).stop i H/\Qd H)∨((C8 K a).go i H/\∃Nx:Hp->Prop,(∀H',Nx H'->∃m',m' < m/\W (i+1) m' H')/\∀x H',(C8 K a).we i H x H'->g x (wipe σ vs) H' λσ2 H2=>wipe σ2 vs=wipe σ vs/\tt σ2 H2 λb H3 =>
    if b=true then te σ2 H3 λy H4=>∃acc,H4 D=some (.lst acc)/\acc.length < sizeLine/\Nx (upd H4 D (.lst (acc++[y]))) else Nx H3):=by
 refine⟨λi m H=>m=xs.length - i/\i<=xs.length/\Pv i H,⟨xs.length,by simp,Ye _,h0⟩,?_⟩;rintro i m H ⟨rfl,hi,p⟩;have q:=hl i H hi p;by_cases LU:i < xs.length
 · refine .inr ⟨⟨xs,xs[i],q,by simp[LU]⟩,Pv (i+1),λH' p'=>⟨xs.length - (i+1),by omega,rfl,LU,p'⟩,λx H' y=>?_⟩;obtain⟨e,y⟩:=y;subst e;exact hs i x _ (y xs q) p
 · have e:i=xs.length:=by omega
   subst e;exact .inl ⟨⟨xs,q,XT _⟩,hd H p⟩
theorem HY {K:aas}{a:Addr}{xs:List V}{g:TG}{tt:TT}{te:TE}{vs:aar}{σ:St}{H1:Hp}{D:Addr}{Qd:Hp->Prop}(Pv:Nat->Hp->Prop)(h0:Pv 0 (upd H1 D (.lst [])))(hl:∀i H,i<=xs.length->Pv i H->b6 K H a xs)
  (hs:∀i x H,xs[i]?=some x->Pv i H->g x (wipe σ vs) H λσ2 H2=>wipe σ2 vs=wipe σ vs/\tt σ2 H2 λb H3 =>
   if b=true then te σ2 H3 λy H4=>∃acc,H4 D=some (.lst acc)/\acc.length < sizeLine/\Pv (i+1) (upd H4 D (.lst (acc++[y]))) else Pv (i+1) H3) (hd:∀H,Pv xs.length H->Qd H) :
  ∃W:Nat->Nat->Hp->Prop,(∃m,W 0 m (upd H1 D (.lst [])))/\∀i m H,W i m H ->
   ((IJ K a).stop i H/\Qd H)∨((IJ K a).go i H/\∃Nx:Hp->Prop,(∀H',Nx H'->∃m',m' < m/\W (i+1) m' H')/\∀x H',(IJ K a).we i H x H'->g x (wipe σ vs) H' λσ2 H2=>wipe σ2 vs=wipe σ vs/\tt σ2 H2 λb H3 =>
    if b=true then te σ2 H3 λy H4=>∃acc,H4 D=some (.lst acc)/\acc.length < sizeLine/\Nx (upd H4 D (.lst (acc++[y]))) else Nx H3):=by
 refine⟨λi m H=>m=xs.length - i/\i<=xs.length/\Pv i H,⟨xs.length,by simp,Ye _,h0⟩,?_⟩;rintro i m H ⟨rfl,hi,p⟩;have q:=hl i H hi p;by_cases LU:i < xs.length
 · refine .inr ⟨⟨xs,xs[i],q,by simp[LU]⟩,Pv (i+1),λH' p'=>⟨xs.length - (i+1),by omega,rfl,LU,p'⟩,λx H' y=>?_⟩;obtain⟨e,y⟩:=y;subst e;exact hs i x _ (y xs q) p
 · have e:i=xs.length:=by omega
   subst e;exact .inl ⟨⟨xs,q,XT _⟩,hd H p⟩
def JB (N:List Str)(sc scope:Scope)(own:List (Str×Nat)):Bool :=
 (match scope.kind with|.function=>true|_=>false)&&(scope.names.all λy=>decide (scope.names.lookup y.1=some y.2))&&(own.all λp=>decide (N[p.2]?=some p.1)) &&
  (scope.names.all λy=>match y.2 with
   |.free=>(match sc.names.lookup y.1 with|some .cell=>true|some .free=>true|_=>false)
   |.local=>decide (y.1∈own.map (·.1))||decide (y.1∉N)
   |.cell=>decide (y.1∈own.map (·.1))||decide (y.1∉N)
   |_=>true)
theorem bz {N:List Str}{sc scope:Scope}{own:List (Str×Nat)}(h:JB N sc scope own=true):vF N sc scope own:=by
 unfold JB at h;simp only[XR,Yd,XS] at h;obtain⟨⟨⟨h1,h2⟩,h3⟩,h4⟩:=h;refine⟨?_,h2,h3,λy hy e=>?_,λy hy e=>?_⟩
 · split at h1
   · assumption
   · cases h1
 · have q:=h4 y hy;simp only[e] at q;split at q <;> first|exact .inl (by assumption)|exact .inr (by assumption)|cases q
 · have q:=h4 y hy;rcases e with e|e <;> (simp only[e,YH,XS] at q;exact q)
section
variable {prog:Program}{w:World}{A:Around}{R:Result->Shared->Prop}{s:Shared}{elt t0 i0 t1 i1:Expr}{ifs0 ifs1:List Expr}{scope:Scope}{pos:Pos}{it acc:Value}{env:Env}
end
section
variable {X:Cx}
end
section
variable {κ:Type} [DecidableEq κ]
def cV (LN:List (κ×V)) (k:κ):Option V:=(LN.find? λkv=>decide (kv.1=k)).map (·.2)
def putK (LN:List (κ×V))(k:κ)(v:V):List (κ×V) :=
 if (LN.any λkv=>decide (kv.1=k))=true then LN.map (λkv=>if kv.1=k then (kv.1,v) else kv) else LN++[(k,v)]
theorem dz {p:κ×V}{r:List (κ×V)}{k:κ}(e:p.1=k):cV (p::r) k=some p.2:=by simp[cV,Zk,e]
theorem df {p:κ×V}{r:List (κ×V)}{k:κ}(e:¬p.1=k):cV (p::r) k=cV r k:=by simp[cV,Zk,e]
theorem mG (k:κ):∀LN:List (κ×V),(LN.any λkv=>decide (kv.1=k))=(cV LN k).isSome
 |[]=>rfl
 |p::r=>by
  rw[Ze];by_cases e:p.1=k
  · simp only[dz e,Yn e,Bool.true_or,Option.isSome_some]
  · rw[df e,Yv e,Bool.false_or];exact mG k r
theorem u6 (k j:κ)(y:V):∀LN:List (κ×V),cV (LN.map λkv=>if kv.1=k then (kv.1,y) else kv) j=(cV LN j).map λx=>if j=k then y else x
 |[]=>rfl
 |p::r=>by
  have ih:=u6 k j y r;rw[X1];by_cases h:p.1=k
  · rw[XJ h];by_cases e:p.1=j
    · rw[dz (p:=(p.1,y)) e,dz e,Option.map_some,XJ (e.symm.trans h)]
    · rw[df (p:=(p.1,y)) e,df e,ih]
  · rw[XI h];by_cases e:p.1=j
    · rw[dz (p:=p) e,dz e,Option.map_some,XI (λz=>h (e.trans z))]
    · rw[df (p:=p) e,df e,ih]
theorem sk (k j:κ)(y:V):∀LN:List (κ×V),cV LN k=none->cV (LN++[(k,y)]) j=if j=k then some y else cV LN j
 |[],_=>by
  by_cases e:k=j
  · rw[XJ e.symm];exact dz (p:=(k,y)) e
  · rw[XI (λz=>e z.symm)];exact df (p:=(k,y)) e
 |p::r,hn=>by
  rw[ZP];have hk:¬p.1=k:=λz=>by rw[dz z] at hn;cases hn
  rw[df hk] at hn;have ih:=sk k j y r hn;by_cases e:p.1=j
  · rw[dz e,dz e,XI (λz=>hk (e.trans z))]
  · rw[df e,df e,ih]
theorem qA (LN:List (κ×V))(k j:κ)(y:V):cV (putK LN k y) j=if j=k then some y else cV LN j:=by
 unfold putK;by_cases a:(LN.any λkv=>decide (kv.1=k))=true
 · rw[XJ a,u6];rw[mG] at a;by_cases e:j=k
   · obtain⟨x,hx⟩:=ZT.mp a;rw[XJ e,e,hx,Option.map_some,XJ rfl]
   · rw[XI e];cases cV LN j with
     |none=>rfl
     |some x=>rw[Option.map_some,XI e]
 · rw[XI a];refine sk k j y LN ?_;rw[mG] at a;cases q:cV LN k with
   |none=>rfl
   |some x=>rw[q] at a;exact (a rfl).elim
theorem gK (LN:List (κ×V))(k:κ)(v:V):(putK LN k v).length<=LN.length+1:=by
 unfold putK;split
 · rw[XH];omega
 · rw[X6,XW,Zg];omega
theorem jc.ig {o:Option V}{u:Option Value}(r:jc o u):o.isSome=u.isSome:=by
 cases o with
 |none=>cases u with
  |none=>rfl
  |some _=>exact (show False from r).elim
 |some _=>cases u with
  |none=>exact (show False from r).elim
  |some _=>rfl
theorem jc.getD {o:Option V}{u:Option Value}{d:V}{d':Value}(r:jc o u)(rd:RelV d d'):RelV (o.getD d) (u.getD d'):=by
 cases o with
 |none=>cases u with
  |none=>exact rd
  |some _=>exact (show False from r).elim
 |some _=>cases u with
  |none=>exact (show False from r).elim
  |some _=>exact r
theorem KV.val {LN:List (κ×V)}{vs:List (κ×Value)}(r:KV LN vs)(k:κ):jc (cV LN k) (valueAt vs k):=by
 unfold KV at r
 induction r with
 |nil=>exact True.intro
 |@cons p q ps qs h t ih =>
  obtain⟨h1,h2⟩:=h;by_cases e:p.1=k
  · have e':q.1=k:=h1.symm.trans e;have b:valueAt (q::qs) k=some q.2:=by simp[valueAt,Zk,e']
    rw[dz e,b];exact h2
  · have e':¬q.1=k:=λz=>e (h1.trans z);have b:valueAt (q::qs) k=valueAt qs k:=by simp[valueAt,Zk,e']
    rw[df e,b];exact ih
theorem KV.any {LN:List (κ×V)}{vs:List (κ×Value)}(r:KV LN vs)(k:κ):(LN.any λkv=>decide (kv.1=k))=vs.any λkv=>decide (kv.1=k):=by
 unfold KV at r
 induction r with
 |nil=>rfl
 |cons h t ih=>rw[Ze,Ze,ih,h.1]
theorem KV.Ha {LN:List (κ×V)}{vs:List (κ×Value)}(r:KV LN vs)(k:κ){y:V}{u:Value}(ry:RelV y u) :
  KV (LN.map λkv=>if kv.1=k then (kv.1,y) else kv) (vs.map λkv=>if kv.1=k then (kv.1,u) else kv):=by
 unfold KV at r ⊢
 induction r with
 |nil=>exact .nil
 |@cons p q ps qs h t ih =>
  rw[X1,X1];refine .cons ?_ ih;obtain⟨h1,h2⟩:=h;by_cases e:p.1=k
  · rw[XJ e,XJ (h1.symm.trans e)];exact⟨h1,ry⟩
  · rw[XI e,XI (λz=>e (h1.trans z))];exact⟨h1,h2⟩
theorem KV.put {LN:List (κ×V)}{vs:List (κ×Value)}(r:KV LN vs)(k:κ){y:V}{u:Value}(ry:RelV y u):KV (putK LN k y) (stored vs k u):=by
 unfold putK stored;rw[r.any k];by_cases e:(vs.any λkv=>decide (kv.1=k))=true
 · rw[XJ e,XJ e];exact r.Ha k ry
 · rw[XI e,XI e];exact Paired.snoc r ⟨rfl,ry⟩
theorem KV.length {LN:List (κ×V)}{vs:List (κ×Value)}(r:KV LN vs):LN.length=vs.length:=Paired.length r
end
theorem pd {P:Program}{w:World}{k:Key}{u:Value}(r:RelV (kV k) u):(cw P w).is k u=true:=by
 cases k with
 |inl i=>obtain⟨t,e⟩:=(show ∃t,u=Value.int i t from r);subst e;exact u5 P w i t
 |inr x=>obtain⟨t,e⟩:=(show ∃t,u=Value.str x t from r);subst e;exact vo P w x t
theorem rB {P:Program}{w:World}:∀{ks:List Key} {us:aaw},Vals (ks.map kV) us->ItemsAre (cw P w) ks us
 |[],_,r=>by rw[Y6] at r;cases r;exact .nil
 |k::ks,_,r=>by
  rw[X1] at r;cases r with
  |cons h t=>exact .cons (pd h) (rB t)
abbrev KT (H:Hp):List (List Key×V)->List (List Key×Addr×Value)->Prop:=Paired λp q=>p.1=q.1/\H q.2.1=some (.tup (p.1.map kV))/\RelV p.2 q.2.2
theorem KT.val {H:Hp}{LN:List (List Key×V)}{xs:List (List Key×Addr×Value)}(r:KT H LN xs)(k:List Key):jc (cV LN k) ((atKey xs k).map (·.2)):=by
 induction r with
 |nil=>exact True.intro
 |@cons p q ps qs h t ih =>
  obtain⟨h1,_,h2⟩:=h;by_cases e:p.1=k
  · have e':q.1=k:=h1.symm.trans e;have b:atKey (q::qs) k=some q.2:=by simp[atKey,Zk,e']
    rw[dz e,b];exact h2
  · have e':¬q.1=k:=λz=>e (h1.trans z);have b:atKey (q::qs) k=atKey qs k:=by simp[atKey,Zk,e']
    rw[df e,b];exact ih
theorem KT.Ha {H:Hp}{LN:List (List Key×V)}{xs:List (List Key×Addr×Value)}(r:KT H LN xs)(k:List Key){y:V}{u:Value}(ry:RelV y u) :
  KT H (LN.map λkv=>if kv.1=k then (kv.1,y) else kv) (xs.map (putAt k u)):=by
 induction r with
 |nil=>exact .nil
 |@cons p q ps qs h t ih =>
  rw[X1,X1];refine .cons ?_ ih;obtain⟨h1,h2,h3⟩:=h;unfold putAt;by_cases e:p.1=k
  · rw[XJ e,XJ (h1.symm.trans e)];exact⟨h1,h2,ry⟩
  · rw[XI e,XI (λz=>e (h1.trans z))];exact⟨h1,h2,h3⟩
theorem KT.put {H:Hp}{LN:List (List Key×V)}{xs:List (List Key×Addr×Value)}(r:KT H LN xs)(k:List Key){b:Addr}{y:V}{u:Value}(hb:H b=some (.tup (k.map kV)))(ry:RelV y u) :
  KT H (putK LN k y) (storedH xs k b u):=by
 have e:(LN.any λkv=>decide (kv.1=k))=(atKey xs k).isSome:=by
  rw[mG,(r.val k).ig,Option.isSome_map]
 unfold putK storedH;rw[e];by_cases q:(atKey xs k).isSome=true
 · rw[XJ q,XJ q];exact r.Ha k ry
 · rw[XI q,XI q];exact Paired.snoc r ⟨rfl,hb,ry⟩
theorem KT.keeps {H H':Hp}{LN:List (List Key×V)}{xs:List (List Key×Addr×Value)}(r:KT H LN xs)(ht:∀b ys,H b=some (.tup ys)->H' b=some (.tup ys)):KT H' LN xs :=
 Paired.d9 r λ_ _ z=>⟨z.1,ht _ _ z.2.1,z.2.2⟩
section
variable {P:Program}{w:World}{H:Hp}{h:Heap}{a:Addr}
theorem Gm {u:HO} (ok:iy P w H h) (e:Rd H a u):bM P w H h a u:=e.ok ok
theorem vm {LN:List (Key×V)}(ok:iy P w H h)(e:Rd H a (.dK LN)):LN.length<=sizeLine/\(a==sysModules)=false/\∃vs,KV LN vs/\h.DictOf (cw P w) a vs :=
 show bM P w H h a (.dK LN) from Gm ok e
theorem Iw {LN:List (Key×V)}(ok:iy P w H h)(e:H a=some (.dK LN)):LN.length<=sizeLine/\(a==sysModules)=false/\∃vs,KV LN vs/\h.DictOf (cw P w) a vs:=vm ok (.inl e)
theorem pN {ks:List Key}(ok:iy P w H h)(e:H a=some (.tup (ks.map kV))):(tupleKind (cw P w)).is h ks a:=by
 obtain⟨_,LO,r,o,h1,h2,n,h3⟩:=(show bM P w H h a (.tup (ks.map kV)) from ok a _ e);exact⟨o,LO.toArray,n,h1,h2,h3,by simpa using rB r⟩
theorem uO {LN:List (List Key×V)}(ok:iy P w H h)(e:Rd H a (.dT LN)):LN.length<=sizeLine/\(a==sysModules)=false /\
  ∃xs,KT H LN xs/\h.DictOfH (tupleKind (cw P w)) a xs:=by
 obtain⟨z,y,xs,r,o,es,ep,h1,h2,h3,h4,h5⟩:=(show bM P w H h a (.dT LN) from Gm ok e);refine⟨z,y,xs,r,o,es,ep,h1,h2,h3,h4,λx hx=>?_,h5⟩;have all:∀{l:List (List Key×V)} {m:List (List Key×Addr×Value)},KT H l m->∀x∈m,(tupleKind (cw P w)).is h x.1 x.2.1:=by
  intro l m q
  induction q with
  |nil=>intro x hx;exact nomatch hx
  |@cons p q ps qs hq t ih =>
   intro x hx;rcases XN.mp hx with e|hx
   · subst e;exact pN ok (by rw[←hq.1];exact hq.2.1)
   · exact ih x hx
 exact all r x hx
theorem Jt {LN:List (List Key×V)}(ok:iy P w H h)(e:H a=some (.dT LN)):LN.length<=sizeLine/\(a==sysModules)=false /\
  ∃xs,KT H LN xs/\h.DictOfH (tupleKind (cw P w)) a xs:=uO ok (.inl e)
end
def gy (H:Hp)(a:Addr)(y:V)(r:Option V):Prop :=
 (∃LN k,Rd H a (.dK LN)/\y=kV k/\r=cV LN k)∨∃LN k b,Rd H a (.dT LN)/\y=.ref b/\H b=some (.tup (k.map kV))/\r=cV LN k
def Jm (H:Hp)(a:Addr)(y v:V)(H':Hp):Prop :=
 (∃LN k,H a=some (.dK LN)/\y=kV k/\LN.length < sizeLine/\H'=upd H a (.dK (putK LN k v))) ∨
 ∃LN k b,H a=some (.dT LN)/\y=.ref b/\H b=some (.tup (k.map kV))/\LN.length < sizeLine/\H'=upd H a (.dT (putK LN k v))
theorem gy.k {H:Hp}{a:Addr}{LN:List (Key×V)}{k:Key}(e:H a=some (.dK LN)):gy H a (kV k) (cV LN k):=.inl ⟨LN,k,.inl e,rfl,rfl⟩
theorem gy.t {H:Hp}{a b:Addr}{LN:List (List Key×V)}{k:List Key}(e:H a=some (.dT LN))(eb:H b=some (.tup (k.map kV))):gy H a (.ref b) (cV LN k):=.inr ⟨LN,k,b,.inl e,rfl,eb,rfl⟩
section
variable {X:Cx}{pins:aav}{σ:St}{H:Hp}{s:Shared}{a:Addr}{y v:V}{u r:Value}{o:Option V}{A:Around}{E:aat}
theorem Inv.big (I:Inv X pins σ H s):sysModules < s.heap.objs.size:=by
 have h:mainGlobals < s.heap.objs.size:=(I.mod.glob.keeps I.bk).lt;exact Nat.lt_trans (by decide) h
theorem K8 {Q:aat}(hu:A.units+1 < cLine)(I:Inv X pins σ H s)(g:gy H a y o)(ry:RelV y u)(h:∀s',Inv X pins σ H s'->Q (.bool o.isSome) s') :
  wpAny (model X.prog X.w) A (compareOp .In u (.ref a)) Q E s:=by
 rcases g with ⟨LN,k,e,ey,l⟩|⟨LN,k,b,e,ey,eb,l⟩
 · subst ey;obtain⟨z,hd,vs,rel,dd⟩:=vm I.bu e;refine wpAny_in_of (pd ry) hd dd.mapOf ?_;rw[←(rel.val k).ig,←l];exact h _ (I.tok _)
 · subst ey;cases (show u=Value.ref b from ry);obtain⟨z,hd,xs,rel,dd⟩:=uO I.bu e;refine wpAny_in_heap (aal hu) (pN I.bu eb) hd dd ?_;have q:=(rel.val k).ig;rw[Option.isSome_map] at q;rw[←q,←l];exact h _ (I.tok _)
theorem DW {Q:aat}(hu:A.units+1 < cLine)(I:Inv X pins σ H s)(g:gy H a y o)(ry:RelV y u)(h:∀s',Inv X pins σ H s'->Q (.bool (!o.isSome)) s') :
  wpAny (model X.prog X.w) A (compareOp .NotIn u (.ref a)) Q E s:=by
 rcases g with ⟨LN,k,e,ey,l⟩|⟨LN,k,b,e,ey,eb,l⟩
 · subst ey;obtain⟨z,hd,vs,rel,dd⟩:=vm I.bu e;refine wpAny_notIn_of (pd ry) hd dd.mapOf ?_;rw[←(rel.val k).ig,←l];exact h _ (I.tok _)
 · subst ey;cases (show u=Value.ref b from ry);obtain⟨z,hd,xs,rel,dd⟩:=uO I.bu e;refine wpAny_notIn_heap (aal hu) (pN I.bu eb) hd dd ?_;have q:=(rel.val k).ig;rw[Option.isSome_map] at q;rw[←q,←l];exact h _ (I.tok _)
theorem zm {h':Heap}{t':Nat}{ob:HO}(I:Inv X pins σ H s)(mu:J0 (H a))(hs:Heap.SameBut a s.heap h')(he:∃q,h'.get? a=some q)(new:bM X.prog X.w (upd H a ob) h' a ob) :
  Inv X pins σ (upd H a ob) {s with heap:=h',toks:=t'} :=
 I.write (x:=a) (e:=a) mu (.inl rfl) (λb q hb z=>(hs.2 b hb).trans z) he new
theorem Hc {P:Program}{w:World}{H':Hp}{h':Heap}{LN:List (Key×V)}{vs:List (Key×Value)}(z:LN.length<=sizeLine)(hd:(a==sysModules)=false)(rel:KV LN vs)(dd:h'.DictOf (cw P w) a vs) :
  bM P w H' h' a (.dK LN):=⟨z,hd,vs,rel,dd⟩
theorem zA {H':Hp}{Q:Unit->Shared->Prop}(hu:A.units+1 < cLine)(I:Inv X pins σ H s)(g:Jm H a y v H')(ry:RelV y u)(rv:RelV v r)(h:∀s',Inv X pins σ H' s'->Q () s') :
  wpAny (model X.prog X.w) A (setItem (.ref a) u r) Q E s:=by
 rcases g with ⟨LN,k,e,ey,l,eH⟩|⟨LN,k,b,e,ey,eb,l,eH⟩
 · subst ey eH;obtain⟨z,hd,vs,rel,dd⟩:=Iw I.bu e;have hz:vs.length<=sizeLine:=by rw[←rel.length];exact z
   have hl:(putK LN k v).length<=sizeLine:=by have:=gK LN k v;omega
   refine wpAny_setItem_pairs (hsz:=hz) (pd ry) dd λh' P5 hs=>h _ ?_;have he:∃q,h'.get? a=some q:=let ⟨q,_,_,hq,_⟩:=P5;⟨q,hq⟩;exact zm I (by rw[e];exact True.intro) hs he (Hc hl hd (rel.put k rv) P5)
 · subst ey eH;cases (show u=Value.ref b from ry);obtain⟨z,hd,xs,rel,dd⟩:=Jt I.bu e;have hz:xs.length<=sizeLine:=by rw[←Paired.length rel];exact z
   have hl:(putK LN k v).length<=sizeLine:=by have:=gK LN k v;omega
   refine wpAny_setItem_heap (hsz:=hz) (aal hu) (pN I.bu eb) dd λh' P5 hs=>h _ ?_;obtain⟨q,es,ep,hq,h2,h3,h4,_,h5⟩:=P5;refine zm I (by rw[e];exact True.intro) hs ⟨q,hq⟩ ⟨hl,hd,_,(rel.put k eb rv).keeps λc ys ec=>?_,q,es,ep,hq,h2,h3,h4,h5⟩;rw[aq (dG ec e (λz=>nomatch z))];exact ec
end
section
variable {X:Cx}{pins:aav}{σ:St}{H:Hp}{s:Shared}{a:Addr}{LN:List (Key×V)}{k:Key}{u:Value}{A:Around}{E:aat}
end
def Ju (i:Expr):Prop:=∀ov iv,subscripted i false ov iv=operate [ov,iv] (getItem ov iv)
theorem DN {prog:Program}{w:World}{A:Around}{E:aat}{s:Shared}{env:Env}{value slice:Expr}{pos:Pos}{T id:String}{Q:aat}
  (hl:typeLookup (.type T) "__getitem__"=pure (some (.builtin id)))(hs:Ju slice)
  (h:wpAny (model prog w) A (eval value env) (λo s₁=>wpAny (model prog w) A (eval slice env) (λi s₂=>s₂.TypeIs o T/\wpAny (model prog w) A (getItem o i) Q E s₂) E s₁) E s) :
  wpAny (model prog w) A (eval (.Subscript value slice pos) env) Q E s:=by
 refine Subscript_ (YZ h (λo s₁ h₁=>YZ h₁ (λi s₂ h₂=>?_) λ_ _ x=>x) λ_ _ x=>x);obtain⟨hT,h₂⟩:=h₂;unfold subscriptTail;refine XG ?_;rw[getitemInPython_of_ne hT.not_modules];refine XG (wpAny_specialOf hT hl ?_);have fin:wpAny (model prog w) A (subscripted slice false o i) (λr s₃=>wpAny (model prog w) A (letTemporaryGo value o r >>= λ_=>pure r) Q E s₃) E s₂:=by
  rw[hs o i];exact wpAny_operating (YZ h₂ (λr s₃ h₃=>XG (wpAny_letTemporaryGo (XQ h₃))) λ_ _ x=>x)
 first
  |exact XQ (XG fin)
  |exact XG (XQ (XG fin))
  |exact XG fin
def JR (ty td:TE):TE:=λσ H Q=>ty σ H λy H1=>td σ H1 λx H2=>∃a o,x=.ref a/\gy H2 a y o/\Q (.bl o.isSome) H2
def Dj (ty td:TE):TE:=λσ H Q=>ty σ H λy H1=>td σ H1 λx H2=>∃a o,x=.ref a/\gy H2 a y o/\Q (.bl (!o.isSome)) H2
def IQ (td ty tv:TE):TS:=λD σ H=>tv σ H λv H1=>td σ H1 λx H2=>ty σ H2 λy H3=>∃a H4,x=.ref a/\Jm H3 a y v H4/\D.nx σ H4
section
variable {X:Cx}{o i e value:Expr}{pos pos' L6:Pos}{td ty tv:TE}
theorem t9 (hu:X.A.units+1 < cLine) (hi:PE X i ty) (ho:PE X o td):PC X .In i o (JR ty td):=by
 intro pins s σ H Q I h;refine bA (hi pins s σ H _ I h) λiv s1 ⟨y,H1,I1,ry,q1⟩=>bA (ho pins s1 σ H1 _ I1 q1) λu s2 ⟨x,H2,I2,rx,a,ov,ex,g,q2⟩=>?_;subst ex;obtain rfl:u=Value.ref a:=rx;exact K8 hu I2 g ry λs3 I3=>⟨.bl ov.isSome,H2,I3,rfl,q2⟩
theorem zV (hu:X.A.units+1 < cLine)(hi:PE X i ty)(ho:PE X o td):PC X .NotIn i o (Dj ty td):=by
 intro pins s σ H Q I h;refine bA (hi pins s σ H _ I h) λiv s1 ⟨y,H1,I1,ry,q1⟩=>bA (ho pins s1 σ H1 _ I1 q1) λu s2 ⟨x,H2,I2,rx,a,ov,ex,g,q2⟩=>?_;subst ex;obtain rfl:u=Value.ref a:=rx;exact DW hu I2 g ry λs3 I3=>⟨.bl (!ov.isSome),H2,I3,rfl,q2⟩
theorem mw (hu:X.A.units+1 < cLine)(ho:PE X o td)(hi:PE X i ty)(hv:PE X value tv)(hs:swapsWith value (some (.Subscript o i pos')) pos.line X.env=pure false) :
  PS X (.Assign [.Subscript o i pos'] value pos) (IQ td ty tv):=by
 intro pins s σ H D I h;refine wpAny_Assign_Subscript (bA (hv pins s σ H _ I h) λr s1 ⟨v,H1,I1,rv,q1⟩=>bA (ho pins s1 σ H1 _ I1 q1) λu s2 ⟨x,H2,I2,rx,q2⟩=>bA (hi pins s2 σ H2 _ I2 q2) λiv s3 ⟨y,H3,I3,ry,a,H4,ex,g,q3⟩=>?_) hs;subst ex;obtain rfl:u=Value.ref a:=rx;exact zA hu I3 g ry rv λs4 I4=>⟨σ,H4,I4,q3⟩
end
theorem C0 {P:Program}{w:World}{H:Hp}(h:Heap)(hb:sysModules < h.objs.size):bM P w H (h.push {cls:=.type "dict",data:=.dict #[]}) h.objs.size (.dK []) :=
 ⟨Ye _,Yg.mpr (aaj (Yk hb)),[],.nil,Heap.DictOf.new h⟩
theorem Bv {P:Program}{w:World}{H:Hp}(h:Heap)(hb:sysModules < h.objs.size):bM P w H (h.push {cls:=.type "dict",data:=.dict #[]}) h.objs.size (.dT []) :=
 ⟨Ye _,Yg.mpr (aaj (Yk hb)),[],.nil,_,#[],0,X0 _ rfl,⟨rfl,rfl,rfl⟩,rfl,rfl,List.nodup_nil⟩
def Hy:TE:=λ_ H Q=>∀p,H p=none->Q (.ref p) (upd H p (.dK []))
def Il:TE:=λ_ H Q=>∀p,H p=none->Q (.ref p) (upd H p (.dT []))
section
variable {X:Cx}{pos:Pos}
theorem oZ:PE X (.Dict [] [] pos) Hy:=λpins s σ H Q I h =>
 wpAny_Dict_empty ⟨.ref s.heap.objs.size,_,I.laid (a:=s.heap.objs.size) (o:=.dK []) (t':=s.toks) (λ_ _ q=>XM _ q) (XT _) (C0 s.heap I.big),rfl,h _ (I.bu.fresh (XT _))⟩
theorem qF:PE X (.Dict [] [] pos) Il:=λpins s σ H Q I h =>
 wpAny_Dict_empty ⟨.ref s.heap.objs.size,_,I.laid (a:=s.heap.objs.size) (o:=.dT []) (t':=s.toks) (λ_ _ q=>XM _ q) (XT _) (Bv s.heap I.big),rfl,h _ (I.bu.fresh (XT _))⟩
end
structure M2 (X:Cx)(o:Expr)(m:Str)(apos:Pos)(e f:Expr)(LV:Pos):Prop where
 base:attributeBase o m X.env (eval o X.env)=eval o X.env
 vJ:((backTo LV (starEach [e,f] X.env)).all (λx=>!x.1)&&(backToKw LV (keywordEach [] X.env)).all (λx=>x.1.isSome)
  && decide (([e,f]:List Expr).length+([]:List Keyword).length+(if ([]:List Keyword).isEmpty then 0 else 1) < 30))=true
 line:(apos.endLine==LV.line)=true
 trees:backTo LV (starEach [e,f] X.env)=[(false,eval e X.env),(false,eval f X.env)]
def Lf (H:Hp)(a:Addr):Prop:=(∃LN,Rd H a (.dK LN))∨∃LN,Rd H a (.dT LN)
theorem HE {X:Cx}{pins:aav}{σ:St}{H:Hp}{s:Shared}{a:Addr}(I:Inv X pins σ H s)(d:Lf H a) :
  s.TypeIs (.ref a) "dict"/\(∀b,Value.ref a=.ref b->∃ob,s.heap.get? b=some ob/\ob.dict=none)/\(a==sysModules)=false:=by
 rcases d with ⟨LN,e⟩|⟨LN,e⟩
 · obtain⟨_,hd,vs,_,dd⟩:=vm I.bu e;refine⟨dd.typeIs,λb q=>?_,hd⟩;cases q;obtain⟨ob,_,_,h1,h2,_⟩:=dd;exact⟨ob,h1,h2.2.1⟩
 · obtain⟨_,hd,xs,_,dd⟩:=uO I.bu e;refine⟨dd.typeIs,λb q=>?_,hd⟩;cases q;obtain⟨ob,_,_,h1,h2,_⟩:=dd;exact⟨ob,h1,h2.2.1⟩
section
variable {X:Cx}{pins:aav}{σ:St}{H:Hp}{s:Shared}{a:Addr}{y d:V}{u r:Value}{o:Option V}{A:Around}{E:aat}
theorem Gn {Q:aat} (hu:A.units+1 < cLine) (I:Inv X pins σ H s) (g:gy H a y o) (ry:RelV y u) (rd:RelV d r) (h:∀w' s',Inv X pins σ H s'->RelV (o.getD d) w'->Q w' s') :
  wpAny (model X.prog X.w) A (call (.builtin "dict.get") [.ref a,u,r]) Q E s:=by
 rcases g with ⟨LN,k,e,ey,l⟩|⟨LN,k,b,e,ey,eb,l⟩
 · subst ey;obtain⟨z,hd,vs,rel,dd⟩:=vm I.bu e;refine call_meetsIn PySem.F.slot_dict_get dd.typeIs PySem.F.entry_dict_get (PySem.F.args_dict_get_3 _ _ _) (meets_dict_get_default (cw X.prog X.w) a (pd ry) hd r) ⟨_,dd.mapOf,h _ _ (I.tok _) ?_⟩;rw[l];exact (rel.val k).getD rd
 · subst ey;cases (show u=Value.ref b from ry);obtain⟨z,hd,xs,rel,dd⟩:=uO I.bu e;refine call_meetsIn PySem.F.slot_dict_get dd.typeIs PySem.F.entry_dict_get (PySem.F.args_dict_get_3 _ _ _) (meetsH_dict_get_default (tupleKind (cw X.prog X.w)) a b hd r) ⟨aal hu,k,xs,pN I.bu eb,dd,h _ _ (I.tok _) ?_⟩;rw[l];exact (rel.val k).getD rd
end
def Hh (td ty tx:TE):TE:=λσ H Q=>td σ H λx H1=>∃a,x=.ref a/\Lf H1 a/\ty σ H1 λy H2=>tx σ H2 λz H3=>∃o,gy H3 a y o/\Q (o.getD z) H3
section
variable {X:Cx}{o e f:Expr}{apos LV:Pos}{td ty tx:TE}
theorem uW (hu:X.A.units+1 < cLine) (ho:PE X o td) (he:PE X e ty) (hf:PE X f tx) (m:M2 X o "get" apos e f LV):PE X (.Call (.Attribute o "get" apos) [e,f] [] LV) (Hh td ty tx):=by
 intro pins s σ H Q I h;refine wpAny_Call_method m.base m.vJ m.line PySem.F.plainAttrs_dict PySem.F.slot_dict_get PySem.F.type_dict_get (bA (ho pins s σ H _ I h) λu s1 ⟨x,H1,I1,rx,a,ex,d,q1⟩=>?_);subst ex;obtain rfl:u=Value.ref a:=rx;obtain⟨t1,t2,_⟩:=HE I1 d;refine⟨t1,t2,?_⟩;rw[m.trees];refine Z6 rfl (Calls.evalArgs_plain (aap (bA (he pins s1 σ H1 _ I1 q1) λiv s2 ⟨y,H2,I2,ry,q2⟩ =>
  aap (bA (hf pins s2 σ H2 _ I2 q2) λfv s3 ⟨z,H3,I3,rz,ov,g,q3⟩=>Calls.spliced_nil ?_))))
 exact Gn hu I3 g ry rz λw' s4 I4 NW=>⟨_,H3,I4,NW,q3⟩
end
section
variable {X:Cx}{pins:aav}{σ:St}{H:Hp}{s:Shared}{a:Addr}{LN:List (Key×V)}{A:Around}{E:aat}
end
section
variable {X:Cx}{pins:aav}{σ:St}{H:Hp}{s:Shared}{a:Addr}{y:V}{u:Value}{A:Around}{E:aat}
end
section
variable {prog:Program}{w:World}{A:Around}{E:aat}
end
section
variable {X:Cx}
end
section
variable {X:Cx}{pins:aav}{σ:St}{H:Hp}{s:Shared}{h':Heap}
theorem Inv.El {t':Nat} {ch:List Addr} (I:Inv X pins σ H s) (k:∀b o,b∉ch->s.heap.get? b=some o->h'.get? b=some o) (hf:∀b∈ch,mY X pins H b):Inv X pins σ H {s with heap:=h',toks:=t'}:=by
 have Nw:∀b u,H b=some u->b∉ch:=λb u e z=>by
  have q:=(hf b z).1;rw[q] at e;cases e
 refine I.step (g':=s.gens) (d':=s.drawn) (ch:=ch) (λb hb=>⟨(hf b hb).2.2.2.1,(hf b hb).2.1,(hf b hb).2.2.2.2.1,(hf b hb).2.2.2.2.2⟩) (λb o _ _ hc e _=>k b o hc e) (λb o _ _ hc e _=>⟨o.slots,k b o hc e⟩)
  (λ_ _ _ _ n=>n) (λb o hc e=>⟨o,k b o hc e⟩) (λ_ _ e=>e) (λ_ _ _ e=>e) (λb ps e=>⟨#[],by rw[e];simp⟩) (λm hm=>?_) (λb u e=>?_) I.bare
 · obtain⟨o,es,ep,ho,r⟩:=hm;exact⟨o,es,ep,k _ o (λz=>(hf _ z).2.1 rfl) ho,r⟩
 · refine (I.bu b u e).kM (λc v hc q=>k c v ?_ q) (λ_ q=>q) λ_ _ q=>q;rcases hc with z|z
   · rw[z];exact Nw b u e
   · exact Nw c _ z
theorem Inv.r9 {t':Nat}{ch:List Addr}{T:Addr}{ob:HO}(I:Inv X pins σ H s)(k:∀b o,b∉ch->s.heap.get? b=some o->h'.get? b=some o)(hf:∀b∈ch,mY X pins H b)(hT:s.heap.objs.size<=T)
  (new:bM X.prog X.w (upd H T ob) h' T ob):Inv X pins σ (upd H T ob) {s with heap:=h',toks:=t'}:=by
 have hn:H T=none:=I.bu.fresh hT;have Nw:∀b u,H b=some u->b∉ch:=λb u e z=>by
  have q:=(hf b z).1;rw[q] at e;cases e
 refine I.step (g':=s.gens) (d':=s.drawn) (ch:=ch) (λb hb=>⟨(hf b hb).2.2.2.1,(hf b hb).2.1,(hf b hb).2.2.2.2.1,(hf b hb).2.2.2.2.2⟩) (λb o _ _ hc e _=>k b o hc e) (λb o _ _ hc e _=>⟨o.slots,k b o hc e⟩)
  (λb o _ e n=>?_) (λb o hc e=>⟨o,k b o hc e⟩) (λb xs e=>?_) (λb o u e=>?_) (λb ps e=>⟨#[],?_⟩) (λm hm=>?_) (λb u e=>?_) I.bare
 · rw[aq (Yk (Yo (XX e) hT))];exact n
 · rw[aq (ao e hn)];exact e
 · rw[aq (ao e hn)];exact e
 · rw[aq (ao e hn),e];simp
 · obtain⟨o,es,ep,ho,r⟩:=hm;exact⟨o,es,ep,k _ o (λz=>(hf _ z).2.1 rfl) ho,r⟩
 · by_cases hb:b=T
   · subst hb;rw[ae] at e;cases e;exact new
   · rw[aq hb] at e;refine (I.bu b u e).kM (λc v hc q=>k c v ?_ q) (λc q=>by rw[aq (ao q hn)];exact q) λc xs q=>by rw[aq (ao q hn)];exact q
     rcases hc with z|z
     · rw[z];exact Nw b u e
     · exact Nw c _ z
end
section
variable {X:Cx}
theorem xm {tg:Expr} {pins:aav} {σ:St} {H:Hp} {s:Shared} {R:It->Hp->Prop} {J:It} {tn:Nat->Heap->Prop} {tk:Nat} (I:Inv X pins σ H s) (o:Obj)
  (T:Turn X.prog X.w X.K tg J [s.heap.objs.size] s.heap.objs.size tn) (st:tn 0 (s.heap.push o)) (q:R J H):K4 X pins σ tg R (.ref s.heap.objs.size) {s with heap:=s.heap.push o,toks:=tk}:=by
 refine⟨s.heap.objs.size,[s.heap.objs.size],tn,J,H,rfl,I.kept λb ob e=>XM _ e,T,st,λb hb=>?_,q⟩;have e:b=s.heap.objs.size:=by simpa using hb
 subst e;exact I.xY (XT _) (I.bu.fresh (XT _))
end
def Ip (lo c:Int)(n:Nat):It:=⟨λi _=>i < n,λi H x H'=>H'=H/\x=.int (lo+(i:Nat)*c),λi _=>n<=i⟩
theorem vB {P:Program}{w:World}{K:aas}{tg:Expr}(it:Addr)(lo c:Int)(n:Nat):Turn P w K tg (Ip lo c n) [it] it (λi h=>IsRangeIter h it (lo+(i:Nat)*c) ((n:Int) - (i:Nat)) c) where
 mem:=by simp
 obj:=λi h st b hb=>by
  have e:b=it:=by simpa using hb
  subst e;exact⟨_,st,λv z=>nomatch z⟩
 keep:=λi h h' st k=>k it (by simp) _ st
 item:=by
  intro X hP hw hK hc i pins s σ H E I hf st hg;subst hP hw hK;obtain⟨f0,f1,f2,f3,f4,f5⟩:=hf it (by simp);have W:=Walks.range (prog:=X.prog) (w:=X.w) (I.ok.hd hc) it lo c n;refine W.item i s _ _ hg st λv h' tk hv My kk=>?_;obtain⟨t,rfl⟩:=hv;have I1:Inv X pins σ H {s with heap:=h',toks:=tk}:=I.turned (λb o hb e=>kk b o (by simpa using hb) e) f0 f1 f3 f4 f5;exact⟨_,rfl,vn (s:={s with heap:=h',toks:=tk}) (n:="range_iterator") My rfl rfl (by decide) ⟨.int (lo+(i:Nat)*c),H,I1,⟨t,rfl⟩,⟨rfl,rfl⟩,My,λb hb=>(hf b hb).1⟩⟩
 done:=by
  intro X hP hw hK hc i pins s σ H E I hf st hg;subst hP hw hK;obtain⟨f0,f1,f2,f3,f4,f5⟩:=hf it (by simp);exact wpAny_pyNext_range_end (I.ok.hd hc) st (by have:n<=i:=hg;omega) λh' eb=>⟨rfl,I.turned (t':=s.toks) (λb o hb e=>eb b o hb e) f0 f1 f3 f4 f5⟩
 self:=λA i s Q E st h=>wpAny_pyIter_rangeiter st h
def Jw (i j c:Int)(n:Nat):Prop:=c≠0/\c.natAbs < 1073741824/\Builtin.Range.small i j c=true/\Builtin.Range.rangeSize i j c=n
theorem Jw.neg {i j:Int}(ha:-(2 ^ 62)<=i)(Rg:i < 2 ^ 62)(hb:-(2 ^ 62)<=j)(P6:j < 2 ^ 62):Jw i j (-1) (i - j).toNat :=
 ⟨by decide,by decide,PySem.W.small_down ha Rg hb P6,PySem.W.rangeSize_downNat i j⟩
def Gh (ta:TA):TI:=λσ H R=>ta σ H λvs H1=>∃(i j c:Int) (n:Nat),vs=[.int i,.int j,.int c]/\Jw i j c n/\R (Ip i c n) H1
section
variable {X:Cx}{tg:Expr}
theorem rY {a b c:Expr} {ta:TA} {p pos:Pos} (hg:Gl X "range") (hm:X.mg "range"=none) (ha:PA X [a,b,c] ta)
  (hs:starEach [a,b,c] X.env=(false,eval a X.env)::starEach [b,c] X.env:=by rfl) (LY:(backTo pos (starEach [b,c] X.env)).any (·.1)=false:=by rfl) :
  PI X tg (.Call (.Name "range" p) [a,b,c] [] pos) (Gh ta):=by
 intro pins s σ H R I h;refine Call_ (lz I hg hm boot_range (Y8 (bA (ha pos pins s σ H _ I h) λus s1 ⟨vs,H1,I1,r1,q1⟩=>?_) hs LY));obtain⟨i,j,k,n,e,⟨c0,c1,c2,c3⟩,q⟩:=q1;subst e;cases r1 with
 |cons r rr =>
  cases rr with
  |cons r' rr =>
   cases rr with
   |cons VG rr =>
    cases rr;obtain⟨t,rfl⟩:=r;obtain⟨t',rfl⟩:=r';obtain⟨VH,rfl⟩:=VG;refine call_range_3 c0 ?_ (.inl (PyProof.noPylong_small c1));refine wpAny_pyIter_range (IsRange.new ..) c2 ?_;have I2:Inv X pins σ H1 {s1 with heap:=s1.heap.push {cls:=.type "range",data:=.fields #[.int i t,.int j t',.int k VH]}}:=I1.kept (t':=s1.toks) λb o e=>XM _ e;refine xm (tk:=s1.toks) I2 _ (vB _ i k n) ?_ q;have e1:i+((0:Nat):Int)*k=i:=by simp
    have e2:(n:Int) - ((0:Nat):Int)=Builtin.Range.rangeSize i j k:=by rw[c3];simp
    show IsRangeIter _ _ (i+((0:Nat):Int)*k) ((n:Int) - ((0:Nat):Int)) k;rw[e1,e2];exact X0 _ rfl
end
theorem qb {lo c:Int}{n:Nat}{g:TG}{tb:TS}{D:Ends}{σ:St}{H:Hp}(Pv:Nat->St->Hp->Prop)(h0:Pv 0 σ H)
  (hs:∀i σ H,i < n->Pv i σ H->g (.int (lo+(i:Nat)*c)) σ H λσ2 H2=>tb {D with nx:=Pv (i+1),ct:=Pv (i+1),bk:=D.nx} σ2 H2)(hd:∀σ H,Pv n σ H->D.nx σ H) :
  ∃W:Nat->Nat->St->Hp->Prop,(∃m,W 0 m σ H)/\∀i m σ H,W i m σ H ->
   ((Ip lo c n).stop i H/\D.nx σ H)∨((Ip lo c n).go i H/\∃N:St->Hp->Prop,(∀σ' H',N σ' H'->∃m',m' < m/\W (i+1) m' σ' H')/\∀x H',(Ip lo c n).we i H x H'->g x σ H' λσ2 H2=>tb {D with nx:=N,ct:=N,bk:=D.nx} σ2 H2):=by
 refine⟨λi m σ H=>m=n - i/\i<=n/\Pv i σ H,⟨n,by simp,Ye _,h0⟩,?_⟩;rintro i m σ H ⟨rfl,hi,p⟩;by_cases LU:i < n
 · refine .inr ⟨LU,Pv (i+1),λσ' H' p'=>⟨n - (i+1),by omega,rfl,LU,p'⟩,λx H' y=>?_⟩;obtain⟨e,y⟩:=y;subst e y;exact hs i σ _ LU p
 · have e:i=n:=by omega
   subst e;exact .inl ⟨XT _,hd σ H p⟩
section
variable {X:Cx}{tg:Expr}
end
def IV (x:Str):It:=⟨λi _=>i < x.cps.size,λi H v H'=>H'=H/\∃c,x.cps[i]?=some c/\v=.str ⟨#[c]⟩,λi _=>x.cps.size<=i⟩
theorem vp {P:Program}{w:World}{K:aas}{tg:Expr}(it:Addr)(x:Str)(t:Tok)(ty:String)(Oj:ty="str_ascii_iterator"∨ty="str_iterator") :
  Turn P w K tg (IV x) [it] it (λi h=>h.IsStrIter it ty x t i) where
 mem:=by simp
 obj:=λi h st b hb=>by
  have e:b=it:=by simpa using hb
  subst e;obtain⟨o,e,c,d⟩:=st;exact⟨o,e,λv z=>by rw[d] at z;cases z⟩
 keep:=λi h h' st k=>let ⟨o,ho,r⟩:=st;⟨o,k it (by simp) o ho,r⟩
 item:=by
  intro X hP hw hK hc i pins s σ H E I hf st hg;subst hP hw hK;obtain⟨f0,f1,f2,f3,f4,f5⟩:=hf it (by simp);have W:Walks X.prog X.w X.A it [it] [it] x.cps.size (SignAt x) (λi h=>h.IsStrIter it ty x t i):=by
   rcases Oj with e|e
   · rw[e];exact Walks.strAscii (I.ok.hd hc) it x t
   · rw[e];exact Walks.strWide (I.ok.hd hc) it x t
  have M5:["enumerate","zip","dict_itemiterator","dict_reverseitemiterator","odict_iterator","itertools.zip_longest","itertools.pairwise"].contains ty=false:=by
   rcases Oj with e|e
   · rw[e];decide
   · rw[e];decide
  refine W.item i s _ _ hg st λv h' tk hv My kk=>?_;obtain⟨c,u,VI,rfl⟩:=hv;have I1:Inv X pins σ H {s with heap:=h',toks:=tk}:=I.turned (λb o hb e=>kk b o (by simpa using hb) e) f0 f1 f3 f4 f5;obtain⟨oi,e,cc,dd⟩:=id My;exact⟨_,rfl,vn (s:={s with heap:=h',toks:=tk}) e cc dd M5 ⟨.str ⟨#[c]⟩,H,I1,⟨u,rfl⟩,⟨rfl,c,VI,rfl⟩,My,λb hb=>(hf b hb).1⟩⟩
 done:=by
  intro X hP hw hK hc i pins s σ H E I hf st hg;subst hP hw hK;obtain⟨f0,f1,f2,f3,f4,f5⟩:=hf it (by simp);have hx:x.cps[i]?=none:=Array.getElem?_eq_none hg;rcases Oj with e|e
  · rw[e] at st;exact wpAny_pyNext_ascii_end (I.ok.hd hc) st hx λh' eb=>⟨rfl,I.turned (t':=s.toks) (λb o hb e=>eb b o hb e) f0 f1 f3 f4 f5⟩
  · rw[e] at st;exact wpAny_pyNext_wide_end (I.ok.hd hc) st hx λh' eb=>⟨rfl,I.turned (t':=s.toks) (λb o hb e=>eb b o hb e) f0 f1 f3 f4 f5⟩
 self:=λA i s Q E st h=>by
  rcases Oj with e|e
  · rw[e] at st;exact wpAny_pyIter_striter_ascii st h
  · rw[e] at st;exact wpAny_pyIter_striter_wide st h
def K1 (te:TE):TI:=λσ H R=>te σ H λv H1=>∃x,v=.str x/\R (IV x) H1
theorem Hf {X:Cx}{tg e:Expr}{te:TE}(he:PE X e te):PI X tg e (K1 te):=by
 intro pins s σ H R I h;refine bA (he pins s σ H _ I h) λv s1 ⟨y,H1,I1,r1,x,ex,q⟩=>?_;subst ex;obtain⟨t,rfl⟩:=r1;cases ha:x.cps.all (· < 128)
 · exact wpAny_pyIter_wide ha (xm (tk:=s1.toks) I1 _ (vp _ x t "str_iterator" (.inr rfl)) ⟨_,X0 _ rfl,rfl,rfl⟩ q)
 · exact wpAny_pyIter_ascii ha (xm (tk:=s1.toks) I1 _ (vp _ x t "str_ascii_iterator" (.inl rfl)) ⟨_,X0 _ rfl,rfl,rfl⟩ q)
section
variable {prog:Program}{w:World}{A:Around}{E:aat}{s:Shared}
theorem Am {d:Addr} {o:Obj} {es:Array DictEntry} {ep:Nat} {Q:aat} (hd:(d==sysModules)=false) (ho:s.heap.get? d=some o) (hc:o.ExactDict) (OY:o.data=.dict es ep)
  (hQ:Q (.ref s.heap.objs.size) {s with heap:=s.heap.push {cls:=.type "dict_keyiterator",data:=.fields #[.ref d,.int 0 0,.int es.size 0,.int ep 0]}}) :
  wpAny (model prog w) A (pyIter (.ref d)) Q E s:=by
 have hT:s.TypeIs (.ref d) "dict":=⟨o,ho,hc.1⟩;refine wpAny_pyIter_slot hT F.slot_dict_iter (Y3 F.slot_dict_iter hT F.entry_dict_iter ?_ (F.args_dict_iter_1 _));unfold Builtin.«dict.__iter__»;refine XG ?_;unfold Builtin.Dict.dictSlotNone;refine XG (wpAny_notOrdered_dict hT ?_);show wpAny _ _ (pure (Value.ref d)) _ _ s;refine XQ ?_;show wpAny _ _ (Builtin.Dict.showsAll d >>= _) _ _ s;unfold Builtin.Dict.showsAll;rw[XI (by rw[hd];exact X8)];refine XG (XQ ?_);refine XG (wpAny_dictEntries ho OY ?_);refine XG (wpAny_dictEpoch ho OY ?_);refine XG (Y9 (XQ ⟨_,rfl,"dict_keyiterator",_,⟨_,X0 _ rfl,rfl⟩,Zh.lookup,?_⟩));simpa [rawInt] using hQ
theorem qQ {it d:Addr}{i n ep:Nat}{od:Obj}{es:Array DictEntry}{en:DictEntry}{Q:Option Value->Shared->Prop}(hit:s.heap.IsKeyIter it d i n ep)(OZ:s.heap.get? d=some od)(O0:od.data=.dict es ep)
  (hsz:es.size=n)(hx:es[i]?=some en)(hQ:∀h',h'.IsKeyIter it d (i+1) n ep->Heap.SameBut it s.heap h'->Q (some en.key) {s with heap:=h'}):wpAny (model prog w) A (pyNext (.ref it)) Q E s:=by
 obtain⟨o,ho,hc,hd⟩:=id hit;unfold pyNext;refine XG (wpAny_attempt (YX (name:=Str.ofString "__next__") hit.typeIs Zh
  (Y3 Zh hit.typeIs F.entry_dict_keyiterator_next ?_ (F.args_dict_keyiterator_next_1 _))))
 refine XG (XQ ?_);refine XG ?_;refine XG ?_
 first|refine XG (ZD hit.typeIs (XQ ?_))|refine XG (ZS hit.typeIs (XQ ?_))
 refine XG (wpAny_fieldsOf ho hd ?_);have N0:Builtin.Dict_items.ownsTuple "dict_keyiterator"=false:=by decide
 simp only[N0,Y7,ZI];show wpAny _ _ (if (Value.ref d==Value.none)=true then _ else _) _ _ s;rw[XI (show ¬((Value.ref d==Value.none)=true) from X8)];refine XG (XQ ?_);refine XG (wpAny_dictEntries OZ O0 ?_);rw[XI (by rw[hsz];simp)];refine XG (XQ ?_);refine XG (wpAny_dictEpoch OZ O0 ?_);rw[XI (by simp)];refine XQ ?_;obtain⟨Rh,Om⟩:=Array.getElem?_eq_some_iff.mp hx;simp only[show ¬((i:Int) < 0) from by omega,ZI,Ys,Array.getElem?_eq_getElem Rh];refine XG ?_
 first|refine XG (ZD hit.typeIs (XQ ?_))|refine XG (ZS hit.typeIs (XQ ?_))
 refine XG (wpAny_isOneOf_keyiter hit.typeIs ?_);show wpAny _ _ (setField (.ref it) 1 (rawInt ((i:Int)+1)) >>= _) _ _ s;refine XG (wpAny_setField ho hd (by simp) ?_);have Nf:(s.heap.update it (Obj.mapFields (·.setIfInBounds 1 (rawInt ((i:Int)+1))))).IsKeyIter it d (i+1) n ep :=
  ⟨_,YG _ ho (Obj.isFreed_of_fields (Obj.data_mapFields hd _)),(Obj.cls_mapFields ..).trans hc,by rw[Obj.data_mapFields hd];simp[rawInt]⟩
 refine XG (ZK ?_);refine XG (wpAny_isOneOf_keyiter (s:={s with heap:=s.heap.update it (Obj.mapFields (·.setIfInBounds 1 (rawInt ((i:Int)+1))))}) Nf.typeIs ?_);show wpAny _ _ (pure es[i].key) _ _ _;rw[Om];exact XQ (XQ ⟨_,rfl,XQ (hQ _ Nf (X9 ..))⟩)
theorem uc {it d:Addr}{i n ep:Nat}{od:Obj}{es:Array DictEntry}{Q:Option Value->Shared->Prop}(hh:A.handled=none)(hit:s.heap.IsKeyIter it d i n ep)(OZ:s.heap.get? d=some od)(O0:od.data=.dict es ep)
  (hsz:es.size=n)(VJ:n<=i)(hQ:∀h',Heap.ExtBut it s.heap h'->Q none {s with heap:=h'}):wpAny (model prog w) A (pyNext (.ref it)) Q E s:=by
 obtain⟨o,ho,hc,hd⟩:=id hit;unfold pyNext;refine XG (wpAny_attempt (YX (name:=Str.ofString "__next__") hit.typeIs Zh
  (Y3 Zh hit.typeIs F.entry_dict_keyiterator_next ?_ (F.args_dict_keyiterator_next_1 _))))
 refine XG (XQ ?_);refine XG ?_;refine XG ?_
 first|refine XG (ZD hit.typeIs (XQ ?_))|refine XG (ZS hit.typeIs (XQ ?_))
 refine XG (wpAny_fieldsOf ho hd ?_);have N0:Builtin.Dict_items.ownsTuple "dict_keyiterator"=false:=by decide
 simp only[N0,Y7,ZI];show wpAny _ _ (if (Value.ref d==Value.none)=true then _ else _) _ _ s;rw[XI (show ¬((Value.ref d==Value.none)=true) from X8)];refine XG (XQ ?_);refine XG (wpAny_dictEntries OZ O0 ?_);rw[XI (by rw[hsz];simp)];refine XG (XQ ?_);refine XG (wpAny_dictEpoch OZ O0 ?_);rw[XI (by simp)];refine XQ ?_;have Ri:es.size<=i:=by rw[hsz];exact VJ
 simp only[show ¬((i:Int) < 0) from by omega,ZI,Ys,Array.getElem?_eq_none Ri];refine XG ?_
 first|refine XG (ZD hit.typeIs (XQ ?_))|refine XG (ZS hit.typeIs (XQ ?_))
 show wpAny _ _ (setField (.ref it) 0 .none >>= _) _ _ s;refine XG (wpAny_setField ho hd (by simp) ?_);show wpAny _ _ (newExc (.type "StopIteration") [] >>= _) _ _ _;refine XG ?_;simp only[newExc,newTuple];refine XG (Y9 ?_ (by size_fits));refine XG (m:=firstArgMember _ _) (wpAny_of_eq (a:=Value.none) (by first|rfl|(simp only[firstArgMember];rfl)) ?_);refine Y9 ?_ (by size_fits);simp only[raiseNew];refine XG (wpAny_handled ?_);rw[show A.in1.handled=none from hh];refine XG (XQ (wpAny_throw ?_));refine XG (wpAny_isInstance (T:="StopIteration") (b:=true) ⟨_,X0 _ rfl,rfl⟩ isSubtype_stop ?_);exact XQ (hQ _ (((X9 ..).extBut.push _).push _))
end
theorem xX {α β:Type}{G:α->β->Prop}{l₁:List α}{l₂:List β}(h:Paired G l₁ l₂):∀{i:Nat} {a:α},l₁[i]?=some a->∃b,l₂[i]?=some b/\G a b:=by
 induction h with
 |nil=>intro i a e;simp at e
 |@cons a b l₁ l₂ r t ih =>
  intro i a' e;cases i with
  |zero =>
   simp only[List.getElem?_cons_zero,Option.some.injEq] at e;subst e;exact⟨b,rfl,r⟩
  |succ j =>
   simp only[List.getElem?_cons_succ] at e ⊢;exact ih e
section
variable {X:Cx}{pins:aav}{σ:St}{H:Hp}{s:Shared}{d:Addr}{o:Obj}
end
section
variable {P:Program}{w:World}{K:aas}{tg:Expr}{d:Addr}{o:Obj}{es:Array DictEntry}{ep:Nat}
end
section
variable {X:Cx}{tg e:Expr}{td:TE}{apos LV:Pos}
end
def FU (K:aas)(a:Addr):It :=
 ⟨λi H=>∃(xs:List V) (x:V),aO K H a xs/\xs[i]?=some x,λi H v H'=>∃T x,v=.ref T/\H T=none/\H'=upd H T (.tup [.int (i:Nat),x])/\∀xs,aO K H a xs->xs[i]?=some x,λi H=>∃xs:List V,aO K H a xs/\xs.length<=i⟩
theorem AE {P:Program}{w:World}{K:aas}{elts:List Expr}{kk:Nat}{L6:Pos}(a e it:Addr) :
  Turn P w K (.Tuple elts kk L6) (FU K a) [e,it] e (λi h=>(∃old,IsEnum h e it ((i:Nat):Int) old)/\h.IsListIter it a i/\e≠it) where
 mem:=by simp
 obj:=λi h st b hb=>by
  obtain⟨⟨old,he⟩,⟨o,ho,hc,hd⟩,_⟩:=st;have e':b=e∨b=it:=by simpa using hb
  rcases e' with z|z
  · rw[z];exact⟨_,he,λv q=>nomatch q⟩
  · rw[z];exact⟨o,ho,λv q=>by rw[hd] at q;cases q⟩
 keep:=λi h h' st k=>let ⟨⟨old,he⟩,hi,L0⟩:=st;⟨⟨old,k e (by simp) _ he⟩,hi.at λo q=>k it (by simp) o q,L0⟩
 item:=by
  intro X hP hw hK hc i pins s σ H E I hf st hg;subst hP hw hK;obtain⟨⟨old,he⟩,hit,L0⟩:=st;obtain⟨xs,x,hq,hx⟩:=hg;obtain⟨LO,rv,p,hz⟩:=I.list hq;obtain⟨u,hu,ru⟩:=rv.get hx;have SR:e < s.heap.objs.size:=XX he;have LX:it < s.heap.objs.size:=by obtain⟨_,q,_⟩:=hit;exact XX q
  refine wpAny_pyNext_enum_item he hit p.isList (x:=u) (by simpa using hu) L0 λh' ho Nf hT hsz hk=>?_;refine⟨_,rfl,wpAny_letOwnedTupleGo_enum (s:={s with heap:=h',toks:=s.toks+1}) ho λNC VL sb=>?_⟩;have ML:NC.get? s.heap.objs.size=some {cls:=.type "tuple",data:=.seq #[.int i s.toks,u]}:=(sb.2 _ (Nat.ne_of_gt SR)).trans hT;have new:bM X.prog X.w (upd H s.heap.objs.size (.tup [.int (i:Nat),x])) NC s.heap.objs.size (.tup [.int (i:Nat),x]) :=
   ⟨by show 2<=sizeLine;decide,[.int i s.toks,u],.cons ⟨_,rfl⟩ (.cons ru .nil),⟨_,ML,rfl,_,rfl⟩⟩
  have I1:Inv X pins σ (upd H s.heap.objs.size (.tup [.int (i:Nat),x])) {s with heap:=NC,toks:=s.toks+1} :=
   I.r9 (ch:=[e,it]) (λb ob hb q=>(sb.2 b (λz=>hb (by simp[z]))).trans (hk b ob (λz=>hb (by simp[z])) (λz=>hb (by simp[z])) q)) hf (XT _) new
  refine⟨.ref s.heap.objs.size,_,I1,rfl,⟨_,x,rfl,I.bu.fresh (XT _),rfl,λys hy=>by rw[I.qI hy hq];exact hx⟩,⟨⟨u,?_⟩,Nf.at λo q=>(sb.2 it (aaj L0)).trans q,L0⟩,λb hb=>?_⟩
  · have e1:((i+1:Nat):Int)=(i:Int)+1:=by omega
    rw[e1];exact VL
  · have P6:b < s.heap.objs.size:=by
     have e':b=e∨b=it:=by simpa using hb
     rcases e' with z|z
     · rw[z];exact SR
     · rw[z];exact LX
    rw[aq (Yk P6)];exact (hf b hb).1
 done:=by
  intro X hP hw hK hc i pins s σ H E I hf st hg;subst hP hw hK;obtain⟨⟨old,he⟩,hit,L0⟩:=st;obtain⟨xs,hq,hx⟩:=hg;obtain⟨LO,rv,p,hz⟩:=I.list hq;obtain⟨f0,f1,f2,f3,f4,f5⟩:=hf it (by simp);have hl:=rv.length;exact wpAny_pyNext_enum_end (I.ok.hd hc) he hit p.isList (by simp;omega) λh' eb=>⟨rfl,I.turned (t':=s.toks) (λb o hb q=>eb b o hb q) f0 f1 f3 f4 f5⟩
 self:=λA i s Q E st h=>let ⟨⟨_,he⟩,_⟩:=st;wpAny_pyIter_enum he h
def IH (K:aas)(ta:TA):TI:=λσ H R=>ta σ H λvs H1=>∃a xs,vs=[.ref a]/\aO K H1 a xs/\R (FU K a) H1
theorem uD {X:Cx}{e:Expr}{ta:TA}{p pos L6:Pos}{elts:List Expr}{kk:Nat}(hg:Gl X "enumerate")(hm:X.mg "enumerate"=none)(ha:PA X [e] ta)(hs:starEach [e] X.env=[(false,eval e X.env)]:=by rfl) :
  PI X (.Tuple elts kk L6) (.Call (.Name "enumerate" p) [e] [] pos) (IH X.K ta):=by
 intro pins s σ H R I h;refine Call_ (lz I hg hm boot_enumerate (Y8 (bA (ha pos pins s σ H _ I h) λus s1 ⟨vs,H1,I1,r1,q1⟩=>?_) hs rfl));obtain⟨a,xs,ex,hq,q⟩:=q1;subst ex;cases r1 with
 |cons r rr =>
  cases rr;cases r;obtain⟨LO,rv,p',hz⟩:=I1.list hq;refine call_enumerate_list p'.isList λh' he hit hsz hk=>wpAny_pyIter_enum he ?_;have I2:Inv X pins σ H1 {s1 with heap:=h'}:=I1.kept (t':=s1.toks) hk;refine⟨s1.heap.objs.size+1,[s1.heap.objs.size+1,s1.heap.objs.size],_,_,H1,rfl,I2,AE a (s1.heap.objs.size+1) s1.heap.objs.size,⟨⟨.none,he⟩,hit,Nat.succ_ne_self _⟩,λb hb=>?_,q⟩;have e':b=s1.heap.objs.size+1∨b=s1.heap.objs.size:=by simpa using hb
  have hle:s1.heap.objs.size<=b:=by
   rcases e' with z|z
   · rw[z];exact Z_ _ _
   · rw[z];exact XT _
  exact I1.xY hle (I1.bu.fresh hle)
theorem zC:bootBuiltins "zip"=some (.type "zip"):=by decide +kernel
end L2
section
namespace Rj
open PySem PyProof.Rows
end Rj
end
section
namespace TL
open PySem PySem.Builtin PySem.Builtin.Str PySem.StrLaws
abbrev tl (x:Str):aar:=x.cps.toList
theorem k6 (x:Str):x.length=(tl x).length:=by simp[tl,Str.length]
theorem xN {x y:Str}(h:tl x=tl y):x=y:=Str.ext' (Array.toList_inj.mp h)
theorem rE (x y:Str):tl (x++y)=tl x++tl y:=by
 show (x++y).cps.toList=_;rw[Str.cps_append,Array.toList_append]
theorem o9:∀{l m:List Str},l.map tl=m.map tl->l=m
 |[],[],_=>rfl
 |[],_::_,h=>by simp at h
 |_::_,[],h=>by simp at h
 |x::l,y::m,h=>by
  rw[X1,X1] at h;injection h with h1 h2;rw[xN h1,o9 h2]
theorem gP (s:String):tl (Str.ofString s)=s.toList.map Char.toNat:=PyProof.Rows.signs_ofString s
def pre (S l:aar):Bool:=l.take S.length==S
def nX (S:aar):Nat->aar->aar->aaq
 |_,acc,[]=>[acc]
 |0,acc,c::r=>if pre S (c::r)=true then acc::nX S (S.length - 1) [] r else nX S 0 (acc++[c]) r
 |k+1,acc,_::r=>nX S k acc r
theorem ou (S:aar)(k:Nat)(acc:aar):nX S k acc []=[acc]:=by cases k <;> rfl
theorem yH {S acc r:aar}{c:Nat}(h:pre S (c::r)=true):nX S 0 acc (c::r)=acc::nX S (S.length - 1) [] r:=by
 show (if pre S (c::r)=true then acc::nX S (S.length - 1) [] r else nX S 0 (acc++[c]) r)=_;rw[XJ h]
theorem vC {S acc r:aar}{c:Nat}(h:pre S (c::r)=false):nX S 0 acc (c::r)=nX S 0 (acc++[c]) r:=by
 show (if pre S (c::r)=true then acc::nX S (S.length - 1) [] r else nX S 0 (acc++[c]) r)=_;rw[XI (by rw[h];exact X8)]
theorem vQ (S:aar):∀(k:Nat) (acc l:aar),nX S k acc l=nX S 0 acc (l.drop k)
 |0,_,_=>by rw[List.drop_zero]
 |k+1,acc,[]=>by rw[List.drop_nil,ou,ou]
 |k+1,acc,c::r=>by
  show nX S k acc r=nX S 0 acc (r.drop k);exact vQ S k acc r
theorem lM {S:aar}(hS:S≠[]):pre S []=false:=by
 cases S with
 |nil=>exact absurd rfl hS
 |cons s S=>rfl
theorem vX {s c:Nat}(S r:aar)(h:c≠s):pre (s::S) (c::r)=false:=by
 cases hp:pre (s::S) (c::r) with
 |false=>rfl
 |true =>
  have e:(c::r).take (s::S).length=s::S:=Za hp;rw[XW,List.take_succ_cons] at e;injection e with e1 e2;exact absurd e1 h
theorem mf {L:aar}{a:Nat}(h:a < L.length):∃c,L.drop a=c::L.drop (a+1):=⟨L[a],Y4 h⟩
theorem uk (S L:aar):∀(m a:Nat) (acc:aar),a+m<=L.length->(∀k,a<=k->k < a+m->pre S (L.drop k)=false) ->
  nX S 0 acc (L.drop a)=nX S 0 (acc++(L.drop a).take m) (L.drop (a+m))
 |0,a,acc,_,_=>by rw[List.take_zero,YJ,Nat.add_zero]
 |m+1,a,acc,h,hn=>by
  have LU:a < L.length:=by omega
  obtain⟨c,e⟩:=mf LU;have h0:=hn a (XT _) (by omega);have ih:=uk S L m (a+1) (acc++[c]) (by omega) (λk h1 h2=>hn k (by omega) (by omega));have e2:a+1+m=a+(m+1):=by omega
  rw[e2] at ih;rw[e] at h0;rw[e,vC h0,ih,List.take_succ_cons,Y_] <;> rfl
theorem Ce (L:aar)(a b:Nat):(L.drop a).drop b=L.drop (a+b):=by
 first
  |rw[List.drop_drop]
  |rw[List.drop_drop,Nat.add_comm]
theorem Hq {S L:aar}(hS:S≠[]){c:Nat}{acc:aar}(h:pre S (L.drop c)=true):nX S 0 acc (L.drop c)=acc::nX S 0 [] (L.drop (c+S.length)):=by
 rw[←Ce];cases e:L.drop c with
 |nil=>rw[e,lM hS] at h;cases h
 |cons d r =>
  rw[e] at h;rw[yH h,vQ];cases S with
  |nil=>exact absurd rfl hS
  |cons s S=>rfl
theorem Ca {x y:Str}(hy:tl y≠[])(i:Nat):At x y x.length i↔pre (tl y) ((tl x).drop i)=true:=by
 have hx:=k6 x;have hl:=k6 y;constructor
 · intro h;have h2:=h.2;rw[subAt_eq,hl] at h2;exact h2
 · intro h;have e:((tl x).drop i).take (tl y).length=tl y:=Za h;have e1:=YN List.length e;rw[X7,Yz] at e1;have e2:0 < (tl y).length:=YL.mpr hy;refine⟨by omega,?_⟩;rw[subAt_eq,hl];exact h
theorem Gd {x y:Str}(hy:tl y≠[]){i:Nat}(h:¬At x y x.length i):pre (tl y) ((tl x).drop i)=false:=by
 cases hp:pre (tl y) ((tl x).drop i) with
 |false=>rfl
 |true=>exact absurd ((Ca hy i).mpr hp) h
theorem KU {y:Str}(hy:tl y≠[]):1<=y.length:=by
 have e2:0 < (tl y).length:=YL.mpr hy;rw[k6 y];exact e2
theorem sN (x:Str)(i j:Nat):tl (strSub x i j)=((tl x).drop i).take (j - i):=strSub_toList x i j
theorem qW (x:Str)(i:Nat):tl (strSub x i x.length)=(tl x).drop i:=by
 rw[sN,k6 x];exact YD (by rw[Yz] <;> omega)
theorem rJ {x y:Str}(hy:tl y≠[]):∀(O1:aar) (a f:Nat),a<=(tl x).length->ChainG x y x.length a O1 f->(∀k,f<=k->¬At x y x.length k) ->
  (partsFrom x y.length a O1).map tl=nX (tl y) 0 [] ((tl x).drop a)
 |[],a,f,ha,h,hn=>by
  have e:f=a:=h;subst e;show [tl (strSub x f x.length)]=_;have run:=uk (tl y) (tl x) ((tl x).length - f) f [] (by omega) (λk h1 _=>Gd hy (hn k h1));have e2:f+((tl x).length - f)=(tl x).length:=by omega
  rw[e2,ZC,ou,YC,YD (by rw[Yz] <;> omega)] at run;rw[run,qW]
 |c::r,a,f,ha,h,hn=>by
  obtain⟨h1,h2,h3,h4⟩:=h;have hc:c+y.length<=x.length:=h2.1;have hx:=k6 x;have hl:=k6 y;have ih:=rJ hy r (c+y.length) f (by omega) h4 hn;show tl (strSub x a c)::(partsFrom x y.length (c+y.length) r).map tl=_;have run:=uk (tl y) (tl x) (c - a) a [] (by omega) (λk k1 k2=>Gd hy (h3 k k1 (by omega)));have e2:a+(c - a)=c:=by omega
  rw[e2,YC,Hq hy ((Ca hy c).mp h2)] at run;rw[run,ih,sN,hl]
theorem AF (x y:Str)(hy:tl y≠[])(hk:¬Builtin.Str.strKind x < Builtin.Str.strKind y):(Txt.split x y).map tl=nX (tl y) 0 [] (tl x):=by
 obtain⟨f,g,hn⟩:=occ_tight x y (KU hy);have key:=rJ hy _ 0 f (Ye _) g hn;rw[List.drop_zero] at key;have Me:occurrences x y 0 x.length (x.length+1)=[]->[x].map tl=nX (tl y) 0 [] (tl x):=λho=>by
  rw[ho] at key;rw[←key];show [tl x]=[tl (strSub x 0 x.length)];rw[sub_whole]
 unfold Txt.split;by_cases h1:(decide (x.length < y.length)||decide (Builtin.Str.strKind x < Builtin.Str.strKind y))=true
 · rw[XJ h1];have LU:x.length < y.length:=by
    simp only[YH,XS] at h1;rcases h1 with h|h
    · exact h
    · exact absurd h hk
   refine Me ?_;cases ho:occurrences x y 0 x.length (x.length+1) with
   |nil=>rfl
   |cons c r =>
    rw[ho] at g;have hc:c+y.length<=x.length:=g.2.1.1;omega
 · rw[XI h1];by_cases h2:(occurrences x y 0 x.length (x.length+1)).isEmpty=true
   · rw[XJ h2];exact Me (Zi.mp h2)
   · rw[XI h2,partsBetween_eq];exact key
theorem EF {x y:Str}(h:y.cps.all (· < 256)=true):¬Builtin.Str.strKind x < Builtin.Str.strKind y:=by
 have e:Builtin.Str.strKind y=1:=by unfold PySem.Builtin.Str.strKind;rw[XJ h]
 rw[e];unfold PySem.Builtin.Str.strKind;split
 · omega
 · split <;> omega
def dP (S:aar):aaq->aar
 |[]=>[]
 |[p]=>p
 |p::q::r=>p++(S++dP S (q::r))
theorem yF (y:Str):∀parts:List Str,tl (Str.join y parts)=dP (tl y) (parts.map tl)
 |[]=>rfl
 |[_]=>rfl
 |x::z::r=>by
  show tl (x++y++Str.join y (z::r))=tl x++(tl y++dP (tl y) ((z::r).map tl));rw[rE,rE,yF y (z::r),Y_]
theorem join_eq (y:Str)(parts:List Str):Txt.join y parts=Str.join y parts:=glued_eq_join y parts
end TL
end
namespace L2
open PySem PySem.Spec PyProof.Rows
theorem rk:∀l:List (Str×Tok),Vals ((l.map (·.1)).map V.str) (strValues l)
 |[]=>.nil
 |p::r=>.cons ⟨p.2,rfl⟩ (rk r)
theorem iL:∀{ys:List Str} {us:aaw},Vals (ys.map V.str) us->StrsAre us ys
 |[],_,.nil=>.nil
 |y::ys,_,.cons r t=>by
  obtain⟨k,rfl⟩:=r;exact .cons y k (iL t)
def pE (ys:List Str):Hp->VK->Prop:=λH Q=>∀p,H p=none->Q (.ref p) (upd H p (.lst (ys.map V.str)))
section
variable {X:Cx}{pins:aav}{σ:St}{H:Hp}{s:Shared}{Q:VK}
theorem m_ {l:List (Str×Tok)} {ys:List Str} {k:Nat} (I:Inv X pins σ H s) (e:l.map (·.1)=ys) (hz:ys.length<=sizeLine) (h:pE ys H Q) :
  EP X pins σ Q (.ref s.heap.objs.size) {s with toks:=k,heap:=s.heap.push {cls:=.type "list",data:=.seq (strValues l).toArray}}:=by
 have hp:=I.bu.fresh (XT _);refine⟨.ref s.heap.objs.size,upd H s.heap.objs.size (.lst (ys.map V.str)),I.laid (λb u q=>XM _ q) (XT _) ⟨by rw[XH];exact hz,strValues l,_,?_,X0 _ rfl⟩,rfl,h _ hp⟩;rw[←e];exact rk l
end
section
variable {X:Cx}
theorem BU:CM X "str.split" (λx xs H Q=>∃a b,x=.str a/\xs=[.str b]/\(b.length==0)=false/\a.length+2<=sizeLine/\pE (Txt.split a b) H Q):=by
 intro pins s σ H x xs v us Q I rx rs h;obtain⟨a,b,rfl,rfl,hb,hz,h⟩:=h;obtain⟨t,rfl⟩:=rx;cases rs with
 |cons r1 rs =>
  cases rs;obtain⟨u,rfl⟩:=r1;have hl:(Txt.split a b).length<=sizeLine:=Yu (PyProof.Rows.split_le a b) hz;have hn:(Builtin.Str.partsBetween a (Builtin.Str.occurrences a b 0 a.length (a.length+1)) b.length).length<=sizeLine:=by
   have e1:=StrLaws.occ_length_le a b 0 a.length (a.length+1);rw[length_partsBetween];omega
  cases h1:(decide (a.length < b.length)||decide (Builtin.Str.strKind a < Builtin.Str.strKind b))
  · cases hf:(Builtin.Str.occurrences a b 0 a.length (a.length+1)).isEmpty
    · refine call_meets F.slot_str_split (Z8 _ _ _) F.entry_str_split (F.args_str_split_2 _ _) (meets_str_split_sep a b t u h1 hb hf (by omega) hn) ?_;show EP X pins σ Q (.ref s.heap.objs.size) {s with toks:=_,heap:=s.heap.push {cls:=.type "list",data:=.seq (strsFrom s.toks (Builtin.Str.partsBetween a (Builtin.Str.occurrences a b 0 a.length (a.length+1)) b.length)).toArray}};rw[strsFrom_eq];exact m_ (ys:=Txt.split a b) I ((numbered_texts _ _).trans ((XI (ne_true_of_eq_false h1)).trans (XI (ne_true_of_eq_false hf))).symm) hl h
    · refine call_meets F.slot_str_split (Z8 _ _ _) F.entry_str_split (F.args_str_split_2 _ _) (meets_str_split_not_found a b t u h1 hb hf) ?_;exact m_ (l:=[(a,t)]) (ys:=Txt.split a b) (k:=s.toks) I ((XI (ne_true_of_eq_false h1)).trans (XJ hf)).symm hl h
  · refine call_meets F.slot_str_split (Z8 _ _ _) F.entry_str_split (F.args_str_split_2 _ _) (meets_str_split_cannot_occur a b t u h1) ?_;exact m_ (l:=[(a,t)]) (ys:=Txt.split a b) (k:=s.toks) I (XJ h1).symm hl h
theorem Fh:CM X "str.join" (λx xs H Q=>∃a p,∃ys:List Str,x=.str a/\xs=[.ref p]/\(aO X.K H p (ys.map V.str)∨b6 X.K H p (ys.map V.str)) /\
  (ys.map (·.length)).sum+ys.length*a.length<=16777216/\Q (.str (Txt.join a ys)) H):=by
 intro pins s σ H x xs v us Q I rx rs h;obtain⟨a,p,ys,rfl,rfl,hp,hz,h⟩:=h;obtain⟨t,rfl⟩:=rx;cases rs with
 |cons r1 rs =>
  cases rs;cases r1;rcases hp with hp|hp
  · obtain⟨LO,r,⟨o,n,ho,hc,_,hd⟩,_⟩:=I.list hp;exact PyProof.Rows.join_list (items:=LO.toArray) ⟨o,ho,hc,n,hd⟩ (by rw[List.toList_toArray];exact iL r) hz λt' k=>⟨.str _,H,I.tok k,⟨t',rfl⟩,h⟩
  · obtain⟨LO,r,ht,_⟩:=I.tuple hp;exact PyProof.Rows.join_tuple (items:=LO.toArray) ht (by rw[List.toList_toArray];exact iL r) hz λt' k=>⟨.str _,H,I.tok k,⟨t',rfl⟩,h⟩
theorem LD {id:String}{C:Str->Prop}{g:Str->V}(rule:∀(a:Str) (t:Tok) (s:Shared) (Q:aat),C a->(∀(u:Value) (k:Nat),RelV (g a) u->Q u {s with toks:=k}) ->
  wpAny (model X.prog X.w) X.A (call (.builtin id) [.str a t]) Q X.xe s):CM X id (λx xs H Q=>∃a,x=.str a/\xs=[]/\C a/\Q (g a) H):=by
 intro pins s σ H x xs v us Q I rx rs h;obtain⟨a,rfl,rfl,hc,h⟩:=h;obtain⟨t,rfl⟩:=rx;cases rs;exact rule a t s _ hc λu k r=>⟨g a,H,I.tok k,r,h⟩
theorem xS:CM X "str.isdigit" (λx xs H Q=>∃a,x=.str a/\xs=[]/\True/\Q (.bl (Txt.isdigit a)) H) :=
 LD (C:=λ_=>True) (g:=λa=>.bl (Txt.isdigit a)) λ_ _ s _ _ h=>PySem.SC.isdigit (h _ s.toks rfl)
theorem Lz {id:String}{g:Str->Str->V}(rule:∀(a b:Str) (t u:Tok) (s:Shared) (Q:aat),(∀(v:Value) (k:Nat),RelV (g a b) v->Q v {s with toks:=k}) ->
  wpAny (model X.prog X.w) X.A (call (.builtin id) [.str a t,.str b u]) Q X.xe s):CM X id (λx xs H Q=>∃a b,x=.str a/\xs=[.str b]/\Q (g a b) H):=by
 intro pins s σ H x xs v us Q I rx rs h;obtain⟨a,b,rfl,rfl,h⟩:=h;obtain⟨t,rfl⟩:=rx;cases rs with
 |cons r1 rs =>
  cases rs;obtain⟨u,rfl⟩:=r1;exact rule a b t u s _ λv k r=>⟨g a b,H,I.tok k,r,h⟩
theorem vY:CM X "str.endswith" (λx xs H Q=>∃a b,x=.str a/\xs=[.str b]/\Q (.bl (Txt.endswith a b)) H) :=
 Lz (g:=λa b=>.bl (Txt.endswith a b)) λ_ _ _ _ s _ h=>PySem.SC.endswith (h _ s.toks rfl)
theorem ue:iE X (.type "int") (λxs H Q=>∃a n,xs=[.str a]/\PySem.intText? a=some n/\a.length<=640/\Q (.int n) H):=by
 intro pins s σ H xs us Q I rs h;obtain⟨a,n,rfl,hn,hl,h⟩:=h;cases rs with
 |cons r1 rs =>
  cases rs;obtain⟨t,rfl⟩:=r1;exact PySem.W.KIN.call_text hn hl ⟨.int n,H,I.tok _,⟨_,rfl⟩,h⟩
end
section
variable {X:Cx}{o e:Expr}{to te:TE}
def Ln (r:V->List V->Hp->VK->Prop) (to:TE):TE:=λσ H Q=>to σ H λx H1=>(∃a,x=.str a)/\r x [] H1 Q
def KQ (r:V->List V->Hp->VK->Prop)(to te:TE):TE:=λσ H Q=>to σ H λx H1=>(∃a,x=.str a)/\te σ H1 λy H2=>r x [y] H2 Q
theorem ID {id:String}{name:Str}{apos pos:Pos}{r:V->List V->Hp->VK->Prop}(slot:Slot "str" name id)(ty:typeOf (.builtin id)=pure (.type "method_descriptor"))(rule:CM X id r)(ho:PE X o to)
  (L4:attributeBase o name X.env (eval o X.env)=eval o X.env:=by rfl)(L5:(apos.endLine==pos.line)=true:=by rfl):PE X (.Call (.Attribute o name apos) [] [] pos) (Ln r to):=by
 intro pins s σ H Q I h;refine PySem.Call_method0 L4 L5 (bA (ho pins s σ H _ I h) λv s1 ⟨x,H1,I1,r1,q1⟩=>?_);obtain⟨⟨a,rfl⟩,q1⟩:=q1;obtain⟨t,rfl⟩:=_root_.id r1;exact⟨"str",_,F.plainAttrs_str,slot,ty,Z8 _ _ _,(λ_ e=>nomatch e),Z6 rfl (PySem.evalArgs_none (rule pins s1 σ H1 _ [] _ [] Q I1 r1 .nil q1))⟩
theorem CL {id:String}{name:Str}{apos pos:Pos}{r:V->List V->Hp->VK->Prop}(slot:Slot "str" name id)(ty:typeOf (.builtin id)=pure (.type "method_descriptor"))(rule:CM X id r)(ho:PE X o to)(he:PE X e te)
  (hs:starEach [e] X.env=[(false,eval e X.env)]:=by rfl)(L4:attributeBase o name X.env (eval o X.env)=eval o X.env:=by rfl)(L5:(apos.endLine==pos.line)=true:=by rfl) :
  PE X (.Call (.Attribute o name apos) [e] [] pos) (KQ r to te):=by
 intro pins s σ H Q I h;refine PySem.Call_method1 L4 hs L5 (bA (ho pins s σ H _ I h) λv s1 ⟨x,H1,I1,r1,q1⟩=>?_);obtain⟨⟨a,rfl⟩,q1⟩:=q1;obtain⟨t,rfl⟩:=_root_.id r1;refine⟨"str",_,F.plainAttrs_str,slot,ty,Z8 _ _ _,(λ_ e=>nomatch e),Z6 rfl (Calls.evalArgs_plain (aap ?_))⟩;exact bA (he pins s1 σ H1 _ I1 q1) λu s2 ⟨y,H2,I2,r2,q2⟩=>Calls.spliced_nil (rule pins s2 σ H2 _ [y] _ [u] Q I2 r1 (.cons r2 .nil) q2)
theorem mq {apos pos:Pos}(ho:PE X o to)(he:PE X e te)(hs:starEach [e] X.env=[(false,eval e X.env)]:=by rfl)(L4:attributeBase o "split" X.env (eval o X.env)=eval o X.env:=by rfl)(L5:(apos.endLine==pos.line)=true:=by rfl) :
  PE X (.Call (.Attribute o "split" apos) [e] [] pos) (KQ (λx xs H Q=>∃a b,x=.str a/\xs=[.str b]/\(b.length==0)=false/\a.length+2<=sizeLine/\pE (Txt.split a b) H Q) to te) :=
 CL F.slot_str_split F.type_str_split BU ho he hs L4 L5
theorem DM {apos pos:Pos}(ho:PE X o to)(he:PE X e te)(hs:starEach [e] X.env=[(false,eval e X.env)]:=by rfl)(L4:attributeBase o "join" X.env (eval o X.env)=eval o X.env:=by rfl)(L5:(apos.endLine==pos.line)=true:=by rfl) :
  PE X (.Call (.Attribute o "join" apos) [e] [] pos) (KQ (λx xs H Q=>∃a p,∃ys:List Str,x=.str a/\xs=[.ref p]/\(aO X.K H p (ys.map V.str)∨b6 X.K H p (ys.map V.str)) /\
   (ys.map (·.length)).sum+ys.length*a.length<=16777216/\Q (.str (Txt.join a ys)) H) to te) :=
 CL F.slot_str_join F.type_str_join Fh ho he hs L4 L5
end
section
variable {X:Cx}
theorem oV:jU X (compareOp .In) (λx y H Q=>∃(c:Nat) (z:Str),x=.str ⟨#[c]⟩/\y=.str z/\Q (.bl (decide (c∈z.cps.toList))) H):=by
 intro pins s σ H x y v u Q I rx ry h;obtain⟨c,z,rfl,rfl,q⟩:=h;obtain⟨t,rfl⟩:=rx;obtain⟨t',rfl⟩:=ry;exact PyProof.Rows.in_str (bq I q (PySem.StrLaws.found_one z c).symm)
theorem qU:jU X (compareOp .NotIn) (λx y H Q=>∃(c:Nat) (z:Str),x=.str ⟨#[c]⟩/\y=.str z/\Q (.bl (!decide (c∈z.cps.toList))) H):=by
 intro pins s σ H x y v u Q I rx ry h;obtain⟨c,z,rfl,rfl,q⟩:=h;obtain⟨t,rfl⟩:=rx;obtain⟨t',rfl⟩:=ry;exact PyProof.Rows.notIn_str (bq I q (YN Bool.not (PySem.StrLaws.found_one z c).symm))
end
theorem IsPart.raw {v:Value}{o:Option Int}(p:IsPart v o):∃l:Option (Int×Tok),v=partValue l/\l.map (·.1)=o:=by
 cases p with
 |none=>exact⟨none,rfl,rfl⟩
 |int i t=>exact⟨some (i,t),rfl,rfl⟩
def vf (n d:Nat):Option Int->Int
 |none=>(d:Int)
 |some i=>max 0 (min (if i < 0 then i+(n:Int) else i) (n:Int))
theorem vG (n d:Nat)(o:Option Int):vf n d o=((HT.b_ n d o:Nat):Int):=by
 cases o with
 |none=>rfl
 |some v =>
  show max (0:Int) (min (if v < 0 then v+(n:Int) else v) (n:Int))=(((if v < 0 then (v+(n:Int)).toNat else min v.toNat n):Nat):Int);by_cases hv:v < 0
  · simp only[XJ hv];omega
  · simp only[XI hv];omega
theorem zN (a b:Option Int)(n:Nat):Builtin.Str.strSliceIndices a b 1 n=sliceRange (vf n 0 a) (vf n n b) 1:=by
 have h1:((1:Int) > 0)=True:=by simp
 cases a <;> cases b <;> first
  |rfl
  |(simp only[Builtin.Str.strSliceIndices,vf,h1,Zq];rfl)
  |simp[Builtin.Str.strSliceIndices,vf]
theorem K6 (a b:Option Int)(n:Nat):Builtin.Str.strSliceIndices a b 1 n=(List.range (HT.b_ n n b - HT.b_ n 0 a)).map (λk=>HT.b_ n 0 a+k):=by
 rw[zN,vG,vG];generalize HT.b_ n 0 a=p;generalize HT.b_ n n b=q;simp only[sliceRange,show ((1:Int) > 0)=True from by simp,Zq];by_cases LU:(p:Int) < q
 · have e3:(((q:Int) - p+1 - 1) / 1).toNat=q - p:=by first|omega|(simp;done)|(simp;omega)
   simp only[LU,Zq,e3];refine YA λk _=>?_;omega
 · have:q - p=0:=by omega
   simp[LU,this]
def zY (z:Str)(lo hi:Option Int):Str :=
 ⟨((z.cps.toList.drop (HT.b_ z.length 0 lo)).take (HT.b_ z.length z.length hi - HT.b_ z.length 0 lo)).toArray⟩
theorem kU (z:Str)(lo hi:Option Int):PySem.StrLaws.sliceText z lo hi=zY z lo hi:=by
 have h1:HT.b_ z.length 0 lo<=z.length:=HT.wq _ _ (Ye _) _;have h2:HT.b_ z.length z.length hi<=z.length:=HT.wq _ _ (XT _) _;have hp:HT.b_ z.length 0 lo<=max (HT.b_ z.length 0 lo) (HT.b_ z.length z.length hi):=Nat.le_max_left _ _;have hq:max (HT.b_ z.length 0 lo) (HT.b_ z.length z.length hi)<=z.length:=Nat.max_le.mpr ⟨h1,h2⟩;have hd:max (HT.b_ z.length 0 lo) (HT.b_ z.length z.length hi) - HT.b_ z.length 0 lo=HT.b_ z.length z.length hi - HT.b_ z.length 0 lo:=by omega
 have e:Builtin.Str.strSliceIndices lo hi 1 z.length =
   Builtin.Str.strSliceIndices (some ((HT.b_ z.length 0 lo:Nat):Int)) (some ((max (HT.b_ z.length 0 lo) (HT.b_ z.length z.length hi):Nat):Int)) 1 z.length:=by
  rw[PySem.StrLaws.strSliceIndices_plain hp hq,hd,K6]
 have e2:PySem.StrLaws.sliceText z lo hi =
   PySem.StrLaws.sliceText z (some ((HT.b_ z.length 0 lo:Nat):Int)) (some ((max (HT.b_ z.length 0 lo) (HT.b_ z.length z.length hi):Nat):Int)):=by
  unfold PySem.StrLaws.sliceText;rw[e]
 rw[e2,PySem.StrLaws.sliceText_nat z hp hq,hd];rfl
theorem nW (z:Str)(lo hi:Option Int):(zY z lo hi).length<=z.length:=by
 show (((z.cps.toList.drop (HT.b_ z.length 0 lo)).take (HT.b_ z.length z.length hi - HT.b_ z.length 0 lo)).toArray).size<=z.cps.size;rw[X5,X7,Yz,Zs];omega
def KZ:V->Option Int->Option Int->Hp->VK->Prop:=λx lo hi H Q=>∃z,x=.str z/\z.length<=sizeLine/\Q (.str (zY z lo hi)) H
theorem Gx {X:Cx}:Jy X KZ:=by
 intro pins s σ H x v vl vu lo hi sl Q I rx hs pl pu h;obtain⟨z,rfl,hz,q⟩:=h;obtain⟨t,rfl⟩:=rx;obtain⟨os,Nd,NU,NV⟩:=hs;obtain⟨l,rfl,rfl⟩:=IsPart.raw pl;obtain⟨u,rfl,rfl⟩:=IsPart.raw pu;refine⟨"str",_,F.slot_str_getitem.lookup,Z8 _ _ _,?_⟩;refine wpAny_getItem_str_slice (l:=l) (u:=u) (st:=none) ⟨os,Nd,NU,NV⟩ rfl ?_;have hl:(PySem.StrLaws.sliceText z (l.map (·.1)) (u.map (·.1))).length<=sizeLine:=by
  rw[kU];exact Yu (nW z _ _) hz
 rw[←kU] at q;unfold PySem.StrLaws.sliceText at q hl;show Made.post (if ((1:Int)==1&&(Builtin.Str.strSliceIndices (l.map (·.1)) (u.map (·.1)) 1 z.length).length==z.length)=true then Made.val (.str z t)
  else Made.str ⟨((Builtin.Str.strSliceIndices (l.map (·.1)) (u.map (·.1)) 1 z.length).filterMap (z.cps[·]?)).toArray⟩) (EP X pins σ Q) s
 by_cases c:((1:Int)==1&&(Builtin.Str.strSliceIndices (l.map (·.1)) (u.map (·.1)) 1 z.length).length==z.length)=true
 · rw[XJ c] at q ⊢;exact⟨.str z,H,I,⟨t,rfl⟩,q⟩
 · rw[XI c] at q hl ⊢;exact⟨hl,.str _,H,I.tok _,⟨_,rfl⟩,q⟩
end L2
namespace Att
open PySem PySem.W PySem.Calls PyProof.Rows
section
variable {prog:Program}{w:World}{A:Around}{E:aat}{s:Shared}{K:Frag}
end
end Att
namespace L2
open PySem PySem.Spec PyProof.Rows
end L2
section
set_option Elab.async false
set_option linter.all false
set_option maxRecDepth 100000
set_option maxHeartbeats 2000000
namespace L2
open PySem PySem.Spec PyProof.Rows
open PySem.W (WData Codec OpenSpec Well WellAll ReadsW ReadsAllW)
mutual
inductive Dw (K:aas)(H:Hp):V->WData->Prop
 |b8:Dw K H .b8 .none
 |bl (b:Bool):Dw K H (.bl b) (.bool b)
 |int (i:Int):Dw K H (.int i) (.int i)
 |str (x:Str):Dw K H (.str x) (.str x)
 |wg (b:Array UInt8):Dw K H (.wg b) (.bytes b.toList)
 |lst {a:Addr} {xs:List V} {ds:List WData}:aO K H a xs->ik K H xs ds->Dw K H (.ref a) (.list ds)
 |tup {a:Addr} {xs:List V} {ds:List WData}:b6 K H a xs->ik K H xs ds->Dw K H (.ref a) (.tuple ds)
inductive ik (K:aas)(H:Hp):List V->List WData->Prop
 |nil:ik K H [] []
 |cons {v:V} {vs:List V} {d:WData} {ds:List WData}:Dw K H v d->ik K H vs ds->ik K H (v::vs) (d::ds)
end
theorem y9 {K:aas}{H:Hp}:∀ns:List Int,ik K H (ns.map V.int) (ns.map WData.int)
 |[]=>.nil
 |n::r=>.cons (.int n) (y9 r)
theorem tZ {K:aas}{H:Hp}:∀(ns:List Int) (xs:List V),ik K H xs (ns.map WData.int)->xs=ns.map V.int
 |[],xs,h=>by
  cases h;rfl
 |n::r,xs,h=>by
  cases h with
  |cons h1 h2 =>
   cases h1;rw[tZ r _ h2] <;> rfl
section
variable {P:Program}{w:World}{K:aas}{H:Hp}{h:Heap}{R:PySem.W.WRecords}{cl:Str->Option Addr}
theorem Ic {a:Addr} {xs:List V} (bu:iy P w H h) (KX:K.In h) (q:aO K H a xs):∃(LO:aaw) (o:Obj) (n:Nat),Vals xs LO/\h.get? a=some o/\o.cls=.type "list"/\o.data=.seq LO.toArray n:=by
 rcases q with q|⟨o,LO,n,e,hc,_,hd,_,hv⟩
 · obtain⟨_,LO,n,hv,e⟩:=(show bM P w H h a (.lst xs) from q.ok bu);exact⟨LO,_,n,hv,e,rfl,rfl⟩
 · exact⟨LO.toList,o,n,hv,KX _ _ e,hc,by simp[hd]⟩
theorem Hl {a:Addr}{xs:List V}(bu:iy P w H h)(KX:K.In h)(q:b6 K H a xs):∃(LO:aaw) (o:Obj) (n:Nat),Vals xs LO/\h.get? a=some o/\o.cls=.type "tuple"/\o.data=.seq LO.toArray n:=by
 rcases q with q|⟨o,LO,n,e,hc,hd,_,hv⟩
 · obtain⟨_,LO,hv,o,e,hc,n,hd⟩:=(show bM P w H h a (.tup xs) from q.ok bu);exact⟨LO,o,n,hv,e,hc,hd⟩
 · exact⟨LO.toList,o,n,hv,KX _ _ e,hc,by simp[hd]⟩
mutual
theorem Dw.reads (bu:iy P w H h)(KX:K.In h):∀(d:WData) (v:V) (u:Value),Dw K H v d->RelV v u->∃as,ReadsW R cl h u d as
 |.none,_,_,x,r=>by
  cases x;cases r;exact⟨_,ReadsW.none⟩
 |.bool b,_,_,x,r=>by
  cases x;cases r;exact⟨_,ReadsW.bool b⟩
 |.int i,_,_,x,r=>by
  cases x;obtain⟨t,rfl⟩:=r;exact⟨_,ReadsW.int i t⟩
 |.str s,_,_,x,r=>by
  cases x;obtain⟨t,rfl⟩:=r;exact⟨_,ReadsW.str s t⟩
 |.bytes b,_,_,x,r=>by
  cases x;obtain⟨t,rfl⟩:=r;exact⟨_,ReadsW.bytes _ t⟩
 |.list ds,_,_,x,r=>by
  cases x with
  |lst hs ha =>
   cases r;obtain⟨LO,o,n,rv,ho,hc,hd⟩:=Ic bu KX hs;obtain⟨as,hr⟩:=Dw.readsAll bu KX ds _ LO ha rv;exact⟨_,ReadsW.list ho hc hd hr⟩
 |.tuple ds,_,_,x,r=>by
  cases x with
  |tup hs ha =>
   cases r;obtain⟨LO,o,n,rv,ho,hc,hd⟩:=Hl bu KX hs;obtain⟨as,hr⟩:=Dw.readsAll bu KX ds _ LO ha rv;exact⟨_,ReadsW.tuple ho hc hd hr⟩
 |.float _,_,_,x,_=>by cases x
 |.dict _,_,_,x,_=>by cases x
 |.bytearray _,_,_,x,_=>by cases x
 |.set _,_,_,x,_=>by cases x
 |.frozenset _,_,_,x,_=>by cases x
 |.obj _ _,_,_,x,_=>by cases x
theorem Dw.readsAll (bu:iy P w H h)(KX:K.In h):∀(ds:List WData) (vs:List V) (us:aaw),ik K H vs ds->Vals vs us->∃as,ReadsAllW R cl h us ds as
 |[],_,_,x,r=>by
  cases x;cases r;exact⟨_,ReadsAllW.nil⟩
 |d::ds,_,_,x,r=>by
  cases x with
  |cons h1 h2 =>
   cases r with
   |cons r1 r2 =>
    obtain⟨as,q1⟩:=Dw.reads bu KX d _ _ h1 r1;obtain⟨bs,q2⟩:=Dw.readsAll bu KX ds _ _ h2 r2;exact⟨_,ReadsAllW.cons q1 q2⟩
end
end
mutual
def yj:WData->Bool
 |.none=>true
 |.bool _=>true
 |.int _=>true
 |.str _=>true
 |.bytes _=>true
 |.list xs=>ot xs
 |.tuple xs=>ot xs
 |_=>false
def ot:List WData->Bool
 |[]=>true
 |x::r=>yj x&&ot r
end
theorem vk {α:Type}{f:α->WData}(h:∀a,yj (f a)=true):∀l:List α,ot (l.map f)=true
 |[]=>rfl
 |x::r=>by
  show (yj (f x)&&ot (r.map f))=true;rw[h x,vk h r] <;> rfl
theorem jK:∀(c:Codec) (a:c.denote),yj (c.enc a)=true
 |.unit,_=>rfl
 |.bool,_=>rfl
 |.int _ _,_=>rfl
 |.nat _ _,_=>rfl
 |.u8,_=>rfl
 |.bytes _ _,_=>rfl
 |.text _ _ _ _,_=>rfl
 |.list _ _ c,a=>vk (λx=>jK c x) a
 |.pair c d,a=>by
  show (yj (c.enc a.1)&&(yj (d.enc a.2)&&true))=true;rw[jK c a.1,jK d a.2] <;> rfl
 |.triple c d e,a=>by
  show (yj (c.enc a.1)&&(yj (d.enc a.2.1)&&(yj (e.enc a.2.2)&&true)))=true;rw[jK c a.1,jK d a.2.1,jK e a.2.2] <;> rfl
 |.option c,none=>rfl
 |.option c,some x=>jK c x
theorem qZ:∀(cs:List Codec) (a:Codec.denoteAll cs),ot (Codec.encAll cs a)=true
 |[],_=>rfl
 |c::cs,a=>by
  show (yj (c.enc a.1)&&ot (Codec.encAll cs a.2))=true;rw[jK c a.1,qZ cs a.2] <;> rfl
theorem ly:∀{xs:List WData} {d:WData},d∈xs->d.weight<=WData.weightAll xs
 |[],d,h=>absurd h (by simp)
 |x::r,d,h=>by
  show d.weight<=x.weight+1+WData.weightAll r;rcases XN.mp h with e|m
  · rw[e];omega
  · have z:=ly m;omega
def toV:Value->V
 |.none=>.b8
 |.bool b=>.bl b
 |.int i _=>.int i
 |.str x _=>.str x
 |.bytes b _=>.wg b
 |.ref a=>.ref a
 |_=>.b8
def zH (A:List Addr):Value->Prop
 |.none=>True
 |.bool _=>True
 |.int _ _=>True
 |.str _ _=>True
 |.bytes _ _=>True
 |.ref a=>a∈A
 |_=>False
theorem zH.mono {A B:List Addr}(h:∀a∈A,a∈B):∀{u:Value},zH A u->zH B u:=λ{u} x=>by
 cases u with
 |ref a=>exact h a x
 |none=>trivial
 |bool b=>trivial
 |int i t=>trivial
 |str s t=>trivial
 |bytes b t=>trivial
 |_=>exact False.elim x
theorem AW {A:List Addr}{u:Value}(x:zH A u):RelV (toV u) u:=by
 cases u with
 |ref a=>rfl
 |none=>rfl
 |bool b=>rfl
 |int i t=>exact⟨t,rfl⟩
 |str s t=>exact⟨t,rfl⟩
 |bytes b t=>exact⟨t,rfl⟩
 |_=>exact False.elim x
theorem il {A:List Addr}:∀{vs:aaw},(∀u∈vs,zH A u)->Vals (vs.map toV) vs
 |[],_=>.nil
 |u::r,h=>.cons (AW (h u (Yt ..))) (il λx hx=>h x (X2 _ hx))
def jo (h:Heap)(A:List Addr)(a:Addr):Prop:=∃vs:aaw,vs.length<=sizeLine/\(∀u∈vs,zH A u) /\
 (h.get? a=some {cls:=.type "list",data:=.seq vs.toArray}∨h.get? a=some {cls:=.type "tuple",data:=.seq vs.toArray})
theorem jo.mono {h:Heap}{A B:List Addr}{a:Addr}(k:∀a∈A,a∈B)(x:jo h A a):jo h B a:=by
 obtain⟨vs,h1,h2,h3⟩:=x;exact⟨vs,h1,λu hu=>(h2 u hu).mono k,h3⟩
theorem gR {P:Params}{h:Heap}:∀{vs:aaw} {ds:List WData},WellAll P h vs ds->vs.length=ds.length
 |_,_,.nil=>rfl
 |_,_,.cons _ b=>by
  show _+1=_+1;rw[gR b]
theorem rL {P:Params}{h:Heap}{v:Value}{ds:List WData}(x:Well P h v (.list ds)):∃(a:Addr) (vs:aaw),v=.ref a/\h.get? a=some {cls:=.type "list",data:=.seq vs.toArray}/\WellAll P h vs ds:=by
 cases x with
 |list ho L1=>exact⟨_,_,rfl,ho,L1⟩
theorem pP {P:Params}{h:Heap}{v:Value}{ds:List WData}(x:Well P h v (.tuple ds)):∃(a:Addr) (vs:aaw),v=.ref a/\h.get? a=some {cls:=.type "tuple",data:=.seq vs.toArray}/\WellAll P h vs ds:=by
 cases x with
 |tuple ho L1=>exact⟨_,_,rfl,ho,L1⟩
theorem rP {P:Params}{h:Heap}{us:aaw}{d:WData}{ds:List WData}(x:WellAll P h us (d::ds)):∃(v:Value) (vs:aaw),us=v::vs/\Well P h v d/\WellAll P h vs ds:=by
 cases x with
 |cons a b=>exact⟨_,_,rfl,a,b⟩
theorem zi {n:Nat}(h:n<=1048576):n<=sizeLine:=Yu h (by decide)
section
variable {P:Params}{h:Heap}
mutual
theorem Bq:∀(d:WData) (v:Value),Well P h v d->yj d=true->d.weight<=1048576->∃A:List Addr,zH A v/\∀a∈A,jo h A a
 |.none,_,x,_,_=>by
  cases x;exact⟨[],trivial,λa m=>absurd m (by simp)⟩
 |.bool b,_,x,_,_=>by
  cases x;exact⟨[],trivial,λa m=>absurd m (by simp)⟩
 |.int i,_,x,_,_=>by
  cases x;exact⟨[],trivial,λa m=>absurd m (by simp)⟩
 |.str s,_,x,_,_=>by
  cases x;exact⟨[],trivial,λa m=>absurd m (by simp)⟩
 |.bytes b,_,x,_,_=>by
  cases x;exact⟨[],trivial,λa m=>absurd m (by simp)⟩
 |.list ds,_,x,p,z=>by
  obtain⟨a,vs,rfl,ho,L1⟩:=rL x;have z2:WData.weightAll ds<=1048576:=z;obtain⟨A,h1,h2⟩:=mn ds _ L1 p λd hd=>Yu (ly hd) z2;have k:∀b∈A,b∈a::A:=λb hb=>X2 _ hb;refine⟨a::A,Yt ..,λb hb=>?_⟩;rcases XN.mp hb with e|m
  · rw[e];exact⟨vs,zi (by rw[gR L1];exact Yu (PySem.W.length_le_weightAllW ds) z2),λu hu=>(h1 u hu).mono k,.inl ho⟩
  · exact (h2 b m).mono k
 |.tuple ds,_,x,p,z=>by
  obtain⟨a,vs,rfl,ho,L1⟩:=pP x;have z2:WData.weightAll ds<=1048576:=z;obtain⟨A,h1,h2⟩:=mn ds _ L1 p λd hd=>Yu (ly hd) z2;have k:∀b∈A,b∈a::A:=λb hb=>X2 _ hb;refine⟨a::A,Yt ..,λb hb=>?_⟩;rcases XN.mp hb with e|m
  · rw[e];exact⟨vs,zi (by rw[gR L1];exact Yu (PySem.W.length_le_weightAllW ds) z2),λu hu=>(h1 u hu).mono k,.inr ho⟩
  · exact (h2 b m).mono k
 |.float _,_,_,p,_=>Bool.noConfusion (show false=true from p)
 |.dict _,_,_,p,_=>Bool.noConfusion (show false=true from p)
 |.bytearray _,_,_,p,_=>Bool.noConfusion (show false=true from p)
 |.set _,_,_,p,_=>Bool.noConfusion (show false=true from p)
 |.frozenset _,_,_,p,_=>Bool.noConfusion (show false=true from p)
 |.obj _ _,_,_,p,_=>Bool.noConfusion (show false=true from p)
theorem mn:∀(ds:List WData) (vs:aaw),WellAll P h vs ds->ot ds=true->(∀d∈ds,d.weight<=1048576)->∃A:List Addr,(∀u∈vs,zH A u)/\∀a∈A,jo h A a
 |[],_,x,_,_=>by
  cases x;exact⟨[],λu m=>absurd m (by simp),λa m=>absurd m (by simp)⟩
 |d::ds,_,x,p,z=>by
  obtain⟨v,vs,rfl,x1,x2⟩:=rP x;have q:yj d=true/\ot ds=true:=aad.mp p;obtain⟨A,a1,a2⟩:=Bq d v x1 q.1 (z d (Yt ..));obtain⟨B,b1,b2⟩:=mn ds vs x2 q.2 λe he=>z e (X2 _ he);have kA:∀b∈A,b∈A++B:=λb hb=>Yw.mpr (.inl hb);have kB:∀b∈B,b∈A++B:=λb hb=>Yw.mpr (.inr hb);refine⟨A++B,λu hu=>?_,λb hb=>?_⟩
  · rcases XN.mp hu with e|m
    · rw[e];exact a1.mono kA
    · exact (b1 u m).mono kB
  · rcases Yw.mp hb with m|m
    · exact (a2 b m).mono kA
    · exact (b2 b m).mono kB
end
end
def DZ (o:Obj):Option HO:=match o.data with
 |.seq vs _=>if (o.cls==Value.type "list")=true then some (.frz o (.lst (vs.toList.map toV))) else some (.frz o (.tup (vs.toList.map toV)))
 |_=>none
def jf (K:aas)(h:Heap)(A:List Addr):Hp:=λb=>if b∈A then (if (K.lookup b).isNone=true then (h.get? b).bind DZ else none) else none
def uR (H:Hp):Prop:=∀b,H b=none∨∃o u,H b=some (.frz o u)
theorem vv (vs:aaw):DZ {cls:=.type "list",data:=.seq vs.toArray}=some (.frz {cls:=.type "list",data:=.seq vs.toArray} (.lst (vs.map toV))):=by
 show (if (Value.type "list"==Value.type "list")=true then some (HO.frz {cls:=.type "list",data:=.seq vs.toArray} (.lst (vs.toArray.toList.map toV))) else some (HO.frz {cls:=.type "list",data:=.seq vs.toArray} (.tup (vs.toArray.toList.map toV))))=_;rw[XJ (beq_self_eq_true _)]
theorem vT (vs:aaw):DZ {cls:=.type "tuple",data:=.seq vs.toArray}=some (.frz {cls:=.type "tuple",data:=.seq vs.toArray} (.tup (vs.map toV))):=by
 show (if (Value.type "tuple"==Value.type "list")=true then some (HO.frz {cls:=.type "tuple",data:=.seq vs.toArray} (.lst (vs.toArray.toList.map toV))) else some (HO.frz {cls:=.type "tuple",data:=.seq vs.toArray} (.tup (vs.toArray.toList.map toV))))=_;rw[XI (by decide)]
section
variable {P:Program}{w:World}{K:aas}{h:Heap}{A:List Addr}
theorem oG {b:Addr} {o:Obj} (hb:b∈A) (hk:K.lookup b=none) (e:h.get? b=some o):jf K h A b=DZ o:=by
 unfold jf;rw[XJ hb,hk,XJ (show (none:Option Obj).isNone=true from rfl),e] <;> rfl
theorem Fs {b:Addr}{u:HO}(q:jf K h A b=some u):b∈A/\K.lookup b=none:=by
 unfold jf at q;by_cases hb:b∈A
 · rw[XJ hb] at q;cases hk:K.lookup b with
   |none=>exact⟨hb,rfl⟩
   |some o =>
    rw[hk,XI (by simp)] at q;cases q
 · rw[XI hb] at q;cases q
theorem oO (ar:∀a∈A,jo h A a){b:Addr}{u:HO}(q:jf K h A b=some u):K.lookup b=none/\∃vs:aaw,vs.length<=sizeLine/\(∀u∈vs,zH A u) /\
  ((h.get? b=some {cls:=.type "list",data:=.seq vs.toArray}/\u=.frz {cls:=.type "list",data:=.seq vs.toArray} (.lst (vs.map toV))) ∨
   (h.get? b=some {cls:=.type "tuple",data:=.seq vs.toArray}/\u=.frz {cls:=.type "tuple",data:=.seq vs.toArray} (.tup (vs.map toV)))):=by
 obtain⟨hb,hk⟩:=Fs q;obtain⟨vs,h1,h2,h3⟩:=ar b hb;refine⟨hk,vs,h1,h2,?_⟩;rcases h3 with e|e
 · rw[oG hb hk e,vv] at q;exact .inl ⟨e,(Yl q).symm⟩
 · rw[oG hb hk e,vT] at q;exact .inr ⟨e,(Yl q).symm⟩
theorem AD (ar:∀a∈A,jo h A a):uR (jf K h A):=λb=>by
 cases q:jf K h A b with
 |none=>exact .inl rfl
 |some u =>
  obtain⟨_,vs,_,_,⟨_,e⟩|⟨_,e⟩⟩:=oO ar q
  · exact .inr ⟨_,_,by rw[e]⟩
  · exact .inr ⟨_,_,by rw[e]⟩
theorem Dl (ar:∀a∈A,jo h A a):iy P w (jf K h A) h:=λb u q=>by
 obtain⟨_,vs,h1,h2,⟨e,rfl⟩|⟨e,rfl⟩⟩:=oO ar q
 · exact⟨e,by rw[XH];exact h1,vs,_,il h2,e⟩
 · exact⟨e,by rw[XH];exact h1,vs,il h2,_,e,rfl,_,rfl⟩
theorem oH {c c':Value}{vs us:aaw}(e:(some {cls:=c,data:=.seq vs.toArray}:Option Obj)=some {cls:=c',data:=.seq us.toArray}):c=c'/\vs=us:=by
 have e1:=Yl e;have e2:c=c':=YN Obj.cls e1;have e3:Data.seq vs.toArray=Data.seq us.toArray:=YN Obj.data e1;injection e3 with e4;refine⟨e2,?_⟩;have e5:=YN Array.toList e4;simpa using e5
theorem Lb (KX:K.In h)(ar:∀a∈A,jo h A a){a:Addr}{vs:aaw}(ha:a∈A)(e:h.get? a=some {cls:=.type "list",data:=.seq vs.toArray}):(∀u∈vs,zH A u)/\aO K (jf K h A) a (vs.map toV):=by
 obtain⟨us,h1,h2,h3⟩:=ar a ha;have hu:us=vs:=by
  rcases h3 with q|q
  · rw[e] at q;exact (oH q).2.symm
  · rw[e] at q;exact absurd (Value.type.inj (oH q).1) (by decide)
 subst hu;refine⟨h2,?_⟩;cases hk:K.lookup a with
 |none=>exact .inl (.inr ⟨_,by rw[oG ha hk e,vv]⟩)
 |some o =>
  have e2:=KX a o hk;rw[e] at e2;obtain rfl:=Yl e2;exact .inr ⟨_,us.toArray,_,hk,rfl,rfl,rfl,by rw[X5];exact h1,by simpa using il h2⟩
theorem Kg (KX:K.In h)(ar:∀a∈A,jo h A a){a:Addr}{vs:aaw}(ha:a∈A)(e:h.get? a=some {cls:=.type "tuple",data:=.seq vs.toArray}):(∀u∈vs,zH A u)/\b6 K (jf K h A) a (vs.map toV):=by
 obtain⟨us,h1,h2,h3⟩:=ar a ha;have hu:us=vs:=by
  rcases h3 with q|q
  · rw[e] at q;exact absurd (Value.type.inj (oH q).1) (by decide)
  · rw[e] at q;exact (oH q).2.symm
 subst hu;refine⟨h2,?_⟩;cases hk:K.lookup a with
 |none=>exact .inl (.inr ⟨_,by rw[oG ha hk e,vT]⟩)
 |some o =>
  have e2:=KX a o hk;rw[e] at e2;obtain rfl:=Yl e2;exact .inr ⟨_,us.toArray,_,hk,rfl,rfl,by rw[X5];exact h1,by simpa using il h2⟩
mutual
theorem HA {Pm:Params}(KX:K.In h)(ar:∀a∈A,jo h A a):∀(d:WData) (v:Value),Well Pm h v d->yj d=true->zH A v->Dw K (jf K h A) (toV v) d
 |.none,_,x,_,_=>by
  cases x;exact .b8
 |.bool b,_,x,_,_=>by
  cases x;exact .bl b
 |.int i,_,x,_,_=>by
  cases x;exact .int i
 |.str s,_,x,_,_=>by
  cases x;exact .str s
 |.bytes b,_,x,_,_=>by
  cases x;have z:=Dw.wg (K:=K) (H:=jf K h A) b.toArray;exact z
 |.list ds,_,x,p,hu=>by
  obtain⟨a,vs,rfl,ho,L1⟩:=rL x;obtain⟨h2,hs⟩:=Lb KX ar hu ho;exact .lst hs (sW KX ar ds _ L1 p h2)
 |.tuple ds,_,x,p,hu=>by
  obtain⟨a,vs,rfl,ho,L1⟩:=pP x;obtain⟨h2,hs⟩:=Kg KX ar hu ho;exact .tup hs (sW KX ar ds _ L1 p h2)
 |.float _,_,_,p,_=>Bool.noConfusion (show false=true from p)
 |.dict _,_,_,p,_=>Bool.noConfusion (show false=true from p)
 |.bytearray _,_,_,p,_=>Bool.noConfusion (show false=true from p)
 |.set _,_,_,p,_=>Bool.noConfusion (show false=true from p)
 |.frozenset _,_,_,p,_=>Bool.noConfusion (show false=true from p)
 |.obj _ _,_,_,p,_=>Bool.noConfusion (show false=true from p)
theorem sW {Pm:Params}(KX:K.In h)(ar:∀a∈A,jo h A a):∀(ds:List WData) (vs:aaw),WellAll Pm h vs ds->ot ds=true->(∀u∈vs,zH A u)->ik K (jf K h A) (vs.map toV) ds
 |[],_,x,_,_=>by
  cases x;exact .nil
 |d::ds,_,x,p,hu=>by
  obtain⟨v,vs,rfl,x1,x2⟩:=rP x;have q:yj d=true/\ot ds=true:=aad.mp p;exact .cons (HA KX ar d v x1 q.1 (hu _ (Yt ..))) (sW KX ar ds vs x2 q.2 λu m=>hu u (X2 _ m))
end
end
theorem Aj {P:Program}{w:World}{K:aas}{mg mb:aau}{CX:mx}{k:Nat}{fa:Addr}{fd:FuncData}{ps:List Str}{sp:Sp}{s₁:Shared}{vals:aaw}{ds:List WData}{R:PySem.W.WRecords}{cl:Str->Option Addr}{d0:WData}
  (KX:K.In s₁.heap)(O2:s₁.heap.Ns mainGlobals mg)(hb:s₁.heap.Ns builtinsNs mb)(VM:∀x:Str,x≠"__name__"->mb x=bootBuiltins x)(Rk:s₁.heap.NoLimit)(hg:s₁.gens=#[])
  (M6:WellAll w.params s₁.heap vals ds)(LY:ot ds=true)(VN:∀d∈ds,d.weight<=1048576)(hr:cO k callerA)
  (F:∀base:Heap,K.In base->base.Ns mainGlobals mg->a9 P w K mg base CX k fa fd ps sp)(O3:∀(s:Shared) (us:aaw),us.length=ps.length->BindsTo s fd ⟨us,[]⟩ (ps.zip us))(hlen:ds.length=ps.length)
  (Mq:∀(H:Hp) (xs:List V),uR H->ik K H xs ds->sp xs H (λv H'=>Dw K H' v d0) λ_ _ _=>False)
  (O4:∀H e s',CX [] H s₁ (λ_ _ _=>False) e s'->False) :
  codeAny (model P w) callerA (.call (.ref fa) ⟨vals,[]⟩) (λr s'=>∃u as,r=.ok (.ret u)/\ReadsW R cl s'.heap u d0 as/\OldK s₁.heap s'.heap/\s'.os=s₁.os/\AllBare s'.gens) s₁:=by
 obtain⟨A,ho,ar⟩:=mn ds vals M6 LY VN;have hO:uR (jf K s₁.heap A):=AD ar;have bu:iy P w (jf K s₁.heap A) s₁.heap:=Dl ar;have hS:=sW KX ar ds vals M6 LY ho;have hV:=il ho;have hK:∀b u,jf K s₁.heap A b=some u->K.lookup b=none:=λb u q=>(oO ar q).1;have Oi:∀{b:Addr} {o:Obj} {es:Array DictEntry} {ep:Nat},s₁.heap.get? b=some o->o.data=.dict es ep->jf K s₁.heap A b=none:=λ{b o es ep} e d=>by
  cases q:jf K s₁.heap A b with
  |none=>rfl
  |some u =>
   obtain⟨_,vs,_,_,⟨e2,_⟩|⟨e2,_⟩⟩:=oO ar q
   · rw[e2] at e;cases e;have d':Data.seq vs.toArray _=Data.dict es ep:=d;cases d'
   · rw[e2] at e;cases e;have d':Data.seq vs.toArray _=Data.dict es ep:=d;cases d'
 generalize jf K s₁.heap A=H at hO bu hS hK Oi;have MA:∀{b:Addr} {o:Obj},s₁.heap.get? b=some o->H b=none->(tE s₁.heap H).get? b=some o:=λe n=>A6 e n;have De:∀{b:Addr} {m:aau},s₁.heap.Ns b m->(tE s₁.heap H).Ns b m:=λ{b m} ⟨o,es,ep,e,d,r⟩=>⟨o,es,ep,MA e (Oi e d),d,r⟩;have nK:∀b o,K.lookup b=some o->H b=none:=λb o e=>by
  cases q:H b with
  |none=>rfl
  |some u =>
   rw[hK b u q] at e;cases e
 have SS:K.In (tE s₁.heap H):=λb o e=>MA (KX b o e) (nK b o e);have hM:Mod K mg (tE s₁.heap H):=⟨SS,De O2,⟨mb,De hb,VM⟩,let ⟨mc,h1,h2⟩:=Rk;⟨mc,De h1,h2⟩⟩;have e0:wY P w K mg (tE s₁.heap H) callerA [] s₁ H:=⟨rfl,hM,λb o e=>Ej e,aak (Ai _ _),trivial,λb hb=>absurd (show b∈([]:List Addr) from hb) (by simp),bu,.of_eq hg⟩;have hl:vals.length=ps.length:=by rw[gR M6];exact hlen
 refine aai ((F _ SS (De O2)).run callerA [] s₁ H ⟨vals,[]⟩ vals (vals.map toV) _ _ hr e0 (O3 s₁ vals hl) hV (Mq H _ hO hS)) λr s' x=>?_;cases r with
 |error e=>exact (O4 H e s' x).elim
 |ok fl =>
  cases fl with
  |next=>exact False.elim x
  |brk=>exact False.elim x
  |cont=>exact False.elim x
  |ret u =>
   obtain⟨v,H',os,bare,un,O5,r',q⟩:=x;have kept:∀b o,s₁.heap.get? b=some o->s'.heap.get? b=some o:=λb o e=>by
    cases q2:H b with
    |none=>exact un.keep b o e q2 (by intro z;exact absurd (show b∈([]:List Addr) from z) (by simp)) (by simp)
    |some u2 =>
     rcases hO b with z|⟨ob,u3,z⟩
     · rw[q2] at z;cases z
     · have z2:=un.nq b ob _ z;obtain⟨e1,_⟩:=bu b _ z;obtain⟨e2,_⟩:=O5 b _ z2;rw[e] at e1;cases e1;exact e2
   have VO:K.In s'.heap:=λb o e=>kept b o (KX b o e);obtain⟨as,SU⟩:=Dw.reads (R:=R) (cl:=cl) O5 VO d0 v u q r';exact⟨u,as,rfl,SU,OldK.of_keep kept,os,bare⟩
theorem o6 {ds:List WData}(h:WData.layableAll ds=true):∀d∈ds,d.weight<=1048576:=λd hd =>
 (PySem.W.layableW_iff.mp (Yd.mp h d hd)).2.2
theorem oY:∀(cs:List Codec) (a:Codec.denoteAll cs),(Codec.encAll cs a).length=cs.length
 |[],_=>rfl
 |c::cs,a=>by
  show (Codec.encAll cs a.2).length+1=cs.length+1;rw[oY cs a.2]
theorem Ao {r:OpenSpec}{k:Nat}{q:Program}{loose:List Str}{XP:(Str->Option Value)->Heap->Prop}{YP:World->Heap->Prop}{d:DefRec}{K:Params->aas}{CX:World->mx}{ps:List Str}{sp:World->Sp}
  (MR:r.wellSaid=true)(SV:d.params.defaults=[])(hlen:r.args.length=ps.length)(hr:cO k callerA)
  (hY:∀(w:World) (h:Heap),YP w h->(K w.params).In h)
  (F:∀(w:World) (mg:aau) (fa:Addr) (h:Heap),YP w h->(K w.params).In h->h.Ns mainGlobals mg->mg d.name=some (.ref fa) ->
   ∃fd:FuncData,(∀(s:Shared) (us:aaw),us.length=ps.length->BindsTo s fd ⟨us,[]⟩ (ps.zip us)) /\
    ∀base:Heap,(K w.params).In base->base.Ns mainGlobals mg->a9 r.prog w (K w.params) mg base (CX w) k fa fd ps (sp w))
  (Mq:∀(w:World) (H:Hp) (xs:List V) (a:Codec.denoteAll r.args),uR H->Codec.withinAll r.args a=true->Codec.app r.args r.asked a=true->ik (K w.params) H xs (Codec.encAll r.args a) ->
   sp w xs H (λv H'=>Dw (K w.params) H' v (r.ret.enc (Codec.app r.args r.f a))) λ_ _ _=>False)
  (O4:∀(w:World) (H:Hp) (s:Shared) (e:Value) (s':Shared),CX w [] H s (λ_ _ _=>False) e s'->False) :
  PySem.W.WalkOS q loose XP YP r d [] (λf vs=>PySem.call f vs):=by
 intro w kN s₁ mg mb G Y fa o pm cd doc dV kV ho hd Mp hD O6 hg args vals as Rl Rm SU M6 QP;obtain⟨a,e1,e2⟩:=PySem.W.os_pre_some Rl;obtain⟨e3,Oo⟩:=Codec.encAll_of_decAll r.args args a e1;subst e3;have KX:=hY w _ Y;obtain⟨fd,hb,hF⟩:=F w mg fa _ Y KX G.T.g O6;refine PySem.W.enter_call (aai (Aj (R:=[]) (cl:=classAt kN.heap) (d0:=r.ret.enc (Codec.app r.args r.f a)) KX G.T.g G.T.b G.T.builtins G.T.nolimit hg M6 (qZ _ _) (o6 Rm) hr hF hb (by rw[oY];exact hlen)
  (λH xs hO hS=>Mq w H xs a hO Oo e2 hS) λH e s'=>O4 w H s₁ e s') λr' s' hq=>?_)
 obtain⟨u,VP,rfl,h1,h2,h3,h4⟩:=hq;exact⟨.inl ⟨u,_,VP,rfl,λ_=>rfl,h1,(OpenSpec.post_iff MR Oo _ _).mpr rfl,λz=>Bool.noConfusion (show false=true from z)⟩,h2,h3,h4⟩
theorem ye {r:OpenSpec}{k:Nat}{q:Program}{loose:List Str}{XP:(Str->Option Value)->Heap->Prop}{YP:World->Heap->Prop}{d:DefRec}{K:Params->aas}{CX:mx}{ps:List Str}{sp:aas->Sp}
  (MR:r.wellSaid=true)(SV:d.params.defaults=[])(hlen:r.args.length=ps.length)(hr:cO k callerA)
  (hY:∀(w:World) (h:Heap),YP w h->(K w.params).In h)
  (F:∀(w:World) (mg:aau) (fa:Addr) (h:Heap),YP w h->(K w.params).In h->h.Ns mainGlobals mg->mg d.name=some (.ref fa) ->
   ∃fd:FuncData,(∀(s:Shared) (us:aaw),us.length=ps.length->BindsTo s fd ⟨us,[]⟩ (ps.zip us)) /\
    ∀base:Heap,(K w.params).In base->base.Ns mainGlobals mg->a9 r.prog w (K w.params) mg base CX k fa fd ps (sp (K w.params)))
  (Mq:∀(K:aas) (H:Hp) (xs:List V) (a:Codec.denoteAll r.args),uR H->Codec.withinAll r.args a=true->Codec.app r.args r.asked a=true->ik K H xs (Codec.encAll r.args a) ->
   sp K xs H (λv H'=>Dw K H' v (r.ret.enc (Codec.app r.args r.f a))) λ_ _ _=>False)
  (O4:∀(H:Hp) (s:Shared) (e:Value) (s':Shared),CX [] H s (λ_ _ _=>False) e s'->False) :
  PySem.W.WalkOS q loose XP YP r d [] (λf vs=>PySem.call f vs) :=
 Ao (K:=K) (CX:=λ_=>CX) (sp:=λw=>sp (K w.params)) MR SV hlen hr hY F (λw H xs a h1 h2 h3 h4=>Mq (K w.params) H xs a h1 h2 h3 h4) λ_ H s e s'=>O4 H s e s'
end L2
end
namespace L2
open PySem PySem.Spec PyProof.Rows
abbrev bF:mx:=λ_ _ _ _ _ _=>False
abbrev E0:XK:=λ_ _ _=>False
theorem bc {X:Cx}:Passes bF X E0:=λ_ _ _ _ _ _ _ h=>h.elim
structure dm (K:aas)(x qual:Str)(st:Stmt)(f:Addr)(fd:FuncData):Prop where
 ex:∃(oc:Value) (od:Option Addr) (kV doc pm:Value) (an:Option Addr) (LP ct:Value) (MG:Array (Option Value)),
  fd=PySem.W.fnOf x qual (cY st) (bZ st) (aw st) .none kV doc pm an LP ct/\K.lookup f=some ⟨oc,od,.func fd,MG⟩/\PySem.W.codeIn K LP qual=true
 kp:PySem.W.keepIn K (.ref f)=true
section
variable {P:Program}{w:World}{K:aas}{mg:aau}{base:Heap}
theorem dm.ok {x qual:Str} {st:Stmt} {f:Addr} {fd:FuncData} {N ps:List Str} {k:Nat} {sp:Sp} (F:dm K x qual st f fd) (S:aG N ps (aw st)) (len:∀vs H Q E,sp vs H Q E->vs.length=ps.length)
  (LW:∀(LP:Value) (A:Around) (outer:List Env) (s:Shared) (H:Hp) (vs:List V) (Q:VK) (E:XK),cO k (A.deeper (envOfC qual (aw st) s.heap.objs.size f LP))->sp vs H Q E ->
   ∃t,qR (nj bF P w K mg base N qual (aw st) f LP A outer s H E).HS (bZ st) t/\t {nx:=λ_ H'=>Q .b8 H',rt:=Q} (start N vs) H):a9 P w K mg base bF (k+1) f fd ps sp:=by
 obtain⟨oc,od,kV,doc,pm,an,LP,ct,MG,rfl,lk,Mp⟩:=F.ex;refine F8 lk Mp S len λA outer s H vs Q E hr Mq=>?_;obtain⟨t,h,q⟩:=LW LP A outer s H vs Q E hr Mq;exact⟨t,h.HS,q⟩
theorem dm.binds {x qual:Str}{st:Stmt}{f:Addr}{fd:FuncData}{ps:List Str}(F:dm K x qual st f fd)
  (h:∀(kV doc pm:Value) (an:Option Addr) (LP ct:Value) (us:aaw),us.length=ps.length->bindArgs (PySem.W.fnOf x qual (cY st) (bZ st) (aw st) .none kV doc pm an LP ct) ⟨us,[]⟩=pure (ps.zip us)):Binds K fd ps []:=by
 obtain⟨oc,od,kV,doc,pm,an,LP,ct,MG,rfl,lk,Mp⟩:=F.ex;exact .all (h kV doc pm an LP ct)
theorem tX {x qual:Str}{st:Stmt}{f:Addr}{oc:Value}{od an:Option Addr}{MG:Array (Option Value)}{kV doc pm LP ct:Value}(l:K.lookup f=some ⟨oc,od,.func (PySem.W.fnOf x qual (cY st) (bZ st) (aw st) .none kV doc pm an LP ct),MG⟩)
  (c:PySem.W.codeIn K LP qual=true)(k:PySem.W.keepIn K (.ref f)=true):dm K x qual st f (PySem.W.fnOf x qual (cY st) (bZ st) (aw st) .none kV doc pm an LP ct):=⟨⟨oc,od,kV,doc,pm,an,LP,ct,MG,rfl,l,c⟩,k⟩
end
theorem vS {A:Around}{k:Nat}(hr:cO k A):A.units+1 < cLine:=Nat.lt_of_le_of_lt (Nat.add_le_add_left (by decide:1<=64) _) hr.units
section
variable {X:Cx}
theorem pv (i:Nat) {x:Str} {pos:Pos} (hN:X.N[i]?=some x:=by rfl) (hv:Iu X.env.scope x:=by first|exact Or.inl rfl|exact Or.inr (Or.inl rfl)|exact Or.inr (Or.inr rfl)) (hd:(x==("__debug__":Str))=false:=by decide)
  (Mp:(x==("__classdict__":Str))=false:=by decide):PE X (.Name x pos) (cJ i):=GL hN hv hd Mp
end
theorem v8 {A B:Prop}(h:B):if false=true then A else B:=by
 rw[XI X8];exact h
theorem p_ {A B:Prop}(h:A):if true=true then A else B:=by
 rw[XJ rfl];exact h
theorem gI {c A B:Prop} [Decidable c] (h1:c->A)(h2:¬c->B):if c then A else B:=by
 by_cases h:c
 · rw[XJ h];exact h1 h
 · rw[XI h];exact h2 h
def au (H H':Hp):Prop:=∀b o,H b=some o->H' b=some o
theorem au.refl (H:Hp):au H H:=λ_ _ h=>h
theorem au.trans {H H1 H2:Hp}(a:au H H1)(b:au H1 H2):au H H2:=λc o h=>b c o (a c o h)
theorem au.free {H H':Hp}(e:au H H'){l:Addr}(h:H' l=Option.none):H l=Option.none:=by
 cases q:H l with
 |none=>rfl
 |some o =>
  rw[e l o q] at h;cases h
theorem au.seq {K:aas}{H H':Hp}{a:Addr}{xs:List V}(e:au H H')(h:aO K H a xs):aO K H' a xs:=by
 rcases h with (h|⟨o,h⟩)|h
 · exact .inl (.inl (e _ _ h))
 · exact .inl (.inr ⟨o,e _ _ h⟩)
 · exact .inr h
section
variable {κ:Type} [DecidableEq κ]
end
end L2
end
set_option autoImplicit false
set_option linter.all false
set_option maxRecDepth 100000
set_option maxHeartbeats 2000000
namespace BwX
open PySem PySem.Calls PySem.Spec PyProof.Rows
structure Nt (fs ch:List Addr)(h g:Heap):Prop where
 keep:∀b o,h.get? b=some o->b∉fs->b∉ch->g.get? b=some o
 slot:∀b o,h.get? b=some o->b∉ch->∃sl,g.get? b=some {o with slots:=sl}
section
variable {fs ch Mj SW:List Addr}{h g k:Heap}
theorem Nt.refl (fs ch:List Addr) (h:Heap):Nt fs ch h h:=⟨λ_ _ e _ _=>e,λ_ o e _=>⟨o.slots,e⟩⟩
theorem Nt.trans (a:Nt fs ch h g)(b:Nt fs ch g k):Nt fs ch h k where
 keep:=λc o e hf hc=>b.keep c o (a.keep c o e hf hc) hf hc
 slot:=λc o e hc=>by
  obtain⟨_,e1⟩:=a.slot c o e hc;obtain⟨sl,e2⟩:=b.slot c _ e1 hc;exact⟨sl,e2⟩
theorem Nt.mono (a:Nt fs ch h g)(hf:∀b∈fs,b∈Mj)(hc:∀b∈ch,b∈SW):Nt Mj SW h g :=
 ⟨λb o e n m=>a.keep b o e (λz=>n (hf b z)) λz=>m (hc b z),λb o e m=>a.slot b o e λz=>m (hc b z)⟩
theorem Nt.push (o:Obj):Nt fs ch h (h.push o):=⟨λ_ _ e _ _=>XM o e,λ_ u e _=>⟨u.slots,XM o e⟩⟩
theorem Nt.upd {a:Addr}{f:Obj->Obj}(ha:a∈ch):Nt fs ch h (h.update a f):=by
 have kM:∀b,b∉ch->(h.update a f).get? b=h.get? b:=λb m=>ZG _ _ λz=>m (z ▸ ha);exact⟨λb o e _ m=>(kM b m).trans e,λb o e m=>⟨o.slots,(kM b m).trans e⟩⟩
theorem Nt.slots (so:Heap.SlotsOnly fs h g):Nt fs ch h g:=⟨λb o e n _=>(so.2.1 b n).trans e,λb o e _=>so.2.2 b o e⟩
end
def Rec (h:Heap)(a:Addr)(k:Value)(d:Option Addr)(vs:Array Value):Prop:=∃o,h.get? a=some o/\(o.cls=k/\o.dict=d)/\o.data=.fields vs
section
variable {M:Model}{A:Around}{E:aat}{s:Shared}{h g:Heap}{a:Addr}{k x:Value}{d:Option Addr}{vs:Array Value}{i:Nat}
theorem Rec.put (r:Rec h a k d vs):Rec (h.update a (Obj.mapFields (·.setIfInBounds i x))) a k d (vs.setIfInBounds i x):=by
 obtain⟨⟨oc,od,dt,sl⟩,e,c,dd⟩:=r;cases dd;exact⟨_,YG _ e rfl,c,rfl⟩
theorem Rec.over {fs ch:List Addr}(r:Rec h a k d vs)(N:Nt fs ch h g)(m:a∉ch):Rec g a k d vs:=by
 obtain⟨o,e,c,dd⟩:=r;obtain⟨sl,e'⟩:=N.slot a o e m;exact⟨_,e',c,dd⟩
theorem Rec.read {Q:aat}(r:Rec s.heap a k d vs)(hi:vs[i]?=some x)(q:Q x s):wpAny M A (field (.ref a) i) Q E s:=by
 obtain⟨o,e,_,dd⟩:=r;exact wpAny_field e dd hi q
theorem Rec.write {Q:Unit->Shared->Prop}(r:Rec s.heap a k d vs)(hi:i < vs.size)(q:Q () {s with heap:=s.heap.update a (Obj.mapFields (·.setIfInBounds i x))}):wpAny M A (setField (.ref a) i x) Q E s:=by
 obtain⟨o,e,_,dd⟩:=r;exact wpAny_setField e dd hi q
end
def kJ (h0 h:Heap)(e:Addr)(k:Value)(dx:Addr)(p:Option (Addr×Value)):Prop :=
 ∃vs,(Rec h e k (some dx) vs/\h0.get? e=none) /\
  match p with
  |none=>vs[1]?=some .none
  |some (T,fl)=>vs[1]?=some (.ref T)/\T≠e/\h0.get? T=none/\∃c d ts,Rec h T c d ts/\ts[3]?=some fl
def jJ (e:Addr)(p:Option (Addr×Value)):List Addr:=e::p.toList.map (·.1)
section
variable {h0 h1 h:Heap}{e dx:Addr}{k:Value}{p:Option (Addr×Value)}
theorem kJ.yA (F:kJ h0 h e k dx p):∀b∈jJ e p,h0.get? b=none/\∃c d vs,Rec h b c d vs:=by
 obtain⟨vs,⟨r,n⟩,q⟩:=F;intro b hb;cases p with
 |none =>
  obtain rfl:b=e:=by simpa [jJ] using hb
  exact⟨n,_,_,_,r⟩
 |some p =>
  obtain⟨_,_,nT,c,d,ts,rT,_⟩:=q;have hb:b=e∨b=p.1:=by simpa [jJ] using hb
  rcases hb with rfl|rfl
  · exact⟨n,_,_,_,r⟩
  · exact⟨nT,c,d,ts,rT⟩
theorem kJ.low (F:kJ h0 h e k dx p)(hm:∀b,h0.get? b=none->h1.get? b=none):kJ h1 h e k dx p:=by
 obtain⟨vs,⟨r,n⟩,q⟩:=F;cases p with
 |none=>exact⟨vs,⟨r,hm _ n⟩,q⟩
 |some p =>
  obtain⟨q1,q2,q3,q4⟩:=q;exact⟨vs,⟨r,hm _ n⟩,q1,q2,hm _ q3,q4⟩
end
section
variable {M:Model}{A:Around}{E:aat}{s:Shared}{base:Heap}{env:Env}{outer:List Env}{L e dx:Addr}{k:Value}{h0:Heap}
theorem entry {vs:Array Value} {Rn:Value} {nx:Bool} {Q:Unit->Shared->Prop} (fr:A.frames=some (env::outer)) (ff:s.heap.FunFrames base (env::outer)) (hf:env.frame=some L) (r:Rec s.heap e k (some dx) vs) (hz:1 < vs.size)
  (fin:∀g T c d ts,s.heap.objs.size<=T->T≠e->Nt ((env::outer).filterMap (·.frame)) [e] s.heap g->Rec g e k (some dx) (vs.setIfInBounds 1 (.ref T))->Rec g T c d ts->ts[3]?=some (rawInt L)->Q () {s with heap:=g}) :
  wpAny M A (frameOf env >>= λa=>entryPlaceOf L nx >>= λpl=>EntryCells.newEntry Rn a .none (rawInt L) .none pl >>= λb=>setField (.ref e) 1 b) Q E s:=by
 refine XG (wpAny_frameOf_fun fr ff hf λg so=>XG (wpAny_entryPlaceOf λpl ip=>XG ?_));simp only[EntryCells.newEntry,newFields];refine Y9 ?_ (ip.sizeOk5 _ _ _ _ _);have h3:(([Rn,Value.ref L,Value.none,rawInt L,Value.none]++(if pl.isEmpty then List.replicate 6 Value.none else pl)).toArray)[3]?=some (rawInt L):=by simp
 generalize ([Rn,Value.ref L,Value.none,rawInt L,Value.none]++(if pl.isEmpty then List.replicate 6 Value.none else pl)).toArray=ts at h3;have r2:Rec (g.push {cls:=.type "traceback",dict:=none,data:=.fields ts}) e k (some dx) vs:=r.over ((Nt.slots so).trans (Nt.push _):Nt _ [] _ _) (by simp);have ne:g.objs.size≠e:=by
  obtain⟨o,eo,_⟩:=r.over (Nt.slots so:Nt _ [] _ _) (by simp);exact Nat.ne_of_gt (XX eo)
 have rT:Rec (g.push {cls:=.type "traceback",dict:=none,data:=.fields ts}) g.objs.size (.type "traceback") none ts:=⟨_,X0 g rfl,⟨rfl,rfl⟩,rfl⟩;have up:Nt ((env::outer).filterMap (·.frame)) [e] (g.push {cls:=.type "traceback",dict:=none,data:=.fields ts}) _:=Nt.upd (f:=Obj.mapFields (·.setIfInBounds 1 (Value.ref g.objs.size))) (XZ.mpr rfl);exact Rec.write (s:={s with heap:=g.push {cls:=.type "traceback",dict:=none,data:=.fields ts}}) r2 hz
  (fin _ g.objs.size _ _ ts (aak so.1.symm) ne (((Nt.slots so).trans (Nt.push _)).trans up) r2.put (rT.over up λz=>ne (XZ.mp z)) h3)
theorem fe {vs:Array Value}{i:Nat}{x:Value}(h:vs[i]?=some x):i < vs.size:=(Array.getElem?_eq_some_iff.mp h).1
theorem wD {p:Option (Addr×Value)}{Q:Unit->Shared->Prop}(fr:A.frames=some (env::outer))(ff:s.heap.FunFrames base (env::outer))(hf:env.frame=some L)(F:kJ h0 s.heap e k dx p)(Ms:∀b,s.heap.get? b=none->h0.get? b=none)
  (hp:∀T fl,p=some (T,fl)->fl=.none∨fl=rawInt L)
  (fin:∀g T,kJ h0 g e k dx (some (T,rawInt L))->(T∈jJ e p∨s.heap.objs.size<=T)->Nt ((env::outer).filterMap (·.frame)) (jJ e p) s.heap g->Q () {s with heap:=g}):wpAny M A (noteFrame (.ref e) env) Q E s:=by
 obtain⟨vs,⟨r,n⟩,q⟩:=F;have made:∀(h:Heap),h.objs.size=s.heap.objs.size->∀g T c d ts,h.objs.size<=T->T≠e->Rec g e k (some dx) (vs.setIfInBounds 1 (.ref T))->Rec g T c d ts->ts[3]?=some (rawInt L)->1 < vs.size->kJ h0 g e k dx (some (T,rawInt L)):=λh hs g T c d ts hT ne r1 rT h3 hz =>
  ⟨_,⟨r1,n⟩,by simp[hz],ne,Ms T (Heap.get?_none_of_le (hs ▸ hT)),c,d,ts,rT,h3⟩
 simp only[noteFrame,hf];cases p with
 |none =>
  refine XG (r.read q ?_);exact entry fr ff hf r (fe q) λg T c d ts hT ne N r1 rT h3=>fin g T (made _ rfl g T c d ts hT ne r1 rT h3 (fe q)) (.inr hT) N
 |some p =>
  obtain⟨T,fl⟩:=p;obtain⟨h1,ne,nT,c,d,ts,rT,h3⟩:=q;refine XG (r.read h1 (XG (rT.read h3 ?_)));rcases hp T fl rfl with rfl|rfl
  · have N1:Nt ((env::outer).filterMap (·.frame)) [T] s.heap _:=Nt.upd (f:=Obj.mapFields (·.setIfInBounds 3 Value.none)) (XZ.mpr rfl);have r1:=r.over N1 λz=>ne (XZ.mp z).symm;have hs:(s.heap.update T (Obj.mapFields (·.setIfInBounds 3 Value.none))).objs.size=s.heap.objs.size:=Heap.size_after_update ..;have f1:(s.heap.update T (Obj.mapFields (·.setIfInBounds 3 Value.none))).FunFrames base (env::outer):=ff.of_keeps λb o eb nb=>by
     obtain⟨sl,z⟩:=N1.slot b o eb λz=>by
      obtain⟨u,eu,_,du⟩:=rT;rw[XZ.mp z,eu] at eb;cases eb;exact nb ts du
     exact⟨_,z,rfl⟩
    refine XG (rT.write (fe h3) ?_);refine entry (s:={s with heap:=s.heap.update T (Obj.mapFields (·.setIfInBounds 3 Value.none))}) fr f1 hf r1 (fe h1) λg T' c' d' VQ hT ne' N r2 VR VS=>?_;refine fin g T' (made _ hs g T' c' d' VQ hT ne' r2 VR VS (fe h1)) (.inr (Yu (aak hs.symm) hT)) ?_;exact (N1.mono (λ_ z=>z) λb z=>by simp at z;simp[jJ,z]).trans (N.mono (λ_ z=>z) λb z=>by simp at z;simp[jJ,z])
  · have same:(rawInt L==rawInt L)=true:=by first|exact beq_self_eq_true _|simp
    rw[XJ same];exact XQ (fin s.heap T ⟨vs,⟨r,n⟩,h1,ne,nT,c,d,ts,rT,h3⟩ (.inl (by simp[jJ])) (Nt.refl _ _ _))
theorem xf {T:Addr}{fl:Value}{v:Option Addr}{fs:List Addr}{Q:Unit->Shared->Prop}(F:kJ h0 s.heap e k dx (some (T,fl)))
  (fin:∀g,kJ h0 g e k dx (some (T,v.elim .none λf=>rawInt f))->Nt fs (jJ e (some (T,fl))) s.heap g->Q () {s with heap:=g}) :
  wpAny M A (setFlight (.ref e) v) Q E s:=by
 obtain⟨vs,⟨r,n⟩,h1,ne,nT,c,d,ts,rT,h3⟩:=F;have N1:Nt fs [T] s.heap _:=Nt.upd (f:=Obj.mapFields (·.setIfInBounds 3 (v.elim Value.none λf=>rawInt f))) (XZ.mpr rfl);simp only[setFlight];refine XG (r.read h1 (rT.write (fe h3) (fin _ ⟨vs,⟨r.over N1 λz=>ne (XZ.mp z).symm,n⟩,h1,ne,nT,c,d,_,rT.put,by simp[fe h3]⟩ ?_)));exact N1.mono (λ_ z=>z) λb z=>by simp at z;simp[jJ,z]
end
end BwX
namespace BwX
open PySem PySem.Calls PySem.W Builtin Builtin.ObjectAttr
abbrev rf:aaw:=[.type "Exception",.type "BaseException",.type "object"]
def cP (o:Obj)(C N:Addr):Prop:=∃nm q bs sn sub ab col dd k0 k1 k2 k3 k5,o=excClassObj nm q C N bs rf true sn sub ab col dd k0 k1 k2 k3 k5 "Exception.__new__"
section
variable {M:Model}{h:Heap}{a C N:Addr}{oC:Obj}{d:Option Addr}{vs:Array Value}
theorem Rec.type {k:Value} (r:Rec h a k d vs):Looks M h (typeOf (.ref a)) k:=by
 obtain⟨o,e,⟨c,_⟩,_⟩:=r;exact c ▸ (Looks.ld e).andThen .now
theorem cP.data (Z:cP oC C N)(e:h.get? C=some oC):∃cd:ClassData,Looks M h (classData C) cd/\cd.mro=.ref C::rf/\cd.hasDict=true:=by
 obtain⟨nm,q,bs,sn,sub,ab,col,dd,k0,k1,k2,k3,k5,rfl⟩:=Z;exact⟨_,(Looks.ld (part:=none) e).andThen .now,rfl,rfl⟩
theorem cP.mro (Z:cP oC C N)(e:h.get? C=some oC):Looks M h (mroOf (.ref C)) (.ref C::rf):=by
 obtain⟨cd,l,m,_⟩:=Z.data (M:=M) e;exact l.andThen (m ▸ .now)
theorem cP.sub (Z:cP oC C N)(e:h.get? C=some oC){b:Value}{r:Bool}(hb:(Value.ref C::rf).contains b=r):Looks M h (isSubtype (.ref C) b) r:=by
 unfold isSubtype;refine (Z.mro e).andThen ?_;dsimp only;rw[hb];exact .now
theorem cP.meta (Z:cP oC C N)(e:h.get? C=some oC):Looks M h (typeOf (.ref C)) (.type "type"):=by
 obtain⟨nm,q,bs,sn,sub,ab,col,dd,k0,k1,k2,k3,k5,rfl⟩:=Z;exact (Looks.ld e).andThen .now
theorem Rec.Jj {k:Value}(r:Rec h a k d vs):Looks M h (isType (.ref a)) false:=by
 obtain⟨o,e,_,dt⟩:=r;refine (Looks.ld e).andThen ?_;rw[dt];exact .now
end
section
variable {M:Model}{A:Around}{E:aat}{s:Shared}{env:Env}
theorem xQ {x:Sem Value} {Q:Flow->Shared->Prop} (hh:A.handled=none)
  (h:wpAny M A x (λv s1=>∃e C N oC d vs,v=.ref e/\Rec s1.heap e (.ref C) d vs/\vs[1]?=some .none/\s1.heap.get? C=some oC/\cP oC C N/\E (.ref e) s1) E s) :
  wpAny M A (raiseStmt env (some x) none) Q E s:=by
 refine XG (YZ h (λv s1 q=>?_) λ_ _ z=>z);obtain⟨e,C,N,oC,d,vs,rfl,r,h1,eC,Z,hE⟩:=q;obtain⟨hp,g,dr,tk,os⟩:=s1;have r:Rec hp e (.ref C) d vs:=r;have eC:hp.get? C=some oC:=eC;have l0:=r.type (M:=M);have l1:=Z.sub (M:=M) eC (b:=.type "BaseException") (r:=true) (by rw[List.contains_cons];exact Bool.or_eq_true_iff.mpr (.inr (by decide)));have l2:=Z.meta (M:=M) eC;have l3:=r.Jj (M:=M);have lE:Looks M hp (isExcClass (.ref e)) false:=l3.andThen .now;have lI:Looks M hp (isInstance (.ref e) (.type "BaseException")) true:=l0.andThen l1;have l4:Looks M hp (excFromValue (.ref e) "exceptions must derive from BaseException") (.ref e):=lE.andThen (lI.andThen .now);have l5:Looks M hp (raisedInstance (.ref e)) (.ref e):=l0.andThen (l2.andThen .now);refine XG (XQ (XG (ZK (l4.at ?_))));refine XG (l3.at (XG (l5.at (XG ?_))));refine XG (r.read (s:=⟨hp,g,dr,tk,os⟩) h1 (XQ ?_));exact wpAny_raiseNew_none hh hE
end
theorem Dt {o:Obj}{es:Array DictEntry}{ep:Nat}{f:Str}{v:Value}(d:o.data=.dict es ep)(e:nsFind es f=some v):lookIn f o=some (some v):=by
 unfold lookIn;rw[d];unfold nsFind findBy at e;rw[←Array.find?_toList] at e;dsimp only;split
 · rename_i en he;rw[he] at e;exact YN some e
 · rename_i he;rw[he] at e;cases e
section
variable {prog:Program}{w:World}{A:Around}{E:aat}{K:Frag}{h:Heap}{g:Array GenState}{dr:Drawn}{tk:Nat}{os:OsState}{a C N dx:Addr}{oC:Obj}{vs:Array Value}{f:Str}{v:Value}{mA:aau}{b:Bool}
theorem vK {Q:aat} (X:K.In h) (eC:K.lookup C=some oC) (Z:cP oC C N) (ga:findIn K (.ref C) "__getattribute__"=some (some (.builtin "BaseException.__getattribute__"))) (gt:findIn K (.ref C) "__getattr__"=some none) (nf:findIn K (.ref C) f=some none)
  (r:Rec h a (.ref C) (some dx) vs) (n:h.Ns1 dx mA) (hv:mA f=some v) (hh:handedOut v=pure v) (q:Q v ⟨h,g,dr,tk+1,os⟩):wpAny (model prog w) A (getAttr (.ref a) f b) Q E ⟨h,g,dr,tk,os⟩:=by
 obtain⟨o,e,⟨c,d⟩,dt⟩:=id r;obtain⟨od,es,ep,e1,e2,_,_,e3⟩:=n;obtain⟨nm,q',bs,sn,sub,ab,col,dd,k0,k1,k2,k3,k5,rfl⟩:=id Z;have I:InstAt h a o C (some od):=⟨e,c,by unfold notCls;rw[dt],by rw[d];exact e1⟩;have fo:findObj K C (some od) f=some (.value v):=by
  obtain⟨cd,hc,hd⟩:∃cd,clsIn K C=some cd/\cd.hasDict=true:=⟨_,by unfold clsIn;rw[eC],rfl⟩;have ho:ownOf cd (some od) f=some (some v):=(XJ hd).trans (Dt e2 ((e3 f).trans hv));unfold findObj;rw[hc,nf];show (ownOf cd (some od) f).bind _=_;rw[ho];rfl
 have FB:=F.attrBase_Exception;have l0:=I.type (M:=model prog w);have l1:=looks_findIn (M:=model prog w) X ga;have l2:=looks_findIn (M:=model prog w) X gt;have l3:=looks_find (M:=model prog w) X I fo;refine XG (wpAny_mkText (ZK (XG (l0.at (XG (l1.at ?_))))));show wpAny _ _ (getAttrByItsOwn (.ref a) (.str f tk) (.ref C) (.builtin "BaseException.__getattribute__") true b) _ _ _;refine XG (l2.at (XG (wpAny_attempt (ZK ?_))));have O7:callGetattribute (.ref a) (.str f tk) (.builtin "BaseException.__getattribute__") b=call (.builtin "BaseException.__getattribute__") [.ref a,.str f tk]:=by
  have hb:callGetattribute (.ref a) (.str f tk) (.builtin "BaseException.__getattribute__") b=boundAndCalled (.builtin "BaseException.__getattribute__") (.ref a) (.str f tk):=by cases b <;> rfl
  rw[hb];unfold boundAndCalled;rw[FB.ga.bind];rfl
 rw[O7];refine wpAny_call (codeAny_call_builtin FB.ga.plain F.entry_bexc_ga (wpAny_check_ga_own FB (X _ _ eC) .base e c ?_));refine XG (XQ (XG (XQ (XG (l0.at (XG (l3.at (XQ ?_))))))));show wpAny _ _ (handedOut v) _ _ _;rw[hh];exact XQ q
theorem uM {sl:Array (Option Value)}{Q:Unit->Shared->Prop}(X:K.In h)(eC:K.lookup C=some oC)(Z:cP oC C N)(sa:findIn K (.ref C) "__setattr__"=some (some (.builtin "object.__setattr__")))(nf:findIn K (.ref C) f=some none)
  (e:h.get? a=some ⟨.ref C,none,.fields vs,sl⟩)
  (fin:∀g' MH,g'.get? a=some ⟨.ref C,some h.objs.size,.fields vs,sl⟩->g'.Ns1 h.objs.size (λy=>if y=f then some v else none)->(∀b o,b≠a->h.get? b=some o->g'.get? b=some o)->Q () ⟨g',g,dr,MH,os⟩) :
  wpAny (model prog w) A (setAttr (.ref a) f v) Q E ⟨h,g,dr,tk,os⟩:=by
 have SF:=F.store_Exception;have r:Rec h a (.ref C) none vs:=⟨_,e,⟨rfl,rfl⟩,rfl⟩;have Ro:=X _ _ eC;have l0:=r.type (M:=model prog w);have l1:=looks_findIn (M:=model prog w) X sa;have l2:=looks_findIn (M:=model prog w) X nf;have l3:=Z.mro (M:=model prog w) Ro;obtain⟨cd,l4,_,hd⟩:=Z.data (M:=model prog w) Ro;have ne:a≠h.objs.size:=Yk (XX e);obtain⟨nm,q',bs,sn,sub,ab,col,dd,k0,k1,k2,k3,k5,rfl⟩:=id Z;refine XG (wpAny_mkText (XG (XG (XG (l0.at (l1.at ?_))))));refine ZK (XG ?_);rw[SF.slot.bind];refine XQ (XG (wpAny_call ?_));refine codeAny_call_builtin SF.slot.plain SF.entry ?_;show wpAny _ _ (checkBuiltinCall "object.__setattr__" ⟨[.ref a,.str f tk,v],[]⟩) _ _ _;refine PySem.wpAny_check_sa (sa:="object.__setattr__") (owner:="object") (B:="Exception") (bm:=rf) SF (x:=a) (C:=C) Ro e rfl ?_;show wpAny _ _ (Builtin.«object.__setattr__» ⟨[.ref a,.str f tk,v],[]⟩) _ _ _;rw[osa_eq,refuse_eq];refine XG (XG (l0.at (XG (l3.at ?_))));rw[refuseLoop_ref,SF.passes];refine XQ (XG (l0.at (XG (l2.at (XG (XQ ?_))))));show wpAny _ _ (storeInOwnDict (.ref a) (.ref C) (.str f tk) f v false) _ _ _;have dic:∀(A':Around) (E':aat) (Q':Option Addr->Shared->Prop) (MH:Nat),Q' (some h.objs.size) ⟨(h.push {cls:=.type "dict",data:=.dict #[]}).update a λo=>{o with dict:=some h.objs.size},g,dr,MH,os⟩ ->
   wpAny (model prog w) A' (ownDictForStores (.ref a)) Q' E' ⟨h,g,dr,MH,os⟩:=λA' E' Q' MH z=>by
  refine XG (wpAny_loadPart e (XG (l4.at ?_)));rw[hd];exact XG (wpAny_alloc (XG (wpAny_update (XM _ e) (XQ z))))
 refine XG (XQ (XG (dic _ _ _ _ ?_)));have SY:((h.push {cls:=.type "dict",data:=.dict #[]}).update a λo=>{o with dict:=some h.objs.size}).get? a=some ⟨.ref C,some h.objs.size,.fields vs,sl⟩:=YG _ (XM _ e) rfl;have S9:((h.push {cls:=.type "dict",data:=.dict #[]}).update a λo=>{o with dict:=some h.objs.size}).get? h.objs.size=some {cls:=.type "dict",data:=.dict #[]}:=(ZG _ _ ne).trans (X0 h rfl);have old:∀b o,b≠a->h.get? b=some o->((h.push {cls:=.type "dict",data:=.dict #[]}).update a λo=>{o with dict:=some h.objs.size}).get? b=some o:=λb o n eb=>(ZG _ _ (aaj n)).trans (XM _ eb);generalize ((h.push {cls:=.type "dict",data:=.dict #[]}).update a λo=>{o with dict:=some h.objs.size})=h1 at SY S9 old;have n1:h1.Ns1 h.objs.size (λ_=>none):=⟨_,#[],_,S9,rfl,λy hy=>by simp at hy,by unfold UniqKeys;simp,λ_=>rfl⟩;show wpAny _ _ (storeInDict h.objs.size (.str f tk) f v) _ _ _;refine XG (XQ (XG (wpAny_nsSet1 n1 λh2 n2 same=>?_)));obtain⟨oD,Vh,Vi,Q1,Q2,vJ⟩:=n2.count (Within.cons f v Within.nil);refine XG (wpAny_lookBehind Q1 (by rw[Q2];exact pastItsLine_dict (Yu vJ (by show 1<=sizeLine+1;decide))) (XQ ?_));refine XQ (XQ (fin h2 _ ((same.2 a ne).trans SY) n2 λb o n eb=>(same.2 b (Yk (XX eb))).trans (old b o n eb)))
end
end BwX
namespace L2
open PySem PySem.Spec PyProof.Rows BwX
def ff (k p:Int):List (Str×V):=[("kind",.int k),("place",.int p)]
def rm (dx:Addr)(fs:List (Str×V)):HO:=.ext λh=>∃mA,h.Ns1 dx mA/\∀f,jc (fs.lookup f) (mA f)
def Rz (C:Addr)(E:XK)(k p:Int):Prop:=∀(H:Hp) (dx:Addr),H dx=some (rm dx (ff k p))->E (.ref C) (some dx) H
def eW (P:Program)(w:World)(C:Addr):mx:=λouter H s E e s' =>
 ∃(a dx T:Addr) (H':Hp) (k p:Int),(e=.ref a/\s'.os=s.os/\AllBare s'.gens/\Un (wj outer) [] H H' s.heap s'.heap/\iy P w H' s'.heap) /\
  kJ s.heap s'.heap a (.ref C) dx (some (T,.none))/\(∀b∈jJ a (some (T,Value.none)),H' b=none)/\H' dx=some (rm dx (ff k p))/\Rz C E k p
def XF (X:Cx)(C:Addr)(E:XK):Value->Shared->Prop:=λe s' =>
 ∃(σ:St) (H:Hp) (a dx:Addr) (t:Option (Addr×Value)) (k p:Int),(e=.ref a/\Inv X [] σ H s')/\kJ X.kN.heap s'.heap a (.ref C) dx t/\(∀b∈jJ a t,H b=none) /\
  (∀T fl,t=some (T,fl)->fl=.none∨fl=rawInt X.env.locals)/\H dx=some (rm dx (ff k p))/\Rz C E k p
structure mO (X:Cx):Prop where
 Gg:X.stack=X.env::X.outer
 frame:X.env.frame=some X.env.locals
 pn:X.pn=[]
 ex:X.ex=[]
section
variable {X:Cx}{pins:aav}{σ:List (Option V)}{H H':Hp}{s:Shared}{h':Heap}
theorem Inv.gone (I:Inv X pins σ H s) (O:mO X):∀b,s.heap.get? b=none->X.kN.heap.get? b=none:=λb e=>by
 cases q:X.kN.heap.get? b with
 |none=>rfl
 |some o =>
  obtain⟨o',z⟩:=I.base.there b o q (by rw[O.ex];simp);rw[e] at z;cases z
end
section
variable {X:Cx}{σ:St}{H:Hp}{s:Shared}{C a dx:Addr}{E:XK}{M:Model}
theorem Inv.Gi {g:Heap} {ch:List Addr} (I:Inv X [] σ H s) (O:mO X) (nt:Nt (wj X.stack) ch s.heap g) (Mc:∀b∈ch,X.kN.heap.get? b=none/\∃c d vs,Rec s.heap b c d vs) (hH:∀b∈ch,H b=none):Inv X [] σ H {s with heap:=g}:=by
 refine I.FG (s':={s with heap:=g}) (ch:=ch) rfl ⟨λb o e _ hb hc=>nt.keep b o e hb hc,λb o e _ _ hc=>nt.slot b o e hc,λ_ _ _ n _=>n,λb o e hc=>(let ⟨_,z⟩:=nt.slot b o e hc;⟨_,z⟩),λ_ _ e=>e,λ_ _ _ e=>e,λb ps e=>⟨#[],by rw[e];simp⟩⟩ (λb u e=>?_) I.bare (λb hb=>?_)
 · refine (I.bu b u e).kM (λc v hc q=>?_) (λ_ q=>q) λ_ _ q=>q;have tr:H c≠none:=by
    rcases hc with rfl|hc
    · rw[e];simp
    · rw[hc];simp
   exact nt.keep c v q (λz=>tr (I.uz c z)) λz=>tr (hH c z)
 · obtain⟨h1,c,d,vs,o,ho,_,hd⟩:=Mc b hb;refine⟨.inr h1,?_,?_,?_⟩
   · rintro rfl;obtain⟨m,⟨o',es,ep,Ma,Mm,_⟩,_⟩:=I.loc;rw[Ma] at ho;cases ho;rw[Mm] at hd;cases hd
   · rintro x c e rfl;obtain⟨v,o',Ma,Mm⟩:=I.cell x c e;rw[Ma] at ho;cases ho;rw[Mm] at hd;cases hd
   · intro p hp;rw[O.pn] at hp;simp at hp
theorem xx {t:Option (Addr×Value)}{k:Value}{E':aat}{Q:Unit->Shared->Prop}(O:mO X)(I:Inv X [] σ H s)(F:kJ X.kN.heap s.heap a k dx t)(hH:∀b∈jJ a t,H b=none)
  (ND:∀T fl,t=some (T,fl)->fl=.none∨fl=rawInt X.env.locals)
  (fin:∀g T,Inv X [] σ H {s with heap:=g}->kJ X.kN.heap g a k dx (some (T,rawInt X.env.locals))->(∀b∈jJ a (some (T,rawInt X.env.locals)),H b=none)->Q () {s with heap:=g}) :
  wpAny M X.A (noteFrame (.ref a) X.env) Q E' s:=by
 have fr:=I.ok.frames;have ff:=I.stack;rw[O.Gg] at fr ff;refine wD (base:=X.base) fr ff O.frame F (I.gone O) ND λg T F' hT N=>fin g T (I.Gi O (by rw[O.Gg];exact N) F.yA hH) F' λb hb=>?_;rcases XN.mp hb with rfl|hb
 · exact hH _ (Yt ..)
 · have:b=T:=by simpa using hb
   subst this;rcases hT with hT|hT
   · exact hH _ hT
   · exact I.bu.fresh hT
theorem mH {T:Addr}{fl k:Value}{v:Option Addr}{E':aat}{Q:Unit->Shared->Prop}{A:Around}(O:mO X)(I:Inv X [] σ H s)(F:kJ X.kN.heap s.heap a k dx (some (T,fl)))(hH:∀b∈jJ a (some (T,fl)),H b=none)
  (fin:∀g,Inv X [] σ H {s with heap:=g}->kJ X.kN.heap g a k dx (some (T,v.elim .none λf=>rawInt f))->Q () {s with heap:=g}) :
  wpAny M A (setFlight (.ref a) v) Q E' s :=
 xf (fs:=wj X.stack) F λg F' N=>fin g (I.Gi O N F.yA hH) F'
theorem Ez {P:Program}{w:World}{e:Value}{Q:Unit->Shared->Prop}{E':aat}(O:mO X)(hP:X.prog=P)(hw:X.w=w)(h:XF X C E e s)(fin:∀s',eW P w C X.outer X.Iv X.kN E e s'->Q () s'):wpAny M X.A (leaving X.env e) Q E' s:=by
 obtain⟨σ,H,a,dx,t,k,p,⟨rfl,I⟩,F,hH,ND,hx,hz⟩:=h;unfold leaving;refine XG (xx O I F hH ND λg T I1 F1 H1=>mH O I1 F1 H1 λg2 I2 F2=>fin _ ?_);have b:=I2.base;rw[O.ex] at b;exact⟨a,dx,T,H,k,p,⟨rfl,I2.os,I2.bare,b,hP ▸ hw ▸ I2.bu⟩,F2,H1,hx,hz⟩
theorem yx (O:mO X):PassesOwn M X.A X.env (XF X C E):=by
 rintro e s' ⟨σ,H,a,dx,t,k,p,⟨rfl,I⟩,F,hH,ND,hx,hz⟩;refine xx O I F hH ND λg T I1 F1 H1=>?_;unfold cameBackBy;obtain⟨vs,⟨r,_⟩,h1,_⟩:=id F1;refine XG (Rec.read (s:={s' with heap:=g}) r h1 ?_);rw[XI (by simp)];refine mH O I1 F1 H1 λg2 I2 F2=>?_;refine⟨σ,H,a,dx,_,k,p,⟨rfl,I2⟩,F2,H1,λT' VT q=>?_,hx,hz⟩;rw[O.frame] at q;injection q with q;injection q with _ q;exact .inr q.symm
theorem bR {P:Program}{w:World}(O:mO X)(hP:X.prog=P)(hw:X.w=w):Passes (eW P w C) (X.iD (XF X C E)) E:=by
 rintro pins σ H s e s' I ⟨a,dx,T,H',k,p,⟨rfl,os,bare,un,bu⟩,F,hH,hx,hz⟩;subst hP hw;have I1:Inv X pins σ H s:=I.dq;have I2:Inv X pins σ H' s':=I1.Fw (ch:=[]) os un bu bare (λb z=>absurd z (by simp));refine⟨σ,H',a,dx,_,k,p,⟨rfl,I2.mN (pins':=[]) (λp hp=>absurd hp (by simp))⟩,F.low (I1.gone O),hH,λT' VT q=>?_,hx,hz⟩;injection q with q;injection q with _ q;exact .inl q.symm
end
section
variable {P:Program}{w:World}{K:aas}{mg:aau}{base:Heap}
theorem aH {CX:mx} {N:List Str} {qual:Str} {scope:Scope} {f:Addr} {cd:Value} {A:Around} {outer:List Env} {s:Shared} {H:Hp} {E:XK}:mO (nj CX P w K mg base N qual scope f cd A outer s H E):=⟨rfl,rfl,rfl,rfl⟩
abbrev Lj (C:Addr)(P:Program)(w:World)(K:aas)(mg:aau)(base:Heap)(N:List Str)(qual:Str)(scope:Scope)(f:Addr)(cd:Value)(A:Around)(outer:List Env)(s:Shared)(H:Hp)(E:XK):Cx :=
 (nj (eW P w C) P w K mg base N qual scope f cd A outer s H E).iD (XF (nj (eW P w C) P w K mg base N qual scope f cd A outer s H E) C E)
theorem dm.LC {x qual:Str}{st:Stmt}{f C:Addr}{fd:FuncData}{N ps:List Str}{k:Nat}{sp:Sp}(F:dm K x qual st f fd)(S:aG N ps (aw st))(len:∀vs H Q E,sp vs H Q E->vs.length=ps.length)
  (LW:∀(LP:Value) (A:Around) (outer:List Env) (s:Shared) (H:Hp) (vs:List V) (Q:VK) (E:XK),cO k (A.deeper (envOfC qual (aw st) s.heap.objs.size f LP))->sp vs H Q E ->
   ∃t,qR (Lj C P w K mg base N qual (aw st) f LP A outer s H E) (bZ st) t/\t {nx:=λ_ H'=>Q .b8 H',rt:=Q} (start N vs) H):a9 P w K mg base (eW P w C) (k+1) f fd ps sp:=by
 obtain⟨oc,od,kV,doc,pm,an,LP,ct,MG,rfl,lk,Mp⟩:=F.ex;refine F8 lk Mp S len λA outer s H vs Q E hr Mq=>?_;obtain⟨t,h,q⟩:=LW LP A outer s H vs Q E hr Mq;refine⟨t,λpins s1 σ H1 D I hw=>?_,q⟩;refine YZ (h pins s1 σ H1 D (I.iD _) hw) (λ_ _ q=>q.dq) λe s' z=>?_;exact Ez aH rfl rfl z λP0 z=>z
end
def iq (K:aas)(N:Addr):Bool:=match K.lookup N with
 |some ⟨_,_,.dict es _,_⟩=>es.toList.all λe=>match e.key with
  |.str _ _=>true
  |_=>false
 |_=>false
def De (K:aas)(N:Addr)(x:Str):Option Value:=match K.lookup N with
 |some ⟨_,_,.dict es _,_⟩=>nsFind es x
 |_=>none
theorem AS {K:aas}{N:Addr}{h:Heap}(X:K.In h)(e:iq K N=true):h.Ns N (De K N):=by
 unfold iq at e;split at e
 · rename_i c d es n sl q;refine⟨_,es,n,X _ _ q,rfl,λy hy=>?_,λname=>?_⟩
   · have z:=Yd.mp e y (Array.mem_toList_iff.mpr hy);split at z
     · rename_i a b w;exact⟨a,b,w⟩
     · cases z
   · unfold De;rw[q]
 · cases e
theorem uw {K:aas}{N:Addr}{x:Str}{r:Option Value}(e:PySem.W.nsIn K N x=some r):De K N x=r:=by
 unfold PySem.W.nsIn at e;unfold De;split at e
 · rename_i c d es n sl q;rw[q];show nsFind es x=r;unfold nsFind findBy;rw[←Array.find?_toList];split at e
   · rename_i y w;rw[w];exact Yl e
   · rename_i w;rw[w];split at e
     · cases e
     · exact Yl e
 · cases e
structure oP (K:aas)(C N fI:Addr):Prop where
 cls:∃oC,K.lookup C=some oC/\cP oC C N
 keys:iq K N=true
 init:PySem.W.nsIn K N "__init__"=some (some (.ref fI))
 fn:PySem.W.isFn K (.ref fI)=true
 kp:PySem.W.keepIn K (.ref C)=true
 By:PySem.W.nsIn K N "__setattr__"=some none
 K9:PySem.W.nsIn K N "kind"=some none
 Kl:PySem.W.nsIn K N "place"=some none
 sa:PySem.W.findIn K (.ref C) "__setattr__"=some (some (.builtin "object.__setattr__"))
 ga:PySem.W.findIn K (.ref C) "__getattribute__"=some (some (.builtin "BaseException.__getattribute__"))
 gt:PySem.W.findIn K (.ref C) "__getattr__"=some none
 fK:PySem.W.findIn K (.ref C) "kind"=some none
 fP:PySem.W.findIn K (.ref C) "place"=some none
theorem Lx:typeLookup (.type "Exception") "kind"=pure none:=by rw[typeLookup_type,builtinLookup_eq_fast];kernel_rfl
theorem LK:typeLookup (.type "Exception") "place"=pure none:=by rw[typeLookup_type,builtinLookup_eq_fast];kernel_rfl
def tU (a C t:Addr)(od:Option Addr):HO:=.ext λh=>h.get? a=some {cls:=.ref C,dict:=od,data:=.fields #[.ref t,.none,.none,.none,.bool false,.none]}
theorem bM.there {P:Program}{w:World}{H:Hp}{h:Heap}{a:Addr}{o:HO}(x:bM P w H h a o):∃u,h.get? a=some u:=by
 cases o with
 |lst xs=>obtain⟨_,_,_,_,e⟩:=x;exact⟨_,e⟩
 |tup xs=>obtain⟨_,_,_,o,e,_⟩:=x;exact⟨_,e⟩
 |dK LN=>obtain⟨_,_,_,_,o,_,_,e,_⟩:=x;exact⟨_,e⟩
 |dT LN=>obtain⟨_,_,_,_,o,_,_,e,_⟩:=x;exact⟨_,e⟩
 |set S n=>obtain⟨o,_,_,_,e,_⟩:=x;exact⟨_,e⟩
 |ins C dx fs=>obtain⟨_,_,_,e,_⟩:=x;exact⟨_,e⟩
 |own y=>exact x
 |xd fs=>obtain⟨_,⟨_,_,_,e,_⟩,_⟩:=x;exact⟨_,e⟩
 |rng lo hi=>obtain⟨_,_,_,e⟩:=x;exact⟨_,e⟩
 |frz ob u=>obtain⟨e,_⟩:=x;exact⟨_,e⟩
 |tbl ps=>exact⟨_,show h.get? a=some _ from x⟩
 |met f y=>exact⟨_,show h.get? a=some _ from x⟩
 |ext φ=>obtain⟨_,e,_⟩:=x;exact e
theorem iy.gone {P:Program}{w:World}{H:Hp}{h:Heap}{a:Addr}(x:iy P w H h)(e:h.get? a=none):H a=none:=by
 cases q:H a with
 |none=>rfl
 |some o =>
  obtain⟨u,z⟩:=(x a o q).there;rw[e] at z;cases z
theorem Br {P:Program}{w:World}{H:Hp}{h:Heap}{dx:Addr}{fs:List (Str×V)}{mA:aau}(n:h.Ns1 dx mA)(r:∀f,jc (fs.lookup f) (mA f)):bM P w H h dx (rm dx fs):=by
 obtain⟨o,es,ep,e,c⟩:=id n;refine⟨⟨mA,n,r⟩,⟨o,e⟩,?_⟩;rintro h1 h2 ⟨m,⟨o,es,ep,e,c⟩,r⟩ k;exact⟨m,⟨o,es,ep,k _ e,c⟩,r⟩
theorem BJ {P:Program}{w:World}{H:Hp}{h:Heap}{a C t:Addr}{od:Option Addr}(e:h.get? a=some {cls:=.ref C,dict:=od,data:=.fields #[.ref t,.none,.none,.none,.bool false,.none]}):bM P w H h a (tU a C t od) :=
 ⟨e,⟨_,e⟩,λ_ _ e k=>k _ e⟩
section
variable {X:Cx}{pins:aav}{σ:St}{H:Hp}{s:Shared}{a C N fI t dx:Addr}{fs:List (Str×V)}{f:Str}{v:V}{u:Value}{A:Around}{E':aat}{Q:Unit->Shared->Prop}
theorem IT (I:Inv X pins σ H s) (Z:oP X.K C N fI) (nf:PySem.W.findIn X.K (.ref C) f=some none) (ea:H a=some (tU a C t none)) (r:RelV v u)
  (h:∀s' dx,H dx=none->dx≠a->Inv X pins σ (upd (upd H dx (rm dx [(f,v)])) a (tU a C t (some dx))) s'->Q () s'):wpAny (model X.prog X.w) A (setAttr (.ref a) f u) Q E' s:=by
 obtain⟨oC,hC,hF⟩:=Z.cls;obtain⟨φ,_,_⟩:=I.bu a _ ea;have hK:=I.mX;obtain⟨hp,ga,d,tk,os⟩:=s;refine uM hK hC hF Z.sa nf φ λg MH h1 h2 h3=>?_;have fr:H hp.objs.size=none:=I.bu.fresh (XT _);have ne:hp.objs.size≠a:=λz=>by rw[z,ea] at fr;cases fr
 refine h ⟨g,ga,d,MH,os⟩ hp.objs.size fr ne ?_;have at_:∀b o,H b=some o->b≠a->(upd (upd H hp.objs.size (rm hp.objs.size [(f,v)])) a (tU a C t (some hp.objs.size))) b=some o:=λb o e n=>by
  rw[aq n,aq (λz=>by rw[z,fr] at e;cases e)];exact e
 have no:∀b o,H b=some o->(∀φ,o≠.ext φ)->b≠a:=λb o e n z=>by
  rw[z,ea] at e;exact n _ (Yl e).symm
 refine I.un (h':=g) (t':=MH) ⟨λb o e n _ _=>?_,λb o e n _ _=>?_,λb o e n _=>?_,λb o e _=>?_,λb xs e=>at_ b _ e (no b _ e λ_ z=>by cases z),λb o u e=>at_ b _ e (no b _ e λ_ z=>by cases z),λb ps e=>⟨#[],by rw[at_ b _ e (no b _ e λ_ z=>by cases z)];simp⟩⟩ (λb u e=>?_)
 · exact h3 b o (λz=>by rw[z,ea] at n;cases n) e
 · exact⟨o.slots,h3 b o (λz=>by rw[z,ea] at n;cases n) e⟩
 · rw[aq (λz=>by rw[z,ea] at n;cases n),aq (Yk (XX e))];exact n
 · by_cases z:b=a
   · exact⟨_,z ▸ h1⟩
   · exact⟨o,h3 b o z e⟩
 · by_cases z:b=a
   · subst z;rw[ae] at e;cases e;exact BJ h1
   · rw[aq z] at e;by_cases z2:b=hp.objs.size
     · subst z2;rw[ae] at e;cases e;refine Br h2 λy=>?_;by_cases hy:y=f
       · subst hy;simp only[List.lookup,beq_self_eq_true,Zq];exact r
       · have hb:(y==f)=false:=Yg.mpr hy;simp only[List.lookup,hb,XI hy]
         trivial
     · rw[aq z2] at e;refine (I.bu b u e).kM (λc w' hc q=>h3 c w' ?_ q) (λc q=>at_ c _ q (no c _ q λ_ z=>by cases z)) λc xs q=>at_ c _ q (no c _ q λ_ z=>by cases z);rcases hc with rfl|hc
       · exact z
       · exact no c _ hc λ_ z=>by cases z
theorem JE (I:Inv X pins σ H s)(Z:oP X.K C N fI)(hn:PySem.W.nsIn X.K N f=some none)(hB:typeLookup (.type "Exception") f=pure none)(ea:H a=some (tU a C t (some dx)))(ed:H dx=some (rm dx fs))(ne:dx≠a)(hl:fs.length < 1000)(r:RelV v u)
  (h:∀s',Inv X pins σ (upd H dx (rm dx (d_ f v fs))) s'->Q () s'):wpAny (model X.prog X.w) A (setAttr (.ref a) f u) Q E' s:=by
 obtain⟨_,hC,nm,q,bs,sn,sub,ab,col,dd,k0,k1,k2,k3,k5,rfl⟩:=Z.cls;have VU:=I.mX _ _ hC;have hN:=AS I.mX Z.keys;have nC:a≠C:=λz=>by
  have:=(I.bs C _ (I.ok.mod.F6 _ _ hC)).2;rw[←z,ea] at this;cases this
 obtain⟨φ,_,_⟩:=I.bu a _ ea;obtain⟨⟨mA,n1,rl⟩,_,_⟩:=I.bu dx _ ed;obtain⟨hp,ga,d,tk,os⟩:=s;have wi:Within mA (fs.map (·.1)):=λy hy=>by
  have q:=rl y;cases e:fs.lookup y with
  |none =>
   rw[e] at q;cases e2:mA y with
   |none=>exact absurd e2 hy
   |some w'=>rw[e2] at q;exact q.elim
  |some w'=>exact Yh.mpr ⟨(y,w'),PySem.mem_of_lookup e,rfl⟩
 refine store_attr F.store_Exception VU hN (uw Z.By) (uw hn) hB nC ⟨_,φ,rfl,(λc q=>by cases q),Or.inr ⟨dx,rfl,ne,n1⟩⟩ (λh' MH J keep same=>?_) wi (by rw[XH,Yb];omega);obtain⟨o1,e1,c1,d1,s1,x1⟩:=same _ φ;have x1:o1.dict=some dx:=x1 dx rfl;obtain⟨o2,e2,_,_,r2⟩:=J;rw[e1] at e2;cases e2;have n2:h'.Ns1 dx (λy=>if y=f then some u else mA y):=by
  rcases r2 with ⟨z,_⟩|⟨d',z,_,w'⟩
  · rw[x1] at z;cases z
  · rw[x1] at z;cases z;exact w'
 refine h ⟨h',ga,d,MH,os⟩ (I.write (h':=h') (t':=MH) (x:=dx) (e:=dx) (by rw[ed];trivial) (.inl rfl) (λb o hb e=>?_) ?_ (Br n2 λy=>?_))
 · by_cases z:b=a
   · subst z;rw[φ] at e;cases e;rw[e1];obtain⟨p1,p2,p3,p4⟩:=o1;simp only at c1 d1 s1 x1;rw[c1,d1,s1,x1]
   · exact keep b o z (λo₀ MK w0 w1=>by
      rw[φ] at w0;cases w0;cases w1;exact hb) e
 · obtain⟨o,_,_,e,_⟩:=n2;exact⟨o,e⟩
 · rw[jP];by_cases hy:y=f
   · simp only[XJ hy];exact r
   · simp only[XI hy];exact rl y
end
def Jh (C:Addr)(ta tv:TE)(f:Str):TS:=λD σ H=>tv σ H λy H1=>ta σ H1 λx H2=>∃a t,x=.ref a /\
 ((H2 a=some (tU a C t none)/\∀dx,H2 dx=none->dx≠a->D.nx σ (upd (upd H2 dx (rm dx [(f,y)])) a (tU a C t (some dx)))) ∨
  ∃dx fs,H2 a=some (tU a C t (some dx))/\H2 dx=some (rm dx fs)/\dx≠a/\fs.length < 1000/\D.nx σ (upd H2 dx (rm dx (d_ f y fs))))
theorem yL {X:Cx}{C N fI:Addr}{o value:Expr}{f:Str}{pos pos':Pos}{ta tv:TE}(Z:oP X.K C N fI)(nf:PySem.W.findIn X.K (.ref C) f=some none)(hn:PySem.W.nsIn X.K N f=some none)(hB:typeLookup (.type "Exception") f=pure none)(ha:PE X o ta)(hv:PE X value tv)
  (hs:swapsWith value (some (.Attribute o f pos')) pos.line X.env=pure false):PS X (.Assign [.Attribute o f pos'] value pos) (Jh C ta tv f):=by
 intro pins s σ H D I h;refine plainObj_wpAny_Assign_Attribute (bA (hv pins s σ H _ I h) λu s1 ⟨y,H1,I1,ry,q⟩=>bA (ha pins s1 σ H1 _ I1 q) λov s2 ⟨x,H2,I2,rx,a,t,ex,q2⟩=>?_) hs;subst ex;obtain rfl:ov=Value.ref a:=rx;rcases q2 with ⟨ea,q2⟩|⟨dx,fs,ea,ed,ne,hl,q2⟩
 · exact IT I2 Z nf ea ry λs3 dx fr ne I3=>⟨σ,_,I3,q2 dx fr ne⟩
 · exact JE I2 Z hn hB ea ed ne hl ry λs3 I3=>⟨σ,_,I3,q2⟩
def Gp (C:Addr):Sp:=λvs H Q _=>∃(a t:Addr) (k p:Int),vs=[.ref a,.int k,.int p]/\H a=some (tU a C t none) /\
 ∀(dx:Addr),H dx=none->dx≠a->Q .b8 (upd (upd H dx (rm dx (ff k p))) a (tU a C t (some dx)))
section
variable {X:Cx}{pins:aav}{σ:St}{H:Hp}{s:Shared}
theorem Inv.grown {a:Addr} {o:HO} {h':Heap} {t':Nat} (I:Inv X pins σ H s) (k:∀b u,s.heap.get? b=some u->h'.get? b=some u) (hp:s.heap.get? a=none) (new:bM X.prog X.w (upd H a o) h' a o):Inv X pins σ (upd H a o) {s with heap:=h',toks:=t'}:=by
 have fr:H a=none:=I.bu.gone hp;have at_:∀b u,H b=some u->(upd H a o) b=some u:=λb u e=>by rw[aq (ao e fr)];exact e
 refine I.un (h':=h') (t':=t') ⟨λb u e n _ _=>k b u e,λb u e n _ _=>⟨u.slots,k b u e⟩,λb u e n _=>?_,λb u e _=>⟨u,k b u e⟩,λb xs e=>at_ b _ e,λb u v e=>at_ b _ e,λb ps e=>⟨#[],by rw[at_ b _ e];simp⟩⟩ λb u e=>?_
 · rw[aq (λz=>by rw[z,hp] at e;cases e)];exact n
 · by_cases z:b=a
   · subst z;rw[ae] at e;cases e;exact new
   · rw[aq z] at e;exact (I.bu b u e).kM (λc v _ q=>k c v q) (λc q=>at_ c _ q) λc xs q=>at_ c _ q
def J4 (H:Hp)(a:Addr):Hp:=λb=>if b=a then none else H b
theorem qt {a:Addr}:J4 H a a=none:=XJ rfl
theorem uE {a b:Addr}(h:b≠a):J4 H a b=H b:=XI h
theorem Inv.dropped {a:Addr}{φ:Heap->Prop}(I:Inv X pins σ H s)(e:H a=some (.ext φ)):Inv X pins σ (J4 H a) s:=by
 have at_:∀b u,H b=some u->(∀ψ,u≠.ext ψ)->J4 H a b=some u:=λb u q n=>by
  rw[uE (λz=>by rw[z,e] at q;exact n _ (Yl q).symm)];exact q
 refine I.un (h':=s.heap) (t':=s.toks) ⟨λb u q n _ _=>q,λb u q n _ _=>⟨u.slots,q⟩,λb u q n _=>?_,λb u q _=>⟨u,q⟩,λb xs q=>at_ b _ q (λ_ z=>by cases z),λb u v q=>at_ b _ q (λ_ z=>by cases z),λb ps q=>⟨#[],by rw[at_ b _ q (λ_ z=>by cases z)];simp⟩⟩ λb u q=>?_
 · by_cases z:b=a
   · rw[z];exact qt
   · rw[uE z];exact n
 · by_cases z:b=a
   · rw[z,qt] at q;cases q
   · rw[uE z] at q;exact (I.bu b u q).kM (λc v _ w=>w) (λc w=>at_ c _ w λ_ z=>by cases z) λc xs w=>at_ c _ w λ_ z=>by cases z
theorem Inv.seen {a:Addr}{φ:Heap->Prop}(I:Inv X pins σ H s)(O:mO X)(h0:X.kN.heap.get? a=none)(fr:H a=none)(nL:a≠X.env.locals)(nC:∀x c,X.env.cells.lookup x=some c->c≠a)(VV:pins=[])(nf:a∉X.fs)(new:bM X.prog X.w (upd H a (.ext φ)) s.heap a (.ext φ)) :
  Inv X pins σ (upd H a (.ext φ)) s:=by
 have at_:∀b u,H b=some u->(upd H a (.ext φ)) b=some u:=λb u q=>by rw[aq (ao q fr)];exact q
 refine⟨I.ok,I.os,I.bare,⟨I.base.keep,I.base.slot,λb o q n hx=>?_,I.base.there,λb xs q=>at_ b _ (I.base.om b xs q),λb u v q=>at_ b _ (I.base.nq b u v q),λb ps q=>?_⟩,I.loc,I.cell,?_,λx c q=>?_,λp hp=>?_,λb u q=>?_,I.len⟩
 · rw[aq (λz=>by rw[z,h0] at q;cases q)];exact I.base.free b o q n hx
 · obtain⟨m,w⟩:=I.base.oh b ps q;exact⟨m,at_ b _ w⟩
 · rw[aq nL.symm];exact I.free
 · rw[aq (nC x c q)];exact I.gj x c q
 · rw[O.pn,VV] at hp;simp at hp
 · by_cases z:b=a
   · subst z;rw[ae] at q;cases q;exact new
   · rw[aq z] at q;exact (I.bu b u q).kM (λc v _ w=>w) (λc w=>at_ c _ w) λc xs w=>at_ c _ w
end
def Kj (C:Addr)(E:XK)(t:TA):TS:=λ_ σ H=>t σ H λvs _=>∃k p,vs=[.int k,.int p]/\Rz C E k p
theorem BD {X:Cx}{C N fI:Addr}{E:XK}{x:Str}{np LV pos:Pos}{e:Expr}{es:List Expr}{t:TA}{j:Nat}{S_:FuncData}(O:mO X)(Z:oP X.K C N fI)(FI:a9 X.prog X.w X.K X.mg X.base bF j fI S_ ["self","kind","place"] (Gp C))(hr:cO (j+1) X.A)
  (bI:Binds X.K S_ ["self","kind","place"] [])(hg:Gl X x)(hm:X.mg x=some (.ref C))(ha:PA (X.iD (XF X C E)) (e::es) t)(Mt:(x==("__debug__":Str))=false:=by decide)
  (he:starEach (e::es) X.env=(false,eval e X.env)::starEach es X.env:=by rfl)(LY:(backTo LV (starEach es X.env)).any (·.1)=false:=by rfl) :
  PS (X.iD (XF X C E)) (.Raise (some (.Call (.Name x np) (e::es) [] LV)) none pos) (Kj C E t):=by
 intro pins s σ H D I h;obtain⟨oC,hC,hF⟩:=Z.cls;rw[arm_exec_Raise];refine XG (wpAny_standAt (xQ hr.hd (XG (YZ ?_ (λv s1 q=>XG (wpAny_standAt (XQ q))) λ_ _ z=>z))));refine ZW (lY (X:=X) I.dq hg hm ?_ Mt);refine PySem.W.callWith_K (h₀:=X.base) I.ok.mod.F6 Z.kp (bA (ha LV pins s σ H _ I h) λus s2 ⟨vs,H1,I1,r,k,p,ev,hz⟩=>⟨I1.mX,?_⟩) he LY;subst ev;have I1:Inv X pins σ H1 s2:=I1.dq;obtain⟨u1,u2,rfl,r1,r2⟩:=vals2 r;obtain⟨oI,P7,VW⟩:∃oI,s2.heap.get? fI=some oI/\oI.cls=.type "function":=by
  have z:=Yx.mp Z.fn;unfold PySem.W.typeIn at z;cases q:X.K.lookup fI with
  |none=>simp[q] at z
  |some o =>
   simp[q] at z;exact⟨o,I1.mX _ _ q,z⟩
 obtain⟨nm,q,bs,sn,sub,ab,col,dd,k0,k1,k2,k3,k5,Oq⟩:=id hF;obtain⟨hp,ga,d,tk,os⟩:=s2;refine wpAny_call_exc_init F.excBase_Exception (Oq ▸ I1.mX _ _ hC) (AS I1.mX Z.keys) (uw Z.init) P7 VW (λh' a M=>?_) (by show 2<=sizeLine;decide);obtain⟨keep,fresh,t0,Rp,_,_⟩:=M;have I2:Inv X pins σ (upd H1 a (tU a C t0 none)) (⟨h',ga,d,tk,os⟩:Shared):=I1.grown keep fresh (BJ Rp);have rv:Vals [V.ref a,V.int k,V.int p] [Value.ref a,u1,u2]:=.cons rfl r;refine wpAny_call (aai (FI.run _ X.stack _ _ ⟨[Value.ref a,u1,u2],[]⟩ [Value.ref a,u1,u2] [V.ref a,V.int k,V.int p]
  (λv H'=>v=.b8/\∃dx,(upd H1 a (tU a C t0 none)) dx=none/\dx≠a/\H'=upd (upd (upd H1 a (tU a C t0 none)) dx (rm dx (ff k p))) a (tU a C t0 (some dx))) E0 (hr.make C [u1,u2] []) (I2.HN.make C [u1,u2] []) ?_ rv ⟨a,t0,k,p,rfl,ae,λdx h1 h2=>⟨rfl,dx,h1,h2,rfl⟩⟩) λr s3 hq=>?_)
 · have z:=bI (⟨h',ga,d,tk,os⟩:Shared) [Value.ref a,u1,u2] I2.mX rfl;rw[YJ] at z;exact z
 cases r with
 |error e=>exact False.elim hq
 |ok fl =>
  cases fl with
  |next=>exact False.elim hq
  |brk=>exact False.elim hq
  |cont=>exact False.elim hq
  |ret u =>
   obtain⟨v,H',I3,rv,ev,dx,Mv,ne,eH⟩:=I2.after hq;subst ev eH;have ea:(upd (upd (upd H1 a (tU a C t0 none)) dx (rm dx (ff k p))) a (tU a C t0 (some dx))) a=some (tU a C t0 (some dx)):=ae;obtain⟨φ,_,_⟩:=I3.bu a _ ea;refine⟨rv,a,C,N,oC,some dx,_,rfl,⟨_,φ,⟨rfl,rfl⟩,rfl⟩,rfl,I3.mX _ _ hC,hF,σ,_,a,dx,none,k,p,⟨rfl,(I3.dropped ea).mN (pins':=[]) λp hp=>absurd hp (by simp)⟩,⟨_,⟨⟨_,φ,⟨rfl,rfl⟩,rfl⟩,I1.gone O a fresh⟩,rfl⟩,λb hb=>?_,λT fl z=>(nomatch z),?_,hz⟩
   · have:b=a:=by simpa [jJ] using hb
     rw[this];exact qt
   · rw[uE ne,aq ne,ae]
section
variable {X:Cx}{st:Stmt}{rest:List Stmt}{t u:TS}
theorem PS.zero (h:PS X st t):KW X st t:=λs σ H D I q=>h [] s σ H D I q
theorem qR.zero (h:qR X rest t):B7 X rest t:=λs σ H D I q=>h [] s σ H D I q
theorem iC (h1:KW X st t)(h2:B7 X rest u):B7 X (st::rest) (EC t u):=by
 intro s σ H D I h;refine wpAny_execs_cons (bA (h1 s σ H {D with nx:=u D} I h) λf s1 q=>?_);cases f with
 |next =>
  obtain⟨σ',H',I',q⟩:=q;exact h2 s1 σ' H' D I' q
 |ret v=>exact q
 |brk=>exact q
 |cont=>exact q
end
section
variable {P:Program}{w:World}{K:aas}{mg:aau}{base:Heap}
theorem dm.Ks {x qual:Str} {st:Stmt} {f:Addr} {fd:FuncData} {N ps:List Str} {k:Nat} {sp:Sp} (F:dm K x qual st f fd) (S:aG N ps (aw st)) (len:∀vs H Q E,sp vs H Q E->vs.length=ps.length)
  (LW:∀(LP:Value) (A:Around) (outer:List Env) (s:Shared) (H:Hp) (vs:List V) (Q:VK) (E:XK),cO k (A.deeper (envOfC qual (aw st) s.heap.objs.size f LP))->sp vs H Q E ->
   ∃t,B7 (nj bF P w K mg base N qual (aw st) f LP A outer s H E).HS (bZ st) t/\t {nx:=λ_ H'=>Q .b8 H',rt:=Q} (start N vs) H):a9 P w K mg base bF (k+1) f fd ps sp:=by
 obtain⟨oc,od,kV,doc,pm,an,LP,ct,MG,rfl,lk,Mp⟩:=F.ex;refine C2 lk Mp S len λA outer s H vs Q E hr Mq=>?_;obtain⟨t,h,q⟩:=LW LP A outer s H vs Q E hr Mq;exact⟨t,λs1 σ H1 D I hw=>YZ (h s1 σ H1 D (I.iD _) hw) (λ_ _ q=>q.dq) λ_ _ z=>False.elim z,q⟩
end
def J9 (a C dx:Addr):HO:=.ext λh=>∃(oe:Obj) (vs:Array Value),h.get? a=some oe/\oe.cls=.ref C/\oe.dict=some dx/\oe.data=.fields vs
theorem Hs {P:Program}{w:World}{H:Hp}{h:Heap}{a C dx:Addr}{oe:Obj}{vs:Array Value}(e:h.get? a=some oe)(c:oe.cls=.ref C)(x:oe.dict=some dx)(d:oe.data=.fields vs):bM P w H h a (J9 a C dx) :=
 ⟨⟨oe,vs,e,c,x,d⟩,⟨_,e⟩,λh1 h2 ⟨o,vs,e,r⟩ k=>⟨o,vs,k _ e,r⟩⟩
def Jb (C:Addr)(ta:TE)(f:Str):TE:=λσ H Q=>ta σ H λx H1=>∃a dx fs v,x=.ref a/\H1 a=some (J9 a C dx)/\H1 dx=some (rm dx fs)/\fs.lookup f=some v/\Q v H1
theorem zf {X:Cx}{C N fI:Addr}{e:Expr}{f:Str}{pos:Pos}{ta:TE}(Z:oP X.K C N fI)(nf:PySem.W.findIn X.K (.ref C) f=some none)(he:PE X e ta)(hb:attributeBase e f X.env (eval e X.env)=eval e X.env):PE X (.Attribute e f pos) (Jb C ta f):=by
 intro pins s σ H Q I h;obtain⟨oC,hC,hF⟩:=Z.cls;refine yC hb (bA (he pins s σ H _ I h) λu s1 ⟨x,H1,I1,rx,a,dx,fs,v,ex,ea,ed,l,q⟩=>?_);subst ex;obtain rfl:u=Value.ref a:=rx;obtain⟨⟨oe,vs,e1,c1,x1,d1⟩,_,_⟩:=I1.bu a _ ea;obtain⟨⟨mA,n1,rl⟩,_,_⟩:=I1.bu dx _ ed;have rv:=rl f;rw[l] at rv;obtain⟨u,hu,ru⟩:=jc.some_of rv;have hK:=I1.mX;obtain⟨hp,ga,d,tk,os⟩:=s1;exact vK hK hC hF Z.ga Z.gt nf ⟨oe,e1,⟨c1,x1⟩,d1⟩ n1 hu (PySem.W.handedOut_of (sr ru)) ⟨v,H1,I1.tok _,ru,q⟩
def EE (R:Int->Int->Prop):XK:=λ_ VX H=>∃dx k p,VX=some dx/\H dx=some (rm dx (ff k p))/\R k p
theorem IU {C:Addr}{R:Int->Int->Prop}{k p:Int}(h:R k p):Rz C (EE R) k p:=λ_ dx e=>⟨dx,k,p,rfl,e,h⟩
abbrev Cx.FJ (X:Cx)(a:Addr):Cx:={X with A:=X.A.mark (some (.ref a)),calm:=false,xe:=λ_ _=>False}
section
variable {X:Cx}{pins:aav}{σ:St}{H:Hp}{s:Shared}
theorem Inv.FJ (I:Inv X pins σ H s) (a:Addr):Inv (X.FJ a) pins σ H s :=
 ⟨⟨I.ok.mod,I.ok.kind,I.ok.glob,I.ok.blt,I.ok.above,I.ok.inj,I.ok.has,I.ok.Iq,λz=>(by cases z),I.ok.frames,I.ok.Gg,I.ok.IP,I.ok.bs,I.ok.C_,I.ok.zx,I.ok.zt,I.ok.ml,I.ok.FY⟩,I.os,I.bare,I.base,I.loc,I.cell,I.free,I.gj,I.pin,I.bu,I.len⟩
theorem Inv.Js {a:Addr}(I:Inv (X.FJ a) pins σ H s)(ok:X.Ok):Inv X pins σ H s:=⟨ok,I.os,I.bare,I.base,I.loc,I.cell,I.free,I.gj,I.pin,I.bu,I.len⟩
theorem Inv.Gs {h':Heap}{m':aau}{t':Nat}(I:Inv X [] σ H s)(O:mO X)(hn:h'.Ns X.env.locals m')(sb:Heap.SameBut X.env.locals s.heap h'):Inv X [] (List.replicate X.N.length none) H {s with heap:=h',toks:=t'}:=by
 refine⟨I.ok,I.os,I.bare,⟨λb o e n hb hx=>?_,λb o e n hb hx=>?_,I.base.free,λb o e hx=>?_,I.base.om,I.base.nq,I.base.oh⟩,⟨m',hn,λi x v e1 e2 _=>?_⟩,λx c e=>?_,I.free,I.gj,λp hp=>?_,λb u e=>?_,by simp⟩
 · exact (sb.2 b (Yk (Yo (XX e) I.ok.above))).trans (I.base.keep b o e n hb hx)
 · obtain⟨sl,z⟩:=I.base.slot b o e n hb hx;exact⟨sl,(sb.2 b (Yk (Yo (XX e) I.ok.above))).trans z⟩
 · obtain⟨o',z⟩:=I.base.there b o e hx;exact⟨o',(sb.2 b (Yk (Yo (XX e) I.ok.above))).trans z⟩
 · rw[List.getElem?_replicate] at e2;split at e2 <;> cases e2
 · obtain⟨v,z⟩:=I.cell x c e;exact⟨v,z.sameBut sb (I.Ga x c e)⟩
 · rw[O.pn] at hp;simp at hp
 · refine (I.bu b u e).kM (λc v hc q=>(sb.2 c ?_).trans q) (λ_ q=>q) λ_ _ q=>q;rintro rfl;have fr:=I.free;rcases hc with rfl|hc
   · rw[fr] at e;cases e
   · rw[fr] at hc;cases hc
end
def LI (X:Cx)(pins:aav)(D:Ends)(f:Flow)(s':Shared):Prop:=match f with
 |.ret u=>SP X [] D (.ret u) s'
 |f=>SP X pins D f s'
def Lm (X:Cx)(st:Stmt)(t:TS):Prop:=∀(pins:aav) (s:Shared) (σ:St) (H:Hp) (D:Ends),Inv X pins σ H s->t D σ H->wpAny (model X.prog X.w) X.A (exec st X.env) (LI X pins D) X.xe s
theorem E_ {X:Cx}{tg iter:Expr}{st:Stmt}{wi:TI}{g:TG}{tb:TS}{pos:Pos}(hp:PassesOwn (model X.prog X.w) X.A X.env X.xe)(hc:X.calm=true)(hi:PI X tg iter wi)(hg:PG X tg g)(hb:Lm X st tb)
  (hs:∀x,foldedSetIterable iter X.env x=pure x:=by intro _;rfl):KW X (.For tg iter [st] [] pos) (Ig wi g tb):=by
 intro s σ H D I h;refine wpAny_For (bA (hi [] s σ H _ I h) λv s1 h1=>bA h1 λPY s2 h2=>?_) hs;obtain⟨it,fp,tn,J,H2,e,I2,T,Oh,f2,W,⟨m0,w0⟩,turn⟩:=h2;subst e;have L9:∀{H':Hp},(∀b∈fp,H' b=none)->∀b∈fp,mY X [] H' b:=λhn b hb=>⟨hn b hb,(f2 b hb).2⟩;refine codeAny_forLoop_any (λn s'=>∃i σ' H',Inv X [] σ' H' s'/\tn i s'.heap/\(∀b∈fp,H' b=none)/\W i n σ' H') ?_ m0 ⟨0,σ,H2,I2,Oh,λb hb=>(f2 b hb).1,w0⟩;rintro n s3 ⟨i,σ3,H3,I3,NT,OS,w3⟩;rcases turn i n σ3 H3 w3 with ⟨stop,qn⟩|⟨go,N,hN,step⟩
 · refine Y1 hp (bA (T.done X rfl rfl rfl hc i [] s3 σ3 H3 X.xe I3 (L9 OS) NT stop) λr s4 ⟨hr,I4⟩=>?_);subst hr;exact ZH ⟨σ3,H3,I4,qn⟩
 · refine Y1 hp (bA (T.item X rfl rfl rfl hc i [] s3 σ3 H3 X.xe I3 (L9 OS) NT go) λr s4 ⟨u,hr,h4⟩=>?_);subst hr;refine Y1 hp (bA h4 λ_ s5 ⟨x,H5,I5,r5,y5,M3,QX⟩=>?_);have QY:=I5.pinned (L9 QX) (T.obj _ _ M3);refine Y1 hp (bA (hg _ s5 σ3 H5 x u _ QY r5 (step x H5 y5)) λ_ s6 ⟨σ6,H6,I6,q6⟩=>?_);refine Y1 hp (wpAny_execs_cons (bA (hb _ s6 σ6 H6 _ I6 q6) λf s7 q7=>?_));have again:∀{σ7:St} {H7:Hp},Inv X ([]++ng fp s5.heap) σ7 H7 s7->N σ7 H7->∃m,m < n/\∃i σ' H',Inv X [] σ' H' s7/\tn i s7.heap/\(∀b∈fp,H' b=none)/\W i m σ' H':=λ{σ7 H7} I7 n7=>by
    obtain⟨m',hm,w7⟩:=hN σ7 H7 n7;refine⟨m',hm,i+1,σ7,H7,I7.iz,T.keep _ _ _ M3 λb hb o e=>(I7.pin (b,o) (YF _ (YF _ (gD hb e)))).1,λb hb=>?_,w7⟩;obtain⟨o,e,d⟩:=T.obj _ _ M3 b hb;exact (I7.pin (b,o) (YF _ (YF _ (gD hb e)))).2.1
   cases f with
   |next=>obtain⟨σ7,H7,I7,n7⟩:=q7;exact ZH (again I7 n7)
   |cont=>obtain⟨σ7,H7,I7,n7⟩:=q7;exact again I7 n7
   |brk=>obtain⟨σ7,H7,I7,q7⟩:=q7;exact⟨σ7,H7,I7.iz,q7⟩
   |ret v=>exact q7
def Ld (C:Addr)(i:Nat)(R:Int->Int->Prop)(tb th:TS):TS:=λD σ H=>tb D σ H /\
 ∀(σ':St) (H':Hp) (a dx:Addr) (k p:Int),R k p->σ'[i]?=some (some (.ref a))->H' a=some (J9 a C dx)->H' dx=some (rm dx (ff k p))->th {nx:=λ_ _=>False,rt:=D.rt} σ' H'
theorem G9 {X:Cx}{C N fI:Addr}{R:Int->Int->Prop}{x n:Str}{np Rq pos:Pos}{body NF:List Stmt}{b0:Stmt}{i:Nat}{tb th:TS}(O:mO X)(Z:oP X.K C N fI)(hg:Gl X x)(hm:X.mg x=some (.ref C))(hN:X.N.Nodup)(hi:X.N[i]?=some n)
  (hl:X.env.scope.names.lookup n=some .local)(hb:qR (X.iD (XF X C (EE R))) body tb)(hh:∀a,qR (X.FJ a) (b0::NF) th)(Mt:(x==("__debug__":Str))=false:=by decide) :
  Lm X (.Try body [.ExceptHandler (some (.Name x np)) (some n) (b0::NF) Rq] [] [] pos) (Ld C i R tb th):=by
 rintro pins s σ H D I ⟨hq,VY⟩;obtain⟨oC,hC,hF⟩:=Z.cls;refine wpAny_Try_except (YZ (hb pins s σ H D (I.iD _) hq) (λf s1 q=>?_) λe s1 z=>?_)
 · cases f with
   |next=>exact ZH q.dq
   |brk=>exact q.dq
   |cont=>exact q.dq
   |ret u =>
    obtain⟨v,σ',H',I',r⟩:=q.dq;exact⟨v,σ',H',I'.mN (pins':=[]) λp hp=>absurd hp (by simp),r⟩
 obtain⟨σ1,H1,a,dx,t,k,p,⟨rfl,I1⟩,F1,hH,ND,hx,hz⟩:=z;obtain⟨MK,k',p',e1,e2,hR⟩:=hz H1 dx hx;cases e1;refine xx O I1 F1 hH ND λg T I2 F2 H2=>?_;refine mH (v:=none) O I2 F2 H2 λg2 I3 F3=>?_;obtain⟨vs3,⟨⟨oe3,VZ,⟨V0,xe3⟩,de3⟩,_⟩,_⟩:=id F3;obtain⟨_,_,_,_,_,_,_,_,_,_,_,_,_,Oq⟩:=id hF;refine wpAny_handleBy_cons (codeAny_handlers_test (lY (X:=X.FJ a) (I3.FJ a) hg hm ?_ Mt)) (by intro z;cases z);refine wpAny_excMatches_sub_self (Oq ▸ I3.mX _ _ hC) VZ V0 (by decide) (codeAny_handlers_suite_as ?_);have H3:∀b∈jJ a (some (T,(none:Option Addr).elim Value.none λf=>rawInt f)),H1 b=none:=H2;refine mH (v:=none) O I3 F3 H3 λg4 I4 F4=>?_;obtain⟨vs4,⟨⟨oe4,N2,⟨V1,V2⟩,Ot⟩,z4⟩,_⟩:=id F4;have nL:a≠X.env.locals:=by
  rintro rfl;obtain⟨m,⟨o',es,ep,Ma,Mm,_⟩,_⟩:=I4.loc;rw[Ma] at N2;cases N2;rw[Mm] at Ot;cases Ot
 have nC:∀x c,X.env.cells.lookup x=some c->c≠a:=by
  rintro x c e rfl;obtain⟨v,o',Ma,Mm⟩:=I4.cell x c e;rw[Ma] at N2;cases N2;rw[Mm] at Ot;cases Ot
 have nf:a∉X.fs:=λz=>by
  obtain⟨_,o',Ma,Mm⟩:=I4.ml.mem z;rw[Ma] at N2;cases N2;exact Mm _ Ot
 have I5:Inv X [] σ1 (upd H1 a (J9 a C dx)) _:=I4.seen O z4 (hH a (Yt ..)) nL nC rfl nf (Hs N2 V1 V2 Ot);have nd:dx≠a:=λz=>by
  have:=hH a (Yt ..);rw[←z,hx] at this;cases this
 refine lR (X:=X.FJ a) (v:=V.ref a) (I5.FJ a) hN hi (.inl hl) rfl (λs6 I6=>?_) (.inr hl);have li:i < σ1.length:=by rw[I4.len];exact (XY.mp hi).1
 refine YZ (hh a [] s6 _ _ {nx:=λ_ _=>False,rt:=D.rt} I6 (VY _ _ a dx k' p' hR (Z1 li) ae (by rw[aq nd];exact e2))) (λf s7 z=>?_) λ_ _ z=>False.elim z;cases f with
 |next=>obtain⟨_,_,_,z⟩:=z;exact False.elim z
 |brk=>obtain⟨_,_,_,z⟩:=z;exact False.elim z
 |cont=>obtain⟨_,_,_,z⟩:=z;exact False.elim z
 |ret u =>
  obtain⟨v,σ8,H8,I8,rv,z⟩:=z;have I8:Inv X [] σ8 H8 s7:=I8.Js I.ok;obtain⟨m,hn,_⟩:=id I8.loc;refine wpAny_nameGoes hl hn (by rw[I.ok.kind];rfl) λh' m' M0 sb=>?_;exact⟨v,_,H8,I8.Gs O M0 sb,rv,z⟩
end L2
namespace L2
open PySem PySem.Spec PyProof.Rows
section
variable {X:Cx}
theorem xO:iE X (.builtin "sorted") (λxs H Q=>∃(t:Addr) (ns:List Int),xs=[.ref t]/\b6 X.K H t (ns.map V.int)/\ns.length < 64 /\
  ∀(ms:List Int) (p:Addr),ms.Perm ns->ms.Pairwise (·<=·)->H p=none->Q (.ref p) (upd H p (.lst (ms.map V.int)))):=by
 rintro pins s σ H xs us Q I r ⟨t,ns,rfl,ht,M_,q⟩;rw[Vals.xk r];obtain⟨LO,rv,⟨o,ho,hc,n,hd⟩,hz⟩:=I.tuple ht;have hi:=rv.ints;have vJ:LO.length < 64:=by rw[hi.length];exact M_
 have line:LO.length<=sizeLine:=zl vJ;refine PySem.Calls.call_function_entry kind_sorted plain_sorted entry_sorted (args_sorted1 _) ?_;show wpAny _ _ (checkCount "sorted" 1 1 1 >>= λ_=>collect (.ref t) >>= λvs=>newList vs >>= λl=>holding [l] (call (.builtin "list.sort") [l] []) >>= λ_=>ret l) _ _ _;refine XG (XQ (XG (wpAny_collect_seq t (.inr rfl) ho hc hd (λh1 k1=>XG (wpAny_newList (XG (ZK ?_)) ?_)) ?_)))
 ·
  have new:(h1.push {cls:=.type "list",data:=.seq LO.toArray.toList.toArray}).get? h1.objs.size=some (seqObj "list" LO.toArray 0):=X0 h1 rfl;refine Y3 slot_list_sort ⟨_,new,rfl⟩ entry_list_sort (list_sort_tree new hi vJ λout ms p1 p2 p3=>⟨.none,rfl,XQ ⟨_,rfl,?_⟩⟩) (args_list_sort _);have MS:s.heap.get? h1.objs.size=none:=by
   cases z:s.heap.get? h1.objs.size with
   |none=>rfl
   |some u=>exact absurd (XX (k1 _ _ z)) (Y2 _)
  obtain⟨ep,at_⟩:=sortedHeap_at (vs:=LO) (out:=out) new;have keep:∀b u,s.heap.get? b=some u->(sortedHeap (h1.push {cls:=.type "list",data:=.seq LO.toArray.toList.toArray}) h1.objs.size LO out).get? b=some u:=λb u e=>by
   have e1:=XM {cls:=.type "list",data:=.seq LO.toArray.toList.toArray} (k1 b u e);rw[sortedHeap_old (λz=>by rw[z,MS] at e;cases e) (XX e1)];exact e1
  have len:(ms.map V.int).length<=sizeLine:=by rw[XH,p2.length_eq];exact zl M_
  exact⟨.ref _,upd H h1.objs.size (.lst (ms.map V.int)),I.grown (t':=s.toks) keep MS ⟨len,out.toList,ep,lT p1,at_⟩,rfl,q ms _ p2 p3 (I.bu.gone MS)⟩
 · simpa using line
 · simpa using line
end
end L2
namespace BwX
open PySem
section
variable {P:Program}{w:World}{A:Around}{E:aat}{s:Shared}
theorem Bo {it t:Addr} {k:Nat} {LO:Array Value} {x:Value} {Q:aat} (hi:s.heap.IsTupleIter it t k) (ht:s.heap.IsTuple t LO) (hx:LO[k]?=some x)
  (q:∀h',h'.IsTupleIter it t (k+1)->Heap.SameBut it s.heap h'->Q x {s with heap:=h'}):wpAny (model P w) A (Builtin.SmallTypes.nextOf (.ref it)) Q E s:=by
 have ty:=hi.typeIs;obtain⟨⟨c1,d1,f1,l1⟩,g1,rfl,rfl⟩:=hi;obtain⟨⟨c2,d2,f2,l2⟩,g2,rfl,n,rfl⟩:=ht;unfold Builtin.SmallTypes.nextOf;refine XG (YX (name:=Str.ofString "__next__") ty ZM (Y3 ZM ty F.entry_tuple_iterator_next ?_ (F.args_tuple_iterator_next_1 _)));obtain⟨hp,ga,d,tk,os⟩:=s;show wpAny _ _ (Builtin.«tuple_iterator.__next__» _) _ _ _
 wp_walk
 rw[Ys,hx];refine XG (wpAny_setField g1 rfl (by simp) (XQ ⟨x,rfl,XQ (q _ ⟨_,YG _ g1 rfl,rfl,?_⟩ (X9 ..))⟩));simp[Obj.mapFields,rawInt]
theorem Cp {it t:Addr}{k:Nat}{LO:Array Value}{Q:aat}(hh:A.handled=none)(hi:s.heap.IsTupleIter it t k)(ht:s.heap.IsTuple t LO)(hx:LO[k]?=none)
  (q:∀h' e,Heap.ExtBut it s.heap h'->(∃o,h'.get? e=some o/\o.cls=.type "StopIteration")->E (.ref e) {s with heap:=h'}):wpAny (model P w) A (Builtin.SmallTypes.nextOf (.ref it)) Q E s:=by
 have ty:=hi.typeIs;obtain⟨⟨c1,d1,f1,l1⟩,g1,rfl,rfl⟩:=hi;obtain⟨⟨c2,d2,f2,l2⟩,g2,rfl,n,rfl⟩:=ht;unfold Builtin.SmallTypes.nextOf;refine XG (YX (name:=Str.ofString "__next__") ty ZM (Y3 ZM ty F.entry_tuple_iterator_next ?_ (F.args_tuple_iterator_next_1 _)));obtain⟨hp,ga,d,tk,os⟩:=s;have h1:A.in1.handled=none:=hh;show wpAny _ _ (Builtin.«tuple_iterator.__next__» _) _ _ _
 wp_walk
 rw[Ys,hx]
 wp_walk
 unfold raiseNew
 wp_walk
 exact q _ _ (((X9 ..).extBut.push _).push _) ⟨_,X0 _ rfl,rfl⟩
end
structure Src (P:Program)(w:World)(i:Addr)(T:Nat->Heap->Prop)(xs:Array Value)(fp:List Addr):Prop where
 item:∀(A:Around) (k:Nat) (x:Value) (s:Shared) (Q:aat) (E:aat),T k s.heap->xs[k]?=some x->(∀h',T (k+1) h'->Heap.SameBut i s.heap h'->Q x {s with heap:=h'})->wpAny (model P w) A (Builtin.SmallTypes.nextOf (.ref i)) Q E s
 stop:∀(A:Around) (k:Nat) (s:Shared) (Q:aat) (E:aat),A.handled=none->T k s.heap->xs[k]?=none->(∀h' e,Heap.ExtBut i s.heap h'->(∃o,h'.get? e=some o/\o.cls=.type "StopIteration")->E (.ref e) {s with heap:=h'})->wpAny (model P w) A (Builtin.SmallTypes.nextOf (.ref i)) Q E s
 keep:∀k h h',T k h->(∀b∈fp,∀o,h.get? b=some o->h'.get? b=some o)->T k h'
 mem:i∈fp
theorem yl {P:Program}{w:World}{it t:Addr}{LO:Array Value}(ne:t≠it):Src P w it (λk h=>h.IsTupleIter it t k/\h.IsTuple t LO) LO [it,t] where
 item:=λA k x s Q E st hx q=>Bo st.1 st.2 hx λh' z sb=>q h' ⟨z,st.2.extBut sb.extBut ne⟩ sb
 stop:=λA k s Q E hh st hx q=>Cp hh st.1 st.2 hx q
 keep:=λk h h' st z=>⟨st.1.at λo e=>z it (by simp) o e,by
  obtain⟨o,e,r⟩:=st.2;exact⟨o,z t (by simp) o e,r⟩⟩
 mem:=by simp
theorem yw {P:Program}{w:World}{it t:Addr}{LO:Array Value}(ne:t≠it):Src P w it (λk h=>h.IsListIter it t k/\h.IsList t LO) LO [it,t] where
 item:=λA k x s Q E st hx q=>wpAny_nextOf_list_item st.1 st.2 hx λh' z sb=>q h' ⟨z,st.2.extBut sb.extBut ne⟩ sb
 stop:=λA k s Q E hh st hx q=>wpAny_nextOf_list_end hh st.1 st.2 hx q
 keep:=λk h h' st z=>⟨st.1.at λo e=>z it (by simp) o e,st.2.at λo e=>z t (by simp) o e⟩
 mem:=by simp
structure Zp (z TI TO i1 i2:Addr)(p1 p2:List Addr)(T1 T2:Nat->Heap->Prop)(f0:Value)(k1 k2:Nat)(h:Heap):Prop where
 zp:IsZip h z TI TO f0
 ti:IsPair h TI (.ref i1) (.ref i2)
 to:∃a b,IsPair h TO a b
 s1:T1 k1 h
 s2:T2 k2 h
 n1:¬z∈p1/\¬TO∈p1/\¬i2∈p1
 n2:¬z∈p2/\¬TO∈p2/\¬i1∈p2
 nz:TI≠z/\TO≠z/\TI≠TO/\TI≠i1/\TI≠i2/\TO≠i1/\TO≠i2/\i1≠z/\i2≠z
section
variable {P:Program}{w:World}{A:Around}{E:aat}{s:Shared}{z TI TO i1 i2:Addr}{p1 p2:List Addr}{T1 T2:Nat->Heap->Prop}{k1 k2:Nat}{xs ys:Array Value}
theorem D5 {x y:Value} {Q:aat} (S1:Src P w i1 T1 xs p1) (S2:Src P w i2 T2 ys p2) (Z:Zp z TI TO i1 i2 p1 p2 T1 T2 .none k1 k2 s.heap) (hx:xs[k1]?=some x) (hy:ys[k2]?=some y)
  (q:∀h',Zp z TI TO i1 i2 p1 p2 T1 T2 (rawInt s.heap.objs.size) (k1+1) (k2+1) h'->IsPair h' s.heap.objs.size x y->(∀c o,c≠z->c≠TO->c≠i1->c≠i2->s.heap.get? c=some o->h'.get? c=some o)->Q (.ref s.heap.objs.size) {s with heap:=h'}) :
  wpAny (model P w) A (Builtin.«zip.__next__» ⟨[.ref z],[]⟩) (λfin s'=>∃v,fin=.done (.ret v)/\Q v s') E s:=by
 obtain⟨hz,MT,⟨a,b,MB⟩,t1,t2,n1,n2,nz⟩:=Z;obtain⟨hp,ga,d,tk,os⟩:=s;have d1:∀(h:Heap) (Q:aat) (E:aat),(∀h',T1 (k1+1) h'->Heap.SameBut i1 h h'->Q x ⟨h',ga,d,tk,os⟩)->T1 k1 h->wpAny (model P w) A (Builtin.SmallTypes.nextOf (.ref i1)) Q E ⟨h,ga,d,tk,os⟩:=λh Q E c t=>S1.item A k1 x ⟨h,ga,d,tk,os⟩ Q E t hx c;have d2:∀(h:Heap) (Q:aat) (E:aat),(∀h',T2 (k2+1) h'->Heap.SameBut i2 h h'->Q y ⟨h',ga,d,tk,os⟩)->T2 k2 h->wpAny (model P w) A (Builtin.SmallTypes.nextOf (.ref i2)) Q E ⟨h,ga,d,tk,os⟩:=λh Q E c t=>S2.item A k2 y ⟨h,ga,d,tk,os⟩ Q E t hy c;obtain⟨z1,z2,z3,z4,z5,z6,z7,z8,z9⟩:=nz;have o1:∀b∈p1,b≠z/\b≠TO/\b≠i2:=λb hb=>⟨λe=>n1.1 (e ▸ hb),λe=>n1.2.1 (e ▸ hb),λe=>n1.2.2 (e ▸ hb)⟩;have o2:∀b∈p2,b≠z/\b≠TO/\b≠i1:=λb hb=>⟨λe=>n2.1 (e ▸ hb),λe=>n2.2.1 (e ▸ hb),λe=>n2.2.2 (e ▸ hb)⟩;have z12:i1≠i2:=(o1 i1 S1.mem).2.2
 wp_walk using wpAny_onRaise,d1
 rotate_left
 · exact S1.keep k1 _ _ t1 λb hb o e=>((X9 ..).2 b (o1 b hb).1).trans e
 intro h1 Ta Ng;have Rr:∀b,b≠z->(hp.update z (Obj.mapFields λx=>x.setIfInBounds 0 Value.ellipsis)).get? b=hp.get? b:=λb n=>(X9 ..).2 b n;have O8:IsZip h1 z TI TO .ellipsis:=(Ng.2 z z8.symm).trans (YG _ hz rfl);have O9:IsPair h1 TO a b:=(Ng.2 TO z6).trans ((Rr TO z2).trans MB);have Ou:∀b o,b≠z->b≠i1->hp.get? b=some o->h1.get? b=some o:=λb o n m e=>(Ng.2 b m).trans ((Rr b n).trans e);have l1:h1.objs.size=hp.objs.size:=Ng.1.trans (X9 ..).1;clear Rr Ng d1
 wp_walk using wpAny_onRaise,d2
 rotate_left
 · exact S2.keep k2 _ _ t2 λb hb o e=>((X9 ..).2 b (o2 b hb).2.1).trans (Ou b o (o2 b hb).1 (o2 b hb).2.2 e)
 intro h2 V3 O_;have up1:∀b,b≠TO->(h1.update TO (Obj.mapSeq λv=>v.setIfInBounds 0 x)).get? b=h1.get? b:=λb n=>(X9 ..).2 b n;have Rt:IsZip h2 z TI TO .ellipsis:=(O_.2 z z9.symm).trans ((up1 z z2.symm).trans O8);have Ru:IsPair h2 TO x b:=(O_.2 TO z7).trans (YG _ O9 rfl);have P8:∀b o,b≠TO->b≠i2->h1.get? b=some o->h2.get? b=some o:=λb o n m e=>(O_.2 b m).trans ((up1 b n).trans e);have l2:h2.objs.size=hp.objs.size:=(O_.1.trans (X9 ..).1).trans l1;clear up1 O_ d2
 wp_walk
 have Pa:IsPair (h2.update TO (Obj.mapSeq λx=>x.setIfInBounds (0+1) y)) TO x y:=YG _ Ru rfl;have Pb:∀b o,b≠TO->h2.get? b=some o->(h2.update TO (Obj.mapSeq λx=>x.setIfInBounds (0+1) y)).get? b=some o:=λb o n e=>((X9 ..).2 b n).trans e;have l3:(h2.update TO (Obj.mapSeq λx=>x.setIfInBounds (0+1) y)).objs.size=hp.objs.size:=(X9 ..).1.trans l2;refine⟨_,rfl,?_⟩;generalize h2.update TO (Obj.mapSeq λx=>x.setIfInBounds (0+1) y)=h3 at Pa Pb l3 ⊢;dsimp only at q;rw[←l3] at q;have zn:z≠h3.objs.size:=Yk (by rw[l3];exact XX hz);have g4:∀b o,h3.get? b=some o->(h3.push {cls:=.type "tuple",data:=.seq #[x,y]}).get? b=some o:=λb o e=>XM _ e;have gn:(h3.push {cls:=.type "tuple",data:=.seq #[x,y]}).get? h3.objs.size=some {cls:=.type "tuple",data:=.seq #[x,y]}:=X0 _ rfl;show Q _ ⟨((h3.push {cls:=.type "tuple",data:=.seq #[x,y]}).update z _).update z _,ga,d,tk,os⟩;generalize h3.push {cls:=.type "tuple",data:=.seq #[x,y]}=h4 at g4 gn ⊢;have V4:IsZip h4 z TI TO .ellipsis:=g4 _ _ (Pb _ _ z2.symm Rt);have kz:∀b o,b≠z->h4.get? b=some o->((h4.update z (Obj.mapFields λv=>v.setIfInBounds 0 (rawInt (h3.objs.size:Nat)))).update z (Obj.mapFields λv=>v.setIfInBounds 1 (.bool false))).get? b=some o:=λb o n e=>((X9 ..).2 b n).trans (((X9 ..).2 b n).trans e);have kp:∀b o,b≠z->b≠TO->b≠i1->b≠i2->hp.get? b=some o->((h4.update z (Obj.mapFields λv=>v.setIfInBounds 0 (rawInt (h3.objs.size:Nat)))).update z (Obj.mapFields λv=>v.setIfInBounds 1 (.bool false))).get? b=some o:=λb o n1 n2 n3 n4 e=>kz b o n1 (g4 b o (Pb b o n2 (P8 b o n2 n4 (Ou b o n1 n3 e))));have V5:IsZip (h4.update z (Obj.mapFields λv=>v.setIfInBounds 0 (rawInt (h3.objs.size:Nat)))) z TI TO (rawInt (h3.objs.size:Nat)):=YG _ V4 rfl;refine q _ ⟨YG _ V5 rfl,kp _ _ z1 z3 z4 z5 MT,⟨x,y,kz _ _ z2 (g4 _ _ Pa)⟩,S1.keep _ _ _ Ta λb hb o e=>kz b o (o1 b hb).1 (g4 b o (Pb b o (o1 b hb).2.1 (P8 b o (o1 b hb).2.1 (o1 b hb).2.2 e))),S2.keep _ _ _ V3 λb hb o e=>kz b o (o2 b hb).1 (g4 b o (Pb b o (o2 b hb).2.1 e)),n1,n2,⟨z1,z2,z3,z4,z5,z6,z7,z8,z9⟩⟩ (kz _ _ zn.symm gn) kp
theorem D6 {Q:Fin->Shared->Prop}(hh:A.handled=none)(S1:Src P w i1 T1 xs p1)(S2:Src P w i2 T2 ys p2)(Z:Zp z TI TO i1 i2 p1 p2 T1 T2 .none k1 k2 s.heap)(he:xs[k1]?=none∨ys[k2]?=none)
  (q:∀h' e,(∀c o,c≠z->c≠TO->c≠i1->c≠i2->s.heap.get? c=some o->h'.get? c=some o)->(∃o,h'.get? e=some o/\o.cls=.type "StopIteration")->E (.ref e) {s with heap:=h'}) :
  wpAny (model P w) A (Builtin.«zip.__next__» ⟨[.ref z],[]⟩) Q E s:=by
 obtain⟨hz,MT,⟨a,b,MB⟩,t1,t2,n1,n2,nz⟩:=Z;obtain⟨hp,ga,d,tk,os⟩:=s;obtain⟨z1,z2,z3,z4,z5,z6,z7,z8,z9⟩:=nz;have o1:∀b∈p1,b≠z:=λb hb e=>n1.1 (e ▸ hb);have o2:∀b∈p2,b≠z/\b≠TO/\b≠i1:=λb hb=>⟨λe=>n2.1 (e ▸ hb),λe=>n2.2.1 (e ▸ hb),λe=>n2.2.2 (e ▸ hb)⟩;have zs:∀(h:Heap) (e:Addr),IsZip h z TI TO .ellipsis->(∃o,h.get? e=some o/\o.cls=.type "StopIteration")->∃o,(h.update z (Obj.mapFields λv=>v.setIfInBounds 0 .none)).get? e=some o/\o.cls=.type "StopIteration":=λh e hz ⟨o,ho,hc⟩=>by
  refine⟨o,((X9 ..).2 e ?_).trans ho,hc⟩;rintro rfl;rw[hz] at ho;cases ho;simp at hc
 cases hx:xs[k1]? with
 |none =>
  have d1:∀(h:Heap) (Q:aat) (E:aat),(∀h' e,Heap.ExtBut i1 h h'->(∃o,h'.get? e=some o/\o.cls=.type "StopIteration")->E (.ref e) ⟨h',ga,d,tk,os⟩)->T1 k1 h->wpAny (model P w) A (Builtin.SmallTypes.nextOf (.ref i1)) Q E ⟨h,ga,d,tk,os⟩:=λh Q E c t=>S1.stop A k1 ⟨h,ga,d,tk,os⟩ Q E hh t hx c
  wp_walk using wpAny_onRaise,d1
  rotate_left
  · exact S1.keep k1 _ _ t1 λb hb o e=>((X9 ..).2 b (o1 b hb)).trans e
  intro h1 e eb st;have O8:IsZip h1 z TI TO .ellipsis:=eb z _ z8.symm (YG _ hz rfl);have kp:∀b o,b≠z->b≠i1->hp.get? b=some o->h1.get? b=some o:=λb o n m q=>eb b o m (((X9 ..).2 b n).trans q)
  wp_walk
  exact q _ e (λc o c1 c2 c3 c4 w=>((X9 ..).2 c c1).trans (kp c o c1 c3 w)) (zs h1 e O8 st)
 |some x =>
  have hy:ys[k2]?=none:=he.resolve_left (by rw[hx];simp);have d1:∀(h:Heap) (Q:aat) (E:aat),(∀h',T1 (k1+1) h'->Heap.SameBut i1 h h'->Q x ⟨h',ga,d,tk,os⟩)->T1 k1 h->wpAny (model P w) A (Builtin.SmallTypes.nextOf (.ref i1)) Q E ⟨h,ga,d,tk,os⟩:=λh Q E c t=>S1.item A k1 x ⟨h,ga,d,tk,os⟩ Q E t hx c;have d2:∀(h:Heap) (Q:aat) (E:aat),(∀h' e,Heap.ExtBut i2 h h'->(∃o,h'.get? e=some o/\o.cls=.type "StopIteration")->E (.ref e) ⟨h',ga,d,tk,os⟩)->T2 k2 h->wpAny (model P w) A (Builtin.SmallTypes.nextOf (.ref i2)) Q E ⟨h,ga,d,tk,os⟩:=λh Q E c t=>S2.stop A k2 ⟨h,ga,d,tk,os⟩ Q E hh t hy c
  wp_walk using wpAny_onRaise,d1
  rotate_left
  · exact S1.keep k1 _ _ t1 λb hb o e=>((X9 ..).2 b (o1 b hb)).trans e
  intro h1 Ta Ng;have O8:IsZip h1 z TI TO .ellipsis:=(Ng.2 z z8.symm).trans (YG _ hz rfl);have Ou:∀b o,b≠z->b≠i1->hp.get? b=some o->h1.get? b=some o:=λb o n m e=>(Ng.2 b m).trans (((X9 ..).2 b n).trans e);have O9:IsPair h1 TO a b:=Ou _ _ z2 z6 MB;clear Ng d1
  wp_walk using wpAny_onRaise,d2
  rotate_left
  · exact S2.keep k2 _ _ t2 λb hb o e=>((X9 ..).2 b (o2 b hb).2.1).trans (Ou b o (o2 b hb).1 (o2 b hb).2.2 e)
  intro h2 e eb st;have Rt:IsZip h2 z TI TO .ellipsis:=eb z _ z9.symm (((X9 ..).2 z z2.symm).trans O8);have P8:∀b o,b≠TO->b≠i2->h1.get? b=some o->h2.get? b=some o:=λb o n m q=>eb b o m (((X9 ..).2 b n).trans q)
  wp_walk
  exact q _ e (λc o c1 c2 c3 c4 w=>((X9 ..).2 c c1).trans (P8 c o c2 c4 (Ou c o c1 c3 w))) (zs h2 e Rt st)
abbrev Zt (z TI TO i1 i2 t l:Addr)(xs ys:Array Value)(f0:Value)(k:Nat)(h:Heap):Prop:=Zp z TI TO i1 i2 [i1,t] [i2,l] (λk h=>h.IsTupleIter i1 t k/\h.IsTuple t xs) (λk h=>h.IsListIter i2 l k/\h.IsList l ys) f0 k k h
theorem Hz (t l:Addr)(xs ys:Array Value):Meets (Builtin.«zip.__new__» ⟨[.type "zip",.ref t,.ref l],[]⟩) (λ_ R s=>s.heap.IsTuple t xs/\s.heap.IsList l ys /\
  ∀h',Zt (s.heap.objs.size+4) (s.heap.objs.size+2) (s.heap.objs.size+3) s.heap.objs.size (s.heap.objs.size+1) t l xs ys .none 0 h'->(∀c o,s.heap.get? c=some o->h'.get? c=some o)->R (.ok (.ret (.ref (s.heap.objs.size+4)))) {s with heap:=h'}):=by
 refine .of_wp λP w A R s c=>?_;obtain⟨ht,hl,q⟩:=c;obtain⟨hp,ga,d,tk,os⟩:=s;have sz:=sub_zip;have t0:(Shared.heap ⟨hp,ga,d,tk,os⟩).IsTuple t xs:=ht;have l0:(Shared.heap ⟨hp.push {cls:=.type "tuple_iterator",data:=.fields #[.ref t,.int 0 0]},ga,d,tk,os⟩).IsList l ys:=hl.push _;have nt:@LT.lt Nat _ t hp.objs.size:=by obtain⟨_,e,_⟩:=ht;exact XX e
 have nl:@LT.lt Nat _ l hp.objs.size:=by obtain⟨_,e,_⟩:=hl;exact XX e
 wp_walk using wpAny_pyIter_tuple t0,wpAny_pyIter_list l0
 refine⟨_,rfl,?_⟩;have z1:(hp.push {cls:=.type "tuple_iterator",data:=.fields #[.ref t,.int 0 0]}).objs.size=hp.objs.size+1:=YQ ..;have g1:(hp.push {cls:=.type "tuple_iterator",data:=.fields #[.ref t,.int 0 0]}).get? hp.objs.size=some {cls:=.type "tuple_iterator",data:=.fields #[.ref t,.int 0 0]}:=X0 _ rfl;have k1:∀c o,hp.get? c=some o->(hp.push {cls:=.type "tuple_iterator",data:=.fields #[.ref t,.int 0 0]}).get? c=some o:=λc o e=>XM _ e;dsimp only;generalize hp.push {cls:=.type "tuple_iterator",data:=.fields #[.ref t,.int 0 0]}=h1 at z1 g1 k1 ⊢;have z2:(h1.push {cls:=.type "list_iterator",data:=.fields #[.ref l,.int 0 0]}).objs.size=hp.objs.size+2:=(YQ ..).trans (by rw[z1]);have g2:(h1.push {cls:=.type "list_iterator",data:=.fields #[.ref l,.int 0 0]}).get? h1.objs.size=some {cls:=.type "list_iterator",data:=.fields #[.ref l,.int 0 0]}:=X0 _ rfl;have k2:∀c o,h1.get? c=some o->(h1.push {cls:=.type "list_iterator",data:=.fields #[.ref l,.int 0 0]}).get? c=some o:=λc o e=>XM _ e;generalize h1.push {cls:=.type "list_iterator",data:=.fields #[.ref l,.int 0 0]}=h2 at z2 g2 k2 ⊢;rw[z1] at g2 ⊢;show R (.ok (.ret (.ref ((h2.push {cls:=.type "tuple",data:=.seq #[.ref hp.objs.size,.ref (hp.objs.size+1)]}).push {cls:=.type "tuple",data:=.seq #[.none,.none]}).objs.size))) ⟨((h2.push {cls:=.type "tuple",data:=.seq #[.ref hp.objs.size,.ref (hp.objs.size+1)]}).push {cls:=.type "tuple",data:=.seq #[.none,.none]}).push {cls:=.type "zip",data:=.fields #[.none,.bool false,.bool false,.ref h2.objs.size,.ref (h2.push {cls:=.type "tuple",data:=.seq #[.ref hp.objs.size,.ref (hp.objs.size+1)]}).objs.size]},ga,d,tk,os⟩;have z3:(h2.push {cls:=.type "tuple",data:=.seq #[.ref hp.objs.size,.ref (hp.objs.size+1)]}).objs.size=hp.objs.size+3:=(YQ ..).trans (by rw[z2]);have g3:(h2.push {cls:=.type "tuple",data:=.seq #[.ref hp.objs.size,.ref (hp.objs.size+1)]}).get? h2.objs.size=some {cls:=.type "tuple",data:=.seq #[.ref hp.objs.size,.ref (hp.objs.size+1)]}:=X0 _ rfl;have k3:∀c o,h2.get? c=some o->(h2.push {cls:=.type "tuple",data:=.seq #[.ref hp.objs.size,.ref (hp.objs.size+1)]}).get? c=some o:=λc o e=>XM _ e;generalize h2.push {cls:=.type "tuple",data:=.seq #[.ref hp.objs.size,.ref (hp.objs.size+1)]}=h3 at z3 g3 k3 ⊢;rw[z2] at g3 ⊢;have z4:(h3.push {cls:=.type "tuple",data:=.seq #[.none,.none]}).objs.size=hp.objs.size+4:=(YQ ..).trans (by rw[z3]);have g4:(h3.push {cls:=.type "tuple",data:=.seq #[.none,.none]}).get? h3.objs.size=some {cls:=.type "tuple",data:=.seq #[.none,.none]}:=X0 _ rfl;have k4:∀c o,h3.get? c=some o->(h3.push {cls:=.type "tuple",data:=.seq #[.none,.none]}).get? c=some o:=λc o e=>XM _ e;generalize h3.push {cls:=.type "tuple",data:=.seq #[.none,.none]}=h4 at z4 g4 k4 ⊢;rw[z3] at g4 ⊢;have g5:∀o:Obj,o.isFreed=false->(h4.push o).get? (hp.objs.size+4)=some o:=λo f=>by rw[←z4];exact X0 _ f
 rw[z4];have k5:∀c o u,h4.get? c=some o->(h4.push u).get? c=some o:=λc o u e=>XM _ e;refine q _ ⟨g5 _ rfl,k5 _ _ _ (k4 _ _ g3),⟨_,_,k5 _ _ _ g4⟩,⟨⟨_,k5 _ _ _ (k4 _ _ (k3 _ _ (k2 _ _ g1))),rfl,rfl⟩,?_⟩,⟨⟨_,k5 _ _ _ (k4 _ _ (k3 _ _ g2)),rfl,rfl⟩,?_⟩,?_,?_,?_⟩ λc o e=>k5 _ _ _ (k4 _ _ (k3 _ _ (k2 _ _ (k1 _ _ e))))
 · obtain⟨o,e,r⟩:=ht;exact⟨o,k5 _ _ _ (k4 _ _ (k3 _ _ (k2 _ _ (k1 _ _ e)))),r⟩
 · exact hl.at λo e=>k5 _ _ _ (k4 _ _ (k3 _ _ (k2 _ _ (k1 _ _ e))))
 · refine⟨?_,?_,?_⟩ <;> simp only[XN,Zv,or_false,not_or] <;> exact⟨by intro e;have e:(_:Nat)=_:=e;omega,by intro e;have e:(_:Nat)=_:=e;omega⟩
 · refine⟨?_,?_,?_⟩ <;> simp only[XN,Zv,or_false,not_or] <;> exact⟨by intro e;have e:(_:Nat)=_:=e;omega,by intro e;have e:(_:Nat)=_:=e;omega⟩
 · refine⟨?_,?_,?_,?_,?_,?_,?_,?_,?_⟩ <;> intro e <;> have e:(_:Nat)=_:=e <;> omega
theorem EB {t l:Addr}{xs ys:Array Value}{Q:aat}(ht:s.heap.IsTuple t xs)(hl:s.heap.IsList l ys)
  (q:∀h',Zt (s.heap.objs.size+4) (s.heap.objs.size+2) (s.heap.objs.size+3) s.heap.objs.size (s.heap.objs.size+1) t l xs ys .none 0 h'->(∀c o,s.heap.get? c=some o->h'.get? c=some o)->Q (.ref (s.heap.objs.size+4)) {s with heap:=h'}):wpAny (model P w) A (call (.type "zip") [.ref t,.ref l]) Q E s :=
 callType_new F.called_zip (by decide) (F.typeCall_zip_2 _ _) (F.newCall_zip_2 _ _) (λo=>F.args_object_init_3 o _ _) F.entry_zip_new (Hz t l xs ys) ⟨ht,hl,λh' Z k=>⟨⟨_,Z.zp,rfl⟩,q h' Z k⟩⟩
theorem tM {t l:Addr}{xs ys:Array Value}{k:Nat}{x y:Value}{Q:Option Value->Shared->Prop}(n1:t≠i1)(n2:l≠i2)(Z:Zt z TI TO i1 i2 t l xs ys .none k s.heap)(hx:xs[k]?=some x)(hy:ys[k]?=some y)
  (q:∀h',Zt z TI TO i1 i2 t l xs ys (rawInt s.heap.objs.size) (k+1) h'->IsPair h' s.heap.objs.size x y->(∀c o,c≠z->c≠TO->c≠i1->c≠i2->s.heap.get? c=some o->h'.get? c=some o)->Q (some (.ref s.heap.objs.size)) {s with heap:=h'}):wpAny (model P w) A (pyNext (.ref z)) Q E s:=by
 have ty:s.TypeIs (.ref z) "zip":=⟨_,Z.zp,rfl⟩;unfold pyNext;exact XG (wpAny_attempt (YX (name:=Str.ofString "__next__") ty F.slot_zip_next (Y3 F.slot_zip_next ty F.entry_zip_next (D5 (yl n1) (yw n2) Z hx hy λh' a b c=>XQ (q h' a b c)) (F.args_zip_next_1 _))))
theorem uf {t l:Addr}{xs ys:Array Value}{k:Nat}{Q:Option Value->Shared->Prop}(hh:A.handled=none)(n1:t≠i1)(n2:l≠i2)(Z:Zt z TI TO i1 i2 t l xs ys .none k s.heap)(he:xs[k]?=none∨ys[k]?=none)
  (q:∀h',(∀c o,c≠z->c≠TO->c≠i1->c≠i2->s.heap.get? c=some o->h'.get? c=some o)->Q none {s with heap:=h'}):wpAny (model P w) A (pyNext (.ref z)) Q E s:=by
 have ty:s.TypeIs (.ref z) "zip":=⟨_,Z.zp,rfl⟩;unfold pyNext;refine XG (wpAny_attempt (YX (name:=Str.ofString "__next__") ty F.slot_zip_next (Y3 F.slot_zip_next ty F.entry_zip_next (D6 hh (yl n1) (yw n2) Z he λh' e kp st=>?_) (F.args_zip_next_1 _))));obtain⟨o,e1,e2⟩:=st;exact XG (wpAny_isInstance (T:="StopIteration") (b:=true) ⟨o,e1,e2⟩ isSubtype_stop (XQ (q _ kp)))
end
end BwX
namespace BwX
open PySem PyProof.Rows
section
variable {P:Program}{w:World}{A:Around}{E:aat}{s:Shared}
theorem BF {S t:Addr} {LO:Array Value} {ns:List Int} {R:Result->Shared->Prop} {led:Bool} (hh:A.handled=none) (ht:s.heap.IsTuple t LO) (hi:IntsAre LO.toList ns) (hb:LO.size+1 < scanBound) (ne:t≠S)
  (hS:s.heap.get? S=some {cls:=.type "set",dict:=none,data:=.set #[] 0 (.fresh 0 0 led)})
  (q:∀(h':Heap) (tk:Nat),h'.SetOf (intKind P w) S (λk=>(firstMet (λi=>ns.getD i 0) LO.size).any (·==k)) (firstMet (λi=>ns.getD i 0) LO.size).length->(∀b o,b≠S->s.heap.get? b=some o->h'.get? b=some o)->R (.ok (.ret .none)) {s with heap:=h',toks:=tk}) :
  codeAny (model P w) A (.builtin "set.__init__" ⟨[.ref S,.ref t],[]⟩) R s:=by
 have ty:=ht.typeIs;have hT:s.TypeIs (.ref S) "set":=⟨_,hS,rfl⟩;have b1:=F.sub_tuple_set;have b2:=F.sub_tuple_frozenset;have pl:plainId "set.__init__"=true:=by decide +kernel
 refine codeAny_builtin F.entry_set_init ?_;rw[Around.under_plainId pl _];obtain⟨hp,ga,d,tk,os⟩:=s;have t0:(Shared.heap ⟨hp,ga,d,tk,os⟩).IsTuple t LO:=ht
 wp_walk using wpAny_pyIter_tuple t0
 have lt:t < hp.objs.size:=by obtain⟨_,e,_⟩:=ht;exact XX e
 have lS:S < hp.objs.size:=XX hS;have V6:A.in1.in1.handled=none:=by simp[hh]
 refine codeAny_set_update_loopS ((Walks.tuple V6 hp.objs.size t (Yk lt) LO).toS) S (by simp only[XN,Zv,or_false,not_or];exact⟨Yk lS,ne.symm⟩) (λi=>ns.getD i 0) (λi v hv=>IntsAre.int_at hi i v (by rw[Array.getElem?_toList];exact hv)) hb LO.size 0 _ (by omega) (Ye _) ?_ ?_ ?_
 · exact⟨⟨_,X0 _ rfl,rfl,rfl⟩,ht.push _⟩
 · exact SetOf_congr ((setObjOf_fresh led).setOf (XM _ hS) (by decide)) (λ_=>rfl) rfl
 · rintro⟨h',g',d',MH,Q3⟩ mv hq;obtain rfl:g'=ga:=mv.gens;obtain rfl:d'=d:=mv.drawn;obtain rfl:Q3=os:=mv.os
   wp_walk
   refine q h' MH hq λb o n e=>mv.heap b o ?_ (XM _ e);simp only[XN,Zv,or_false,not_or];exact⟨n,Yk (XX e)⟩
def G7 (o:Obj):Prop:=∃led:Bool,o={cls:=.type "set",dict:=none,data:=.set #[] 0 (.fresh 0 0 led)}
theorem zE {t:Addr}{LO:Array Value}{ns:List Int}{Q:aat}(hh:A.handled=none)(ht:s.heap.IsTuple t LO)(hi:IntsAre LO.toList ns)(hb:LO.size+1 < scanBound)
  (q:∀(h':Heap) (tk:Nat),h'.SetOf (intKind P w) s.heap.objs.size (λk=>(firstMet (λi=>ns.getD i 0) LO.size).any (·==k)) (firstMet (λi=>ns.getD i 0) LO.size).length->(∀b o,s.heap.get? b=some o->h'.get? b=some o)->Q (.ref s.heap.objs.size) {s with heap:=h',toks:=tk}) :
  wpAny (model P w) A (call (.type "set") [.ref t]) Q E s:=by
 have c1:=Z5.notType;have c2:=Z5.canCreate;have c3:=Z5.made;have c4:=Z5.sub;have c5:=F.typeCall_set_1 (.ref t);obtain⟨_,_,c6⟩:=Z5.mro;refine wpAny_call (codeAny_of_tree (XQ ⟨Code.quiet_builtin _ (by decide +kernel),codeAny_builtin F.entry_type_call ?_⟩));rw[Around.under_plain (weight_type_call_type "set" [.ref t] []) rfl]
 wp_walk
 refine aai (code_set_new_1 (.ref t) (E:=E) (Q₁:=λv s1=>∃g o,v=.ref s.heap.objs.size/\s1={s with heap:=g}/\g.get? s.heap.objs.size=some o/\G7 o/\∀b u,s.heap.get? b=some u->g.get? b=some u) λled=>⟨_,_,rfl,rfl,X0 _ rfl,⟨led,rfl⟩,λb u e=>XM _ e⟩) λr s1 z=>?_
 match r,z with
 |.error e,z=>exact z
 |.ok (.ret v),z =>
  obtain⟨g,_,rfl,rfl,P9,⟨led,rfl⟩,kept⟩:=z;have ty:Shared.TypeIs {s with heap:=g} (.ref s.heap.objs.size) "set":=⟨_,P9,rfl⟩;have c7:=Z5.init.lookup;have c8:=Z5.init.bind (.ref s.heap.objs.size)
  wp_walk
  have there:g.IsTuple t LO:=ht.at λo e=>kept t o e;have apart:t≠s.heap.objs.size:=by obtain⟨_,e,_⟩:=ht;exact Yk (XX e)
  refine codeAny_call_builtin_code (plainId_quiet (by decide +kernel) _) (check_set_init_1 ty (BF (A:=A.in1) (ns:=ns) (by simp[hh]) there hi hb apart P9 λh' tk hq kp=>?_))
  wp_walk
  exact q h' tk hq λb o e=>kp b o (Yk (XX e)) (kept b o e)
end
end BwX
namespace L2
open PySem PySem.Spec PyProof.Rows
section
variable {P:Program}{w:World}{K:aas}{mg:aau}{base:Heap}{x qual:Str}{st:Stmt}{f C:Addr}{fd:FuncData}{N ps:List Str}{k:Nat}{sp:Sp}
theorem dm.oo (F:dm K x qual st f fd) (S:aG N ps (aw st))
  (LW:∀(LP:Value) (A:Around) (outer:List Env) (s:Shared) (H:Hp) (vs:List V) (Q:VK) (E:XK),cO k (A.deeper (envOfC qual (aw st) s.heap.objs.size f LP))->sp vs H Q E ->
   ∃t,qR (nj bF P w K mg base N qual (aw st) f LP A outer s H E).HS (bZ st) t/\t {nx:=λ_ H'=>Q .b8 H',rt:=Q} (start N vs) H)
  (len:∀vs H Q E,sp vs H Q E->vs.length=ps.length:=by intro _ _ _ _ h;repeat (first|(obtain⟨rfl,_⟩:=h;exact rfl)|obtain⟨_,h⟩:=h)):a9 P w K mg base bF (k+1) f fd ps sp:=F.ok S len LW
theorem dm.lW (F:dm K x qual st f fd)(S:aG N ps (aw st))
  (LW:∀(LP:Value) (A:Around) (outer:List Env) (s:Shared) (H:Hp) (vs:List V) (Q:VK) (E:XK),cO k (A.deeper (envOfC qual (aw st) s.heap.objs.size f LP))->sp vs H Q E ->
   ∃t,qR (Lj C P w K mg base N qual (aw st) f LP A outer s H E) (bZ st) t/\t {nx:=λ_ H'=>Q .b8 H',rt:=Q} (start N vs) H)
  (len:∀vs H Q E,sp vs H Q E->vs.length=ps.length:=by intro _ _ _ _ h;repeat (first|(obtain⟨rfl,_⟩:=h;exact rfl)|obtain⟨_,h⟩:=h)):a9 P w K mg base (eW P w C) (k+1) f fd ps sp:=F.LC S len LW
end
end L2
namespace Bw
open PySem PySem.Spec PyProof.Rows L2
section
variable {X:Cx}{x:Str}{e:Expr}{te:TE}{p pos pos':Pos}
theorem aZ (i:Nat) (hN:X.N.Nodup) (he:PE X e te) (hi:X.N[i]?=some x:=by rfl) (hx:Loc X.env.scope x:=by exact Or.inl rfl) (hs:swapsWith e (some (.Name x pos')) pos.line X.env=pure false:=by rfl) (hf:X.fn x=true∨X.env.scope.names.lookup x=some .local:=by first|exact .inl rfl|exact .inr rfl):PS X (.Assign [.Name x pos'] e pos) (yf te (fB i)):=o4 hN hi hx he hs hf
theorem bh (i:Nat)(hN:X.N.Nodup)(hi:X.N[i]?=some x:=by rfl)(hx:Loc X.env.scope x:=by exact Or.inl rfl)(hf:X.fn x=true∨X.env.scope.names.lookup x=some .local:=by first|exact .inl rfl|exact .inr rfl):PG X (.Name x pos) (fB i):=sO hN hi hx hf
theorem bf (hm:X.mg "len"=none)(h:PE X e te)(hg:Gl X "len":=by rfl)(he:starEach [e] X.env=(false,eval e X.env)::starEach [] X.env:=by rfl):PE X (.Call (.Name "len" p) [e] [] pos) (G1 (λxs H Q=>∃p ys,xs=[.ref p]/\(aO X.K H p ys∨b6 X.K H p ys)/\Q (.int ys.length) H) (cI te eV)):=bX uv hg hm PySem.boot_len (aa h ah (hs:=he)) (he:=he)
end
theorem Lw {p:aaw->Prop}(h:p [])(us:aaw)(e:us.length=0):p us:=by
 cases us with
 |nil=>exact h
 |cons a us=>cases e
theorem Kb {p:aaw->Prop}(h:∀a,p [a])(us:aaw)(e:us.length=1):p us:=by
 cases us with
 |nil=>cases e
 |cons a us=>exact Lw (p:=λus=>p (a::us)) (h a) us (Nat.succ.inj e)
theorem IF {p:aaw->Prop}(h:∀a b,p [a,b])(us:aaw)(e:us.length=2):p us:=by
 cases us with
 |nil=>cases e
 |cons a us=>exact Kb (p:=λus=>p (a::us)) (h a) us (Nat.succ.inj e)
theorem JY {p:aaw->Prop}(h:∀a b c,p [a,b,c])(us:aaw)(e:us.length=3):p us:=by
 cases us with
 |nil=>cases e
 |cons a us=>exact IF (p:=λus=>p (a::us)) (h a) us (Nat.succ.inj e)
theorem Ka {p:aaw->Prop}(h:∀a b c d,p [a,b,c,d])(us:aaw)(e:us.length=4):p us:=by
 cases us with
 |nil=>cases e
 |cons a us=>exact JY (p:=λus=>p (a::us)) (h a) us (Nat.succ.inj e)
theorem Kd {p:aaw->Prop}(h:∀a b c d e,p [a,b,c,d,e])(us:aaw)(e:us.length=5):p us:=by
 cases us with
 |nil=>cases e
 |cons a us=>exact Ka (p:=λus=>p (a::us)) (h a) us (Nat.succ.inj e)
theorem LB {p:aaw->Prop}(h:∀a b c d e f,p [a,b,c,d,e,f])(us:aaw)(e:us.length=6):p us:=by
 cases us with
 |nil=>cases e
 |cons a us=>exact Kd (p:=λus=>p (a::us)) (h a) us (Nat.succ.inj e)
theorem KI {p:aaw->Prop}(h:∀a b c d e f g,p [a,b,c,d,e,f,g])(us:aaw)(e:us.length=7):p us:=by
 cases us with
 |nil=>cases e
 |cons a us=>exact LB (p:=λus=>p (a::us)) (h a) us (Nat.succ.inj e)
def Fn (P:Program)(w:World)(K:aas)(mg:aau)(base:Heap)(CX:mx)(k:Nat)(x:Str)(ps:List Str)(sp:Sp):Prop :=
 ∃(f:Addr) (fd:FuncData),mg x=some (.ref f)/\PySem.W.keepIn K (.ref f)=true/\Binds K fd ps []/\a9 P w K mg base CX k f fd ps sp
def hX (K:aas)(mg:aau)(x:Str)(st:Stmt):Prop:=∃(f:Addr) (fd:FuncData),mg x=some (.ref f)/\dm K x x st f fd
section
variable {X:Cx}{CX:mx}{k:Nat}{x:Str}{ps:List Str}{sp:Sp}{E:XK}{p pos:Pos}{e:Expr}{es:List Expr}{t:TA}
theorem aV (F:Fn X.prog X.w X.K X.mg X.base CX k x ps sp) (hr:cO k X.A) (hx:Passes CX X E) (ha:PA X (e::es) t) (hg:Gl X x:=by rfl) (Mt:(x==("__debug__":Str))=false:=by decide) (he:starEach (e::es) X.env=(false,eval e X.env)::starEach es X.env:=by rfl) (LY:(backTo pos (starEach es X.env)).any (·.1)=false:=by rfl) :
  PE X (.Call (.Name x p) (e::es) [] pos) (n9 sp [] E t):=by
 obtain⟨f,fd,hm,hk,hb,F⟩:=F;exact D9 F hr hg hm hk hb .nil hx ha Mt he LY
end
section
variable {P:Program}{w:World}{K:aas}{mg:aau}{base:Heap}
theorem hX.mk {CX:mx} {x:Str} {st:Stmt} {ps:List Str} {k:Nat} {sp:Sp} (D:hX K mg x st)
  (ok:∀f fd,dm K x x st f fd->a9 P w K mg base CX k f fd ps sp) (hb:∀(kV doc pm:Value) (an:Option Addr) (LP ct:Value) (us:aaw),us.length=ps.length->bindArgs (PySem.W.fnOf x x (cY st) (bZ st) (aw st) .none kV doc pm an LP ct) ⟨us,[]⟩=pure (ps.zip us):=by intro _ _ _ _ _ _;first|exact Kb (λ_=>rfl)|exact IF (λ_ _=>rfl)|exact JY (λ_ _ _=>rfl)|exact Ka (λ_ _ _ _=>rfl)|exact Kd (λ_ _ _ _ _=>rfl)|exact KI (λ_ _ _ _ _ _ _=>rfl)):Fn P w K mg base CX k x ps sp:=by
 obtain⟨f,fd,hm,F⟩:=D;exact⟨f,fd,hm,F.kp,F.binds hb,ok f fd F⟩
theorem Fn.mono {CX:mx}{x:Str}{ps:List Str}{j k:Nat}{sp:Sp}(F:Fn P w K mg base CX j x ps sp)(h:j<=k):Fn P w K mg base CX k x ps sp:=by
 obtain⟨f,fd,hm,hk,hb,F⟩:=F;exact⟨f,fd,hm,hk,hb,F.mono h⟩
end
def st (w:W):Str:=⟨w.toArray⟩
theorem pW (w:W):TL.tl (st w)=w:=rfl
theorem b9 (w:W):(st w).length=w.length:=by rw[TL.k6,pW]
theorem jx {v w:W}:st v=st w↔v=w:=⟨λh=>by have:=YN TL.tl h;exact this,λh=>by rw[h]⟩
theorem kY {s:String}:Str.ofString s=st (cd s):=TL.xN (by rw[TL.gP,pW];rfl)
def Gv (mg:aau)(x:Str)(v:V):Prop:=∃u,mg x=some u/\RelV v u
theorem bb {X:Cx}{x:Str}{v:V}{pos:Pos}(h:Gv X.mg x v)(hg:Gl X x:=by rfl)(hd:(x==("__debug__":Str))=false:=by decide):PE X (.Name x pos) (tC v):=by
 obtain⟨u,hm,r⟩:=h;exact D1 hg hm r hd
theorem fs {N P:List Str}{sc:Scope}(a:sc.kind=.function:=by rfl)(b:sc.isCoroutine=false:=by rfl)(c:sc.isGenerator=false:=by rfl)(d:N.Nodup:=by decide +kernel)(e:N.take P.length=P:=by rfl)(f:∀x∈P,sc.names.lookup x=some .local∨sc.names.lookup x=some .cell:=by decide +kernel)(g:∀y∈sc.names,y.2≠.free:=by decide +kernel):aG N P sc:=⟨a,b,c,d,e,f,g⟩
end Bw
namespace L2
open PySem PySem.Spec PyProof.Rows
def Ev (t:TE)(σ:St)(H:Hp)(v:V):Prop:=∀R:VK,R v H->t σ H R
def Tv (t:TT)(σ:St)(H:Hp)(b:Bool):Prop:=∀R:Bool->Hp->Prop,R b H->t σ H R
section
variable {σ:St}{H:Hp}{ta tb tc te:TE}{t u:TT}{x y v:V}{i j k:Int}{b c:Bool}{K:aas}{a p:Addr}{xs ys:List V}
theorem ag {n:Nat} (h:σ[n]?=some (some v)):Ev (cJ n) σ H v:=λ_ r=>⟨v,h,r⟩
theorem aD:Ev (tC v) σ H v:=λ_ r=>r
theorem md {f:Int->Int->V}(ha:Ev ta σ H (.int i))(hb:Ev tb σ H (.int j)):Ev (kK (qM f) ta tb) σ H (f i j):=λ_ r=>ha _ (hb _ ⟨i,j,rfl,rfl,r⟩)
theorem yU {C:Int->Int->Prop}{f:Int->Int->V}(ha:Ev ta σ H (.int i))(hb:Ev tb σ H (.int j))(h:C i j):Ev (kK (rI C f) ta tb) σ H (f i j):=λ_ r=>ha _ (hb _ ⟨i,j,rfl,rfl,h,r⟩)
theorem cb (ha:Ev ta σ H x)(hb:Ev tb σ H y)(s:Ea x y=true:=by rfl):Ev (kK J7 ta tb) σ H (.bl (decide (x=y))):=λ_ r=>ha _ (hb _ ⟨s,r⟩)
theorem oQ (ha:Ev ta σ H x)(hb:Ev tb σ H y)(s:Ea x y=true:=by rfl):Ev (kK Li ta tb) σ H (.bl (!decide (x=y))):=λ_ r=>ha _ (hb _ ⟨s,r⟩)
theorem tm (ha:Ev ta σ H x):Ev (kK (λx y H Q=>y=.b8/\Q (.bl (decide (x=.b8))) H) ta (tC .b8)) σ H (.bl (decide (x=.b8))):=λ_ r=>ha _ ⟨rfl,r⟩
theorem C3 {n:Nat}{z:Str}(ha:Ev ta σ H (.str ⟨#[n]⟩))(hb:Ev tb σ H (.str z)):Ev (kK (λx y H Q=>∃(c:Nat) (z:Str),x=.str ⟨#[c]⟩/\y=.str z/\Q (.bl (decide (c∈z.cps.toList))) H) ta tb) σ H (.bl (decide (n∈z.cps.toList))):=λ_ r=>ha _ (hb _ ⟨n,z,rfl,rfl,r⟩)
theorem E9 {n:Nat}{z:Str}(ha:Ev ta σ H (.str ⟨#[n]⟩))(hb:Ev tb σ H (.str z)):Ev (kK (λx y H Q=>∃(c:Nat) (z:Str),x=.str ⟨#[c]⟩/\y=.str z/\Q (.bl (!decide (c∈z.cps.toList))) H) ta tb) σ H (.bl (!decide (n∈z.cps.toList))):=λ_ r=>ha _ (hb _ ⟨n,z,rfl,rfl,r⟩)
theorem mE {neg:Bool}(ha:Ev ta σ H x)(hb:Ev tb σ H (.ref p))(s:aO K H p xs∨b6 K H p xs)(f:dM x=true)(fs:xs.all dM=true):Ev (kK (HJ K neg) ta tb) σ H (.bl (if neg then !og x xs else og x xs)):=λ_ r=>ha _ (hb _ ⟨p,xs,rfl,s,f,fs,r⟩)
theorem tK {z:Str}{n:Nat}(ha:Ev ta σ H (.str z))(hb:Ev tb σ H (.int i))(hz:z.length<=sizeLine)(e:nU z.cps.toList i=some n):Ev (kK IL ta tb) σ H (.str ⟨#[n]⟩):=λ_ r=>ha _ (hb _ ⟨z,i,n,rfl,rfl,hz,e,r⟩)
theorem a8 (ha:Ev ta σ H (.ref p))(hb:Ev tb σ H (.int i))(s:aO K H p xs)(e:nU xs i=some v):Ev (kK (z_ K) ta tb) σ H v:=λ_ r=>ha _ (hb _ ⟨p,xs,i,v,rfl,rfl,s,e,r⟩)
theorem Bg (ha:Ev ta σ H (.ref p))(hb:Ev tb σ H (.int i))(s:b6 K H p xs)(e:nU xs i=some v):Ev (kK (IE K) ta tb) σ H v:=λ_ r=>ha _ (hb _ ⟨p,xs,i,v,rfl,rfl,s,e,r⟩)
theorem a_ {C dx:Addr}{fs:List (Str×V)}{f:Str}(ha:Ev ta σ H (.ref a))(e:H a=some (.ins C dx fs))(c:zk K C)(n:ia K C f)(l:fs.lookup f=some v):Ev (vd K ta f) σ H v:=λ_ r=>ha _ ⟨a,C,dx,fs,v,rfl,e,c,n,l,r⟩
theorem aT (ha:Ev ta σ H (.ref p))(s:aO K H p xs∨b6 K H p xs):Ev (G1 (λxs H Q=>∃p ys,xs=[.ref p]/\(aO K H p ys∨b6 K H p ys)/\Q (.int ys.length) H) (cI ta eV)) σ H (.int xs.length):=λ_ r=>ha _ ⟨p,xs,rfl,s,r⟩
theorem tq {z:Str}(ha:Ev ta σ H (.str z))(hz:z.length<=sizeLine):Ev (G1 (λxs H Q=>∃z,xs=[.str z]/\z.length<=sizeLine/\Q (.int z.length) H) (cI ta eV)) σ H (.int z.length):=λ_ r=>ha _ ⟨z,rfl,hz,r⟩
theorem JJ (ha:Ev ta σ H (.bl b))(hb:b=false->Ev tb σ H (.bl c)):Ev (JP ta tb) σ H (.bl (b||c)):=λR r=>ha _ ⟨b,rfl,by
 cases b with
 |false=>exact v8 (hb rfl _ r)
 |true=>exact p_ r⟩
theorem aI (h:Ev te σ H (.bl b)):Tv (qj te) σ H b:=λ_ r=>h _ ⟨b,rfl,r⟩
theorem Kz (h:Ev te σ H (.bl b)):Tv (tB te) σ H b:=λ_ r=>h _ ⟨b,rfl,r⟩
theorem Bu {p q:Int->Int->Bool}(ha:Ev ta σ H (.int i))(hb:Ev tb σ H (.int j))(hc:Ev tc σ H (.int k)):Ev (xH (qM λi j=>.bl (p i j)) (qM λi j=>.bl (q i j)) ta tb tc) σ H (.bl (p i j&&q j k)):=λR r=>ha _ (hb _ ⟨i,j,rfl,rfl,p i j,rfl,by
 cases h:p i j with
 |false=>rw[h] at r;exact v8 r
 |true=>rw[h] at r;exact p_ (hc _ ⟨j,k,rfl,rfl,r⟩)⟩)
theorem cD {p q:Int->Int->Bool}(ha:Ev ta σ H (.int i))(hb:Ev tb σ H (.int j))(hc:Ev tc σ H (.int k)):Tv (qj (xH (qM λi j=>.bl (p i j)) (qM λi j=>.bl (q i j)) ta tb tc)) σ H (p i j&&q j k):=aI (Bu ha hb hc)
theorem jG {p:Int->Int->Bool}(ha:Ev ta σ H (.int i))(hb:Ev tb σ H (.int j)):Tv (qj (kK (qM λi j=>.bl (p i j)) ta tb)) σ H (p i j):=λ_ r=>ha _ (hb _ ⟨i,j,rfl,rfl,_,rfl,r⟩)
theorem fh (h:Tv t σ H b):Tv (Jc t) σ H (!b):=λ_ r=>h _ r
theorem qC (h:Tv t σ H b)(h2:b=true->Tv u σ H c):Tv (JV t u) σ H (b&&c):=λR r=>h _ (by
 cases b with
 |false=>exact v8 r
 |true=>exact p_ (h2 rfl _ r))
theorem gO (h:Tv t σ H b)(h2:b=false->Tv u σ H c):Tv (Lg t u) σ H (b||c):=λR r=>h _ (by
 cases b with
 |false=>exact v8 (h2 rfl _ r)
 |true=>exact p_ r)
theorem tH (ha:Ev ta σ H (.int i)):Ev (Lk (rU λi=>.int (-i)) ta) σ H (.int (-i)):=λ_ r=>ha _ ⟨i,rfl,r⟩
theorem IW {z:Str}{r:V->List V->Hp->VK->Prop}(ha:Ev ta σ H (.str z))(h:∀R,R v H->r (.str z) [] H R):Ev (Ln r ta) σ H v:=λR q=>ha _ ⟨⟨z,rfl⟩,h R q⟩
theorem aU {D:Ends}{s1 s2:TS}(h:Tv t σ H b)(q1:b=true->s1 D σ H)(q2:b=false->s2 D σ H):Jl t s1 s2 D σ H:=h _ (by
 cases b with
 |false=>exact v8 (q2 rfl)
 |true=>exact p_ (q1 rfl))
theorem bU {D:Ends}(h:Ev te σ H v)(q:D.rt v H):EV te D σ H:=h _ q
theorem cG {D:Ends}{n:Nat}(h:Ev te σ H v)(q:D.nx (σ.set n (some v)) H):yf te (fB n) D σ H:=h _ q
theorem HV {D:Ends}{s1 s2:TS}(q:s1 {D with nx:=s2 D} σ H):EC s1 s2 D σ H:=q
end
theorem au.laid {H H':Hp}{p:Addr}{o:HO}(e:au H H')(h:H p=none):au H (upd H' p o):=λb u q=>by
 rw[aq (ao q h)];exact e b u q
section
variable {σ:St}{H:Hp}{ta tb tc:TE}{i j c:Int}
theorem yI {n:Nat} {R:It->Hp->Prop} (ha:Ev ta σ H (.int i)) (hb:Ev tb σ H (.int j)) (hc:Ev tc σ H (.int c)) (rg:Jw i j c n) (q:R (Ip i c n) H):Gh (cI ta (cI tb (cI tc eV))) σ H R:=ha _ (hb _ (hc _ ⟨i,j,c,n,rfl,rg,q⟩))
theorem y4 {R:It->Hp->Prop}(ha:Ev ta σ H (.int i))(hb:Ev tb σ H (.int j))(rg:-(2 ^ 62)<=i/\i < 2 ^ 62/\-(2 ^ 62)<=j/\j < 2 ^ 62)(q:R (AH i (j - i).toNat) H):F_ (cI ta (cI tb eV)) σ H R:=ha _ (hb _ ⟨i,j,rfl,rg,q⟩)
theorem tj {R:It->Hp->Prop}(ha:Ev ta σ H (.int j))(h1:-(2 ^ 62)<=j)(h2:j < 2 ^ 62)(q:R (AH 0 j.toNat) H):B_ (cI ta eV) σ H R:=ha _ ⟨j,rfl,h1,h2,q⟩
theorem pH {wi:TI}{g:TG}{tb:TS}{D:Ends}(h:wi σ H λJ H1=>∃W:Nat->Nat->St->Hp->Prop,(∃m,W 0 m σ H1)/\∀i m σ H,W i m σ H ->
  (J.stop i H/\D.nx σ H)∨(J.go i H/\∃N:St->Hp->Prop,(∀σ' H',N σ' H'->∃m',m' < m/\W (i+1) m' σ' H')/\∀x H',J.we i H x H'->g x σ H' λσ2 H2=>tb {D with nx:=N,ct:=N,bk:=D.nx} σ2 H2)):Ig wi g tb D σ H:=h
end
theorem Ho {z:Str}{g:TG}{tt:TT}{te:TE}{vs:aar}{σ:St}{H1:Hp}{D:Addr}{Qd:Hp->Prop}(Pv:Nat->Hp->Prop)(h0:Pv 0 (upd H1 D (.lst [])))
  (hs:∀i c H,z.cps.toList[i]?=some c->Pv i H->g (.str ⟨#[c]⟩) (wipe σ vs) H λσ2 H2=>wipe σ2 vs=wipe σ vs/\tt σ2 H2 λb H3 =>
   if b=true then te σ2 H3 λy H4=>∃acc,H4 D=some (.lst acc)/\acc.length < sizeLine/\Pv (i+1) (upd H4 D (.lst (acc++[y]))) else Pv (i+1) H3) (hd:∀H,Pv z.cps.toList.length H->Qd H) :
  ∃W:Nat->Nat->Hp->Prop,(∃m,W 0 m (upd H1 D (.lst [])))/\∀i m H,W i m H ->
   ((IV z).stop i H/\Qd H)∨((IV z).go i H/\∃Nx:Hp->Prop,(∀H',Nx H'->∃m',m' < m/\W (i+1) m' H')/\∀x H',(IV z).we i H x H'->g x (wipe σ vs) H' λσ2 H2=>wipe σ2 vs=wipe σ vs/\tt σ2 H2 λb H3 =>
    if b=true then te σ2 H3 λy H4=>∃acc,H4 D=some (.lst acc)/\acc.length < sizeLine/\Nx (upd H4 D (.lst (acc++[y]))) else Nx H3):=by
 have sz:z.cps.toList.length=z.cps.size:=Zs;refine⟨λi m H=>m=z.cps.size - i/\i<=z.cps.size/\Pv i H,⟨z.cps.size,by simp,Ye _,h0⟩,?_⟩;rintro i m H ⟨rfl,hi,p⟩;by_cases LU:i < z.cps.size
 · refine .inr ⟨LU,Pv (i+1),λH' p'=>⟨z.cps.size - (i+1),by omega,rfl,LU,p'⟩,λx H' y=>?_⟩;obtain⟨e,c,hc,rfl⟩:=y;subst e;exact hs i c _ (by rw[Array.getElem?_toList];exact hc) p
 · have e:i=z.cps.size:=by omega
   subst e;exact .inl ⟨XT _,hd H (by rw[sz];exact p)⟩
end L2
namespace Bw
open PySem PySem.Spec PyProof.Rows L2
abbrev Ah:Str:=Str.ofString "abcdefghijklmnopqrstuvwxyz"
abbrev zO:Str:=Str.ofString "0123456789"
structure GW (mg:aau):Prop where
 tw:Gv mg "LETTERS" (.str Ah)
 digits:Gv mg "DIGITS" (.str zO)
 most:Gv mg "MOST_NAME" (.int 12)
 J3:Gv mg "MOST_DIGITS" (.int 7)
 len:mg "len"=none
 all:mg "all"=none
 int:mg "int"=none
theorem CH:TL.tl Ah=(List.range 26).map (·+97):=by rw[TL.gP];decide +kernel
theorem AY:TL.tl zO=(List.range 10).map (·+48):=by rw[TL.gP];decide +kernel
theorem GS {c:Nat}(h1:97<=c)(h2:c<=122):nU (Ah.cps.toList) ((c:Int) - 97)=some c:=by
 have e:((c:Int) - 97)=((c - 97:Nat):Int):=by omega
 rw[e];refine cv ?_;have q:Ah.cps.toList=(List.range 26).map (·+97):=CH;rw[q,XO,Zr (by omega)];simp;omega
theorem GQ {c:Nat}(h1:48<=c)(h2:c<=57):nU (zO.cps.toList) ((c:Int) - 48)=some c:=by
 have e:((c:Int) - 48)=((c - 48:Nat):Int):=by omega
 rw[e];refine cv ?_;have q:zO.cps.toList=(List.range 10).map (·+48):=AY;rw[q,XO,Zr (by omega)];simp;omega
theorem xF (c:Nat):decide (c∈Ah.cps.toList)=isLet c:=by
 have q:Ah.cps.toList=(List.range 26).map (·+97):=CH;rw[q,Ym];unfold isLet;simp only[XS,XR,Yh,Zw];constructor
 · rintro⟨x,hx,rfl⟩;omega
 · rintro⟨h1,h2⟩;exact⟨c - 97,by omega,by omega⟩
theorem GG (c:Nat):decide (c∈zO.cps.toList)=bW c:=by
 have q:zO.cps.toList=(List.range 10).map (·+48):=AY;rw[q,Ym];unfold bW;simp only[XS,XR,Yh,Zw];constructor
 · rintro⟨x,hx,rfl⟩;omega
 · rintro⟨h1,h2⟩;exact⟨c - 48,by omega,by omega⟩
def B2:Sp:=λvs H Q _=>∃c:Nat,vs=[.int c]/\Q (.str (st [sg c])) H
theorem Dg {c:Nat}(h:97<=c/\c<=122):sg c=c:=by unfold sg t_ isLet;simp[h]
theorem DT {c:Nat}(h:48<=c/\c<=57):sg c=c:=by unfold sg t_ bW;simp[h]
theorem JM {c:Nat}(h1:¬(97<=c/\c<=122))(h2:¬(48<=c/\c<=57))(h3:c≠32)(h4:c≠10)(h5:c≠44)(h6:c≠47):sg c=63:=by
 unfold sg t_ isLet bW;have e1:(decide (97<=c)&&decide (c<=122))=false:=by simp;omega
 have e2:(decide (48<=c)&&decide (c<=57))=false:=by simp;omega
 rw[e1,e2];simp[h3,h4,h5,h6]
section
variable {P:Program}{w:World}{K:aas}{mg:aau}{base:Heap}
theorem Eo:aG ["code"] ["code"] (aw j6):=fs
theorem Ds (G:GW mg){f:Addr}{fd:FuncData}(F:dm K "sign_of" "sign_of" j6 f fd):a9 P w K mg base bF 1 f fd ["code"] B2:=by
 refine F.ok Eo (λvs H Q E h=>?_) (λLP A outer s H vs Q E hr h=>?_)
 · obtain⟨c,rfl,_⟩:=h;rfl
 · obtain⟨c,rfl,q⟩:=h;refine⟨_,af (aP (cE cj cj ax (pv 0) ax) (ak (az (bp tG (bb G.tw) (bJ fH (pv 0) ax) (λ_ _=>rfl)))) aB)
    (af (aP (cE cj cj ax (pv 0) ax) (ak (az (bp tG (bb G.digits) (bJ fH (pv 0) ax) (λ_ _=>rfl)))) aB)
    (af (aP (aA cn (pv 0) ax (aJ _)) (ak (az bt)) aB)
    (af (aP (aA cn (pv 0) ax (aJ _)) (ak (az bt)) aB)
    (af (aP (aA cn (pv 0) ax (aJ _)) (ak (az bt)) aB)
    (af (aP (aA cn (pv 0) ax (aJ _)) (ak (az bt)) aB)
    (ak (az bt))))))),?_⟩
   refine aU (cD aD (ag rfl) aD) (λh=>?_) (λh1=>?_)
   · simp only[XR,XS] at h;refine bU (tK aD (md (ag rfl) aD) (by decide +kernel) (GS (c:=c) (by omega) (by omega))) ?_;rw[Dg (by omega)] at q;exact q
   refine aU (cD aD (ag rfl) aD) (λh=>?_) (λh2=>?_)
   · simp only[XR,XS] at h;refine bU (tK aD (md (ag rfl) aD) (by decide +kernel) (GQ (c:=c) (by omega) (by omega))) ?_;rw[DT (by omega)] at q;exact q
   have step:∀(n:Nat) (b:Bool),b=decide (V.int (c:Int)=V.int (n:Int))->(b=true->c=n)/\(b=false->c≠n):=λn b e=>by
    rw[a7] at e;subst e;constructor
    · intro z;have:=Za z;omega
    · intro z z2;subst z2;simp at z
   refine aU (aI (cb (ag rfl) aD)) (λh=>?_) (λh3=>?_)
   · have e:=(step 32 _ rfl).1 h;subst e;exact bU aD q
   refine aU (aI (cb (ag rfl) aD)) (λh=>?_) (λh4=>?_)
   · have e:=(step 10 _ rfl).1 h;subst e;exact bU aD q
   refine aU (aI (cb (ag rfl) aD)) (λh=>?_) (λh5=>?_)
   · have e:=(step 44 _ rfl).1 h;subst e;exact bU aD q
   refine aU (aI (cb (ag rfl) aD)) (λh=>?_) (λh6=>?_)
   · have e:=(step 47 _ rfl).1 h;subst e;exact bU aD q
   rw[JM (λz=>by simp at h1;omega) (λz=>by simp at h2;omega) ((step 32 _ rfl).2 h3) ((step 10 _ rfl).2 h4) ((step 44 _ rfl).2 h5) ((step 47 _ rfl).2 h6)] at q;exact q
def uC (K:aas):Sp:=λvs H Q _=>∃(a:Addr) (cs:aar),vs=[.ref a]/\aO K H a (cs.map λc=>V.int (c:Nat))/\cs.length<=70000/\∀H',au H H'->Q (.str (st (cs.map sg))) H'
theorem take_snoc {α:Type}{l:List α}{i:Nat}{x:α}(h:l[i]?=some x):l.take (i+1)=l.take i++[x]:=by
 rw[List.take_add_one,h];rfl
theorem w8 (l:aar):Txt.join (Str.ofString "") (l.map λc=>st [c])=st l:=by
 rw[TL.join_eq];refine TL.xN ?_;rw[TL.yF,TL.gP,pW];show TL.dP [] ((l.map λc=>st [c]).map TL.tl)=l;rw[X_]
 induction l with
 |nil=>rfl
 |cons c l ih =>
  cases l with
  |nil=>rfl
  |cons d l =>
   have ih:TL.dP [] ((d::l).map (TL.tl ∘ λc=>st [c]))=d::l:=ih;show [c]++([]++TL.dP [] ((d::l).map (TL.tl ∘ λc=>st [c])))=c::d::l;rw[ih];rfl
theorem tD:aG ["codes","code"] ["codes"] (aw kl):=fs
theorem DR {k:Nat}(FS:Fn P w K mg base bF k "sign_of" ["code"] B2){f:Addr}{fd:FuncData}(F:dm K "text_of" "text_of" kl f fd):a9 P w K mg base bF (k+1) f fd ["codes"] (uC K):=by
 refine F.ok tD (λvs H Q E h=>?_) (λLP A outer s H vs Q E hr h=>?_)
 · obtain⟨a,cs,rfl,_⟩:=h;rfl
 · obtain⟨a,cs,rfl,hS,hl,q⟩:=h;refine⟨_,ak (az (DM bt (fz rfl tD.nd (bG (pv 0)) (bz (own:=[("code",1)]) rfl) (λ_ _ _ _ _=>bh 1 tD.nd) (λ_ _ _ _ _=>cp)
    (λ_ _ _ _ _=>aV FS hr bc (aa (pv 1) ah))))),?_⟩
   refine⟨⟨_,rfl⟩,_,rfl,a,rfl,⟨_,hS⟩,λD hD=>iZ (K:=K) (a:=a) (xs:=cs.map λc=>V.int (c:Nat)) (λi H'=>au H H'/\H' D=some (.lst ((cs.take i).map λc=>V.str (st [sg c]))))
    ⟨(au.refl H).laid hD,ae⟩ (λi H' _ h=>h.1.seq hS) ?_ ?_⟩
   · rintro i x H' hi ⟨h1,h2⟩;rw[XO] at hi;obtain⟨c,hc,rfl⟩:=Yj.mp hi;refine⟨rfl,_,rfl,c,rfl,_,h2,?_,?_⟩
     · rw[XH,X7,Yb];omega
     · refine⟨λb u z=>?_,?_⟩
       · rw[aq (ao z hD)];exact h1 b u z
       · rw[ae,take_snoc hc,X3];rfl
   · rintro H' ⟨h1,h2⟩;rw[XH,YE] at h2;refine⟨_,D,(cs.map sg).map (λc=>st [c]),rfl,rfl,.inl (aO.of ?_),?_,?_⟩
     · rw[h2,X_,X_];rfl
     · have e:(((cs.map sg).map (λc=>st [c])).map (·.length)).sum=cs.length:=by
        rw[X_,X_];clear h2 hS q hl
        induction cs with
        |nil=>rfl
        |cons c cs ih =>
         rw[X1,Zd,ih,XW];show 1+cs.length=_;omega
       have e2:(Str.ofString "").length=0:=by decide +kernel
       rw[e,e2];omega
     · rw[w8];exact q H' h1
def lX:Sp:=λvs H Q _=>∃wd:W,vs=[.str (st wd)]/\wd.length<=70000/\∀H',au H H'->Q (.bl (ej wd)) H'
theorem zq {wd:W}(h:wd≠[]):nU (st wd).cps.toList ((0:Int))=some (wd.headD 0):=by
 refine cv (j:=0) ?_;show wd[0]?=some (wd.headD 0);cases wd with
 |nil=>exact absurd rfl h
 |cons c r=>rfl
theorem mU:aG ["word","sign"] ["word"] (aw ki):=fs
theorem zP (G:GW mg){f:Addr}{fd:FuncData}(F:dm K "is_name" "is_name" ki f fd):a9 P w K mg base bF 1 f fd ["word"] lX:=by
 refine F.ok mU (λvs H Q E h=>?_) (λLP A outer s H vs Q E hr h=>?_)
 · obtain⟨a,rfl,_⟩:=h;rfl
 · obtain⟨wd,rfl,hl,q⟩:=h;have hz:(st wd).length<=sizeLine:=by rw[b9,Yb];omega
   refine⟨_,af (aP (PW.pt (eD (cB (cE cj cj ax (bX fO (by rfl) G.len PySem.boot_len (aa (pv 0) ah)) (bb G.most)))
     (cU (aA qU (bp tG (pv 0) ax (λ_ _=>rfl)) (bb G.tw) (by with_unfolding_all rfl))))) (ak (az mK)) aB)
    (ak (az (bX (xa rfl) (by rfl) G.all PyProof.Rows.boot_all (aa (fz rfl mU.nd (Hf (pv 0)) (bz (own:=[("sign",1)]) rfl) (λ_ _ _ _ _=>bh 1 mU.nd) (λ_ _ _ _ _=>cp)
     (λ_ _ _ _ _=>II (fm oV (pv 1) (bb G.tw) (by with_unfolding_all rfl)) (yi (fm oV (pv 1) (bb G.digits) (by with_unfolding_all rfl))))) ah)))),?_⟩
   refine aU (gO (fh (cD aD (tq (ag rfl) hz) aD)) λh0=>aI (E9 (tK (ag rfl) aD hz (zq ?_)) aD)) (λh=>?_) (λh=>?_)
   · rintro rfl;simp at h0;rw[b9] at h0;simp at h0
   · rw[xF] at h;refine bU aD ?_;have e:ej wd=false:=by
      unfold ej;rw[b9] at h;simp only[YH,Yy,Y5,Yp] at h;rcases h with (h|h)|h
      · have:¬1<=wd.length:=λz=>h (by omega);simp[this]
      · have:¬wd.length<=12:=λz=>h (by omega);simp[this]
      · rw[h];simp
     rw[←e];exact q H (au.refl H)
   · rw[xF,b9] at h;simp only[YS,YB,XR,XS] at h;obtain⟨⟨h1,h2⟩,h3⟩:=h;have e:ej wd=wd.all λc=>isLet c||bW c:=by
      unfold ej;have z1:decide (1<=wd.length)=true:=Yn (by omega);have z2:decide (wd.length<=12)=true:=Yn (by omega);rw[z1,z2,h3];simp
     refine⟨_,rfl,_,rfl,λD hD=>Ho (z:=st wd) (λi H'=>au H H'/\H' D=some (.lst ((wd.take i).map λc=>V.bl (isLet c||bW c)))) ⟨(au.refl H).laid hD,ae⟩ ?_ ?_⟩
     · rintro i c H' hi ⟨k1,k2⟩;have hi:wd[i]?=some c:=hi;refine⟨rfl,?_⟩;refine (JJ (C3 (ag rfl) aD) λ_=>C3 (ag rfl) aD) _ ⟨_,k2,?_,?_⟩
       · rw[XH,X7,Yb];omega
       · rw[xF,GG];refine⟨λb u z=>?_,?_⟩
         · rw[aq (ao z hD)];exact k1 b u z
         · rw[ae,take_snoc hi,X3];rfl
     · rintro H' ⟨k1,k2⟩;have k2:H' D=some (.lst ((wd.take wd.length).map λc=>V.bl (isLet c||bW c))):=k2;rw[YE] at k2;refine⟨D,wd.map λc=>isLet c||bW c,rfl,aO.of (by rw[k2,X_];rfl),?_⟩;have e2:((wd.map λc=>isLet c||bW c).all id)=ej wd:=by rw[e,ZQ];rfl
       rw[e2];exact q H' k1
def kX:Sp:=λvs H Q _=>∃wd:W,vs=[.str (st wd)]/\wd.length<=70000/\(∀c∈wd,c < 128)/\Q (.int (ay wd)) H
theorem yK:∀c:Nat,c < 128->Unicode.isDigit c=bW c:=by decide +kernel
theorem qJ {wd:W}(h:∀c∈wd,c < 128):Txt.isdigit (st wd)=(!wd.isEmpty&&wd.all bW):=by
 unfold Txt.isdigit;have e:(st wd).cps.all Unicode.isDigit=wd.all bW:=by
  show wd.toArray.all Unicode.isDigit=_;rw[List.all_toArray,Ym,Yd,Yd];exact⟨λz c hc=>by rw[←yK c (h c hc)];exact z c hc,λz c hc=>by rw[yK c (h c hc)];exact z c hc⟩
 rw[e,b9];cases wd with
 |nil=>rfl
 |cons c r=>simp
theorem xc (wd:W):NumText.digitsVal wd=xn wd:=by
 unfold NumText.digitsVal xn;congr 1;funext n c;omega
theorem HZ {wd:W}(h0:wd≠[])(h1:wd.all bW=true)(h2:wd.length<=7):intText? (st wd)=some ((xn wd:Nat):Int):=by
 rw[←xc];refine intText_digits (x:=st wd) (λc hc=>?_) h0 (by rw[b9];omega);have:=Yd.mp h1 c hc;unfold bW at this;simpa using this
theorem GY:aG ["word"] ["word"] (aw gX):=fs
theorem Gw (G:GW mg){f:Addr}{fd:FuncData}(F:dm K "number_of" "number_of" gX f fd):a9 P w K mg base bF 1 f fd ["word"] kX:=by
 refine F.ok GY (λvs H Q E h=>?_) (λLP A outer s H vs Q E hr h=>?_)
 · obtain⟨a,rfl,_⟩:=h;rfl
 · obtain⟨wd,rfl,hl,ha,q⟩:=h;have hz:(st wd).length<=sizeLine:=by rw[b9,Yb];omega
   refine⟨_,af (aP (PW.pt (eD (aA kZ (bX fO (by rfl) G.len PySem.boot_len (aa (pv 0) ah)) (bb G.J3) (aJ _)) (cU (cB (ib (ID PySem.F.slot_str_isdigit PySem.F.type_str_isdigit xS (pv 0))))))) (ak (az (vI oT ax))) aB)
    (af (aP (PW.pt (tV (aA cn (bp tG (pv 0) ax (λ_ _=>rfl)) bt (aJ _)) (oF (aA p8 (pv 0) bt (aJ _))))) (ak (az (vI oT ax))) aB)
    (ak (az (jZ ue (by rfl) G.int PyProof.Rows.boot_int (aa (pv 0) ah))))),?_⟩
   refine aU (gO (aI (md (tq (ag rfl) hz) aD)) λh0=>fh (Kz (IW (ag rfl) λR r=>⟨_,rfl,rfl,trivial,r⟩))) (λh=>?_) (λh=>?_)
   · refine bU (tH aD) ?_;have e:ay wd=-1:=by
      unfold ay;rw[XJ];rw[qJ ha,b9] at h;simp only[YH,Yy,Y5,XS] at h;rcases h with h|h|h
      · exact .inl (by omega)
      · exact .inr (.inl (by cases wd with|nil=>rfl|cons c r=>simp at h))
      · exact .inr (.inr h)
     rw[e] at q;exact q
   · rw[qJ ha,b9] at h;simp only[YS,YB,XR,Yp] at h;obtain⟨h1,h2,h3⟩:=h;have L0:wd≠[]:=by rintro rfl;simp at h2
     have e0:ay wd=if wd.headD 0=48/\wd≠[48] then -1 else (xn wd:Int):=by
      unfold ay;rw[XI];rintro (z|z|z)
      · exact h1 (by omega)
      · exact L0 z
      · rw[h3] at z;cases z
     refine aU (qC (aI (cb (tK (ag rfl) aD hz (zq L0)) aD)) λh0=>aI (oQ (ag rfl) aD)) (λh=>?_) (λh=>?_)
     · refine bU (tH aD) ?_;rw[XJ] at e0
       · rw[e0] at q;exact q
       · simp only[XR,XS,Yy,Yp] at h;refine⟨?_,λz=>h.2 ?_⟩
         · have:=h.1;injection this with this;have:=YN TL.tl this;have:[wd.headD 0]=[48]:=this;injection this
         · rw[z];rfl
     · rw[XI] at e0
       · rw[e0] at q;exact⟨_,rfl,_,_,rfl,HZ L0 h3 (by omega),by rw[b9];omega,q⟩
       · rintro⟨z1,z2⟩;simp only[Y5,Yp,YB,XS] at h;rcases h with h|h
         · exact h (by rw[z1];rfl)
         · injection h with h;have h:=YN TL.tl h;exact z2 h
end
end Bw
namespace L2
open PySem PySem.Spec PyProof.Rows
structure yq (P:Program)(w:World)(K:aas)(d:Addr)(vs:List (Key×Value)):Prop where
 dd:∀h:Heap,K.In h->h.DictOf (cw P w) d vs
 ne:(d==sysModules)=false
section
variable {X:Cx}{d:Addr}{vs:List (Key×Value)}{o i:Expr}{td ty:TE}{pos:Pos}
def Hg (d:Addr) (vs:List (Key×Value)) (td ty:TE):TE:=λσ H Q=>td σ H λx H1=>ty σ H1 λy H2=>∃k v u,x=.ref d/\y=kV k/\valueAt vs k=some u/\RelV v u/\Q v H2
def Jo (d:Addr)(vs:List (Key×Value))(ty td:TE):TE:=λσ H Q=>ty σ H λy H1=>td σ H1 λx H2=>∃k,x=.ref d/\y=kV k/\Q (.bl (valueAt vs k).isSome) H2
theorem CZ (D:yq X.prog X.w X.K d vs)(ho:PE X o td)(hi:PE X i ty)(hs:Ju i):PE X (.Subscript o i pos) (Hg d vs td ty):=by
 intro pins s σ H Q I h;refine DN PySem.F.slot_dict_getitem.lookup hs (bA (ho pins s σ H _ I h) λu s1 ⟨x,H1,I1,rx,q1⟩=>bA (hi pins s1 σ H1 _ I1 q1) λiv s2 ⟨y,H2,I2,ry,k,v,u',ex,ey,hv,rv,q2⟩=>?_);subst ex ey;obtain rfl:u=Value.ref d:=rx;have dd:=D.dd s2.heap I2.mX;obtain⟨ob,es,ep,e1,e2,_⟩:=id dd;exact⟨⟨ob,e1,e2.1⟩,wpAny_getItem_of (pd ry) dd.mapOf hv ⟨v,H2,I2.tok _,rv,q2⟩⟩
theorem EG (D:yq X.prog X.w X.K d vs)(hi:PE X i ty)(ho:PE X o td):PC X .In i o (Jo d vs ty td):=by
 intro pins s σ H Q I h;refine bA (hi pins s σ H _ I h) λiv s1 ⟨y,H1,I1,ry,q1⟩=>bA (ho pins s1 σ H1 _ I1 q1) λu s2 ⟨x,H2,I2,rx,k,ex,ey,q2⟩=>?_;subst ex ey;obtain rfl:u=Value.ref d:=rx;have dd:=D.dd s2.heap I2.mX;exact wpAny_in_of (pd ry) D.ne dd.mapOf ⟨.bl _,H2,I2.tok _,rfl,q2⟩
end
theorem au.tup {K:aas}{H H':Hp}{a:Addr}{xs:List V}(e:au H H')(h:b6 K H a xs):b6 K H' a xs:=by
 rcases h with (h|⟨o,h⟩)|h
 · exact .inl (.inl (e _ _ h))
 · exact .inl (.inr ⟨o,e _ _ h⟩)
 · exact .inr h
section
variable {α β γ:Type}{F G:α->β->Prop}
theorem Paired.qP:∀{l₁:List α} {l₂:List β} {i:Nat} {x:α},Paired F l₁ l₂->l₁[i]?=some x->∃y,l₂[i]?=some y/\F x y
 |_,_,_,_,.nil,e=>by simp at e
 |_,_,0,_,.cons r _,e=>by simp at e;subst e;exact⟨_,rfl,r⟩
 |_,_,i+1,x,.cons _ t,e=>by
  obtain⟨y,h1,h2⟩:=Paired.qP (i:=i) (x:=x) t (by simpa using e);exact⟨y,by simpa using h1,h2⟩
theorem Paired.at2:∀{l₁:List α} {l₂:List β} {i:Nat} {y:β},Paired F l₁ l₂->l₂[i]?=some y->∃x,l₁[i]?=some x/\F x y
 |_,_,_,_,.nil,e=>by simp at e
 |_,_,0,_,.cons r _,e=>by simp at e;subst e;exact⟨_,rfl,r⟩
 |_,_,i+1,y,.cons _ t,e=>by
  obtain⟨x,h1,h2⟩:=Paired.at2 (i:=i) (y:=y) t (by simpa using e);exact⟨x,by simpa using h1,h2⟩
theorem Paired.tk:∀{l₁:List α} {l₂:List β} (n:Nat),Paired F l₁ l₂->Paired F (l₁.take n) (l₂.take n)
 |_,_,0,_=>.nil
 |_,_,_+1,.nil=>.nil
 |_,_,n+1,.cons r t=>.cons r (Paired.tk n t)
theorem Paired.dp:∀{l₁:List α} {l₂:List β} (n:Nat),Paired F l₁ l₂->Paired F (l₁.drop n) (l₂.drop n)
 |_,_,0,r=>r
 |_,_,_+1,.nil=>.nil
 |_,_,n+1,.cons _ t=>Paired.dp n t
theorem Paired.rep {a:α}{b:β}(h:F a b):∀n:Nat,Paired F (List.replicate n a) (List.replicate n b)
 |0=>.nil
 |n+1=>.cons h (Paired.rep h n)
end
end L2
namespace Bw
open PySem PySem.Spec PyProof.Rows L2 Tote
def sV (ws:List W):List V:=ws.map λw=>V.str (st w)
def nV (ns:aar):List V:=ns.map λn=>V.int (n:Nat)
def hZ (K:aas)(H:Hp)(a:Addr)(ns:aar):Prop:=aO K H a (nV ns)
def bC (K:aas)(H:Hp)(a:Addr)(rs:aaq):Prop:=∃as:List Addr,aO K H a (as.map V.ref)/\Paired (hZ K H) as rs
def k7 (H:Hp)(a:Addr)(rs:aaq):Prop:=∃as:List Addr,H a=some (.lst (as.map V.ref))/\Paired (λb ns=>H b=some (.lst (nV ns))) as rs
section
variable {K:aas}{H H':Hp}{a:Addr}
theorem k7.lists {rs:aaq} (h:k7 H a rs):bC K H a rs:=by
 obtain⟨as,h1,h2⟩:=h;exact⟨as,aO.of h1,Paired.d9 h2 λ_ _ z=>aO.of z⟩
theorem k7.same {rs:aaq}(h:k7 H a rs)(e:au H H'):k7 H' a rs:=by
 obtain⟨as,h1,h2⟩:=h;exact⟨as,e _ _ h1,Paired.d9 h2 λ_ _ z=>e _ _ z⟩
theorem hZ.same {ns:aar}(h:hZ K H a ns)(e:au H H'):hZ K H' a ns:=e.seq h
theorem iS {as:List Addr}{rs:aaq}(h:Paired (hZ K H) as rs)(e:au H H'):Paired (hZ K H') as rs:=Paired.d9 h λ_ _ z=>z.same e
theorem bC.same {rs:aaq}(h:bC K H a rs)(e:au H H'):bC K H' a rs:=by
 obtain⟨as,h1,h2⟩:=h;exact⟨as,e.seq h1,iS h2 e⟩
theorem dJ (ws:List W):(sV ws).length=ws.length:=XH ..
theorem aL (ws:aar):(nV ws).length=ws.length:=XH ..
theorem Bf {ws:List W}{i:Nat}{x:W}(h:ws[i]?=some x):(sV ws)[i]?=some (.str (st x)):=by
 unfold sV;rw[XO,h];rfl
end
structure CK (K:aas)(mg:aau)(x:Str)(fs:List Str)(C:Addr):Prop where
 cl:zk K C
 no:∀f∈fs,ia K C f
 mg:mg x=some (.ref C)
def Dm (K:aas)(C:Addr)(m qual:Str)(st:Stmt):Prop:=∃(f:Addr) (fd:FuncData),Meth K C m f/\dm K m qual st f fd
def Di (K:aas)(C:Addr)(qual:Str)(st:Stmt):Prop:=∃(f:Addr) (fd:FuncData),Mk K C f/\dm K "__init__" qual st f fd
def xI (P:Program)(w:World)(K:aas)(mg:aau)(base:Heap)(CX:mx)(k:Nat)(C:Addr)(ps:List Str)(sp:Sp):Prop :=
 ∃(f:Addr) (fd:FuncData),Mk K C f/\Binds K fd ps []/\a9 P w K mg base CX k f fd ps sp
def o7 (P:Program)(w:World)(K:aas)(mg:aau)(base:Heap)(CX:mx)(k:Nat)(C:Addr)(m:Str)(ps:List Str)(sp:Sp):Prop :=
 ∃(f:Addr) (fd:FuncData),Meth K C m f/\Binds K fd ps []/\a9 P w K mg base CX k f fd ps sp
section
variable {X:Cx}{CX:mx}{k:Nat}{x:Str}{ps:List Str}{sp:Sp}{E:XK}{p pos:Pos}{e:Expr}{es:List Expr}{t:TA}{C:Addr}
theorem pX (F:xI X.prog X.w X.K X.mg X.base CX k C ps sp) (hr:cO (k+1) X.A) (hm:X.mg x=some (.ref C)) (hx:Passes CX X E) (ha:PA X (e::es) t) (hg:Gl X x:=by rfl) (Mt:(x==("__debug__":Str))=false:=by decide) (he:starEach (e::es) X.env=(false,eval e X.env)::starEach es X.env:=by rfl)
  (LY:(backTo pos (starEach es X.env)).any (·.1)=false:=by rfl):PE X (.Call (.Name x p) (e::es) [] pos) (Fx C sp [] E t):=by
 obtain⟨f,fd,M,hb,F⟩:=F;exact Ep M F hr hg hm hb .nil hx ha Mt he LY
end
theorem bS {f:Str}{v:V}:d_ f v []=[(f,v)]:=rfl
theorem bg {f g:Str}{v x:V}{r:List (Str×V)}(h:g≠f):d_ f v ((g,x)::r)=(g,x)::d_ f v r:=by
 show (if g=f then (g,v)::r else (g,x)::d_ f v r)=_;rw[XI h]
theorem bE {f:Str}{v:V}{r:List (Str×V)}:List.lookup f ((f,v)::r)=some v:=by simp[List.lookup]
theorem aR {f g:Str}{v:V}{r:List (Str×V)}(h:f≠g):List.lookup f ((g,v)::r)=List.lookup f r:=by
 have:(f==g)=false:=Yg.mpr h;simp[List.lookup,this]
def jj (nm kd fa u:V):List (Str×V):=[("name",nm),("kind",kd),("fields",fa),("unit",u)]
abbrev hU:List Str:=["name","kind","fields","unit"]
theorem ll {a b c d:V}:(jj a b c d).lookup ("name":Str)=some a:=bE
theorem i5 {a b c d:V}:(jj a b c d).lookup ("kind":Str)=some b:=by unfold jj;rw[aR (by decide +kernel)];exact bE
theorem mz {a b c d:V}:(jj a b c d).lookup ("fields":Str)=some c:=by unfold jj;rw[aR (by decide +kernel),aR (by decide +kernel)];exact bE
theorem xC {a b c d:V}:(jj a b c d).lookup ("unit":Str)=some d:=by unfold jj;rw[aR (by decide +kernel),aR (by decide +kernel),aR (by decide +kernel)];exact bE
def dw (K:aas)(C:Addr)(H:Hp)(a:Addr)(p:aK):Prop:=∃dx fa,H a=some (.ins C dx (jj (.str (st p.name)) (.str (st (cd (kindS p.kind)))) (.ref fa) (.int (p.unit:Nat))))/\bC K H fa p.fields
def c_ (K:aas)(C:Addr)(H:Hp)(a:Addr)(ps:List aK):Prop:=∃as:List Addr,aO K H a (as.map V.ref)/\Paired (dw K C H) as ps
section
variable {K:aas}{H H':Hp}{C a:Addr}
theorem dw.same {p:aK} (h:dw K C H a p) (e:au H H'):dw K C H' a p:=by
 obtain⟨dx,fa,h1,h2⟩:=h;exact⟨dx,fa,e _ _ h1,h2.same e⟩
theorem pG {as:List Addr}{ps:List aK}(h:Paired (dw K C H) as ps)(e:au H H'):Paired (dw K C H') as ps:=Paired.d9 h λ_ _ z=>z.same e
theorem c_.same {ps:List aK}(h:c_ K C H a ps)(e:au H H'):c_ K C H' a ps:=by
 obtain⟨as,h1,h2⟩:=h;exact⟨as,e.seq h1,pG h2 e⟩
end
def ua (C:Addr):Sp:=λvs H Q _=>∃(x dx:Addr) (a b c d:V),vs=[.ref x,a,b,c,d]/\H x=some (.ins C dx [])/\Q .b8 (upd H x (.ins C dx (jj a b c d)))
section
variable {P:Program}{w:World}{K:aas}{mg:aau}{base:Heap}
theorem A1:aG ["self","name","kind","fields","unit"] ["self","name","kind","fields","unit"] (aw gL):=fs
theorem A9 {C:Addr}(T:CK K mg "Pool" hU C){f:Addr}{fd:FuncData}(F:dm K "__init__" "Pool.__init__" gL f fd):a9 P w K mg base bF 1 f fd ["self","name","kind","fields","unit"] (ua C):=by
 refine F.ok A1 (λvs H Q E h=>?_) (λLP A outer s H vs Q E hr h=>?_)
 · obtain⟨x,dx,a,b,c,d,rfl,_⟩:=h;rfl
 · obtain⟨x,dx,a,b,c,d,rfl,hx,q⟩:=h;refine⟨_,af (cH (pv 0) (pv 1) rfl) (af (cH (pv 0) (pv 2) rfl) (af (cH (pv 0) (pv 3) rfl) (ak (cH (pv 0) (pv 4) rfl)))),?_⟩;refine⟨_,rfl,_,rfl,x,C,dx,[],rfl,hx,T.cl,T.no _ (by simp),(by show 0 < 1000;decide),?_⟩;refine⟨_,rfl,_,rfl,x,C,dx,_,rfl,ae,T.cl,T.no _ (by simp),(by show 1 < 1000;decide),?_⟩;refine⟨_,rfl,_,rfl,x,C,dx,_,rfl,ae,T.cl,T.no _ (by simp),(by repeat (first|rw[bS]|rw[bg (by decide +kernel)]);show 2 < 1000;decide),?_⟩;refine⟨_,rfl,_,rfl,x,C,dx,_,rfl,ae,T.cl,T.no _ (by simp),(by repeat (first|rw[bS]|rw[bg (by decide +kernel)]);show 3 < 1000;decide),?_⟩;rw[cy,cy,cy]
   repeat (first|rw[bS]|rw[bg (by decide +kernel)])
   exact q
end
end Bw
namespace L2
open PySem PySem.Spec PyProof.Rows
theorem ka {α β:Type}{F:α->β->Prop}:∀{l₁:List α} {l₂:List β},l₁.length=l₂.length->(∀(i:Nat) x y,l₁[i]?=some x->l₂[i]?=some y->F x y)->Paired F l₁ l₂
 |[],[],_,_=>.nil
 |x::l₁,y::l₂,h,g=>.cons (g 0 x y rfl rfl) (ka (by simpa using h) λi a b h1 h2=>g (i+1) a b (by simpa using h1) (by simpa using h2))
 |[],_::_,h,_=>by simp at h
 |_::_,[],h,_=>by simp at h
section
variable {X:Cx}
end
end L2
namespace HT
open PySem PySem.Spec PyProof.Rows
theorem lP {P:Program}{w:World}{A:Around}{E:aat}{s:Shared}{t sl:Addr}{items:Array Value}{vl vu:Value}{lo hi:Option Int}{Q:aat}(ht:IsTup s.heap t items)(hs:s.heap.IsSliceOf sl vl vu .none)(pl:IsPart vl lo)(pu:IsPart vu hi)
  (hw:b_ items.size 0 lo=0/\b_ items.size items.size hi=items.size)(h:Q (.ref t) s):wpAny (model P w) A (getItem (.ref t) (.ref sl)) Q E s:=by
 obtain⟨os,Nd,NU,NV⟩:=id hs;have ty:s.TypeIs (.ref sl) "slice":=⟨os,Nd,NU⟩;unfold getItem
 try with_reducible refine ZK ?_
 first|refine XG (XQ ?_)|skip
 refine XG (wpAny_sequenceKey ht.typeIs (by decide) ?_);refine XG (YX (name:=Str.ofString "__getitem__") ht.typeIs YY (Y3 YY ht.typeIs entry_tuple_getitem ?_ (args_tuple_getitem _ _)));show wpAny _ _ (Builtin.Tuple.tupleItemsOf (.ref t) >>= _) _ _ s;refine XG (tupleItemsOf_ ht (XG (wpAny_typeOf ty ?_)));rw[XJ (by decide)];refine XG (iG hs pl pu ?_);rw[hw.1,hw.2];show wpAny _ _ (if (((0:Nat):Int)==0&&(1:Int)==1&&(items.size - 0)==items.size)=true then _ else _) _ _ s;rw[XJ (by simp)];have t0:s.heap.IsTuple t items:=ht;obtain⟨⟨c,dd,f,l⟩,g,rfl,n,rfl⟩:=ht;obtain⟨hp,ga,d,tk,os⟩:=s
 wp_walk
 exact⟨_,rfl,XQ h⟩
end HT
namespace L2
open PySem PySem.Spec PyProof.Rows
section
variable {X:Cx}
def KJ:V->Option Int->Option Int->Hp->VK->Prop:=λx lo hi H Q=>∃a xs,x=.ref a/\H a=some (.tup xs)/\∀p H',au H H'->H' p=some (.tup (fA xs lo hi))->Q (.ref p) H'
theorem Ed:Jy X KJ:=by
 intro pins s σ H x v vl vu lo hi sl Q I rx hs pl pu h;obtain⟨a,xs,rfl,hx,q⟩:=h;by_cases hw:HT.b_ xs.length 0 lo=0/\HT.b_ xs.length xs.length hi=xs.length
 · cases rx;obtain⟨LO,r,ht,hz⟩:=I.tuple (b6.of hx);have hlen:LO.toArray.size=xs.length:=by rw[X5];exact r.length.symm
   refine⟨"tuple",_,YY.lookup,ht.typeIs,HT.lP ht hs pl pu (by rw[hlen];exact hw) ⟨.ref a,H,I,rfl,q a H (au.refl H) ?_⟩⟩;rw[hx];unfold fA;rw[hw.1,hw.2];simp
 · exact H_ pins s σ H _ v vl vu lo hi sl Q I rx hs pl pu ⟨a,xs,rfl,b6.of hx,hw,λp hp=>q p _ ((au.refl H).laid hp) ae⟩
theorem mQ:∀(l acc:List Int),(l.foldl step_dedup acc).length<=acc.length+l.length/\((l.foldl step_dedup acc).length=acc.length+l.length↔l.Nodup/\∀x∈l,¬x∈acc)
 |[],acc=>by simp
 |v::l,acc=>by
  rw[Zb];by_cases h:v∈acc
  · have e:step_dedup acc v=acc:=by unfold step_dedup;rw[XJ (by simpa using h)]
    rw[e];have:=(mQ l acc).1;rw[XW];refine⟨by omega,λz=>by omega,λz=>absurd h (z.2 v (by simp))⟩
  · have e:step_dedup acc v=acc++[v]:=by unfold step_dedup;rw[XI (by simpa using h)]
    rw[e];obtain⟨i1,i2⟩:=mQ l (acc++[v]);rw[X6,YV] at i1 i2;rw[XW];refine⟨by omega,?_⟩;rw[show acc.length+(l.length+1)=acc.length+1+l.length by omega,i2,YT,aac];simp only[Yw,XZ,not_or];constructor
    · rintro⟨a,b⟩;exact⟨⟨λm=>(b v m).2 rfl,a⟩,h,λx hx=>(b x hx).1⟩
    · rintro⟨⟨a,b⟩,_,c⟩;exact⟨b,λx hx=>⟨c x hx,λz=>a (z ▸ hx)⟩⟩
theorem Ek (ns:List Int):firstMet (λi=>ns.getD i 0) ns.length=ns.foldl step_dedup []:=by
 unfold firstMet;congr 1;refine Z3 λi=>?_;rw[XO];by_cases h:i < ns.length
 · rw[Zr h,XU h];simp[h]
 · rw[YK (by simpa using h),YK (by omega)];rfl
theorem D_ (hc:X.calm=true):iE X (.type "set") (λxs H Q=>∃(t:Addr) (ns:List Int),xs=[.ref t]/\b6 X.K H t (ns.map V.int)/\ns.length<=1000/\∀p S n,H p=none->n<=ns.length->(n=ns.length↔ns.Nodup)->Q (.ref p) (upd H p (.set S n))):=by
 intro pins s σ H xs us Q I r h;obtain⟨t,ns,rfl,ht,hl,q⟩:=h;rw[Vals.xk r];obtain⟨LO,rv,pt,_⟩:=I.tuple ht;have hn:LO.length=ns.length:=by rw[←rv.length,XH]
 have hi:IntsAre LO.toArray.toList ns:=intsAre_of rv;obtain⟨d1,d2⟩:=mQ ns [];rw[Zg,Nat.zero_add] at d1 d2;refine BwX.zE (I.ok.hd hc) (show s.heap.IsTuple t LO.toArray from pt) hi (by rw[X5,hn];show ns.length+1 < 4096;omega) λh' tk hS kp=>?_;have hz:LO.toArray.size=ns.length:=by rw[X5,hn]
 rw[hz,Ek] at hS;refine⟨.ref s.heap.objs.size,_,I.laid (t':=tk) kp (XT _) (show bM X.prog X.w _ h' _ (.set _ _) from hS),rfl,q _ _ _ (I.bu.fresh (XT _)) d1 (d2.trans ⟨λz=>z.1,λz=>⟨z,by simp⟩⟩)⟩
theorem Ff:iE X (.builtin "len") (λxs H Q=>∃p S n,xs=[.ref p]/\H p=some (.set S n)/\n<=1000/\Q (.int (n:Nat)) H):=by
 intro pins s σ H xs us Q I r h;obtain⟨p,S,n,rfl,hp,hn,q⟩:=h;rw[Vals.xk r];obtain⟨o,es,ep,t,ho,hx,hd,_,_,_,hf,rfl⟩:=I.bu p _ hp;exact call_len_set ho hx hd hf (by omega) ⟨.int _,H,I.tok _,⟨_,rfl⟩,q⟩
end
def B0 (K:aas)(a b:Addr):It :=
 ⟨λi H=>∃(xs ys:List V) (x y:V),b6 K H a xs/\aO K H b ys/\xs[i]?=some x/\ys[i]?=some y,
  λi H v H'=>∃T x y,v=.ref T/\H T=none/\H'=upd H T (.tup [x,y])/\(∀xs,b6 K H a xs->xs[i]?=some x)/\∀ys,aO K H b ys->ys[i]?=some y,
  λi H=>∃xs ys:List V,b6 K H a xs/\aO K H b ys/\(xs.length<=i∨ys.length<=i)⟩
structure ZA (z TI TO i1 i2 a b:Addr):Prop where
 n1:¬z∈[i1,a]/\¬TO∈[i1,a]/\¬i2∈[i1,a]
 n2:¬z∈[i2,b]/\¬TO∈[i2,b]/\¬i1∈[i2,b]
 nz:TI≠z/\TO≠z/\TI≠TO/\TI≠i1/\TI≠i2/\TO≠i1/\TO≠i2/\i1≠z/\i2≠z
 na:a≠i1
 nb:b≠i2
theorem EK {P:Program}{w:World}{K:aas}{elts:List Expr}{kk:Nat}{L6:Pos}{a b z TI TO i1 i2:Addr}(D:ZA z TI TO i1 i2 a b) :
  Turn P w K (.Tuple elts kk L6) (B0 K a b) [z,TI,TO,i1,i2] z (λi h=>IsZip h z TI TO .none/\IsPair h TI (.ref i1) (.ref i2)/\(∃x y,IsPair h TO x y)/\h.IsTupleIter i1 a i/\h.IsListIter i2 b i) where
 mem:=by simp
 obj:=λi h st c hc=>by
  obtain⟨hz,MT,⟨x,y,MB⟩,⟨o1,e1,_,d1⟩,⟨o2,e2,_,d2⟩⟩:=st;have e':c=z∨c=TI∨c=TO∨c=i1∨c=i2:=by simpa using hc
  rcases e' with q|q|q|q|q
  · rw[q];exact⟨_,hz,λv q=>nomatch q⟩
  · rw[q];exact⟨_,MT,λv q=>nomatch q⟩
  · rw[q];exact⟨_,MB,λv q=>nomatch q⟩
  · rw[q];exact⟨o1,e1,λv q=>by rw[d1] at q;cases q⟩
  · rw[q];exact⟨o2,e2,λv q=>by rw[d2] at q;cases q⟩
 keep:=λi h h' st k=>by
  obtain⟨hz,MT,⟨x,y,MB⟩,h1,h2⟩:=st;exact⟨k z (by simp) _ hz,k TI (by simp) _ MT,⟨x,y,k TO (by simp) _ MB⟩,h1.at λo q=>k i1 (by simp) o q,h2.at λo q=>k i2 (by simp) o q⟩
 item:=by
  intro X hP hw hK hc i pins s σ H E I hf st hg;subst hP hw hK;obtain⟨hz,MT,MB,h1,h2⟩:=st;obtain⟨xs,ys,x,y,Ov,Ow,hx,hy⟩:=hg;obtain⟨LO,rv,p,_⟩:=I.tuple Ov;obtain⟨L3,P_,p2,_⟩:=I.list Ow;obtain⟨u,hu,ru⟩:=rv.get hx;obtain⟨u2,Q7,Q8⟩:=P_.get hy;have Tb:z < s.heap.objs.size:=XX hz;refine BwX.tM (x:=u) (y:=u2) D.na D.nb ⟨hz,MT,MB,⟨h1,p⟩,⟨h2,p2.isList⟩,D.n1,D.n2,D.nz⟩ (by simpa using hu) (by simpa using Q7) λh' Z hT hk=>?_;refine⟨_,rfl,wpAny_letOwnedTupleGo_zip (s:={s with heap:=h'}) Z.zp λNC V7 sb=>?_⟩;have ML:NC.get? s.heap.objs.size=some {cls:=.type "tuple",data:=.seq #[u,u2]}:=(sb.2 _ (Nat.ne_of_gt Tb)).trans hT;have new:bM X.prog X.w (upd H s.heap.objs.size (.tup [x,y])) NC s.heap.objs.size (.tup [x,y]) :=
   ⟨by show 2<=sizeLine;decide,[u,u2],.cons ru (.cons Q8 .nil),⟨_,ML,rfl,_,rfl⟩⟩
  have I1:Inv X pins σ (upd H s.heap.objs.size (.tup [x,y])) {s with heap:=NC} :=
   I.r9 (t':=s.toks) (ch:=[z,TI,TO,i1,i2]) (λc o hb q=>(sb.2 c (λq'=>hb (by simp[q']))).trans (hk c o (λq'=>hb (by simp[q'])) (λq'=>hb (by simp[q'])) (λq'=>hb (by simp[q'])) (λq'=>hb (by simp[q'])) q)) hf (XT _) new
  obtain⟨z1,z2,z3,z4,z5,z6,z7,z8,z9⟩:=D.nz;obtain⟨x',y',Rv⟩:=Z.to;refine⟨.ref s.heap.objs.size,_,I1,rfl,⟨_,x,y,rfl,I.bu.fresh (XT _),rfl,λl hl=>by rw[I.rW hl Ov];exact hx,λl hl=>by rw[I.qI hl Ow];exact hy⟩,⟨V7,(sb.2 _ z1).trans Z.ti,⟨x',y',(sb.2 _ z2).trans Rv⟩,Z.s1.1.at λo q=>(sb.2 _ z8).trans q,Z.s2.1.at λo q=>(sb.2 _ z9).trans q⟩,λc Qa=>?_⟩;have LU:c < s.heap.objs.size:=by
   have e':c=z∨c=TI∨c=TO∨c=i1∨c=i2:=by simpa using Qa
   obtain⟨_,_,MB⟩:=MB;rcases e' with q|q|q|q|q
   · rw[q];exact Tb
   · rw[q];exact XX MT
   · rw[q];exact XX MB
   · rw[q];obtain⟨_,e1,_⟩:=h1;exact XX e1
   · rw[q];obtain⟨_,e2,_⟩:=h2;exact XX e2
  rw[aq (Yk LU)];exact (hf c Qa).1
 done:=by
  intro X hP hw hK hc i pins s σ H E I hf st hg;subst hP hw hK;obtain⟨hz,MT,MB,h1,h2⟩:=st;obtain⟨xs,ys,Ov,Ow,Rw⟩:=hg;obtain⟨LO,rv,p,_⟩:=I.tuple Ov;obtain⟨L3,P_,p2,_⟩:=I.list Ow;have l1:=rv.length;have l2:=P_.length;have he:LO.toArray[i]?=none∨L3.toArray[i]?=none:=by
   rcases Rw with q|q
   · exact .inl (by simp;omega)
   · exact .inr (by simp;omega)
  exact BwX.uf (I.ok.hd hc) D.na D.nb ⟨hz,MT,MB,⟨h1,p⟩,⟨h2,p2.isList⟩,D.n1,D.n2,D.nz⟩ he λh' hk=>⟨rfl,I.El (t':=s.toks) (ch:=[z,TI,TO,i1,i2]) (λc o hb q =>
   hk c o (λq'=>hb (by simp[q'])) (λq'=>hb (by simp[q'])) (λq'=>hb (by simp[q'])) (λq'=>hb (by simp[q'])) q) hf⟩
 self:=λA i s Q E st h=>wpAny_pyIter_zip st.1 h
def IA (K:aas)(ta:TA):TI:=λσ H R=>ta σ H λvs H1=>∃a b xs ys,vs=[.ref a,.ref b]/\b6 K H1 a xs/\aO K H1 b ys/\R (B0 K a b) H1
theorem DC {X:Cx}{e e2:Expr}{ta:TA}{p pos L6:Pos}{elts:List Expr}{kk:Nat}(hg:Gl X "zip")(hm:X.mg "zip"=none)(ha:PA X [e,e2] ta)
  (hs:starEach [e,e2] X.env=(false,eval e X.env)::starEach [e2] X.env:=by rfl)(LY:(backTo pos (starEach [e2] X.env)).any (·.1)=false:=by rfl) :
  PI X (.Tuple elts kk L6) (.Call (.Name "zip" p) [e,e2] [] pos) (IA X.K ta):=by
 intro pins s σ H R I h;refine Call_ (lz I hg hm zC (Y8 (bA (ha pos pins s σ H _ I h) λus s1 ⟨vs,H1,I1,r1,q1⟩=>?_) hs LY));obtain⟨a,b,xs,ys,ex,Ov,Ow,q⟩:=q1;subst ex;cases r1 with
 |cons r rr =>
  cases rr with
  |cons r' rr =>
   cases rr;cases r;cases r';obtain⟨LO,rv,p1,_⟩:=I1.tuple Ov;obtain⟨L3,P_,p2,_⟩:=I1.list Ow;refine BwX.EB p1 p2.isList λh' Z hk=>wpAny_pyIter_zip Z.zp ?_;have I2:Inv X pins σ H1 {s1 with heap:=h'}:=I1.kept (t':=s1.toks) hk;have na:a≠s1.heap.objs.size:=by obtain⟨_,e,_⟩:=p1;exact Yk (XX e)
   have nb:b≠s1.heap.objs.size+1:=Yk (Nat.lt_succ_of_lt p2.lt);refine⟨s1.heap.objs.size+4,[s1.heap.objs.size+4,s1.heap.objs.size+2,s1.heap.objs.size+3,s1.heap.objs.size,s1.heap.objs.size+1],_,_,H1,rfl,I2,EK ⟨Z.n1,Z.n2,Z.nz,na,nb⟩,⟨Z.zp,Z.ti,Z.to,Z.s1.1,Z.s2.1⟩,λc Qa=>?_,q⟩;have e':c=s1.heap.objs.size+4∨c=s1.heap.objs.size+2∨c=s1.heap.objs.size+3∨c=s1.heap.objs.size∨c=s1.heap.objs.size+1:=by simpa using Qa
   have hle:s1.heap.objs.size<=c:=by
    rcases e' with z|z|z|z|z
    · rw[z];exact Z_ _ _
    · rw[z];exact Z_ _ _
    · rw[z];exact Z_ _ _
    · rw[z];exact XT _
    · rw[z];exact Z_ _ _
   exact I1.xY hle (I1.bu.fresh hle)
theorem Jk {K:aas}{a b:Addr}{xs ys:List V}{g:TG}{tt:TT}{te:TE}{vs:aar}{σ:St}{H1:Hp}{D:Addr}{Qd:Hp->Prop}(hle:xs.length<=ys.length)(Pv:Nat->Hp->Prop)(h0:Pv 0 (upd H1 D (.lst [])))(hl:∀i H,i<=xs.length->Pv i H->b6 K H a xs/\aO K H b ys)
  (hs:∀i x y H T,xs[i]?=some x->ys[i]?=some y->Pv i H->H T=none->g (.ref T) (wipe σ vs) (upd H T (.tup [x,y])) λσ2 H2=>wipe σ2 vs=wipe σ vs/\tt σ2 H2 λb H3 =>
   if b=true then te σ2 H3 λy H4=>∃acc,H4 D=some (.lst acc)/\acc.length < sizeLine/\Pv (i+1) (upd H4 D (.lst (acc++[y]))) else Pv (i+1) H3) (hd:∀H,Pv xs.length H->Qd H) :
  ∃W:Nat->Nat->Hp->Prop,(∃m,W 0 m (upd H1 D (.lst [])))/\∀i m H,W i m H ->
   ((B0 K a b).stop i H/\Qd H)∨((B0 K a b).go i H/\∃Nx:Hp->Prop,(∀H',Nx H'->∃m',m' < m/\W (i+1) m' H')/\∀x H',(B0 K a b).we i H x H'->g x (wipe σ vs) H' λσ2 H2=>wipe σ2 vs=wipe σ vs/\tt σ2 H2 λb H3 =>
    if b=true then te σ2 H3 λy H4=>∃acc,H4 D=some (.lst acc)/\acc.length < sizeLine/\Nx (upd H4 D (.lst (acc++[y]))) else Nx H3):=by
 refine⟨λi m H=>m=xs.length - i/\i<=xs.length/\Pv i H,⟨xs.length,by simp,Ye _,h0⟩,?_⟩;rintro i m H ⟨rfl,hi,p⟩;obtain⟨q1,q2⟩:=hl i H hi p;by_cases LU:i < xs.length
 · refine .inr ⟨⟨xs,ys,xs[i],ys[i],q1,q2,by simp[LU],by simp⟩,Pv (i+1),λH' p'=>⟨xs.length - (i+1),by omega,rfl,LU,p'⟩,λx H' w=>?_⟩;obtain⟨T,v,u,rfl,hT,rfl,hx,hy⟩:=w;exact hs i v u _ T (hx xs q1) (hy ys q2) p hT
 · have e:i=xs.length:=by omega
   subst e;exact .inl ⟨⟨xs,ys,q1,q2,.inl (XT _)⟩,hd H p⟩
section
variable {σ:St}{H:Hp}{ta tb te:TE}{t u:TT}{x y v:V}{b c:Bool}
theorem y8 {Q:VK} (h:Ev ta σ H (.bl b)) (q1:b=true->tb σ H Q) (q2:b=false->Q (.bl false) H):FV ta tb σ H Q:=h _ ⟨b,rfl,by
 cases b with
 |false=>exact v8 (q2 rfl)
 |true=>exact p_ (q1 rfl)⟩
end
end L2
namespace Bw
open PySem PySem.Spec PyProof.Rows L2 Tote
def mW (ws:List W):Prop:=ws.length<=70000/\∀w∈ws,w.length<=70000/\∀c∈w,c < 128
theorem je {w:W}{s:String}:decide (V.str (st w)=V.str (Str.ofString s))=decide (w=cd s):=by
 rw[Zu,kY];constructor
 · intro h;injection h with h;exact jx.mp h
 · intro h;rw[h]
theorem F7 {ws:List W}{i:Nat}(h:i < ws.length):ws[i]?=some (ws.getD i []):=by
 rw[Yq,XU h];rfl
theorem dI {ws:List W}{i:Nat}(h:i < ws.length):nU (sV ws) ((i:Nat):Int)=some (.str (st (ws.getD i []))):=cv (Bf (F7 h))
theorem mW.getD {ws:List W}(o:mW ws)(i:Nat):(ws.getD i []).length<=70000/\∀c∈ws.getD i [],c < 128:=by
 by_cases h:i < ws.length
 · exact o.2 _ (Yc (F7 h))
 · rw[Yq,YK (by omega)];exact⟨Ye _,λc hc=>by simp at hc⟩
abbrev eY:List (Nat×W):=[(0,cd "pool"),(4,cd "from"),(6,cd "take"),(8,cd "break"),(10,cd "least"),(12,cd "unit"),(14,cd "none")]
abbrev sizeOf:Tote.Kind->Int×Int
 |.place=>(1,4)
 |.order=>(2,4)
 |.any=>(2,3)
 |.legs=>(2,6)
structure GC (P:Program)(w:World)(K:aas)(mg:aau)(dS aF:Addr):Prop where
 races:Gv mg "MOST_RACES" (.int 16)
 pools:Gv mg "MOST_POOLS" (.int 64)
 couples:Gv mg "MOST_COUPLES" (.int 8)
 runners:Gv mg "MOST_RUNNERS" (.int 24)
 words:Gv mg "POOL_WORDS" (.int 16)
 Gb:Gv mg "SIZES" (.ref dS)
 fixed:Gv mg "FIXED" (.ref aF)
 BL:∃ts:Tote.Kind->Addr,yq P w K dS [(.inr (st (cd "place")),.ref (ts .place)),(.inr (st (cd "order")),.ref (ts .order)),(.inr (st (cd "any")),.ref (ts .any)),(.inr (st (cd "legs")),.ref (ts .legs))]/\∀(k:Tote.Kind) (H:Hp),b6 K H (ts k) [.int (sizeOf k).1,.int (sizeOf k).2]
 HC:∃ts:List Addr,(∀H,b6 K H aF (ts.map V.ref))/\Paired (λt (p:Nat×W)=>∀H,b6 K H t [.int (p.1:Nat),.str (st p.2)]) ts eY
 range:mg "range"=none
section
variable {P:Program}{w:World}{K:aas}{mg:aau}{base:Heap}
def B4 (K:aas):Sp:=λvs H Q _=>∃(a:Addr) (ws:List W),vs=[.ref a]/\aO K H a (sV ws)/\mW ws/\∀H',au H H'->Q (.bl (iB ws)) H'
theorem G2:aG ["words"] ["words"] (aw l_):=fs
theorem HK (G:GW mg){k:Nat}(FN:Fn P w K mg base bF k "is_name" ["word"] lX){f:Addr}{fd:FuncData}(F:dm K "is_day" "is_day" l_ f fd):a9 P w K mg base bF (k+1) f fd ["words"] (B4 K):=by
 refine F.ok G2 (λvs H Q E h=>?_) (λLP A outer s H vs Q E hr h=>?_)
 · obtain⟨a,ws,rfl,_⟩:=h;rfl
 · obtain⟨a,ws,rfl,hS,ok,q⟩:=h;refine⟨_,ak (az (xE (fm cn (bf G.len (pv 0)) ax (aJ _)) (xE (fm cn (bp aN (pv 0) ax (λ_ _=>rfl)) bt (aJ _))
    (yi (aV FN hr bc (aa (bp aN (pv 0) ax (λ_ _=>rfl)) ah)))))),?_⟩
   refine y8 (cb (aT (ag rfl) (.inl hS)) aD) (λh=>?_) (λh=>?_)
   · rw[a7,dJ] at h;have hl:ws.length=2:=by have:=Za h;omega
     refine y8 (cb (a8 (ag rfl) aD hS (dI (i:=0) (by omega))) aD) (λh=>?_) (λh=>?_)
     · rw[je] at h;refine (a8 (ag rfl) aD hS (dI (i:=1) (by omega))) _ ⟨_,rfl,(ok.getD 1).1,λH' e=>?_⟩;have:iB ws=ej (ws.getD 1 []):=by
        unfold iB;rw[hl,X4 h];simp
       rw[←this];exact q H' e
     · rw[je] at h;have:iB ws=false:=by
        unfold iB;have z:(ws.getD 0 []==cd "day")=false:=by
         rw[Yg];exact Yr h
        rw[z];simp
       rw[←this];exact q H (au.refl H)
   · rw[a7,dJ] at h;have:iB ws=false:=by
      unfold iB;have z:(ws.length==2)=false:=by
       rw[Yg] at h ⊢;exact λz=>h (by rw[z];rfl)
      rw[z];rfl
     rw[←this];exact q H (au.refl H)
def fE (ws:List W):Bool:=ws.length==16&&(eY.all λp=>ws.getD p.1 []==p.2)&&ej (ws.getD 1 [])&&(dF (ws.getD 2 [])).isSome
def xi (K:aas):Sp:=λvs H Q _=>∃(a:Addr) (ws:List W),vs=[.ref a]/\aO K H a (sV ws)/\mW ws/\∀H',au H H'->Q (.bl (fE ws)) H'
theorem vO {ts:Tote.Kind->Addr}{w:W}:valueAt [((.inr (st (cd "place")):Key),Value.ref (ts .place)),(.inr (st (cd "order")),.ref (ts .order)),(.inr (st (cd "any")),.ref (ts .any)),(.inr (st (cd "legs")),.ref (ts .legs))] (.inr (st w))=(dF w).map λk=>Value.ref (ts k):=by
 have key:∀s:W,((Sum.inr (st s):Key)=Sum.inr (st w))↔s=w:=λs=>⟨λh=>jx.mp (Sum.inr.inj h),λh=>by rw[h]⟩;unfold valueAt dF;simp only[Zk,List.find?_nil,key];by_cases h1:w=cd "place"
 · subst h1;simp
 · rw[Yv (λz=>h1 z.symm),XI h1];by_cases h2:w=cd "order"
   · subst h2;simp
   · rw[Yv (λz=>h2 z.symm),XI h2];by_cases h3:w=cd "any"
     · subst h3;simp
     · rw[Yv (λz=>h3 z.symm),XI h3];by_cases h4:w=cd "legs"
       · subst h4;simp
       · rw[Yv (λz=>h4 z.symm),XI h4];rfl
theorem oK:aG ["words","at","word"] ["words"] (aw dR):=fs
theorem ER {dS aF:Addr}(G:GW mg)(GC:GC P w K mg dS aF){k:Nat}(FN:Fn P w K mg base bF k "is_name" ["word"] lX){f:Addr}{fd:FuncData}(F:dm K "has_pool_form" "has_pool_form" dR f fd) :
  a9 P w K mg base bF (k+1) f fd ["words"] (xi K):=by
 refine F.ok oK (λvs H Q E h=>?_) (λLP A outer s H vs Q E hr h=>?_)
 · obtain⟨a,ws,rfl,_⟩:=h;rfl
 · obtain⟨a,ws,rfl,hS,ok,q⟩:=h;obtain⟨ts,hD,hT⟩:=GC.BL;obtain⟨fs,hF,hP⟩:=GC.HC;refine⟨_,af (aP (aA p8 (bf G.len (pv 0)) (bb GC.words) (aJ _)) (ak (az mK)) aB)
    (af (aP (cB (ib (bX (xa rfl) (by rfl) G.all PyProof.Rows.boot_all (aa (fz (g:=EH K 2 (pK (fB 1) (pK (fB 2) E1))) (te:=kK J7 (kK (z_ K) (cJ 0) (cJ 1)) (cJ 2)) rfl oK.nd (Hi (bb GC.fixed)) (bz (own:=[("at",1),("word",2)]) rfl)
      (λ_ _ _ _ _=>lD rfl (cg (bh 1 oK.nd) (cg (bh 2 oK.nd) jh))) (λ_ _ _ _ _=>cp)
      (λ_ _ _ _ _=>fm cn (bp aN (pv 0) (pv 1) (λ_ _=>rfl)) (pv 2) (aJ _))) ah)))) (ak (az mK)) aB)
    (ak (az (xE (aV FN hr bc (aa (bp aN (pv 0) ax (λ_ _=>rfl)) ah)) (yi (HM (EG hD (bp aN (pv 0) ax (λ_ _=>rfl)) (bb GC.Gb)))))))),?_⟩
   refine aU (aI (oQ (aT (ag rfl) (.inl hS)) aD)) (λh=>?_) (λh=>?_)
   · rw[a7,dJ] at h;refine bU aD ?_;have:fE ws=false:=by
      unfold fE;have z:(ws.length==16)=false:=by
       rw[Yy,Yg] at h;rw[Yg];exact λz=>h (by rw[z];rfl)
      rw[z];rfl
     rw[←this];exact q H (au.refl H)
   · rw[a7,dJ] at h;have hl:ws.length=16:=by
      rw[YB] at h;have:=Za h;omega
     have MU:fs.length=7:=by rw[Paired.length hP];rfl
     refine⟨aF,rfl,⟨_,hF H⟩,λD Nh=>HY (K:=K) (a:=aF) (xs:=fs.map V.ref) (λi H'=>au H H'/\H' D=some (.lst ((eY.take i).map λp=>V.bl (decide (ws.getD p.1 []=p.2)))))
      ⟨(au.refl H).laid Nh,ae⟩ (λi H' _ h=>hF H') ?_ ?_⟩
     · rintro i x H' hi ⟨k1,k2⟩;rw[XO] at hi;obtain⟨t,ht,rfl⟩:=Yj.mp hi;obtain⟨⟨n,wd⟩,hp,hs⟩:=Paired.qP hP ht;have hn:n < 16:=by
        have:=Yc hp;simp at this;omega
       refine⟨t,_,rfl,hs H',rfl,_,_,rfl,_,_,rfl,rfl,rfl,?_⟩;refine (cb (a8 (ag rfl) (ag rfl) (k1.seq hS) (dI (i:=n) (by omega))) (ag rfl)) _ ⟨_,k2,?_,?_⟩
       · rw[XH,X7,Yb];have:eY.length=7:=rfl;omega
       · refine⟨λb u z=>?_,?_⟩
         · rw[aq (ao z Nh)];exact k1 b u z
         · rw[ae,take_snoc hp,X3];have:decide (V.str (st (ws.getD n []))=V.str (st wd))=decide (ws.getD n []=wd):=by
            rw[Zu];exact⟨λh=>jx.mp (by injection h),λh=>by rw[h]⟩
           rw[this];rfl
     · rintro H' ⟨k1,k2⟩;have k2:H' D=some (.lst ((eY.take (fs.map V.ref).length).map λp=>V.bl (decide (ws.getD p.1 []=p.2)))):=k2;rw[XH,MU] at k2;have eA:((eY.map λp=>decide (ws.getD p.1 []=p.2)).all id)=eY.all λp=>ws.getD p.1 []==p.2:=by
        rw[ZQ];congr 1;funext p;show decide (ws.getD p.1 []=p.2)=(ws.getD p.1 []==p.2);rw[Ym,XS,Yx]
       refine⟨D,eY.map λp=>decide (ws.getD p.1 []=p.2),rfl,aO.of (by rw[k2,X_];rfl),_,rfl,?_⟩;rw[eA];refine gI (λh=>?_) (λh=>?_)
       · refine bU aD ?_;have:fE ws=false:=by
          unfold fE;rw[Yy] at h;rw[h];simp
         rw[←this];exact q H' k1
       · have hA:(eY.all λp=>ws.getD p.1 []==p.2)=true:=by simpa using h
         refine (a8 (ag rfl) aD (k1.seq hS) (dI (i:=1) (by omega))) _ ⟨_,rfl,(ok.getD 1).1,λH2 e2=>⟨_,rfl,?_⟩⟩;have eF:fE ws=(ej (ws.getD 1 [])&&(dF (ws.getD 2 [])).isSome):=by
          unfold fE;rw[hA,hl];simp
         refine gI (λh=>?_) (λh=>?_)
         · refine (a8 (ag rfl) aD ((k1.trans e2).seq hS) (dI (i:=2) (by omega))) _ ⟨Sum.inr (st (ws.getD 2 [])),rfl,rfl,?_⟩;rw[vO];have:((dF (ws.getD 2 [])).map λk=>Value.ref (ts k)).isSome=fE ws:=by
            rw[eF,h,Option.isSome_map];rfl
           rw[this];exact q H2 (k1.trans e2)
         · have:fE ws=false:=by
            rw[eF];have:ej (ws.getD 1 [])=false:=by simpa using h
            rw[this];rfl
           rw[←this];exact q H2 (k1.trans e2)
end
theorem gC {σ:L2.St}{H:Hp}{te:TE}{wd:W}(h:Ev te σ H (.str (st wd)))(ok:wd.length<=70000/\∀c∈wd,c < 128):Ev (n9 kX [] E0 (cI te eV)) σ H (.int (ay wd)):=λ_ r=>h _ ⟨wd,rfl,ok.1,ok.2,r⟩
theorem zr {xs:List V}{i j:Nat}(h:j<=xs.length):fA xs (some (i:Int)) (some (j:Int))=(xs.drop i).take (j - i):=by
 unfold fA;rw[HT.iQ,HT.iQ,ZJ h];by_cases hi:i<=xs.length
 · rw[ZJ hi]
 · rw[Nat.min_eq_right (by omega),ZF (XT _),ZF (by omega)];simp
section
variable {P:Program}{w:World}{K:aas}{mg:aau}{base:Heap}
def fb (ws:List W):Bool :=
 !(!(decide (0<=ay (ws.getD 7 []))&&decide (ay (ws.getD 7 [])<=400))||!(decide (1<=ay (ws.getD 9 []))&&decide (ay (ws.getD 9 [])<=1000))) &&
 (!(!(decide (1<=ay (ws.getD 13 []))&&decide (ay (ws.getD 13 [])<=10000))||!(decide (ay (ws.getD 11 [])=0)||(decide (ay (ws.getD 13 [])<=ay (ws.getD 11 []))&&decide (ay (ws.getD 11 [])<=2*ay (ws.getD 13 []))))) &&
 (if ws.getD 15 []=cd "fewer" then !decide (ws.getD 2 []=cd "place") else decide (ws.getD 15 []=cd "refund")||decide (ws.getD 15 []=cd "carry")))
def sR (K:aas):Sp:=λvs H Q _=>∃(a:Addr) (ws:List W),vs=[.ref a]/\aO K H a (sV ws)/\mW ws/\ws.length=16/\∀H',au H H'->Q (.bl (fb ws)) H'
theorem pb:aG ["words","least","unit"] ["words"] (aw dD):=fs
theorem CN {k:Nat}(FN:Fn P w K mg base bF k "number_of" ["word"] kX){f:Addr}{fd:FuncData}(F:dm K "are_terms_good" "are_terms_good" dD f fd):a9 P w K mg base bF (k+1) f fd ["words"] (sR K):=by
 refine F.ok pb (λvs H Q E h=>?_) (λLP A outer s H vs Q E hr h=>?_)
 · obtain⟨a,ws,rfl,_⟩:=h;rfl
 · obtain⟨a,ws,rfl,hS,ok,hl,q⟩:=h;refine⟨_,af (aZ 1 pb.nd (aV FN hr bc (aa (bp aN (pv 0) ax (λ_ _=>rfl)) ah)))
    (af (aZ 2 pb.nd (aV FN hr bc (aa (bp aN (pv 0) ax (λ_ _=>rfl)) ah)))
    (af (aP (PW.pt (eD (cB (cE cj cj ax (aV FN hr bc (aa (bp aN (pv 0) ax (λ_ _=>rfl)) ah)) ax)) (cU (cB (cE cj cj ax (aV FN hr bc (aa (bp aN (pv 0) ax (λ_ _=>rfl)) ah)) ax))))) (ak (az mK)) aB)
    (af (aP (PW.pt (eD (cB (cE cj cj ax (pv 2) ax)) (cU (cB (PW.pt (eD (aA cn (pv 1) ax (aJ _)) (cU (cE cj cj (pv 2) (pv 1) (bJ yb ax (pv 2)))))))))) (ak (az mK)) aB)
    (af (aP (aA cn (bp aN (pv 0) ax (λ_ _=>rfl)) bt (aJ _)) (ak (az (fm p8 (bp aN (pv 0) ax (λ_ _=>rfl)) bt (aJ _)))) aB)
    (ak (az (fm gg (bp aN (pv 0) ax (λ_ _=>rfl)) (dg (aa bt (aa bt ah))) (by with_unfolding_all rfl)))))))),?_⟩
   refine cG (gC (a8 (ag rfl) aD hS (dI (i:=11) (by omega))) (ok.getD 11)) ?_;refine cG (gC (a8 (ag rfl) aD hS (dI (i:=13) (by omega))) (ok.getD 13)) ?_;refine aU (gO (fh (cD aD (gC (a8 (ag rfl) aD hS (dI (i:=7) (by omega))) (ok.getD 7)) aD)) λ_=>fh (cD aD (gC (a8 (ag rfl) aD hS (dI (i:=9) (by omega))) (ok.getD 9)) aD)) (λh=>?_) (λh1=>?_)
   · refine bU aD ?_;have:fb ws=false:=by unfold fb;rw[h];rfl
     rw[←this];exact q H (au.refl H)
   refine aU (gO (fh (cD aD (ag rfl) aD)) λ_=>fh (gO (aI (cb (ag rfl) aD)) λ_=>cD (ag rfl) (ag rfl) (yU aD (ag rfl) (.inl ⟨by decide,by decide⟩)))) (λh=>?_) (λh2=>?_)
   · refine bU aD ?_;have:fb ws=false:=by
      unfold fb;have e:decide (V.int (ay (ws.getD 11 []))=V.int 0)=decide (ay (ws.getD 11 [])=0):=by rw[a7];rfl
      rw[e] at h;rw[h];simp
     rw[←this];exact q H (au.refl H)
   have e2:fb ws=if ws.getD 15 []=cd "fewer" then !decide (ws.getD 2 []=cd "place") else decide (ws.getD 15 []=cd "refund")||decide (ws.getD 15 []=cd "carry"):=by
    unfold fb;have e:decide (V.int (ay (ws.getD 11 []))=V.int 0)=decide (ay (ws.getD 11 [])=0):=by rw[a7];rfl
    rw[e] at h2;rw[h1,h2];simp
   refine aU (aI (cb (a8 (ag rfl) aD hS (dI (i:=15) (by omega))) aD)) (λh=>?_) (λh=>?_)
   · rw[je] at h;refine bU (oQ (a8 (ag rfl) aD hS (dI (i:=2) (by omega))) aD) ?_;rw[je];rw[XJ (X4 h)] at e2;rw[←e2];exact q H (au.refl H)
   · rw[je] at h;refine (a8 (ag rfl) aD hS (dI (i:=15) (by omega))) _ ⟨(by show 2<=sizeLine;decide),λt ht=>⟨t,_,rfl,.inr (b6.of ae),rfl,rfl,?_⟩⟩;rw[XI (Yr h)] at e2;have:og (V.str (st (ws.getD 15 []))) [V.str (Str.ofString "refund"),V.str (Str.ofString "carry")]=fb ws:=by
      rw[e2];have key:∀s:String,sF (V.str (Str.ofString s)) (V.str (st (ws.getD 15 [])))=decide (ws.getD 15 []=cd s):=λs=>by
       show (Str.ofString s==st (ws.getD 15 []))=_;rw[Ym,Yx,XS,kY,jx];exact⟨λz=>z.symm,λz=>z.symm⟩
      show ([V.str (Str.ofString "refund"),V.str (Str.ofString "carry")].any λy=>sF y (V.str (st (ws.getD 15 []))))=_;simp only[Ze,List.any_nil,key,ZV]
     rw[←this] at q;exact q _ ((au.refl H).laid ht)
def lU (kd:Tote.Kind)(k rc:Nat)(rs:aaq):Bool:=match kd with
 |.legs=>decide (rc+k<=rs.length+1)
 |_=>decide (k<=(rs.getD (rc - 1) []).length)
def gW {α:Type}(d:α)(kd:Tote.Kind)(k rc:Nat)(as:List α):List α:=match kd with
 |.legs=>(as.drop (rc - 1)).take k
 |.place=>[as.getD (rc - 1) d]
 |_=>List.replicate k (as.getD (rc - 1) d)
theorem xZ (kd:Tote.Kind)(k rc:Nat)(rs:aaq):gW [] kd k rc rs=fk kd k rc rs:=by cases kd <;> rfl
theorem tJ {α β:Type}{F:α->β->Prop}{d:α}{e:β}{kd:Tote.Kind}{k rc:Nat}{as:List α}{rs:List β}(h:Paired F as rs)(h1:1<=rc)(h2:rc<=rs.length):Paired F (gW d kd k rc as) (gW e kd k rc rs):=by
 obtain⟨y,hy⟩:∃y,rs[rc - 1]?=some y:=⟨_,XU (by omega)⟩;obtain⟨x,hx,hf⟩:=Paired.at2 h hy;have ex:as.getD (rc - 1) d=x:=by rw[Yq,hx];rfl
 have ey:rs.getD (rc - 1) e=y:=by rw[Yq,hy];rfl
 unfold gW;cases kd with
 |legs=>exact Paired.tk k (Paired.dp (rc - 1) h)
 |place=>rw[ex,ey];exact .cons hf .nil
 |order=>rw[ex,ey];exact Paired.rep hf k
 |any=>rw[ex,ey];exact Paired.rep hf k
def pC (K:aas):Sp:=λvs H Q _=>∃(kd:Tote.Kind) (k rc:Nat) (a:Addr) (as:List Addr) (rs:aaq),vs=[.str (st (cd (kindS kd))),.int (k:Nat),.int (rc:Nat),.ref a]/\aO K H a (as.map V.ref)/\Paired (hZ K H) as rs/\1<=k/\k<=6/\1<=rc/\rc<=rs.length/\rs.length<=70000 /\
 (lU kd k rc rs=false->Q .b8 H)/\(lU kd k rc rs=true->∀H' p,au H H'->H p=none->H' p=some (.lst ((gW 0 kd k rc as).map V.ref))->Q (.ref p) H')
theorem ir {kd:Tote.Kind}{s:String}:decide (V.str (st (cd (kindS kd)))=V.str (Str.ofString s))=decide (cd (kindS kd)=cd s):=je
theorem kr:aG ["kind","size","race","races","interests","place"] ["kind","size","race","races"] (aw gU):=fs
theorem Ad {dS aF:Addr}(G:GW mg)(GC:GC P w K mg dS aF){f:Addr}{fd:FuncData}(F:dm K "fields_of" "fields_of" gU f fd):a9 P w K mg base bF 1 f fd ["kind","size","race","races"] (pC K):=by
 refine F.oo kr λLP A outer s H vs Q E hr h=>?_;obtain⟨kd,k,rc,a,as,rs,rfl,hA,hP,hk1,Tc,N3,hr2,hr3,q0,q1⟩:=h;have LQ:as.length=rs.length:=Paired.length hP;refine⟨_,af (aP (aA cn (pv 0) bt (aJ _)) (af (aP (aA kZ (bJ fH (bJ eK (pv 2) (pv 1)) ax) (bf G.len (pv 3)) (aJ _)) (ak (az cF)) aB)
   (ak (az (cN fw (pv 3) (cZ (bJ fH (pv 2) ax)) (cZ (bJ eK (bJ fH (pv 2) ax) (pv 1))))))) aB)
  (af (o4 (i:=4) kr.nd rfl (Or.inr rfl) (bp aN (pv 3) (bJ fH (pv 2) ax) (λ_ _=>rfl)))
  (af (aP (aA nS (bf G.len (pv 4)) (pv 1) (aJ _)) (ak (az cF)) aB)
  (af (aP (aA cn (pv 0) bt (aJ _)) (ak (az (bT (aa (pv 4) ah)))) aB)
  (ak (az (fz rfl kr.nd (gi rfl GC.range (aa (pv 1) ah)) (bz (own:=[("place",5)]) rfl) (λ_ _ _ _ _=>bh 5 kr.nd) (λ_ _ _ _ _=>cp) (λ_ _ _ _ _=>pv 4))))))),?_⟩
 refine aU (aI (cb (ag rfl) aD)) (λh=>?_) (λh=>?_)
 · rw[ir] at h;have e:kd=.legs:=by
    cases kd <;> first|rfl|(exact absurd (X4 h) (by decide))
   subst e;refine aU (jG (md (md (ag rfl) (ag rfl)) aD) (aT (ag rfl) (.inl hA))) (λh=>?_) (λh=>?_)
   · refine bU aD (q0 ?_);rw[XH,LQ] at h;have:=X4 h;exact Yv (by omega)
   · rw[XH,LQ] at h;have:=Yr h;refine⟨_,rfl,?_⟩;refine (md (ag rfl) aD) _ ⟨_,rfl,?_⟩;refine (md (md (ag rfl) aD) (ag rfl)) _ ⟨_,rfl,a,as.map V.ref,rfl,hA,λp hp=>?_⟩;have e1:(rc:Int) - 1=((rc - 1:Nat):Int):=by omega
     have e2:(rc:Int) - 1+(k:Int)=((rc - 1+k:Nat):Int):=by omega
     rw[e1,show (((rc - 1:Nat):Int)+(k:Int))=((rc - 1+k:Nat):Int) by omega,zr (by rw[XH,LQ];omega)];refine q1 (Yn (by omega)) _ p ((au.refl H).laid hp) hp ?_;show upd H p _ p=some (.lst (((as.drop (rc - 1)).take k).map V.ref));rw[ae,show rc - 1+k - (rc - 1)=k by omega,List.map_take,aaa]
 · rw[ir] at h;have Td:kd≠.legs:=by
    rintro rfl;exact absurd (Yr h) (by decide)
   obtain⟨ns,O2⟩:∃ns,rs[rc - 1]?=some ns:=⟨_,XU (by omega)⟩;obtain⟨ai,Mb,hI⟩:=Paired.at2 hP O2;have hg:rs.getD (rc - 1) []=ns:=by rw[Yq,O2];rfl
   have Te:as.getD (rc - 1) 0=ai:=by rw[Yq,Mb];rfl
   have V8:nU (as.map V.ref) ((rc:Int) - 1)=some (.ref ai):=by
    rw[show (rc:Int) - 1=((rc - 1:Nat):Int) by omega];exact cv (by rw[XO,Mb];rfl)
   refine cG (a8 (ag rfl) (md (ag rfl) aD) hA V8) ?_;have eO:lU kd k rc rs=decide (k<=ns.length):=by
    unfold lU;rw[hg];cases kd <;> first|rfl|exact absurd rfl Td
   rw[eO] at q0 q1;refine aU (jG (aT (ag rfl) (.inl hI)) (ag rfl)) (λh=>?_) (λh=>?_)
   · refine bU aD (q0 (Yv ?_));rw[aL] at h;have:=X4 h;omega
   · rw[aL] at h;have:=Yr h;have q1:=q1 (Yn (by omega));refine aU (aI (cb (ag rfl) aD)) (λh=>?_) (λh=>?_)
     · rw[ir] at h;have e:kd=.place:=by
        cases kd <;> first|rfl|(exact absurd (X4 h) (by decide))
       subst e;refine⟨_,rfl,(by show 1<=sizeLine;decide),λp hp=>q1 _ p ((au.refl H).laid hp) hp ?_⟩;show upd H p _ p=some (.lst [.ref (as.getD (rc - 1) 0)]);rw[Te];exact ae
     · rw[ir] at h;have Ox:kd≠.place:=by
        rintro rfl;exact absurd (Yr h) (by decide)
       have eF:gW 0 kd k rc as=List.replicate k ai:=by
        unfold gW;rw[Te];cases kd <;> first|rfl|exact absurd rfl Td|exact absurd rfl Ox
       rw[eF] at q1;refine⟨_,rfl,(k:Int),rfl,by omega,by omega,λD hD=>?_⟩;rw[show ((k:Int)).toNat=k by omega];refine mP (lo:=0) (n:=k) (λi H'=>au H H'/\H' D=some (.lst ((List.replicate i ai).map V.ref))) ⟨(au.refl H).laid hD,ae⟩ ?_ ?_
       · rintro i H' hi ⟨k1,k2⟩;refine⟨rfl,_,rfl,_,k2,?_,?_⟩
         · rw[XH,Yi,Yb];omega
         · refine⟨λb u z=>?_,?_⟩
           · rw[aq (ao z hD)];exact k1 b u z
           · rw[ae,List.replicate_succ',X3];rfl
       · rintro H' ⟨k1,k2⟩;exact q1 H' D k1 hD k2
end
theorem ni {w:W}{kd:Tote.Kind}(h:dF w=some kd):w=cd (kindS kd):=by
 unfold dF at h;split at h
 · rename_i e;cases h;exact e
 · split at h
   · rename_i e;cases h;exact e
   · split at h
     · rename_i e;cases h;exact e
     · split at h
       · rename_i e;cases h;exact e
       · cases h
theorem rV {ws:List W}(h:fE ws=true):ws.length=16/\∃kd,dF (ws.getD 2 [])=some kd:=by
 unfold fE at h;simp only[XR,Yx] at h;exact⟨h.1.1.1,ZT.mp h.2⟩
theorem Fy {ws:List W}(h:ws.length=16):∃p nm kd k fr rc tk t br b le m un u no z:W,ws=[p,nm,kd,k,fr,rc,tk,t,br,b,le,m,un,u,no,z]:=by
 match ws,h with
 |[p,nm,kd,k,fr,rc,tk,t,br,b,le,m,un,u,no,z],_=>exact⟨p,nm,kd,k,fr,rc,tk,t,br,b,le,m,un,u,no,z,rfl⟩
theorem sy {ws:List W}{rs:aaq}(h:¬(fE ws=true/\fb ws=true)):eX ws rs=none:=by
 by_cases hl:ws.length=16
 · obtain⟨p,nm,kd,k,fr,rc,tk,t,br,b,le,m,un,u,no,z,rfl⟩:=Fy hl;show (match dF kd with
    |none=>none
    |some kind=>if dA rs kind p nm k fr rc tk t br b le m un u no z then some (⟨nm,kind,fk kind (ay k).toNat (ay rc).toNat rs,(ay u).toNat⟩:aK) else none)=none
   cases hk:dF kd with
   |none=>rfl
   |some kind =>
    show (if dA rs kind p nm k fr rc tk t br b le m un u no z then _ else none)=none;rw[XI];rintro⟨c1,c2,c3,c4,c5,c6,c7,c8,c9,PM,PN,NO,Of,Nr,NP,MO⟩;refine h ⟨?_,?_⟩
    · unfold fE;show (_&&(eY.all λq=>_)&&ej nm&&(dF kd).isSome)=true;rw[c8,hk];simp[eY,c1,c2,c3,c4,c5,c6,c7]
    · have Np:=ni hk;unfold fb;show (!(!(decide (0<=ay t)&&decide (ay t<=400))||!(decide (1<=ay b)&&decide (ay b<=1000)))&&(!(!(decide (1<=ay u)&&decide (ay u<=10000))||!(decide (ay m=0)||(decide (ay u<=ay m)&&decide (ay m<=2*ay u)))) &&
       (if z=cd "fewer" then !decide (kd=cd "place") else decide (z=cd "refund")||decide (z=cd "carry"))))=true
      have d1:(decide (0<=ay t)&&decide (ay t<=400))=true:=by simp[c9]
      have d2:(decide (1<=ay b)&&decide (ay b<=1000))=true:=by simp[PM]
      have d3:(decide (1<=ay u)&&decide (ay u<=10000))=true:=by simp[PN]
      have d4:(decide (ay m=0)||(decide (ay u<=ay m)&&decide (ay m<=2*ay u)))=true:=by simpa using NO
      rw[d1,d2,d3,d4];by_cases hz:z=cd "fewer"
      · rw[XJ hz];rcases Of with c|c|c
        · have:kd≠cd "place":=by
           rw[Np];intro e;exact c.2 (by cases kind <;> first|rfl|exact absurd e (by decide))
          simp[this]
        · rw[hz] at c;exact absurd c (by decide)
        · rw[hz] at c;exact absurd c (by decide)
      · rw[XI hz];rcases Of with c|c|c
        · exact absurd c.1 hz
        · simp[c]
        · simp[c]
 · unfold eX;split
   · rename_i e;exact absurd (by rfl) hl
   · rfl
theorem Fg {ws:List W}{rs:aaq}{kd:Tote.Kind}(hf:fE ws=true)(ht:fb ws=true)(hk:dF (ws.getD 2 [])=some kd) :
  eX ws rs=if ((sizeOf kd).1<=ay (ws.getD 3 [])/\ay (ws.getD 3 [])<=(sizeOf kd).2)/\(1<=ay (ws.getD 5 [])/\ay (ws.getD 5 [])<=(rs.length:Int))/\lU kd (ay (ws.getD 3 [])).toNat (ay (ws.getD 5 [])).toNat rs=true
   then some ⟨ws.getD 1 [],kd,fk kd (ay (ws.getD 3 [])).toNat (ay (ws.getD 5 [])).toNat rs,(ay (ws.getD 13 [])).toNat⟩ else none:=by
 obtain⟨hl,_⟩:=rV hf;obtain⟨p,nm,kw,k,fr,rc,tk,t,br,b,le,m,un,u,no,z,rfl⟩:=Fy hl;have hk:dF kw=some kd:=hk;show (match dF kw with
   |none=>none
   |some kind=>if dA rs kind p nm k fr rc tk t br b le m un u no z then some (⟨nm,kind,fk kind (ay k).toNat (ay rc).toNat rs,(ay u).toNat⟩:aK) else none)=if ((sizeOf kd).1<=ay k/\ay k<=(sizeOf kd).2)/\(1<=ay rc/\ay rc<=(rs.length:Int))/\lU kd (ay k).toNat (ay rc).toNat rs=true
   then some (⟨nm,kd,fk kd (ay k).toNat (ay rc).toNat rs,(ay u).toNat⟩:aK) else none
 rw[hk];show (if dA rs kd p nm k fr rc tk t br b le m un u no z then some (⟨nm,kd,fk kd (ay k).toNat (ay rc).toNat rs,(ay u).toNat⟩:aK) else none)=_;have key:dA rs kd p nm k fr rc tk t br b le m un u no z↔((sizeOf kd).1<=ay k/\ay k<=(sizeOf kd).2)/\(1<=ay rc/\ay rc<=(rs.length:Int))/\lU kd (ay k).toNat (ay rc).toNat rs=true:=by
  have Np:=ni hk;have f1:(eY.all λq=>[p,nm,kw,k,fr,rc,tk,t,br,b,le,m,un,u,no,z].getD q.1 []==q.2)=true:=by
   unfold fE at hf;simp only[XR] at hf;exact hf.1.1.2
  have f2:ej nm=true:=by
   unfold fE at hf;simp only[XR] at hf;exact hf.1.2
  have f1:p=cd "pool"/\fr=cd "from"/\tk=cd "take"/\br=cd "break"/\le=cd "least"/\un=cd "unit"/\no=cd "none":=by
   have g:((p==cd "pool")&&((fr==cd "from")&&((tk==cd "take")&&((br==cd "break")&&((le==cd "least")&&((un==cd "unit")&&((no==cd "none")&&true)))))))=true:=f1;simp only[XR,Yx] at g;obtain⟨g1,g2,g3,g4,g5,g6,g7,_⟩:=g;exact⟨g1,g2,g3,g4,g5,g6,g7⟩
  have f3:(!(!(decide (0<=ay t)&&decide (ay t<=400))||!(decide (1<=ay b)&&decide (ay b<=1000)))&&(!(!(decide (1<=ay u)&&decide (ay u<=10000))||!(decide (ay m=0)||(decide (ay u<=ay m)&&decide (ay m<=2*ay u)))) &&
        (if z=cd "fewer" then !decide (kw=cd "place") else decide (z=cd "refund")||decide (z=cd "carry"))))=true:=ht
  simp only[XR,Yy,YS,YB,XS,YH] at f3;obtain⟨⟨t1,t2⟩,⟨t3,t4⟩,t5⟩:=f3;have s1:(leastK kd:Int)=(sizeOf kd).1:=by cases kd <;> rfl
  have s2:(mostK kd:Int)=(sizeOf kd).2:=by cases kd <;> rfl
  have s3:1<=(sizeOf kd).1:=by cases kd <;> decide
  constructor
  · rintro⟨_,_,_,_,_,_,_,_,_,_,_,_,_,Nr,NP,MO⟩;rw[s1,s2] at Nr;refine⟨Nr,NP,?_⟩;unfold lU;rcases MO with ⟨rfl,c⟩|⟨hn,c⟩
    · exact Yn (by omega)
    · have e:(ay rc - 1).toNat=(ay rc).toNat - 1:=by omega
      rw[e] at c;cases kd <;> first|exact Yn (by omega)|exact absurd rfl hn
  · rintro⟨Nr,NP,MO⟩;refine⟨f1.1,f1.2.1,f1.2.2.1,f1.2.2.2.1,f1.2.2.2.2.1,f1.2.2.2.2.2.1,f1.2.2.2.2.2.2,f2,t1,t2,t3,t4,?_,by rw[s1,s2];exact Nr,NP,?_⟩
    · split at t5
      · rename_i hz;simp only[Yy,Yp] at t5;refine .inl ⟨hz,?_⟩;rintro rfl;exact t5 Np
      · refine .inr ?_;simpa using t5
    · have e:(ay rc - 1).toNat=(ay rc).toNat - 1:=by omega
      rw[e];unfold lU at MO;by_cases hn:kd=.legs
      · subst hn;have:=X4 MO;exact .inl ⟨rfl,by omega⟩
      · refine .inr ⟨hn,?_⟩;have:(ay k).toNat<=(rs.getD ((ay rc).toNat - 1) []).length:=by
         cases kd <;> first|exact X4 MO|exact absurd rfl hn
        omega
 by_cases hc:dA rs kd p nm k fr rc tk t br b le m un u no z
 · rw[XJ hc,XJ (key.mp hc)]
 · rw[XI hc,XI (λz=>hc (key.mpr z))]
section
variable {P:Program}{w:World}{K:aas}{mg:aau}{base:Heap}
def xq (K:aas) (C:Addr):Sp:=λvs H Q _=>∃(a b:Addr) (ws:List W) (as:List Addr) (rs:aaq),vs=[.ref a,.ref b]/\aO K H a (sV ws)/\mW ws/\aO K H b (as.map V.ref)/\Paired (hZ K H) as rs/\rs.length<=16 /\
 (eX ws rs=none->∀H',au H H'->Q .b8 H')/\(∀p,eX ws rs=some p->∀H' x dx fa MM,au H H'->H x=none->H fa=none->H' x=some (.ins C dx (jj (.str (st p.name)) (.str (st (cd (kindS p.kind)))) (.ref fa) (.int (p.unit:Nat)))) ->
  H' fa=some (.lst (MM.map V.ref))->(∀F:Addr->aar->Prop,Paired F as rs->Paired F MM p.fields)->Q (.ref x) H')
theorem j2:aG ["words","races","kind","size","bounds","race","fields"] ["words","races"] (aw gS):=fs
theorem Ec {dS aF C:Addr}(G:GW mg)(GC:GC P w K mg dS aF)(T:CK K mg "Pool" hU C){k:Nat}(FF:Fn P w K mg base bF k "has_pool_form" ["words"] (xi K))(FT:Fn P w K mg base bF k "are_terms_good" ["words"] (sR K))
  (FN:Fn P w K mg base bF k "number_of" ["word"] kX)(FL:Fn P w K mg base bF k "fields_of" ["kind","size","race","races"] (pC K))(FP:xI P w K mg base bF k C ["self","name","kind","fields","unit"] (ua C))
  {f:Addr}{fd:FuncData}(F:dm K "read_pool" "read_pool" gS f fd):a9 P w K mg base bF (k+2) f fd ["words","races"] (xq K C):=by
 refine F.ok j2 (λvs H Q E h=>?_) (λLP A outer s H vs Q E N3 h=>?_)
 · obtain⟨_,_,_,_,_,rfl,_⟩:=h;rfl
 · obtain⟨a,b,ws,as,rs,rfl,hS,ok,V9,Qb,Pc,q0,q1⟩:=h;have hr:cO k _:=N3.mono (Nat.le_succ k);obtain⟨ts,hD,hT⟩:=GC.BL;refine⟨_,af (aP (PW.pt (eD (cB (ib (aV FF hr bc (aa (pv 0) ah)))) (cU (cB (ib (aV FT hr bc (aa (pv 0) ah))))))) (ak (az cF)) aB)
    (af (aZ 2 j2.nd (bp aN (pv 0) ax (λ_ _=>rfl)))
    (af (aZ 3 j2.nd (aV FN hr bc (aa (bp aN (pv 0) ax (λ_ _=>rfl)) ah)))
    (af (aZ 4 j2.nd (CZ hD (bb GC.Gb) (pv 2) (λ_ _=>rfl)))
    (af (aZ 5 j2.nd (aV FN hr bc (aa (bp aN (pv 0) ax (λ_ _=>rfl)) ah)))
    (af (aP (PW.pt (eD (cB (cE cj cj (bp A0 (pv 4) ax (λ_ _=>rfl)) (pv 3) (bp A0 (pv 4) ax (λ_ _=>rfl)))) (cU (cB (cE cj cj ax (pv 5) (bf G.len (pv 1))))))) (ak (az cF)) aB)
    (af (aZ 6 j2.nd (aV FL hr bc (aa (pv 2) (aa (pv 3) (aa (pv 5) (aa (pv 1) ah))))))
    (af (aP (aA ui (pv 6) cF (aJ _)) (ak (az cF)) aB)
    (ak (az (pX FP N3 T.mg bc (aa (bp aN (pv 0) ax (λ_ _=>rfl)) (aa (pv 2) (aa (pv 6) (aa (aV FN hr bc (aa (bp aN (pv 0) ax (λ_ _=>rfl)) ah)) ah)))))))))))))),?_⟩
   refine⟨_,rfl,a,ws,rfl,hS,ok,λH1 e1=>⟨_,rfl,?_⟩⟩;refine gI (λh=>?_) (λh=>?_)
   · refine q0 (sy λz=>?_) H1 e1;rw[z.1] at h;cases h
   have hf:fE ws=true:=by simpa using h
   obtain⟨hl,kd,hk⟩:=rV hf;refine⟨_,rfl,a,ws,rfl,e1.seq hS,ok,hl,λH2 e2=>⟨_,rfl,?_⟩⟩;have M1:=e1.trans e2;refine gI (λh=>?_) (λh=>?_)
   · refine q0 (sy λz=>?_) H2 M1;rw[z.2] at h;cases h
   have ht:fb ws=true:=by simpa using h
   have Rx:=M1.seq hS;have pe:=Fg (rs:=rs) hf ht hk;have Np:=ni hk;refine cG (a8 (ag rfl) aD Rx (dI (i:=2) (by omega))) ?_;refine cG (gC (a8 (ag rfl) aD Rx (dI (i:=3) (by omega))) (ok.getD 3)) ?_;refine⟨_,rfl,Sum.inr (st (ws.getD 2 [])),V.ref (ts kd),Value.ref (ts kd),rfl,rfl,by rw[vO,hk];rfl,rfl,?_⟩;refine cG (gC (a8 (ag rfl) aD Rx (dI (i:=5) (by omega))) (ok.getD 5)) ?_;have hA:=M1.seq V9;have hP:=iS Qb M1;have LQ:as.length=rs.length:=Paired.length hP;refine aU (gO (fh (cD (Bg (ag rfl) aD (hT kd H2) (cv (j:=0) rfl)) (ag rfl) (Bg (ag rfl) aD (hT kd H2) (cv (j:=1) rfl)))) λ_=>fh (cD aD (ag rfl) (aT (ag rfl) (.inl hA)))) (λh=>?_) (λh=>?_)
   · refine bU aD (q0 ?_ H2 M1);rw[pe,XI];rintro⟨z1,z2,_⟩;rw[XH,LQ] at h;simp only[YH,Yy,Y5,Yp] at h;omega
   rw[XH,LQ] at h;simp only[YS,YB,XR,XS] at h;obtain⟨h1,h2⟩:=h;have s3:1<=(sizeOf kd).1:=by cases kd <;> decide
   have s4:(sizeOf kd).2<=6:=by cases kd <;> decide
   have n3:ay (ws.getD 3 [])=(((ay (ws.getD 3 [])).toNat:Nat):Int):=by omega
   have n5:ay (ws.getD 5 [])=(((ay (ws.getD 5 [])).toNat:Nat):Int):=by omega
   refine⟨_,rfl,_,rfl,_,rfl,_,rfl,kd,(ay (ws.getD 3 [])).toNat,(ay (ws.getD 5 [])).toNat,b,as,rs,by rw[←n3,←n5,←Np];rfl,hA,hP,by omega,by omega,by omega,by omega,by omega,λhO=>?_,λhO H3 p e3 V_ hp=>?_⟩
   ·
    refine⟨_,rfl,rfl,_,rfl,q0 ?_ H2 M1⟩;rw[pe,XI];rintro⟨_,_,z⟩;rw[hO] at z;cases z
   · refine⟨_,rfl,rfl,_,rfl,?_⟩;have OH:=M1.trans e3;have Tf:=OH.seq hS;refine (a8 (ag rfl) aD Tf (dI (i:=1) (by omega))) _ ⟨_,rfl,_,rfl,?_⟩;refine (gC (a8 (ag rfl) aD Tf (dI (i:=13) (by omega))) (ok.getD 13)) _ ?_;intro x dx nx Qc nex;refine⟨x,dx,_,_,_,_,rfl,ae,rfl,?_⟩;rw[XJ ⟨h1,h2,hO⟩] at pe;have sm:au H3 (upd (upd (upd H3 dx (.own x)) x (.ins C dx [])) x (.ins C dx (jj (V.str (st (ws.getD 1 []))) (V.str (st (ws.getD 2 []))) (V.ref p) (V.int (ay (ws.getD 13 [])))))):=λb u z=>by
      rw[aq (ao z nx),aq (ao z nx),aq (ao z Qc)];exact z
     have hu:0<=ay (ws.getD 13 []):=by
      unfold fb at ht;simp only[XR,Yy,YS,YB,XS] at ht;omega
     have Pd:p≠x:=ao hp nx;have npd:p≠dx:=ao hp Qc;refine q1 _ pe _ x dx p (gW 0 kd (ay (ws.getD 3 [])).toNat (ay (ws.getD 5 [])).toNat as) (OH.trans sm) (OH.free nx) (M1.free V_) ?_ ?_ ?_
     · rw[ae,Np];rw[Np] at *;simp only[Int.toNat_of_nonneg hu]
     · exact sm _ _ hp
     · intro F0 Wa;show Paired _ _ (fk _ _ _ rs);rw[←xZ];exact tJ Wa (by omega) (by omega)
end
end Bw
namespace L2
open PySem PySem.Spec PyProof.Rows
theorem IS {te:TE}{D:Ends}{σ:St}{H:Hp}(h:te σ H D.rt):EV te D σ H:=h
theorem yT {wi:TI}{g:TG}{tt:TT}{te:TE}{vs:aar}{σ:St}{H:Hp}{Q:VK}(h:wi σ H λJ H1=>∀D,H1 D=none->∃W:Nat->Nat->Hp->Prop,(∃m,W 0 m (upd H1 D (.lst [])))/\∀i m H,W i m H ->
 (J.stop i H/\Q (.ref D) H)∨(J.go i H/\∃Nx:Hp->Prop,(∀H',Nx H'->∃m',m' < m/\W (i+1) m' H')/\∀x H',J.we i H x H'->g x (wipe σ vs) H' λσ2 H2=>wipe σ2 vs=wipe σ vs/\tt σ2 H2 λb H3 =>
  if b=true then te σ2 H3 λy H4=>∃acc,H4 D=some (.lst acc)/\acc.length < sizeLine/\Nx (upd H4 D (.lst (acc++[y]))) else Nx H3)):Hd wi g tt te vs σ H Q:=h
theorem jL {σ:St}{H:Hp}{ta tb:TE}{i j:Int}(ha:Ev ta σ H (.int i))(hb:Ev tb σ H (.int j)):Ev (kK (qM λi j=>.int (i+j)) ta tb) σ H (.int (i+j)):=λ_ r=>ha _ (hb _ ⟨i,j,rfl,rfl,r⟩)
theorem pS {σ:St}{H:Hp}{ta tb:TE}{i j:Int}(ha:Ev ta σ H (.int i))(hb:Ev tb σ H (.int j)):Ev (kK (qM λi j=>.int (i - j)) ta tb) σ H (.int (i - j)):=λ_ r=>ha _ (hb _ ⟨i,j,rfl,rfl,r⟩)
theorem ux {σ:St}{H:Hp}{ty td:TE}{y:V}{d:Addr}{o:Option V}(hy:Ev ty σ H y)(hd:Ev td σ H (.ref d))(g:gy H d y o):Tv (tB (JR ty td)) σ H o.isSome:=λ_ r=>hy _ (hd _ ⟨d,o,rfl,g,_,rfl,r⟩)
def E7 (p q r:Int->Int->Bool)(ta tb tc td:TE):TT:=λσ H Q=>∃i j k l,Ev ta σ H (.int i)/\Ev tb σ H (.int j)/\Ev tc σ H (.int k)/\Ev td σ H (.int l)/\Q (p i j&&(q j k&&r k l)) H
theorem zX {X:Cx}{a b c d:Expr}{o1 o2 o3:CmpOp}{p q r:Int->Int->Bool}{ta tb tc td:TE}{pos:Pos}(h1:jU X (compareOp o1) (qM λi j=>.bl (p i j)))(h2:jU X (compareOp o2) (qM λi j=>.bl (q i j)))(h3:jU X (compareOp o3) (qM λi j=>.bl (r i j)))
  (ha:PE X a ta)(hb:PE X b tb)(hc:PE X c tc)(hd:PE X d td)(hm:lastMarks [o1,o2,o3] [b,c,d]=false:=by with_unfolding_all rfl):PT X (.Compare a [o1,o2,o3] [b,c,d] pos) (E7 p q r ta tb tc td):=by
 rintro pins s σ H Q I ⟨i,j,k,l,ea,eb,ec,ed,hq⟩;have get:∀{e:Expr} {te:TE} {v:V},PE X e te->Ev te σ H v->∀s',Inv X pins σ H s'->wpAny (model X.prog X.w) X.A (eval e X.env) (λu s2=>RelV v u/\Inv X pins σ H s2) X.xe s':=λ{e te v} he ev s' I' =>
  bA (he pins s' σ H (λx H1=>x=v/\H1=H) I' (ev _ ⟨rfl,rfl⟩)) λu s2 ⟨x,H1,I2,rx,e1,e2⟩=>by
   subst e1 e2;exact⟨rx,I2⟩
 have cmp:∀{op:CmpOp} {p:Int->Int->Bool} {i j:Int} {u v:Value},jU X (compareOp op) (qM λi j=>.bl (p i j))->RelV (.int i) u->RelV (.int j) v->∀s',Inv X pins σ H s'->wpAny (model X.prog X.w) X.A (compareOp op u v) (λc s2=>c=.bool (p i j)/\Inv X pins σ H s2) X.xe s':=λ{op p i j u v} ho ru rv s' I' =>
  bA (ho pins s' σ H _ _ u v (λx H1=>x=.bl (p i j)/\H1=H) I' ru rv ⟨i,j,rfl,rfl,rfl,rfl⟩) λc s2 ⟨x,H1,I2,rx,e1,e2⟩=>by
   subst e1 e2;exact⟨rx,I2⟩
 refine isTrue_chain (bA (get ha ea s I) λu0 s0 ⟨r0,I0⟩=>test_link (bA (get hb eb s0 I0) λu1 s1 ⟨r1,I1⟩=>bA (cmp h1 r0 r1 s1 I1) λc1 s2 ⟨e1,I2⟩=>?_)) hm;subst e1;refine YW ?_;cases z1:p i j with
 |false=>rw[z1] at hq;exact ite_ff ⟨H,I2,hq⟩
 |true =>
  rw[z1] at hq;refine ite_tt (test_link (bA (get hc ec s2 I2) λu2 s3 ⟨r2,I3⟩=>bA (cmp h2 r1 r2 s3 I3) λc2 s4 ⟨e2,I4⟩=>?_));subst e2;refine YW ?_;cases z2:q j k with
  |false=>rw[z2] at hq;exact ite_ff ⟨H,I4,hq⟩
  |true =>
   rw[z2] at hq;refine ite_tt (test_last (bA (get hd ed s4 I4) λu3 s5 ⟨r3,I5⟩=>bA (cmp h3 r2 r3 s5 I5) λc3 s6 ⟨e3,I6⟩=>?_));subst e3;exact YW ⟨H,I6,hq⟩
end L2
namespace Bw
open PySem PySem.Spec PyProof.Rows L2 Tote
def CV (H:Hp)(d:Addr)(l:aar):Prop:=∃LN,H d=some (.dK LN)/\LN.length<=l.length/\∀n:Nat,(cV LN (Sum.inl (n:Int):Key)).isSome=decide (n∈l)
theorem CV.put {LN:List (Key×V)}{l:aar}{n:Nat}(h:LN.length<=l.length)(hk:∀n:Nat,(cV LN (Sum.inl (n:Int):Key)).isSome=decide (n∈l)) :
  (putK LN (Sum.inl (n:Int)) (V.bl true)).length<=(l++[n]).length/\∀m:Nat,(cV (putK LN (Sum.inl (n:Int)) (V.bl true)) (Sum.inl (m:Int):Key)).isSome=decide (m∈l++[n]):=by
 refine⟨?_,λm=>?_⟩
 · have:=gK LN (Sum.inl (n:Int):Key) (V.bl true);rw[X6];simp;omega
 · rw[qA];by_cases e:m=n
   · subst e;rw[XJ rfl];simp
   · rw[XI (λz=>e (by have:=Sum.inl.inj z;omega)),hk m];simp[e]
theorem ES {b:Int}(hb:0<=b)(P6:b < 100000):Builtin.Range.small 2 b 3=true:=by
 unfold Builtin.Range.small Builtin.Range.rangeSize;simp only[Builtin.Range.rangeFitsLong,XR,YH,XS,Yx,show ((3:Int) > 0) by decide,Zq];split <;> omega
theorem GO {m:Nat}:Builtin.Range.rangeSize 2 ((2+3*m:Nat):Int) 3=(m:Int):=by
 unfold Builtin.Range.rangeSize;simp only[show ((3:Int) > 0) by decide,Zq];split <;> omega
theorem zM {R:Nat}{c a b:W}{r:List W}{fs ss:aar}:dj R (c::a::b::r) fs ss=if c=cd "couple"/\1<=ay a/\ay a < ay b/\ay b<=(R:Int)/\¬(ay a).toNat∈ss/\¬(ay b).toNat∈fs/\¬(ay b).toNat∈ss
  then dj R r (fs++[(ay a).toNat]) (ss++[(ay b).toNat]) else none:=rfl
theorem Jr {r:List W}{i:Nat}(h:i+3<=r.length):r.drop i=r.getD i []::r.getD (i+1) []::r.getD (i+2) []::r.drop (i+3):=by
 have g:∀j,j < r.length->r.drop j=r.getD j []::r.drop (j+1):=λj hj=>by
  rw[Y4 hj,Yq,XU hj];rfl
 rw[g i (by omega),g (i+1) (by omega),g (i+2) (by omega)]
section
variable {P:Program}{w:World}{K:aas}{mg:aau}{base:Heap}
def wU (K:aas):Sp:=λvs H Q _=>∃(a:Addr) (ws:List W),vs=[.ref a]/\aO K H a (sV ws)/\mW ws/\ws≠[] /\
 (bD ws=none->∀H',au H H'->Q .b8 H')/\(∀hs,bD ws=some hs->∀H' x,au H H'->H x=none->H' x=some (.lst (nV hs))->Q (.ref x) H')
theorem uG {w0 n:W}{r:List W}:bD (w0::n::r)=if r.length % 3=0/\r.length<=24/\2<=ay n/\ay n<=24 then (dj (ay n).toNat r [] []).map (dE (ay n).toNat) else none:=rfl
theorem wR {ws:List W}(L0:ws≠[])(h:(!((ws.length:Int)==2+3*(((ws.length:Int) - 2) / 3))||decide (8 < ((ws.length:Int) - 2) / 3))=true):bD ws=none:=by
 match ws,L0 with
 |[w0],_=>rfl
 |w0::n::r,_ =>
  rw[uG,XI];rintro⟨z1,z2,_⟩;have el:((w0::n::r).length:Int)=2+(r.length:Int):=by simp;omega
  rw[el] at h;simp only[YH,Yy,Yg,XS] at h;omega
theorem zK {ws:List W}(L0:ws≠[])(h:(ws.length:Int)=2+3*(((ws.length:Int) - 2) / 3)):∃w0 n r,ws=w0::n::r:=by
 match ws,L0 with
 |[w0],_=>exact absurd h (by show ¬((1:Int)=2+3*((1 - 2) / 3));decide)
 |w0::n::r,_=>exact⟨w0,n,r,rfl⟩
theorem tR (R:Nat)(ss:aar):dE R ss=((List.range R).map λi=>i+1).filter λn=>!decide (n∈ss):=by
 unfold dE;congr 1;funext n;rw[YO]
theorem fq:aG ["words","couples","runners","firsts","seconds","at","first","second","runner"] ["words"] (aw fC):=fs
theorem Fc {dS aF:Addr}(G:GW mg)(GC:GC P w K mg dS aF){k:Nat}(FN:Fn P w K mg base bF k "number_of" ["word"] kX){f:Addr}{fd:FuncData}(F:dm K "read_race" "read_race" fC f fd):a9 P w K mg base bF (k+1) f fd ["words"] (wU K):=by
 refine F.oo fq λLP A outer s H vs Q E hr h=>?_;obtain⟨a,ws,rfl,hS,ok,L0,q0,q1⟩:=h;have hu:∀{X:Cx},X.A=(A.deeper (envOfC "read_race" (aw fC) s.heap.objs.size f LP))->X.A.units+1 < cLine:=λ{X} e=>by rw[e];have:=hr.un;omega
 refine⟨_,af (aZ 1 fq.nd (bJ Fl (bJ fH (bf G.len (pv 0)) ax) ax))
  (af (aP (PW.pt (eD (aA p8 (bf G.len (pv 0)) (bJ eK ax (bJ yb ax (pv 1))) (aJ _)) (cU (aA kZ (pv 1) (bb GC.couples) (aJ _))))) (ak (az cF)) aB)
  (af (aZ 2 fq.nd (aV FN hr bc (aa (bp aN (pv 0) ax (λ_ _=>rfl)) ah)))
  (af (aP (cB (cE cj cj ax (pv 2) (bb GC.runners))) (ak (az cF)) aB)
  (af (aZ 3 fq.nd oZ)
  (af (o4 (i:=4) fq.nd rfl (Or.inr rfl) oZ)
  (af (cT YM rfl (rY rfl GC.range (aa ax (aa (bf G.len (pv 0)) (aa ax ah)))) (bh 5 fq.nd)
   (af (aZ 6 fq.nd (aV FN hr bc (aa (bp aN (pv 0) (bJ eK (pv 5) ax) (λ_ _=>rfl)) ah)))
   (af (aZ 7 fq.nd (aV FN hr bc (aa (bp aN (pv 0) (bJ eK (pv 5) ax) (λ_ _=>rfl)) ah)))
   (af (aP (PW.pt (eD (aA p8 (bp aN (pv 0) (pv 5) (λ_ _=>rfl)) bt (aJ _)) (cU (cB (zX cj nS cj ax (pv 6) (pv 7) (pv 2)))))) (ak (az cF)) aB)
   (af (aP (PW.pt (eD (pI (t9 (hu rfl) (pv 6) (pv 4))) (eD (pI (t9 (hu rfl) (pv 7) (pv 3))) (cU (pI (t9 (hu rfl) (pv 7) (pv 4))))))) (ak (az cF)) aB)
   (af (mw (hu rfl) (pv 3) (pv 6) mK rfl)
   (ak (mw (hu rfl) (pv 4) (pv 7) mK rfl))))))))
  (ak (az (fz rfl fq.nd (sA rfl GC.range (aa ax (aa (bJ eK (pv 2) ax) ah))) (bz (own:=[("runner",8)]) rfl) (λ_ _ _ _ _=>bh 8 fq.nd) (λ_ _ _ _ _=>oA (pI (zV (hu rfl) (pv 8) (pv 4)))) (λ_ _ _ _ _=>pv 8)))))))))),?_⟩
 refine cG (yU (md (aT (ag rfl) (.inl hS)) aD) aD ⟨by decide,by decide⟩) ?_;rw[dJ];refine aU (gO (aI (oQ (aT (ag rfl) (.inl hS)) (md aD (yU aD (ag rfl) (.inl ⟨by decide,by decide⟩))))) λ_=>jG (ag rfl) aD) (λh=>?_) (λh=>?_)
 · refine bU aD (q0 ?_ H (au.refl H));rw[a7,dJ] at h;exact wR L0 h
 · rw[a7,dJ] at h;simp only[YS,YB,Yx,Yp] at h;obtain⟨h1,h2⟩:=h;obtain⟨w0,n,r,rfl⟩:=zK L0 h1
   · have el:((w0::n::r).length:Int)=2+(r.length:Int):=by simp;omega
     rw[el] at h1 h2;obtain⟨m,hm⟩:∃m:Nat,r.length=3*m:=⟨r.length / 3,by omega⟩;have hm8:m<=8:=by omega
     have Wb:n.length<=70000/\∀c∈n,c < 128:=ok.getD 1;refine cG (gC (wd:=n) (a8 (ag rfl) aD hS (dI (i:=1) (by simp))) Wb) ?_;refine aU (fh (cD aD (ag rfl) aD)) (λh=>?_) (λh=>?_)
     · refine bU aD (q0 ?_ H (au.refl H));rw[uG,XI];rintro⟨_,_,z1,z2⟩;simp only[Yy,Y5,Yp] at h;omega
     simp only[YB,XR,XS] at h;have hn:ay n=(((ay n).toNat:Nat):Int):=by omega
     generalize hR:(ay n).toNat=R at hn;have Ry:bD (w0::n::r)=(dj R r [] []).map (dE R):=by
      rw[uG,XJ ⟨by omega,by omega,h.1,h.2⟩,hR]
     rw[hn];intro d1 Tg d2 hd2;have Qe:d2≠d1:=by
      rintro rfl;rw[ae] at hd2;cases hd2
     have Pe:H d2=none:=by rwa [aq Qe] at hd2
     have Pf:((w0::n::r).length:Int)=((2+3*m:Nat):Int):=by rw[el,hm];omega
     have S0:au H (upd (upd H d1 (.dK [])) d2 (.dK [])):=((au.refl H).laid Tg).laid Pe;refine pH (yI (n:=m) aD (aT (ag rfl) (.inl (S0.seq hS))) aD ⟨by decide,by decide,?_,?_⟩ ?_)
     · rw[dJ,Pf];exact ES (by omega) (by omega)
     · rw[dJ,Pf];exact GO
     refine qb (lo:=2) (c:=3) (n:=m) (λi σ H'=>∃(v5 v6 v7:Option V) (fs ss:aar),σ=[some (.ref a),some (.int ((((w0::n::r).length:Int) - 2) / 3)),some (.int (R:Nat)),some (.ref d1),some (.ref d2),v5,v6,v7,none] /\
       au H H'/\CV H' d1 fs/\CV H' d2 ss/\fs.length<=i/\ss.length<=i/\dj R (r.drop (3*i)) fs ss=dj R r [] [])
      ⟨none,none,none,[],[],rfl,S0,⟨[],by rw[aq Qe.symm];exact ae,XT _,λ_=>rfl⟩,⟨[],ae,XT _,λ_=>rfl⟩,XT _,XT _,rfl⟩ ?_ ?_
     · rintro i σ H' hi ⟨v5,v6,v7,fs,ss,rfl,S1,⟨k1,e1,l1,p1⟩,⟨k2,e2,l2,p2⟩,lf,ls,hc⟩;have RA:=S1.seq hS;have d3:r.drop (3*i)=r.getD (3*i) []::r.getD (3*i+1) []::r.getD (3*i+2) []::r.drop (3*(i+1)):=by
        have:=Jr (r:=r) (i:=3*i) (by omega);rw[this,show 3*i+3=3*(i+1) by omega]
       have ga:∀j,(w0::n::r).getD (2+j) []=r.getD j []:=λj=>by
        rw[show 2+j=j+1+1 by omega];rfl
       have P9:nU (sV (w0::n::r)) (2+(i:Nat)*3)=some (.str (st (r.getD (3*i) []))):=by
        have:=dI (ws:=w0::n::r) (i:=2+3*i) (by simp;omega);rw[ga] at this;rw[show (2:Int)+(i:Nat)*3=((2+3*i:Nat):Int) by omega];exact this
       have qP:nU (sV (w0::n::r)) (2+(i:Nat)*3+1)=some (.str (st (r.getD (3*i+1) []))):=by
        have:=dI (ws:=w0::n::r) (i:=2+(3*i+1)) (by simp;omega);rw[ga] at this;rw[show (2:Int)+(i:Nat)*3+1=((2+(3*i+1):Nat):Int) by omega];exact this
       have at2:nU (sV (w0::n::r)) (2+(i:Nat)*3+2)=some (.str (st (r.getD (3*i+2) []))):=by
        have:=dI (ws:=w0::n::r) (i:=2+(3*i+2)) (by simp;omega);rw[ga] at this;rw[show (2:Int)+(i:Nat)*3+2=((2+(3*i+2):Nat):Int) by omega];exact this
       have Wc:(r.getD (3*i+1) []).length<=70000/\∀c∈r.getD (3*i+1) [],c < 128:=by rw[←ga];exact ok.getD _
       have Wd:(r.getD (3*i+2) []).length<=70000/\∀c∈r.getD (3*i+2) [],c < 128:=by rw[←ga];exact ok.getD _
       rw[d3,zM] at hc;generalize hA:ay (r.getD (3*i+1) [])=na at hc;generalize hB:ay (r.getD (3*i+2) [])=nb at hc;refine cG (gC (a8 (ag rfl) (md (ag rfl) aD) RA qP) Wc) ?_;refine cG (gC (a8 (ag rfl) (md (ag rfl) aD) RA at2) Wd) ?_;rw[hA,hB];have none_:dj R r [] []=none->Q .b8 H':=λz=>q0 (by rw[Ry,z];rfl) H' S1;refine aU (gO (aI (oQ (a8 (ag rfl) (ag rfl) RA P9) aD)) λ_=>fh (λR' r'=>⟨1,na,nb,(R:Int),aD,ag rfl,ag rfl,ag rfl,r'⟩)) (λh=>?_) (λh=>?_)
       · refine bU aD (none_ ?_);rw[←hc,XI];rintro⟨z1,z2,z3,z4,_⟩;rw[je] at h;dsimp only at h;rw[Yn z1,Yn z2,Yn z3,Yn z4] at h;cases h
       · rw[je] at h;simp only[YS,YB,XR,XS] at h;obtain⟨z1,z2,z3,z4⟩:=h;have ea:na=((na.toNat:Nat):Int):=by omega
         have eb:nb=((nb.toNat:Nat):Int):=by omega
         have We:gy H' d2 (.int na) (cV k2 (Sum.inl na)):=gy.k (k:=Sum.inl na) e2;have Wf:gy H' d1 (.int nb) (cV k1 (Sum.inl nb)):=gy.k (k:=Sum.inl nb) e1;have Wg:gy H' d2 (.int nb) (cV k2 (Sum.inl nb)):=gy.k (k:=Sum.inl nb) e2;have s1:(cV k2 (Sum.inl na)).isSome=decide (na.toNat∈ss):=by rw[←p2,←ea]
         have s2:(cV k1 (Sum.inl nb)).isSome=decide (nb.toNat∈fs):=by rw[←p1,←eb]
         have s3:(cV k2 (Sum.inl nb)).isSome=decide (nb.toNat∈ss):=by rw[←p2,←eb]
         refine aU (gO (ux (ag rfl) (ag rfl) We) λ_=>gO (ux (ag rfl) (ag rfl) Wf) λ_=>ux (ag rfl) (ag rfl) Wg) (λh=>?_) (λh=>?_)
         · refine bU aD (none_ ?_);rw[←hc,XI];rintro⟨_,_,_,_,y1,y2,y3⟩;rw[s1,s2,s3,Yv y1,Yv y2,Yv y3] at h;cases h
         · rw[s1,s2,s3] at h;simp only[YS,Yp] at h;obtain⟨y1,y2,y3⟩:=h;rw[XJ ⟨z1,z2,z3,z4,y1,y2,y3⟩] at hc;have Wh:d1≠d2:=Qe.symm;have Th:=CV.put (n:=na.toNat) l1 p1;have Ti:=CV.put (n:=nb.toNat) l2 p2;rw[←ea] at Th;rw[←eb] at Ti;refine⟨_,rfl,_,rfl,d1,_,rfl,.inl ⟨k1,Sum.inl na,e1,rfl,by rw[Yb];omega,rfl⟩,?_⟩;refine⟨_,rfl,_,rfl,d2,_,rfl,.inl ⟨k2,Sum.inl nb,by rw[aq Qe];exact e2,rfl,by rw[Yb];omega,rfl⟩,?_⟩;refine⟨_,_,_,fs++[na.toNat],ss++[nb.toNat],rfl,λb u z=>?_,⟨_,by rw[aq Wh];exact ae,Th⟩,⟨_,ae,Ti⟩,by rw[X6];simp;omega,by rw[X6];simp;omega,hc⟩;rw[aq (ao z Pe),aq (ao z Tg)];exact S1 b u z
     · rintro σ H' ⟨v5,v6,v7,fs,ss,rfl,S1,hF1,⟨k2,e2,l2,p2⟩,lf,ls,hc⟩;rw[ZF (by omega)] at hc;have hc:some ss=dj R r [] []:=hc;rw[←hc] at Ry;dsimp only;refine IS (yT ?_);refine y4 (i:=1) (j:=((R:Nat):Int)+1) aD (jL (ag rfl) aD) ⟨by decide,by decide,by omega,by omega⟩ ?_;intro D hD;rw[show (((R:Nat):Int)+1 - 1).toNat=R by omega];refine mP (lo:=1) (n:=R) (λi H2=>au H' H2/\H2 D=some (.lst (nV (((List.range i).map λj=>j+1).filter λn=>!decide (n∈ss))))) ⟨(au.refl H').laid hD,ae⟩ ?_ ?_
       · rintro i H2 hi ⟨m1,m2⟩;refine⟨rfl,?_⟩;have gt:gy H2 d2 (.int (1+(i:Nat))) (cV k2 (Sum.inl (1+(i:Nat):Int))):=gy.k (k:=Sum.inl (1+(i:Nat):Int)) (m1 _ _ e2);have sg:(cV k2 (Sum.inl (1+(i:Nat):Int))).isSome=decide (i+1∈ss):=by rw[←p2];congr 3;omega
         refine⟨_,rfl,_,rfl,d2,_,rfl,gt,_,rfl,?_⟩;rw[sg];have fl:((List.range (i+1)).map λj=>j+1).filter (λn=>!decide (n∈ss))=(((List.range i).map λj=>j+1).filter λn=>!decide (n∈ss))++(if (!decide (i+1∈ss))=true then [i+1] else []):=by
          rw[List.range_succ,X3,ZE];congr 1;by_cases z:i+1∈ss
          · simp[z]
          · simp[z]
         refine gI (λh=>?_) (λh=>?_)
         · refine⟨_,rfl,_,m2,?_,λb u z=>?_,?_⟩
           · rw[aL,Yb];have:=Z7 (λn=>!decide (n∈ss)) ((List.range i).map λj=>j+1);rw[XH,ZZ] at this;omega
           · rw[aq (ao z hD)];exact m1 b u z
           · rw[ae,fl,XJ h];unfold nV;rw[X3];show some (HO.lst (_++[V.int (1+(i:Nat))]))=some (HO.lst (_++[V.int ((i+1:Nat):Int)]));rw[show (1:Int)+(i:Nat)=((i+1:Nat):Int) by omega]
         · refine⟨m1,?_⟩;rw[fl,XI h,YJ];exact m2
       · rintro H2 ⟨m1,m2⟩;refine q1 (dE R ss) Ry H2 D (S1.trans m1) (S1.free hD) ?_;rw[m2,tR]
end
end Bw
namespace L2
open PySem PySem.Spec PyProof.Rows
theorem zR {X:Cx}(hu:X.A.units+1 < cLine):jU X (compareOp .In) (λx y H Q=>∃p xs,x=.b8/\y=.ref p/\aO X.K H p xs/\(∀v∈xs,v=.b8∨∃a ys,v=.ref a/\aO X.K H a ys)/\Q (.bl (xs.any λv=>decide (v=.b8))) H):=by
 intro pins s σ H x y v u Q I rx ry h;obtain⟨p,xs,rfl,rfl,hq,hx,q⟩:=h;cases ry;cases rx;obtain⟨LO,r,pl,hz⟩:=I.list hq;have key:∀{xs:List V} {us:aaw},Vals xs us->(∀v∈xs,v=.b8∨∃a ys,v=.ref a/\aO X.K H a ys)->(∀u∈us,SeqAt.EqAt X.A.in1 s u .none (u==.none))/\us.any (·==.none)=xs.any λv=>decide (v=.b8):=by
  intro xs us r
  induction r with
  |nil=>exact λ_=>⟨λu hu=>by simp at hu,rfl⟩
  |@cons v u xs us r1 r2 ih =>
   intro hx;obtain⟨Wi,Wj⟩:=ih λv hv=>hx v (X2 _ hv);have e1:SeqAt.EqAt X.A.in1 s u .none (u==.none)/\(u==.none)=decide (v=.b8):=by
    rcases hx v (Yt ..) with rfl|⟨a,ys,rfl,hs⟩
    · cases r1;exact⟨SeqAt.EqAt.same _,rfl⟩
    · cases r1;obtain⟨L3,_,Oy,_⟩:=I.list hs;refine⟨?_,rfl⟩;exact SeqAt.EqAt.list_none Oy.isList (by show X.A.units+1 < cLine;exact hu)
   refine⟨λu' Q6=>?_,?_⟩
   · rcases XN.mp Q6 with rfl|h
     · exact e1.1
     · exact Wi u' h
   · rw[Ze,Ze,e1.2,Wj]
 obtain⟨k1,k2⟩:=key r hx;refine SeqAt.in_listAt (·==.none) pl.isList (λw hw=>k1 w (by simpa using hw)) ⟨.bl _,H,I,rfl,?_⟩;rw[show LO.toArray.any (·==.none)=LO.any (·==.none) by simp,k2];exact q
end L2
namespace Bw
open PySem PySem.Spec PyProof.Rows L2 Tote
def ED (K:aas)(H:Hp)(a:Addr)(ls:List (List W)):Prop:=∃as:List Addr,aO K H a (as.map V.ref)/\Paired (λb ws=>aO K H b (sV ws)) as ls
def DP (LN:List (Key×V))(l:List W):Prop:=LN.length<=l.length/\∀n:W,(cV LN (Sum.inr (st n):Key)).isSome=l.contains n
theorem DP.put {LN:List (Key×V)}{l:List W}{n:W}(h:DP LN l):DP (putK LN (Sum.inr (st n)) (V.bl true)) (l++[n]):=by
 refine⟨?_,λm=>?_⟩
 · have:=gK LN (Sum.inr (st n):Key) (V.bl true);have:=h.1;rw[X6];simp;omega
 · rw[qA];by_cases e:m=n
   · subst e;rw[XJ rfl];simp
   · rw[XI (λz=>e (jx.mp (Sum.inr.inj z))),h.2 m];simp[e]
def Je (K:aas)(C:Addr)(H H':Hp)(pl:Addr)(a:Addr)(p:aK):Prop:=∃dx fa MM,H' a=some (.ins C dx (jj (.str (st p.name)) (.str (st (cd (kindS p.kind)))) (.ref fa) (.int (p.unit:Nat))))/\fa≠pl/\H' fa=some (.lst (MM.map V.ref))/\Paired (hZ K H) MM p.fields
section
variable {P:Program}{w:World}{K:aas}{mg:aau}{base:Heap}
def uA (K:aas) (C:Addr):Sp:=λvs H Q _=>∃(a b:Addr) (ls:List (List W)) (rs:aaq),vs=[.ref a,.ref b]/\ED K H a ls/\(∀ws∈ls,mW ws)/\bC K H b rs/\rs.length<=16 /\
 (iT ls rs=none->∀H',au H H'->Q .b8 H')/\(∀ps,iT ls rs=some ps->∀H' x,au H H'->c_ K C H' x ps->Q (.ref x) H')
theorem jI:aG ["lines","races","pools","names","words","pool"] ["lines","races"] (aw f_):=fs
theorem A3 {dS aF C:Addr}(G:GW mg)(GC:GC P w K mg dS aF)(T:CK K mg "Pool" hU C){k:Nat}(FP:Fn P w K mg base bF k "read_pool" ["words","races"] (xq K C)){f:Addr}{fd:FuncData}(F:dm K "read_pools" "read_pools" f_ f fd) :
  a9 P w K mg base bF (k+1) f fd ["lines","races"] (uA K C):=by
 refine F.oo jI λLP A outer s H vs Q E hr h=>?_;obtain⟨a,b,ls,rs,rfl,⟨as,hA,hP⟩,ok,⟨Wk,Wl,Pg⟩,Pc,q0,q1⟩:=h;have LQ:as.length=ls.length:=Paired.length hP;have hu:=vS hr;refine⟨_,af (aP (aA kZ (bf G.len (pv 0)) (bb GC.pools) (aJ _)) (ak (az cF)) aB)
  (af (aZ 2 jI.nd (bT ah))
  (af (aZ 3 jI.nd oZ)
  (af (cT YM rfl (bG (pv 0)) (bh 4 jI.nd)
   (af (aZ 5 jI.nd (aV FP hr bc (aa (pv 4) (aa (pv 1) ah))))
   (af (aP (PW.pt (eD (aA ui (pv 5) cF (aJ _)) (cU (pI (t9 hu (aS (pv 5) rfl) (pv 3)))))) (ak (az cF)) aB)
   (af (mw hu (pv 3) (aS (pv 5) rfl) mK rfl)
   (ak (cX (lQ PySem.F.plainAttrs_list PySem.F.slot_list_append PySem.F.type_list_append gf (pv 2) (aa (pv 5) ah))))))))
  (ak (az (pv 2)))))),?_⟩
 refine aU (jG (aT (ag rfl) (.inl hA)) aD) (λh=>?_) (λh=>?_)
 · refine bU aD (q0 ?_ H (au.refl H));rw[XH,LQ] at h;unfold iT;rw[XJ (by have:=X4 h;omega)]
 rw[XH,LQ] at h;have hl:¬64 < ls.length:=by have:=Yr h;omega
 have eP:iT ls rs=b7 rs [] ls:=by unfold iT;rw[XI hl]
 rw[eP] at q0 q1;refine⟨Ye _,λpl LY=>?_⟩;intro dn P2;have Ph:dn≠pl:=by
  rintro rfl;rw[ae] at P2;cases P2
 have Pj:H dn=none:=by rwa [aq Ph] at P2
 have S0:au H (upd (upd H pl (.lst [])) dn (.dK [])):=((au.refl H).laid LY).laid Pj;refine⟨_,rfl,a,rfl,⟨_,S0.seq hA⟩,cM (K:=K) (a:=a) (xs:=as.map V.ref) (λi σ H'=>∃(v4 v5:Option V) (acc:List aK) (pas:List Addr) (LN:List (Key×V)),σ=[some (.ref a),some (.ref b),some (.ref pl),some (.ref dn),v4,v5]/\au H H' /\
   H' pl=some (.lst (pas.map V.ref))/\H' dn=some (.dK LN)/\DP LN (acc.map (·.name))/\Paired (Je K C H H' pl) pas acc/\acc.length<=i/\b7 rs acc (ls.drop i)=b7 rs [] ls)
  ⟨none,none,[],[],[],rfl,S0,by rw[aq Ph.symm];exact ae,ae,⟨XT _,λ_=>rfl⟩,.nil,XT _,rfl⟩ (λi σ H' _ ⟨_,_,_,_,_,_,S1,_⟩=>S1.seq hA) ?_ ?_⟩
 · rintro i x σ H' hi ⟨v4,v5,acc,pas,LN,rfl,S1,e1,e2,Qg,hI,hlen,hc⟩;rw[XO] at hi;obtain⟨ai,Mb,rfl⟩:=Yj.mp hi;obtain⟨ws,Mf,Wm⟩:=Paired.qP hP Mb;have LX:i < ls.length:=(XY.mp Mf).1;have hd:ls.drop i=ws::ls.drop (i+1):=by
    rw[Y4 LX];congr 1;exact Yl ((XU LX).symm.trans Mf)
   rw[hd] at hc;have hc:(match eX ws rs with
    |none=>none
    |some p=>if (acc.map (·.name)).contains p.name=true then none else b7 rs (acc++[p]) (ls.drop (i+1)))=b7 rs [] ls:=hc
   refine⟨_,rfl,_,rfl,ai,b,ws,Wk,rs,rfl,S1.seq Wm,ok ws (Yc Mf),S1.seq Wl,iS Pg S1,Pc,λhn H2 e=>?_,λp hp H2 x dx fa MM e nx Tj hx Wn NB=>?_⟩
   · refine⟨_,rfl,rfl,_,rfl,?_⟩;rw[hn] at hc;exact q0 hc.symm H2 (S1.trans e)
   · refine⟨_,rfl,rfl,_,rfl,?_⟩;rw[hp] at hc;have hc:(if (acc.map (·.name)).contains p.name=true then none else b7 rs (acc++[p]) (ls.drop (i+1)))=b7 rs [] ls:=hc;have Tn:=e _ _ e2;have PL:=e _ _ e1;have S2:=S1.trans e;have gt:gy H2 dn (.str (st p.name)) (cV LN (Sum.inr (st p.name))):=gy.k (k:=Sum.inr (st p.name)) Tn;refine (ux (a_ (ag rfl) hx T.cl (T.no _ (by simp)) ll) (ag rfl) gt) _ ?_;rw[Qg.2];refine gI (λh=>?_) (λh=>?_)
     · rw[XJ h] at hc;exact q0 hc.symm H2 S2
     · rw[XI h] at hc;have Pd:x≠pl:=(ao e1 nx).symm;have Wo:x≠dn:=(ao e2 nx).symm;have OV:fa≠pl:=(ao e1 Tj).symm;have Wq:fa≠dn:=(ao e2 Tj).symm;have Pk:pas.length=acc.length:=Paired.length hI;refine⟨_,rfl,?_⟩;refine (a_ (ag rfl) hx T.cl (T.no _ (by simp)) ll) _ ⟨dn,_,rfl,.inl ⟨LN,Sum.inr (st p.name),Tn,rfl,?_,rfl⟩,?_⟩
       · have:=Qg.1;rw[XH] at this;rw[Yb];omega
       refine⟨_,rfl,.inl ⟨rfl,_,aO.of (by rw[aq Ph.symm];exact PL)⟩,_,rfl,pl,_,_,rfl,rfl,by rw[aq Ph.symm];exact PL,?_,?_⟩
       · rw[XH,Yb];omega
       refine⟨_,_,acc++[p],pas++[x],_,rfl,λc u z=>?_,?_,by rw[aq Ph];exact ae,?_,?_,by rw[X6];simp;omega,hc⟩
       · rw[aq (ao z LY),aq (ao z Pj)];exact S2 c u z
       · rw[ae,X3];rfl
       · rw[X3];exact Qg.put
       · have keep:∀c u,H2 c=some u->c≠pl->c≠dn->(upd (upd H2 dn (.dK (putK LN (Sum.inr (st p.name)) (V.bl true)))) pl (.lst (pas.map V.ref++[V.ref x]))) c=some u:=λc u z n1 n2=>by
          rw[aq n1,aq n2];exact z
         refine Paired.snoc (Paired.d9 hI λc q z=>?_) ⟨dx,fa,MM,keep _ _ hx Pd Wo,OV,keep _ _ Wn OV Wq,?_⟩
         · obtain⟨MK,Qh,N4,z1,z2,z3,z4⟩:=z;have n1:c≠pl:=dG z1 e1 (by intro q;cases q);have n2:c≠dn:=dG z1 e2 (by intro q;cases q);have n3:Qh≠dn:=dG z3 e2 (by intro q;cases q);exact⟨MK,Qh,N4,keep _ _ (e _ _ z1) n1 n2,z2,keep _ _ (e _ _ z3) z2 n3,z4⟩
         · exact NB _ Pg
 · rintro σ H' ⟨v4,v5,acc,pas,LN,rfl,S1,e1,e2,Qg,hI,hlen,hc⟩;rw[XH,LQ,ZF (XT _)] at hc;have hc:some acc=b7 rs [] ls:=hc;refine⟨_,rfl,q1 acc hc.symm H' pl S1 ⟨pas,aO.of e1,Paired.d9 hI λc q z=>?_⟩⟩;obtain⟨MK,Qh,N4,z1,z2,z3,z4⟩:=z;exact⟨MK,Qh,z1,N4,aO.of z3,iS z4 S1⟩
end
theorem tL (c:Nat):∀(l acc:W),TL.nX [c] 0 acc l=aY c acc l
 |[],acc=>by rw[TL.ou];rfl
 |x::r,acc=>by
  by_cases h:x=c
  · subst h;rw[TL.yH (by unfold TL.pre;simp)];show acc::TL.nX [x] 0 [] r=(if x=x then acc::aY x [] r else _);rw[XJ rfl,tL x r []]
  · rw[TL.vC (TL.vX [] r h)];show TL.nX [c] 0 (acc++[x]) r=(if x=c then _ else aY c (acc++[x]) r);rw[XI h,tL c r (acc++[x])]
theorem mM {c:Nat}(hc:c < 256)(l:W):Txt.split (st l) (st [c])=(aY c [] l).map st:=by
 refine TL.o9 ?_;rw[TL.AF (st l) (st [c]) (by rw[pW];simp) (TL.EF (by show [c].toArray.all (· < 256)=true;simp[hc])),pW,pW,tL,X_];symm;exact (YA λw _=>pW w).trans (List.map_id _)
theorem kq (c:Nat):∀(l w:W),aY c w l≠[]
 |[],_=>by simp[aY]
 |x::l,w=>by
  unfold aY;split
  · simp
  · exact kq c l _
theorem dY (c:Nat):∀(l acc:W),∀w∈aY c acc l,w.length<=acc.length+l.length/\∀x∈w,x∈acc∨x∈l
 |[],acc,w,hw=>by
  have:w=acc:=by simpa [aY] using hw
  subst this;exact⟨by simp,λx hx=>.inl hx⟩
 |y::l,acc,w,hw=>by
  unfold aY at hw;split at hw
  · rcases XN.mp hw with rfl|hw
    · exact⟨by simp,λx hx=>.inl hx⟩
    · obtain⟨h1,h2⟩:=dY c l [] w hw;refine⟨by simp at h1 ⊢;omega,λx hx=>?_⟩;rcases h2 x hx with h|h
      · simp at h
      · exact .inr (X2 _ h)
  · obtain⟨h1,h2⟩:=dY c l (acc++[y]) w hw;refine⟨by simp at h1 ⊢;omega,λx hx=>?_⟩;rcases h2 x hx with h|h
    · rcases Yw.mp h with h|h
      · exact .inl h
      · have:x=y:=by simpa using h
        exact .inr (by simp[this])
    · exact .inr (X2 _ h)
theorem fj (c:Nat):∀(l acc:W),(aY c acc l).length<=l.length+1
 |[],_=>by simp[aY]
 |y::l,acc=>by
  unfold aY;split
  · have:=fj c l [];simp;omega
  · have:=fj c l (acc++[y]);simp;omega
theorem C9:Str.ofString "\n"=st [10]:=by rw[kY];rfl
theorem BW:Str.ofString " "=st [32]:=by rw[kY];rfl
theorem D8 (l:W):Txt.endswith (st l) (st [10])=decide (l.getLast?=some 10):=by
 unfold Txt.endswith;rw[PySem.StrLaws.subAt_eq,b9,b9];show (decide (0+1<=l.length)&&((l.drop (l.length - 1)).take 1==[10]))=_;rcases List.eq_nil_or_concat l with rfl|⟨r,x,rfl⟩
 · rfl
 · rw[List.concat_eq_append,List.getLast?_concat];simp;rw[Ym,Yx,XS]
theorem B3 (l:W):zY (st l) none (some (-1))=st l.dropLast:=by
 unfold zY;rw[HT.iw];refine YN (λz:aar=>(⟨z.toArray⟩:Str)) ?_;show (l.drop 0).take (HT.b_ (st l).length (st l).length (some (-1)) - 0)=l.dropLast;rw[b9,List.drop_zero,Nat.sub_zero,List.dropLast_eq_take];congr 1;unfold HT.b_;simp;omega
theorem lZ {α:Type}(p:α->Bool):∀(l:List α) (n:Nat),n<=l.length->(∀j x,j < n->l[j]?=some x->p x=true)->(∀x,l[n]?=some x->p x=false)->(l.takeWhile p).length=n/\l.takeWhile p=l.take n/\l.dropWhile p=l.drop n
 |[],n,h,_,_=>by
  have:n=0:=by simpa using h
  subst this;exact⟨rfl,rfl,rfl⟩
 |x::l,0,_,_,h2=>by
  have:=h2 x rfl;simp[ZR,aah,this]
 |x::l,n+1,h,h1,h2=>by
  have hx:=h1 0 x (by omega) rfl;obtain⟨a,b,c⟩:=lZ p l n (by simpa using h) (λj y hj hy=>h1 (j+1) y (by omega) hy) (λy hy=>h2 y hy);refine⟨?_,?_,?_⟩
  · rw[ZR,XJ hx,XW,a]
  · rw[ZR,XJ hx,b];rfl
  · rw[aah,XJ hx,c];rfl
def jH (H:Hp)(D:Addr)(v:V)(ws:List W):Prop:=match bD ws with
 |none=>v=.b8
 |some hs=>∃x,v=.ref x/\x≠D/\H x=some (.lst (nV hs))
theorem rC {H:Hp}{D:Addr}:∀{vs:List V} {ls:List (List W)},Paired (jH H D) vs ls->¬none∈ls.map bD->∃as:List Addr,vs=as.map V.ref/\Paired (λa hs=>H a=some (.lst (nV hs))) as ((ls.map bD).filterMap id)
 |_,_,.nil,_=>⟨[],rfl,.nil⟩
 |v::vs,ws::ls,.cons r t,h=>by
  obtain⟨as,e,p⟩:=rC t λz=>h (by simp at z ⊢;exact .inr z);unfold jH at r;cases hr:bD ws with
  |none=>exact absurd (by simp[hr]) h
  |some hs =>
   rw[hr] at r;obtain⟨x,rfl,_,hx⟩:=r;refine⟨x::as,by rw[e];rfl,?_⟩;rw[X1,hr];exact .cons hx p
theorem nv {H:Hp}{D:Addr}:∀{vs:List V} {ls:List (List W)},Paired (jH H D) vs ls->(vs.any λv=>decide (v=.b8))=decide (none∈ls.map bD)
 |_,_,.nil=>rfl
 |v::vs,ws::ls,.cons r t=>by
  rw[Ze,nv t];unfold jH at r;cases hr:bD ws with
  |none =>
   rw[hr] at r;simp[hr,show v=.b8 from r]
  |some hs =>
   rw[hr] at r;obtain⟨x,rfl,_⟩:=r;simp[hr]
theorem nJ {K:aas}{H:Hp}{D:Addr}:∀{vs:List V} {ls:List (List W)},Paired (jH H D) vs ls->∀v∈vs,v=.b8∨∃a ys,v=.ref a/\aO K H a ys
 |_,_,.nil,v,hv=>by simp at hv
 |v::vs,ws::ls,.cons r t,u,hu=>by
  rcases XN.mp hu with rfl|hu
  · unfold jH at r;cases hr:bD ws with
    |none=>rw[hr] at r;exact .inl r
    |some hs =>
     rw[hr] at r;obtain⟨x,rfl,_,hx⟩:=r;exact .inr ⟨x,_,rfl,aO.of hx⟩
  · exact nJ t u hu
end Bw
namespace L2
open PySem PySem.Spec PyProof.Rows
theorem zy {c:TT}{tb:TS}{D:Ends}{σ:St}{H:Hp}(Pv:St->Hp->Prop)(μ:St->Hp->Nat)(h0:Pv σ H)
  (hb:∀σ H,Pv σ H->∃b,Tv c σ H b/\(b=true->tb {D with nx:=λσ' H'=>Pv σ' H'/\μ σ' H' < μ σ H,ct:=λσ' H'=>Pv σ' H'/\μ σ' H' < μ σ H,bk:=D.nx} σ H)/\(b=false->D.nx σ H)):xA c tb D σ H:=by
 refine⟨λm σ H=>m=μ σ H/\Pv σ H,⟨_,rfl,h0⟩,?_⟩;rintro m σ H ⟨rfl,p⟩;obtain⟨b,hv,q1,q2⟩:=hb σ H p;refine hv _ ?_;cases b with
 |true=>exact p_ ⟨_,λσ' H' ⟨p',l⟩=>⟨_,l,rfl,p'⟩,q1 rfl⟩
 |false=>exact v8 (q2 rfl)
theorem BB {c:TT}{tb:TS}{D:Ends}{σ:St}{H:Hp}(Pv En:St->Hp->Prop)(μ:St->Hp->Nat)(h0:Pv σ H)(hb:∀σ H,Pv σ H->∃b,Tv c σ H b/\(b=true->tb {D with nx:=λσ' H'=>Pv σ' H'/\μ σ' H' < μ σ H,ct:=λσ' H'=>Pv σ' H'/\μ σ' H' < μ σ H,bk:=D.nx} σ H)/\(b=false->En σ H))
  (aft:∀σ H,En σ H->D.nx σ H):xA c tb D σ H:=zy Pv μ h0 λσ H p=>let ⟨b,v,q1,q2⟩:=hb σ H p;⟨b,v,q1,λe=>aft _ _ (q2 e)⟩
end L2
namespace Bw
open PySem PySem.Spec PyProof.Rows L2 Tote
section
variable {P:Program}{w:World}{K:aas}{mg:aau}{base:Heap}
def wF (K:aas) (C:Addr):Sp:=λvs H Q _=>∃(a:Addr) (cs:aar),vs=[.ref a]/\aO K H a (nV cs)/\cs.length<=65536 /\
 (dH (cs.map sg)=none->∀H',au H H'->Q .b8 H')/\(∀ps,dH (cs.map sg)=some ps->∀H' x,au H H'->c_ K C H' x ps->Q (.ref x) H')
theorem FQ (c:Nat):sg c < 128:=by
 unfold sg;split
 · rename_i h;unfold t_ isLet bW at h;simp at h;omega
 · omega
theorem DK {t:W}(h:∀c∈t,c < 128)(hl:t.length<=65536):∀ws∈(aY 10 [] t).map (aY 32 []),mW ws/\ws≠[]:=by
 intro ws Mf;obtain⟨l,Wr,rfl⟩:=Yh.mp Mf;obtain⟨h1,h2⟩:=dY 10 t [] l Wr;have h3:=fj 32 l [];refine⟨⟨by simp at h1;omega,λw hw=>?_⟩,kq 32 l []⟩;obtain⟨h4,h5⟩:=dY 32 l [] w hw;refine⟨by simp at h1 h4;omega,λc hc=>?_⟩;rcases h5 c hc with z|z
 · simp at z
 · rcases h2 c z with z|z
   · simp at z
   · exact h c z
theorem gQ:aG ["codes","text","lines","behind_races","races","line","words"] ["codes"] (aw g_):=fs
theorem DJ {dS aF C:Addr}(G:GW mg)(GC:GC P w K mg dS aF){k:Nat}(FX:Fn P w K mg base bF k "text_of" ["codes"] (uC K))(FD:Fn P w K mg base bF k "is_day" ["words"] (B4 K))(FR:Fn P w K mg base bF k "read_race" ["words"] (wU K))
  (FP:Fn P w K mg base bF k "read_pools" ["lines","races"] (uA K C)){f:Addr}{fd:FuncData}(F:dm K "read_card" "read_card" g_ f fd):a9 P w K mg base bF (k+1) f fd ["codes"] (wF K C):=by
 refine F.oo gQ λLP A outer s H vs Q E hr h=>?_;obtain⟨a,cs,rfl,hS,NU,q0,q1⟩:=h;have hu:=vS hr;refine⟨_,af (aZ 1 gQ.nd (aV FX hr bc (aa (pv 0) ah)))
  (af (aP (cB (ib (CL PySem.F.slot_str_endswith PySem.F.type_str_endswith vY (pv 1) bt))) (ak (az cF)) aB)
  (af (qG (i:=2) rfl gQ.nd rfl rfl (sQ rfl rfl rfl rfl) (bG (mq (cN Gx (pv 1) ft (cZ (vI oT ax))) bt)) (bz (own:=[("line",5)]) rfl) (λ_ _ _ _ _=>bh 5 gQ.nd) (λ_ _ _ _ _=>cp) (λ_ _ _ _ _=>mq (pv 5) bt))
  (af (aP (cB (ib (aV FD hr bc (aa (bp aN (pv 2) ax (λ_ _=>rfl)) ah)))) (ak (az cF)) aB)
  (af (aZ 3 gQ.nd ax)
  (af (BZ YM (PW.pt (tV (aA nS (pv 3) (bf G.len (pv 2)) (aJ _)) (oF (aA cn (bp aN (bp aN (pv 2) (pv 3) (λ_ _=>rfl)) ax (λ_ _=>rfl)) bt (aJ _))))) (ak (BV (i:=3) gQ.nd rfl (Or.inl rfl) ax B8)))
  (af (qG (i:=4) rfl gQ.nd rfl rfl (sQ rfl rfl rfl rfl) (bG (cN fw (pv 2) (cZ ax) (cZ (pv 3)))) (bz (own:=[("words",6)]) rfl) (λ_ _ _ _ _=>bh 6 gQ.nd) (λ_ _ _ _ _=>cp) (λ_ _ _ _ _=>aV FR hr bc (aa (pv 6) ah)))
  (af (aP (PW.pt (eD (cB (cE cj cj ax (bf G.len (pv 4)) (bb GC.races))) (cU (aA (zR hu) cF (pv 4) (by with_unfolding_all rfl))))) (ak (az cF)) aB)
  (ak (az (aV FP hr bc (aa (cN fw (pv 2) (cZ (pv 3)) ft) (aa (pv 4) ah)))))))))))),?_⟩
 refine⟨_,rfl,a,cs,rfl,hS,by omega,λH1 S1=>?_⟩;generalize hT:cs.map sg=T at q0 q1;have lenT:T.length=cs.length:=by rw[←hT,XH]
 have RB:∀c∈T,c < 128:=λc hc=>by
  rw[←hT] at hc;obtain⟨x,_,rfl⟩:=Yh.mp hc;exact FQ x
 have hz:(st T).length<=sizeLine:=by rw[b9,Yb];omega
 refine⟨_,rfl,⟨_,rfl⟩,_,_,rfl,rfl,_,rfl,?_⟩;have eE:Txt.endswith (st T) (Str.ofString "\n")=decide (T.getLast?=some 10):=by rw[C9];exact D8 T
 rw[eE];refine gI (λh=>?_) (λh=>?_)
 · refine q0 ?_ H1 S1;unfold dH;rw[XI (by simpa using h)]
 have hE:T.getLast?=some 10:=by simpa using h
 generalize Oz:aY 10 [] T.dropLast=LL;have eS:Txt.split (zY (st T) none (some (-1))) (Str.ofString "\n")=LL.map st:=by rw[B3,C9,mM (by decide),Oz]
 have MV:T.dropLast.length<=65536:=by rw[List.length_dropLast];omega
 have lenLL:LL.length<=65537:=by rw[←Oz];have:=fj 10 T.dropLast [];omega
 have Ws:∀l∈LL,l.length<=65536:=λl hl=>by
  rw[←Oz] at hl;have:=(dY 10 T.dropLast [] l hl).1;simp at this;omega
 have MW:∀ws∈LL.map (aY 32 []),mW ws/\ws≠[]:=by
  rw[←Oz];exact DK (λc hc=>RB c ((List.dropLast_sublist T).subset hc)) MV
 generalize Qi:LL.map (aY 32 [])=LS at MW;have Wt:oU T=LS:=by unfold oU;rw[Oz,Qi]
 have NG:LS.length=LL.length:=by rw[←Qi,XH]
 refine⟨_,rfl,_,rfl,_,rfl,_,rfl,hz,⟨_,rfl⟩,_,_,rfl,rfl,by decide +kernel,?_,λp1 Pl=>?_⟩
 · have:=nW (st T) none (some (-1));rw[b9] at this;rw[Yb];omega
 rw[eS];refine⟨p1,rfl,⟨_,aO.of ae⟩,λD hD=>?_⟩;have eM:(LL.map st).map V.str=sV LL:=by unfold sV;rw[X_];rfl
 have S2:au H1 (upd H1 p1 (.lst ((LL.map st).map V.str))):=(au.refl H1).laid Pl;generalize Qj:upd H1 p1 (.lst ((LL.map st).map V.str))=H2 at hD S2;have N5:aO K H2 p1 (sV LL):=aO.of (by rw[←Qj,ae,eM]);refine iZ (K:=K) (a:=p1) (xs:=sV LL) (λi H'=>∃as:List Addr,au H2 H'/\H' D=some (.lst (as.map V.ref))/\Paired (λb ws=>b≠D/\H' b=some (.lst (sV ws))) as (LS.take i)) ⟨[],(au.refl H2).laid hD,ae,.nil⟩ (λi H' _ ⟨_,S,_⟩=>S.seq N5) ?_ ?_
 · rintro i x H' hi ⟨as,S3,e1,hP⟩;unfold sV at hi;rw[XO] at hi;obtain⟨l,hl,rfl⟩:=Yj.mp hi;have LX:i < LL.length:=(XY.mp hl).1;have LQ:as.length=i:=by rw[Paired.length hP,X7];omega
   have Mf:LS[i]?=some (aY 32 [] l):=by rw[←Qi,XO,hl];rfl
   refine⟨rfl,_,rfl,⟨_,rfl⟩,_,_,rfl,rfl,by decide +kernel,?_,λp hp=>?_⟩
   · have:=Ws l (Yc hl);rw[b9,Yb];omega
   have nD:p≠D:=(ao e1 hp).symm;refine⟨_,by rw[aq nD.symm];exact e1,?_,as++[p],?_,?_,?_⟩
   · rw[XH,LQ,Yb];omega
   · intro c u z;rw[aq (ao z hD),aq (ao (S3 c u z) hp)];exact S3 c u z
   · rw[ae,X3];rfl
   · rw[take_snoc Mf];refine Paired.snoc (Paired.d9 hP λb ws z=>?_) ⟨nD,?_⟩
     · refine⟨z.1,?_⟩;rw[aq z.1,aq (ao z.2 hp)];exact z.2
     · rw[aq nD,ae,BW,mM (by decide)];unfold sV;rw[X_];rfl
 rintro H3 ⟨as,S3,e1,Qb⟩;rw[dJ,←NG,YE] at Qb;have hP:Paired (λb ws=>aO K H3 b (sV ws)) as LS:=Paired.d9 Qb λb ws z=>aO.of z.2;have hA:aO K H3 D (as.map V.ref):=aO.of e1;have Wu:au H H3:=S1.trans (S2.trans S3);have LQ:as.length=LS.length:=Paired.length hP;obtain⟨d,ls,MI⟩:∃d ls,LS=d::ls:=by
  cases hq:LS with
  |nil =>
   rw[←Qi,aaf,←Oz] at hq;exact absurd hq (kq 10 _ _)
  |cons d ls=>exact⟨d,ls,rfl⟩
 have at_:∀(j:Nat) ws,LS[j]?=some ws->∃b,nU (as.map V.ref) (j:Int)=some (.ref b)/\aO K H3 b (sV ws):=λj ws hj=>by
  obtain⟨b,hb,hs⟩:=Paired.at2 hP hj;exact⟨b,cv (by rw[XO,hb];rfl),hs⟩
 have eC:dH T=if iB d=true then eQ [] ls else none:=by
  unfold dH;rw[XJ hE,Wt,MI]
 obtain⟨b0,OG,RC⟩:=at_ 0 d (by rw[MI];rfl);refine (a8 (ag rfl) aD hA OG) _ ⟨b0,d,rfl,RC,(MW d (by rw[MI];simp)).1,λH4 S4=>⟨_,rfl,?_⟩⟩;have To:=Wu.trans S4;refine gI (λh=>?_) (λh=>?_)
 · refine q0 ?_ H4 To;rw[eC,XI (by simpa using h)]
 rw[XJ (by simpa using h)] at eC;refine cG aD ?_;have Pn:=S4.seq hA;refine BB (λσ H'=>∃b:Nat,σ=[some (.ref a),some (.str (st T)),some (.ref D),some (.int (b:Nat)),none,none,none]/\H'=H4/\1<=b/\b<=LS.length/\∀j ws,1<=j->j < b->LS[j]?=some ws->aQ ws=true)
  (λσ H'=>∃b:Nat,σ=[some (.ref a),some (.str (st T)),some (.ref D),some (.int (b:Nat)),none,none,none]/\H'=H4/\1<=b/\b<=LS.length/\(∀j ws,1<=j->j < b->LS[j]?=some ws->aQ ws=true)/\∀ws,LS[b]?=some ws->aQ ws=false)
  (λ(σ:L2.St) (_:Hp)=>match σ[3]? with|some (some (V.int z))=>LS.length - z.toNat|_=>0) ⟨1,rfl,rfl,XT _,by rw[MI];simp,λj ws h1 h2=>by omega⟩ ?_ ?_
 · rintro σ H' ⟨b,rfl,rfl,NL,Ni,Po⟩;have Pp:∀ws,LS[b]?=some ws->∀ba,aO K H' ba (sV ws)->nU (as.map V.ref) (b:Int)=some (.ref ba)->Ev (kK J7 (kK (z_ K) (kK (z_ K) (cJ 2) (cJ 3)) (tC (.int 0))) (tC (.str (Str.ofString "race")))) [some (.ref a),some (.str (st T)),some (.ref D),some (.int (b:Nat)),none,none,none] H' (.bl (aQ ws)):=λws Mf ba MX Pq=>by
    have L0:=(MW ws (Yc Mf)).2;have:=cb (a8 (a8 (ag (n:=2) (σ:=[some (.ref a),some (.str (st T)),some (.ref D),some (.int (b:Nat)),none,none,none]) rfl) (ag (n:=3) rfl) Pn Pq) (aD (v:=.int ((0:Nat):Int))) MX (dI (i:=0) (YL.mpr L0))) (aD (v:=.str (Str.ofString "race")));rw[je] at this;have e:decide (ws.getD 0 []=cd "race")=aQ ws:=by
     unfold aQ;cases ws with
     |nil=>exact absurd rfl L0
     |cons x r =>
      show decide (x=cd "race")=(x==cd "race");rw[Ym,XS,Yx]
    rw[e] at this;exact this
   by_cases LU:b < LS.length
   · obtain⟨ws,Mf⟩:∃ws,LS[b]?=some ws:=⟨_,XU LU⟩;obtain⟨ba,Pq,MX⟩:=at_ b ws Mf;refine⟨_,qC (jG (ag rfl) (aT (ag rfl) (.inl Pn))) λ_=>aI (Pp ws Mf ba (S4.seq MX) Pq),λh=>?_,λh=>?_⟩
     · rw[XR] at h;refine⟨_,rfl,_,_,rfl,rfl,⟨⟨b+1,rfl,rfl,by omega,by omega,λj Pr h1 h2 h3=>?_⟩,?_⟩⟩
       · by_cases e:j=b
         · subst e;rw[Mf] at h3;cases h3;exact h.2
         · exact Po j Pr h1 (by omega) h3
       · show LS.length - ((b:Int)+1).toNat < LS.length - ((b:Nat):Int).toNat;omega
     · have hf:aQ ws=false:=by
        rw[Y5] at h;rcases h with h|h
        · rw[XH,LQ] at h;have:=Yr h;omega
        · exact h
       exact⟨b,rfl,rfl,NL,Ni,Po,λPr z=>by rw[Mf] at z;cases z;exact hf⟩
   · refine⟨_,qC (c:=false) (jG (ag rfl) (aT (ag rfl) (.inl Pn))) λh=>?_,λh=>?_,λ_=>?_⟩
     · rw[XH,LQ] at h;have:=X4 h;omega
     · rw[Bool.and_false] at h;cases h
     · exact⟨b,rfl,rfl,NL,Ni,Po,λPr z=>by rw[YK (by omega)] at z;cases z⟩
 rintro σ H' ⟨b,rfl,e4,NL,Ni,Po,Wv⟩;subst e4;obtain⟨Ww,Wx,Wy⟩:=lZ aQ ls (b - 1) (by rw[MI] at Ni;simp at Ni;omega) (λj x hj hx=>Po (j+1) x (by omega) (by omega) (by rw[MI];exact hx)) (λx hx=>Wv x (by rw[MI,show b=b - 1+1 by omega];exact hx));have eR:=pV ls [] (by simp);rw[Ww,Wx,Wy] at eR;refine⟨_,rfl,_,rfl,_,rfl,_,rfl,D,as.map V.ref,rfl,Pn,λp2 N5=>⟨p2,rfl,⟨_,aO.of ae⟩,λR hR=>?_⟩⟩;have RD:fA (as.map V.ref) (some 1) (some (b:Int))=((as.drop 1).take (b - 1)).map V.ref:=by
  have:=zr (xs:=as.map V.ref) (i:=1) (j:=b) (by rw[XH,LQ];exact Ni);rw[List.map_take,aaa];exact this
 have S5:au H' (upd H' p2 (.lst (fA (as.map V.ref) (some 1) (some (b:Int))))):=(au.refl H').laid N5;have Qk:aO K (upd H' p2 (.lst (fA (as.map V.ref) (some 1) (some (b:Int))))) p2 (((as.drop 1).take (b - 1)).map V.ref):=aO.of (by rw[ae,RD]);generalize upd H' p2 (.lst (fA (as.map V.ref) (some 1) (some (b:Int))))=H5 at hR S5 Qk;have Pg:Paired (λb ws=>aO K H3 b (sV ws)) ((as.drop 1).take (b - 1)) (ls.take (b - 1)):=by
  have:=Paired.tk (b - 1) (Paired.dp 1 hP);rw[MI] at this;exact this
 have RE:∀ws∈ls.take (b - 1),mW ws/\ws≠[]:=λws z=>MW ws (by rw[MI];exact X2 _ (Zn z));have RF:((as.drop 1).take (b - 1)).length=(ls.take (b - 1)).length:=Paired.length Pg;refine iZ (K:=K) (a:=p2) (xs:=((as.drop 1).take (b - 1)).map V.ref) (λi H6=>∃vs:List V,au H5 H6/\H6 R=some (.lst vs)/\Paired (jH H6 R) vs ((ls.take (b - 1)).take i)) ⟨[],(au.refl H5).laid hR,ae,.nil⟩ (λi H6 _ ⟨_,S,_⟩=>S.seq Qk) ?_ ?_
 · rintro i x H6 hi ⟨vs,S6,e1,hV⟩;rw[XO] at hi;obtain⟨ba,Pq,rfl⟩:=Yj.mp hi;obtain⟨ws,Mf,MX⟩:=Paired.qP Pg Pq;have LX:i < (ls.take (b - 1)).length:=(XY.mp Mf).1;have Nj:vs.length=i:=by rw[Paired.length hV,X7];omega
   have MC:=RE ws (Yc Mf);have lenls:ls.length<=65537:=by have:=NG;rw[MI] at this;simp at this;omega
   have small:vs.length < sizeLine:=by
    rw[Nj,Yb];have:=List.length_take_le (b - 1) ls;have:=X7 (i:=b - 1) (l:=ls);omega
   have NH:∀H7,au H6 H7->∀(y:V),Paired (jH (upd H7 R (.lst (vs++[y]))) R) vs ((ls.take (b - 1)).take i):=λH7 e y=>Paired.d9 hV λv Pr z=>by
    unfold jH at z ⊢;cases hr:bD Pr with
    |none=>rw[hr] at z;exact z
    |some hs =>
     rw[hr] at z;obtain⟨x,ex,nx,hx⟩:=z;exact⟨x,ex,nx,by rw[aq nx];exact e _ _ hx⟩
   refine⟨rfl,_,rfl,ba,ws,rfl,S6.seq (S5.seq (S4.seq MX)),MC.1,MC.2,λhn H7 e=>?_,λhs hn H7 x e nx hx=>?_⟩
   · refine⟨vs,e _ _ e1,small,vs++[.b8],λc u z=>?_,ae,?_⟩
     · rw[aq (ao z hR)];exact e _ _ (S6 c u z)
     · rw[take_snoc Mf];refine Paired.snoc (NH H7 e _) ?_;unfold jH;rw[hn]
   · have nR:x≠R:=(ao e1 nx).symm;refine⟨vs,e _ _ e1,small,vs++[.ref x],λc u z=>?_,ae,?_⟩
     · rw[aq (ao z hR)];exact e _ _ (S6 c u z)
     · rw[take_snoc Mf];refine Paired.snoc (NH H7 e _) ?_;unfold jH;rw[hn];exact⟨x,rfl,nR,by rw[aq nR];exact hx⟩
 rintro H6 ⟨vs,S6,e1,hV⟩;rw[XH,RF,YE] at hV;have Nj:vs.length=b - 1:=by
  rw[Paired.length hV,X7];rw[MI] at Ni;simp at Ni;omega
 have RG:au H' H6:=S5.trans S6;have RH:au H H6:=To.trans RG;refine aU (gO (fh (cD aD (aT (ag rfl) (.inl (aO.of e1))) aD)) λ_=>aI (λR' r'=>⟨_,rfl,R,vs,rfl,rfl,aO.of e1,nJ hV,r'⟩)) (λh=>?_) (λh=>?_)
 · refine bU aD (q0 ?_ H6 RH);rw[eC,eR,XI];rintro⟨z1,z2,z3⟩;rw[Nj,nv hV,Yv z3] at h;simp only[ZV,Yy,Y5,Yp] at h;simp only[Zg] at z1 z2;omega
 · rw[Nj,nv hV] at h;simp only[YS,YB,XR,XS,Yp] at h;obtain⟨⟨z1,z2⟩,z3⟩:=h;rw[XJ ⟨by simp only[Zg];omega,by simp only[Zg];omega,z3⟩,YC] at eR;obtain⟨Wz,ev,WA⟩:=rC hV z3;subst ev;have WB:=RG.seq Pn;refine⟨_,rfl,_,rfl,_,rfl,D,as.map V.ref,rfl,WB,λp3 WC=>?_⟩;have S7:au H6 (upd H6 p3 (.lst (fA (as.map V.ref) (some (b:Int)) none))):=(au.refl H6).laid WC;have Pt:fA (as.map V.ref) (some (b:Int)) none=(as.drop b).map V.ref:=by
    unfold fA;rw[HT.iQ,HT.iw,XH,LQ,ZJ Ni,aaa];refine YD ?_;rw[Yz,XH,LQ];exact XT _
   refine⟨_,rfl,p3,R,ls.drop (b - 1),((ls.take (b - 1)).map bD).filterMap id,rfl,⟨as.drop b,aO.of (by rw[ae,Pt]),?_⟩,?_,⟨Wz,S7.seq (aO.of e1),Paired.d9 WA λc hs z=>S7.seq (aO.of z)⟩,?_,?_,?_⟩
   · have:=Paired.dp b hP;rw[show LS.drop b=ls.drop (b - 1) by rw[MI,show b=b - 1+1 by omega];rfl] at this;exact Paired.d9 this λc ws z=>S7.seq (RG.seq (S4.seq z))
   · intro ws z;exact (MW ws (by rw[MI];exact X2 _ (Zf z))).1
   · have:=List.length_filterMap_le id ((ls.take (b - 1)).map bD);rw[XH,X7] at this;omega
   · intro hn H8 S8;exact q0 (by rw[eC,eR];exact hn) H8 (RH.trans (S7.trans S8))
   · intro ps hs H8 x S8 hx;exact q1 ps (by rw[eC,eR];exact hs) H8 x (RH.trans (S7.trans S8)) hx
end
end Bw
namespace L2
open PySem PySem.Spec PyProof.Rows
def aM (a:Addr)(H H':Hp):Prop:=∀b o,H b=some o->b≠a->H' b=some o
section
variable {a:Addr}{H H1 H2:Hp}
theorem aM.refl (a:Addr) (H:Hp):aM a H H:=λ_ _ h _=>h
theorem aM.trans (x:aM a H H1)(y:aM a H1 H2):aM a H H2:=λb o h n=>y b o (x b o h n) n
theorem au.x (e:au H H1):aM a H H1:=λb o h _=>e b o h
theorem aM.upd {o:HO}(x:aM a H H1):aM a H (upd H1 a o):=λb u h n=>by rw[aq n];exact x b u h n
theorem aM.laid {p:Addr}{o:HO}(x:aM a H H1)(h:H p=none):aM a H (L2.upd H1 p o):=λb u q n=>by
 rw[aq (ao q h)];exact x b u q n
theorem aM.seq {K:aas}{C dx b:Addr}{fs:List (Str×V)}{xs:List V}(e:aM a H H1)(ha:H a=some (.ins C dx fs))(h:aO K H b xs):aO K H1 b xs:=by
 rcases h with (h|⟨o,h⟩)|h
 · exact .inl (.inl (e _ _ h (dG h ha (by intro z;cases z))))
 · exact .inl (.inr ⟨o,e _ _ h (dG h ha (by intro z;cases z))⟩)
 · exact .inr h
theorem aM.tup {K:aas}{C dx b:Addr}{fs:List (Str×V)}{xs:List V}(e:aM a H H1)(ha:H a=some (.ins C dx fs))(h:b6 K H b xs):b6 K H1 b xs:=by
 rcases h with (h|⟨o,h⟩)|h
 · exact .inl (.inl (e _ _ h (dG h ha (by intro z;cases z))))
 · exact .inl (.inr ⟨o,e _ _ h (dG h ha (by intro z;cases z))⟩)
 · exact .inr h
theorem aM.free (e:aM a H H1){l:Addr}(h:H1 l=none)(hl:l≠a):H l=none:=by
 cases q:H l with
 |none=>rfl
 |some o =>
  rw[e l o q hl] at h;cases h
end
end L2
namespace Bw
open PySem PySem.Spec PyProof.Rows L2 Tote
theorem qx {f:Str}{v x:V}{r:List (Str×V)}:d_ f v ((f,x)::r)=(f,v)::r:=by
 show (if f=f then (f,v)::r else _)=_;rw[XJ rfl]
def Flt (P:Program)(w:World)(K:aas)(mg:aau)(base:Heap)(C:Addr):Prop :=
 ∃(N fI:Addr) (fd:FuncData),oP K C N fI/\Binds K fd ["self","kind","place"] []/\a9 P w K mg base bF 1 fI fd ["self","kind","place"] (Gp C)/\mg "Fault"=some (.ref C)
theorem fN {X:Cx}{C:Addr}{E:XK}{np LV pos:Pos}{e:Expr}{es:List Expr}{t:TA}(FL:Flt X.prog X.w X.K X.mg X.base C)(O:mO X)(hr:cO 2 X.A)(ha:PA (X.iD (XF X C E)) (e::es) t)(hg:Gl X "Fault":=by rfl)
  (he:starEach (e::es) X.env=(false,eval e X.env)::starEach es X.env:=by rfl)(LY:(backTo LV (starEach es X.env)).any (·.1)=false:=by rfl):PS (X.iD (XF X C E)) (.Raise (some (.Call (.Name "Fault" np) (e::es) [] LV)) none pos) (Kj C E t):=by
 obtain⟨N,fI,fd,Z,hb,F,hm⟩:=FL;exact BD O Z F hr hb hg hm ha (by decide) he LY
section
variable {P:Program}{w:World}{K:aas}{mg:aau}{base:Heap}
theorem AB:aG ["self","kind","place"] ["self","kind","place"] (aw fQ):=fs
theorem zS {C N fI:Addr}(Z:oP K C N fI){f:Addr}{fd:FuncData}(F:dm K "__init__" "Fault.__init__" fQ f fd):a9 P w K mg base bF 1 f fd ["self","kind","place"] (Gp C):=by
 refine F.oo AB λLP A outer s H vs Q E hr h=>?_;obtain⟨a,t,k,p,rfl,ha,q⟩:=h;refine⟨_,af (yL Z Z.fK Z.K9 Lx (pv 0) (pv 1) rfl) (ak (yL Z Z.fP Z.Kl LK (pv 0) (pv 2) rfl)),?_⟩;refine⟨_,rfl,_,rfl,a,t,rfl,.inl ⟨ha,λdx Mv ne=>?_⟩⟩;refine⟨_,rfl,_,rfl,a,t,rfl,.inr ⟨dx,_,ae,by rw[aq ne];exact ae,ne,by show 1 < 1000;decide,?_⟩⟩;have e:d_ "place" (V.int p) [(("kind":Str),V.int k)]=ff k p:=by
  rw[bg (by decide +kernel),bS];rfl
 rw[e];have e2:upd (upd (upd H dx (rm dx [(("kind":Str),V.int k)])) a (tU a C t (some dx))) dx (rm dx (ff k p))=upd (upd H dx (rm dx (ff k p))) a (tU a C t (some dx)):=by
  funext b;by_cases h1:b=dx
  · subst h1;rw[ae,aq ne,ae]
  · rw[aq h1];by_cases h2:b=a
    · subst h2;rw[ae,ae]
    · rw[aq h2,aq h2,aq h1,aq h1]
 rw[e2];exact q dx Mv ne
end
def mC (pl n h s t r m:V):List (Str×V):=[("pool",pl),("pool_number",n),("how",h),("stake",s),("sets",t),("rows",r),("many",m)]
abbrev rK:List Str:=["pool","pool_number","how","stake","sets","rows","many"]
def bV (wl m p np e:V):List (Str×V):=[("words",wl),("met",m),("place",p),("next_place",np),("line_end",e)]
abbrev cx:List Str:=["words","met","place","next_place","line_end"]
section
variable {a b c d e v:V}
theorem iI:(bV a b c d e).lookup ("words":Str)=some a:=bE
theorem iY:(bV a b c d e).lookup ("met":Str)=some b:=by unfold bV;rw[aR (by decide +kernel)];exact bE
theorem bO:(bV a b c d e).lookup ("place":Str)=some c:=by unfold bV;rw[aR (by decide +kernel),aR (by decide +kernel)];exact bE
theorem jN:(bV a b c d e).lookup ("next_place":Str)=some d:=by unfold bV;rw[aR (by decide +kernel),aR (by decide +kernel),aR (by decide +kernel)];exact bE
theorem xW:(bV a b c d e).lookup ("line_end":Str)=some e:=by unfold bV;rw[aR (by decide +kernel),aR (by decide +kernel),aR (by decide +kernel),aR (by decide +kernel)];exact bE
theorem Fb:d_ "met" v (bV a b c d e)=bV a v c d e:=by unfold bV;rw[bg (by decide +kernel),qx]
theorem Ap:d_ "place" v (bV a b c d e)=bV a b v d e:=by unfold bV;rw[bg (by decide +kernel),bg (by decide +kernel),qx]
theorem Be:d_ "next_place" v (bV a b c d e)=bV a b c v e:=by unfold bV;rw[bg (by decide +kernel),bg (by decide +kernel),bg (by decide +kernel),qx]
end
def aX (K:aas)(C:Addr)(H:Hp)(a:Addr)(e:Nat)(l:List Word)(pl:Nat):Prop :=
 ∃(dx wl:Addr) (all:List W) (m np:Nat),H a=some (.ins C dx (bV (.ref wl) (.int (m:Nat)) (.int (pl:Nat)) (.int (np:Nat)) (.int (e:Nat))))/\aO K H wl (sV all)/\(mW all/\all≠[])/\m<=all.length/\all.drop m=mT l/\Placed np l
theorem aX.same {K:aas}{C:Addr}{H H':Hp}{a:Addr}{e:Nat}{l:List Word}{pl:Nat}(h:aX K C H a e l pl)(s:au H H'):aX K C H' a e l pl:=by
 obtain⟨dx,wl,all,m,np,h1,h2,r⟩:=h;exact⟨dx,wl,all,m,np,s _ _ h1,s.seq h2,r⟩
structure GB (K:aas)(mg:aau)(aW:Addr):Prop where
 ended:Gv mg "NOT_ENDED" (.int 1)
 byte:Gv mg "BAD_BYTE" (.int 2)
 word:Gv mg "BAD_WORD" (.int 3)
 num:Gv mg "BAD_NUMBER" (.int 4)
 pool:Gv mg "NO_POOL" (.int 5)
 comb:Gv mg "NO_COMBINATION" (.int 6)
 La:Gv mg "TOO_DEAR" (.int 7)
 more:Gv mg "MORE_BYTES" (.int 8)
 nl:Gv mg "LINE_END" (.int 10)
 blank:Gv mg "BLANK" (.int 32)
 stake:Gv mg "MOST_STAKE" (.int 1000000)
 cost:Gv mg "MOST_COST" (.int 2147483647)
 on:Gv mg "ON" (.int 0)
 box:Gv mg "BOX" (.int 1)
 IM:Gv mg "WAYS" (.ref aW)
 yr:∀H,b6 K H aW [.str (Str.ofString "on"),.str (Str.ofString "box"),.str (Str.ofString "key")]
 IX:∃o,K.lookup aW=some o/\o.cls=.type "tuple"/\o.dict=none
 enum:mg "enumerate"=none
 any:mg "any"=none
section
variable {X:Cx}{CX:mx}{k:Nat}{m:Str}{ps:List Str}{sp:Sp}{E:XK}{pos apos:Pos}{o e:Expr}{es:List Expr}{ta:TE}{t:TA}{C:Addr}
theorem j5 {pl:Sem Bool} (F:o7 X.prog X.w X.K X.mg X.base CX k C m ps sp) (c:zk X.K C) (he:PE X o ta) (hr:cO k X.A) (hx:Passes CX X E)
  (ht:eval (.Call (.Attribute o m apos) [] [] pos) X.env=(do
   let ov ←eval o X.env
   standAt apos.atName
   let (f,first) ←holding [ov] (getMethod ov m pl)
   callWith pos f first (backTo pos (starEach [] X.env)) (backToKw pos (keywordEach [] X.env))):=by rfl):PE X (.Call (.Attribute o m apos) [] [] pos) (uY C m sp [] E ta eV):=by
 obtain⟨f,fd,hm,hb,F⟩:=F;exact Bh he c hm F hr hb .nil hx ht
theorem lq {pl:Sem Bool}(F:o7 X.prog X.w X.K X.mg X.base CX k C m ps sp)(c:zk X.K C)(he:PE X o ta)(hr:cO k X.A)(hx:Passes CX X E)(ha:PA X (e::es) t)
  (Ms:starEach (e::es) X.env=(false,eval e X.env)::starEach es X.env:=by rfl)(LY:(backTo pos (starEach es X.env)).any (·.1)=false:=by rfl)
  (ht:eval (.Call (.Attribute o m apos) (e::es) [] pos) X.env=(do
   let ov ←eval o X.env
   standAt apos.atName
   let (f,first) ←holding [ov] (getMethod ov m pl)
   callWith pos f first (backTo pos (starEach (e::es) X.env)) (backToKw pos (keywordEach [] X.env))):=by rfl):PE X (.Call (.Attribute o m apos) (e::es) [] pos) (uY C m sp [] E ta t):=by
 obtain⟨f,fd,hm,hb,F⟩:=F;exact Dq he c hm F hr hb .nil hx ha Ms LY ht
end
section
variable {P:Program}{w:World}{K:aas}{mg:aau}{base:Heap}
def ql (K:aas) (C:Addr):Sp:=λvs H Q _=>∃(x dx:Addr) (l:W),vs=[.ref x,.str (st l)]/\H x=some (.ins C dx [])/\l.length<=70000 /\
 ∀H' wl,aM x H H'->H wl=none->H' wl=some (.lst (sV (aY 32 [] l)))->H' x=some (.ins C dx (bV (.ref wl) (.int ((0:Nat):Int)) (.int ((0:Nat):Int)) (.int ((0:Nat):Int)) (.int (l.length:Nat))))->Q .b8 H'
theorem zG:aG ["self","line"] ["self","line"] (aw fY):=fs
theorem zT {C:Addr}(G:GW mg)(T:CK K mg "Words" cx C){f:Addr}{fd:FuncData}(F:dm K "__init__" "Words.__init__" fY f fd):a9 P w K mg base bF 1 f fd ["self","line"] (ql K C):=by
 refine F.oo zG λLP A outer s H vs Q E hr h=>?_;obtain⟨x,dx,l,rfl,hx,hl,q⟩:=h;refine⟨_,af (cH (pv 0) (mq (pv 1) bt) rfl) (af (cH (pv 0) ax rfl) (af (cH (pv 0) ax rfl) (af (cH (pv 0) ax rfl) (ak (cH (pv 0) (bX fO (by rfl) G.len PySem.boot_len (aa (pv 1) ah)) rfl))))),?_⟩;refine⟨_,rfl,⟨_,rfl⟩,_,_,rfl,rfl,by decide +kernel,by rw[b9,Yb];omega,λwl M6=>?_⟩;have nx:wl≠x:=(ao hx M6).symm;rw[BW,mM (by decide)];refine⟨_,rfl,x,C,dx,[],rfl,by rw[aq nx.symm];exact hx,T.cl,T.no _ (by simp),(by show 0 < 1000;decide),?_⟩;refine⟨_,rfl,x,C,dx,_,rfl,ae,T.cl,T.no _ (by simp),(by show 1 < 1000;decide),?_⟩;refine⟨_,rfl,x,C,dx,_,rfl,ae,T.cl,T.no _ (by simp),(by repeat (first|rw[bS]|rw[bg (by decide +kernel)]);show 2 < 1000;decide),?_⟩;refine⟨_,rfl,x,C,dx,_,rfl,ae,T.cl,T.no _ (by simp),(by repeat (first|rw[bS]|rw[bg (by decide +kernel)]);show 3 < 1000;decide),?_⟩;refine⟨_,rfl,_,rfl,by rw[b9,Yb];omega,_,rfl,x,C,dx,_,rfl,ae,T.cl,T.no _ (by simp),(by repeat (first|rw[bS]|rw[bg (by decide +kernel)]);show 4 < 1000;decide),?_⟩;rw[cy,cy,cy,cy]
 repeat (first|rw[bS]|rw[bg (by decide +kernel)])
 refine q _ wl (λb u z n=>?_) M6 ?_ ?_
 · rw[aq n,aq (ao z M6)];exact z
 · rw[aq nx,ae];unfold sV;rw[X_];rfl
 · rw[ae,b9];rfl
def nH (K:aas)(CW CF:Addr):Sp:=λvs H Q E=>∃(a:Addr) (e:Nat) (l:List Word) (pl:Nat),vs=[.ref a]/\aX K CW H a e l pl/\(l=[]->Rz CF E 3 (e:Nat))/\(∀w r,l=w::r->∀H',aM a H H'->aX K CW H' a e r w.at_->((tx w.w).length<=70000/\∀c∈tx w.w,c < 128)->Q (.str (st (tx w.w))) H')
theorem yQ:aG ["self","word"] ["self"] (aw gc):=fs
theorem Es {CW CF aW:Addr}(G:GW mg)(B:GB K mg aW)(T:CK K mg "Words" cx CW)(FL:Flt P w K mg base CF){f:Addr}{fd:FuncData}(F:dm K "take" "Words.take" gc f fd):a9 P w K mg base (eW P w CF) 3 f fd ["self"] (nH K CW CF):=by
 refine F.lW yQ λLP A outer s H vs Q E hr h=>?_;obtain⟨a,e,l,pl,rfl,⟨dx,wl,all,m,np,ha,hw,ok,hm,hd,hp⟩,q0,q1⟩:=h;refine⟨_,af (aP (aA cn (aS (pv 0) rfl) (bf G.len (aS (pv 0) rfl)) (aJ _)) (ak (fN FL aH hr (aa (bb B.word) (aa (aS (pv 0) rfl) ah)))) aB)
  (af (aZ 1 yQ.nd (bp aN (aS (pv 0) rfl) (aS (pv 0) rfl) (λ_ _=>rfl)))
  (af (rS (pv 0) ax C1)
  (af (cH (pv 0) (aS (pv 0) rfl) rfl)
  (af (rS (pv 0) (bJ eK (bX fO (by rfl) G.len PySem.boot_len (aa (pv 1) ah)) ax) C1)
  (ak (az (pv 1))))))),?_⟩
 have no:=λf (h:f∈cx)=>T.no f h;refine aU (aI (cb (a_ (ag rfl) ha T.cl (no _ (by simp)) iY) (aT (a_ (ag rfl) ha T.cl (no _ (by simp)) iI) (.inl hw)))) (λh=>?_) (λh=>?_)
 · rw[a7,dJ] at h;have Nz:m=all.length:=by have:=Za h;omega
   refine (a_ (ag rfl) ha T.cl (no _ (by simp)) xW) _ ⟨3,_,rfl,q0 ?_⟩;rw[Nz,ZC] at hd;cases l with
   |nil=>rfl
   |cons w r=>cases hd
 · rw[a7,dJ] at h;have Nz:m < all.length:=by
    have:m≠all.length:=λz=>by rw[z] at h;simp at h
    omega
   cases l with
   |nil =>
    have:=YN List.length hd;rw[Yz] at this;simp[mT] at this;omega
   |cons wd r =>
    have Mm:all[m]?=some (tx wd.w)/\all.drop (m+1)=mT r:=by
     rw[Y4 Nz] at hd;have hd:all[m]::all.drop (m+1)=tx wd.w::mT r:=hd;injection hd with h1 h2;exact⟨by rw[XU Nz,h1],h2⟩
    obtain⟨Pl,N5⟩:=hp;have MC:=ok.1.2 _ (Yc Mm.1);refine cG (a8 (a_ (ag rfl) ha T.cl (no _ (by simp)) iI) (a_ (ag rfl) ha T.cl (no _ (by simp)) iY) hw (cv (Bf Mm.1))) ?_;refine⟨_,rfl,a,CW,dx,_,_,rfl,ha,T.cl,no _ (by simp),iY,_,_,rfl,rfl,dx,_,ha,(by show 5 < 1000;decide),?_⟩;rw[Fb];refine⟨_,rfl,a,CW,dx,_,_,rfl,ae,T.cl,no _ (by simp),jN,_,rfl,a,CW,dx,_,rfl,ae,T.cl,no _ (by simp),(by show 5 < 1000;decide),?_⟩;rw[Ap,cy];refine⟨_,rfl,a,CW,dx,_,_,rfl,ae,T.cl,no _ (by simp),jN,?_⟩;refine (jL (tq (ag rfl) (by rw[b9,Yb];omega)) aD) _ ⟨_,_,rfl,rfl,dx,_,ae,(by show 5 < 1000;decide),?_⟩;rw[Be,cy];refine⟨_,rfl,?_⟩;refine q1 wd r rfl _ (aM.refl a H).upd ⟨dx,wl,all,m+1,np+(tx wd.w).length+1,?_,(aM.refl a H).upd.seq ha hw,ok,by omega,Mm.2,by rw[iA];exact N5⟩ MC;rw[ae,Pl,b9];have e1:((m:Nat):Int)+1=((m+1:Nat):Int):=by omega
    have e2:((np:Nat):Int)+(((tx wd.w).length:Nat)+1)=((np+(tx wd.w).length+1:Nat):Int):=by omega
    rw[e1,e2]
end
theorem oB {f:Str}:∀{fs:List (Str×V)},¬f∈fs.map (·.1)->fs.lookup f=none
 |[],_=>rfl
 |(g,v)::r,h=>by
  rw[aR (λe=>h (by simp[e]))];exact oB λz=>h (by simp at z ⊢;exact .inr z)
theorem cA {a b c d e:V}{f:Str}(h:¬f∈cx):(bV a b c d e).lookup f=none:=oB h
theorem aX.obj {K:aas}{C:Addr}{H:Hp}{a:Addr}{e:Nat}{l:List Word}{pl:Nat}(h:aX K C H a e l pl):∃dx wl m np,H a=some (.ins C dx (bV wl m (.int (pl:Nat)) np (.int (e:Nat)))):=by
 obtain⟨dx,wl,all,m,np,h1,_⟩:=h;exact⟨dx,_,_,_,h1⟩
section
variable {P:Program}{w:World}{K:aas}{mg:aau}{base:Heap}
def m8 (kn:List String) (w:Word):Prop:=∃s∈kn,tx w.w=cd s
def qk (K:aas)(CW CF:Addr):Sp:=λvs H Q E=>∃(a t:Addr) (kn:List String) (e:Nat) (l:List Word) (pl:Nat),vs=[.ref a,.ref t]/\aX K CW H a e l pl/\b6 K H t (kn.map λs=>V.str (Str.ofString s))/\(l=[]->Rz CF E 3 (e:Nat)) /\
 (∀w r,l=w::r->¬m8 kn w->Rz CF E 3 (w.at_:Nat))/\(∀w r,l=w::r->m8 kn w->∀H',aM a H H'->aX K CW H' a e r w.at_->Q (.str (st (tx w.w))) H')
theorem B5 {kn:List String}{w:W}:og (.str (st w)) (kn.map λs=>V.str (Str.ofString s))=decide (∃s∈kn,w=cd s):=by
 rw[Ym,XS];unfold og;rw[Z4,Zj];have key:∀s:String,sF (V.str (Str.ofString s)) (V.str (st w))=true↔w=cd s:=λs=>by
  show (Str.ofString s==st w)=true↔_;rw[Yx,kY,jx];exact⟨λz=>z.symm,λz=>z.symm⟩
 exact⟨λ⟨s,h1,h2⟩=>⟨s,h1,(key s).mp h2⟩,λ⟨s,h1,h2⟩=>⟨s,h1,(key s).mpr h2⟩⟩
theorem Ey (kn:List String):(kn.map λs=>V.str (Str.ofString s)).all dM=true:=by
 rw[ZQ,Yd];intro _ _;rfl
theorem AN:aG ["self","known","word"] ["self","known"] (aw cq):=fs
theorem Ib {CW CF aW:Addr}(B:GB K mg aW)(T:CK K mg "Words" cx CW)(FL:Flt P w K mg base CF){k:Nat}(hk:2<=k)(FT:o7 P w K mg base (eW P w CF) k CW "take" ["self"] (nH K CW CF)){f:Addr}{fd:FuncData}(F:dm K "take_one_of" "Words.take_one_of" cq f fd) :
  a9 P w K mg base (eW P w CF) (k+1) f fd ["self","known"] (qk K CW CF):=by
 refine F.lW AN λLP A outer s H vs Q E hr h=>?_;obtain⟨a,t,kn,e,l,pl,rfl,hW,hT,q0,q1,q2⟩:=h;refine⟨_,af (aZ 2 AN.nd (j5 FT T.cl (pv 0) hr (bR aH rfl rfl)))
  (af (aP (aA eh (pv 2) (pv 1) (by with_unfolding_all rfl)) (ak (fN FL aH (hr.mono hk) (aa (bb B.word) (aa (aS (pv 0) rfl) ah)))) aB)
  (ak (az (pv 2)))),?_⟩
 obtain⟨dx,wl,m,np,ha⟩:=hW.obj;refine⟨_,rfl,a,dx,_,rfl,ha,cA (by decide +kernel),a,e,l,pl,rfl,hW,q0,λwd r hl H1 S1 Mg MC=>?_⟩;obtain⟨Ql,RI,m1,RJ,Mo⟩:=Mg.obj;refine aU (aI (mE (ag rfl) (ag rfl) (.inr (S1.tup ha hT)) rfl (Ey kn))) (λh=>?_) (λh=>?_)
 · have h:(!og (.str (st (tx wd.w))) (kn.map λs=>V.str (Str.ofString s)))=true:=h;rw[B5,Yy,Yp] at h;exact (a_ (ag rfl) Mo T.cl (T.no _ (by simp)) bO) _ ⟨3,_,rfl,q1 wd r hl h⟩
 · have h:(!og (.str (st (tx wd.w))) (kn.map λs=>V.str (Str.ofString s)))=false:=h;rw[B5,YB,XS] at h;exact⟨_,rfl,q2 wd r hl h H1 S1 Mg⟩
def AJ (K:aas)(CW CF:Addr):Sp:=λvs H Q E=>∃(a:Addr) (e:Nat) (l:List Word) (pl:Nat),vs=[.ref a]/\aX K CW H a e l pl/\(∀w r,l=w::r->Rz CF E 3 (w.at_:Nat))/\(l=[]->Q .b8 H)
theorem HD:aG ["self"] ["self"] (aw eG):=fs
theorem Hn {CW CF aW:Addr}(G:GW mg)(B:GB K mg aW)(T:CK K mg "Words" cx CW)(FL:Flt P w K mg base CF){f:Addr}{fd:FuncData}(F:dm K "finish" "Words.finish" eG f fd):a9 P w K mg base (eW P w CF) 3 f fd ["self"] (AJ K CW CF):=by
 refine F.lW HD λLP A outer s H vs Q E hr h=>?_;obtain⟨a,e,l,pl,rfl,⟨dx,wl,all,m,np,ha,hw,ok,hm,hd,hp⟩,q1,q0⟩:=h;refine⟨_,ak (aP (aA nS (aS (pv 0) rfl) (bf G.len (aS (pv 0) rfl)) (aJ _)) (ak (fN FL aH hr (aa (bb B.word) (aa (aS (pv 0) rfl) ah)))) aB),?_⟩;refine aU (jG (a_ (ag rfl) ha T.cl (T.no _ (by simp)) iY) (aT (a_ (ag rfl) ha T.cl (T.no _ (by simp)) iI) (.inl hw))) (λh=>?_) (λh=>?_)
 · rw[dJ] at h;have Nz:m < all.length:=by have:=X4 h;omega
   cases l with
   |nil =>
    have:=YN List.length hd;rw[Yz] at this;simp[mT] at this;omega
   |cons wd r =>
    refine (a_ (ag rfl) ha T.cl (T.no _ (by simp)) jN) _ ⟨3,_,rfl,?_⟩;rw[←hp.1];exact q1 wd r rfl
 · rw[dJ] at h;have Nz:m=all.length:=by have:=Yr h;omega
   refine q0 ?_;rw[Nz,ZC] at hd;cases l with
   |nil=>rfl
   |cons w r=>cases hd
def ub (K:aas)(CW CF:Addr):Sp:=λvs H Q E=>∃(a:Addr) (u:Nat) (e:Nat) (l:List Word) (pl:Nat),vs=[.ref a,.int (u:Nat)]/\1<=u/\aX K CW H a e l pl/\(l=[]->Rz CF E 3 (e:Nat)) /\
 (∀w r,l=w::r->¬(1<=ay (tx w.w)/\ay (tx w.w)<=1000000/\ay (tx w.w) % (u:Int)=0)->Rz CF E 4 (w.at_:Nat)) /\
 (∀w r,l=w::r->(1<=ay (tx w.w)/\ay (tx w.w)<=1000000/\ay (tx w.w) % (u:Int)=0)->∀H',aM a H H'->aX K CW H' a e r w.at_->Q (.int (ay (tx w.w))) H')
theorem uN:aG ["words","unit","stake"] ["words","unit"] (aw f7):=fs
theorem C4 {CW CF aW:Addr}(B:GB K mg aW)(T:CK K mg "Words" cx CW)(FL:Flt P w K mg base CF){k:Nat}(hk:2<=k)(FT:o7 P w K mg base (eW P w CF) k CW "take" ["self"] (nH K CW CF))(FN:Fn P w K mg base bF k "number_of" ["word"] kX)
  {f:Addr}{fd:FuncData}(F:dm K "take_stake" "take_stake" f7 f fd):a9 P w K mg base (eW P w CF) (k+1) f fd ["words","unit"] (ub K CW CF):=by
 refine F.lW uN λLP A outer s H vs Q E hr h=>?_;obtain⟨a,u,e,l,pl,rfl,hu1,hW,q0,q1,q2⟩:=h;refine⟨_,af (aZ 2 uN.nd (aV FN hr bc (aa (j5 FT T.cl (pv 0) hr (bR aH rfl rfl)) ah)))
  (af (aP (PW.pt (eD (cB (cE cj cj ax (pv 2) (bb B.stake))) (cU (aA p8 (bJ GU (pv 2) (pv 1)) ax (aJ _))))) (ak (fN FL aH (hr.mono hk) (aa (bb B.num) (aa (aS (pv 0) rfl) ah)))) aB)
  (ak (az (pv 2)))),?_⟩
 obtain⟨dx,wl,m,np,ha⟩:=hW.obj;refine⟨_,rfl,a,dx,_,rfl,ha,cA (by decide +kernel),a,e,l,pl,rfl,hW,q0,λwd r hl H1 S1 Mg MC=>?_⟩;obtain⟨Ql,RI,m1,RJ,Mo⟩:=Mg.obj;refine⟨tx wd.w,rfl,MC.1,MC.2,?_⟩;refine aU (gO (fh (cD aD (ag rfl) aD)) λ_=>aI (oQ (yU (ag rfl) (ag rfl) (by show (0:Int) < (u:Int);omega)) aD)) (λh=>?_) (λh=>?_)
 · refine (a_ (ag rfl) Mo T.cl (T.no _ (by simp)) bO) _ ⟨4,_,rfl,q1 wd r hl λz=>?_⟩;rw[a7] at h;simp[z.1,z.2.1,z.2.2] at h
 · rw[a7] at h;simp only[YS,YB,XR,XS,Yx] at h;exact⟨_,rfl,q2 wd r hl ⟨h.1.1,h.1.2,h.2⟩ H1 S1 Mg⟩
end
theorem aX.put {K:aas}{C:Addr}{H:Hp}{a p:Addr}{e:Nat}{l:List Word}{pl:Nat}{xs ys:List V}(h:aX K C H a e l pl)(hp:H p=some (.lst xs))(hn:∀v∈xs,∀s,v≠.str s):aX K C (upd H p (.lst ys)) a e l pl:=by
 obtain⟨dx,wl,all,m,np,h1,h2,⟨ok,ne⟩,r⟩:=h;have RK:a≠p:=dG h1 hp (by intro z;cases z);refine⟨dx,wl,all,m,np,by rw[aq RK];exact h1,?_,⟨ok,ne⟩,r⟩;rcases h2 with (h2|⟨o,h2⟩)|h2
 · refine .inl (.inl ?_);rw[aq]
   · exact h2
   · rintro rfl;rw[hp] at h2;injection h2 with h2;injection h2 with h2;subst h2;cases all with
     |nil=>exact ne rfl
     |cons w r=>exact hn _ (Yt ..) _ rfl
 · refine .inl (.inr ⟨o,?_⟩);rw[aq (dG h2 hp (by intro z;cases z))];exact h2
 · exact .inr h2
theorem HG {ns:aar}:∀v∈nV ns,∀s,v≠V.str s:=λv hv s=>by
 obtain⟨n,_,rfl⟩:=Yh.mp hv;intro z;cases z
theorem DQ {as:List Addr}:∀v∈as.map V.ref,∀s,v≠V.str s:=λv hv s=>by
 obtain⟨n,_,rfl⟩:=Yh.mp hv;intro z;cases z
theorem fZ (ns:aar):(nV ns).all dM=true:=by
 unfold nV;rw[ZQ,Yd];intro _ _;rfl
theorem nP {ns:aar}{i:Int}:og (.int i) (nV ns)=decide (∃n∈ns,i=(n:Int)):=by
 rw[Ym,XS];unfold og nV;rw[Z4,Zj];have key:∀n:Nat,sF (V.int (n:Nat)) (V.int i)=true↔i=(n:Int):=λn=>by
  show (((n:Nat):Int)==i)=true↔_;rw[Yx];exact⟨λz=>z.symm,λz=>z.symm⟩
 exact⟨λ⟨s,h1,h2⟩=>⟨s,h1,(key s).mp h2⟩,λ⟨s,h1,h2⟩=>⟨s,h1,(key s).mpr h2⟩⟩
theorem DG {ns:aar}{x:Nat}(h:ns.getLast?=some x):nU (nV ns) (-1)=some (.int (x:Nat)):=by
 have L0:ns≠[]:=by rintro rfl;cases h
 have hl:0 < ns.length:=YL.mpr L0;have hx:(nV ns)[ns.length - 1]?=some (.int (x:Nat)):=by
  unfold nV;rw[XO,←List.getLast?_eq_getElem?,h];rfl
 unfold nU E4;rw[XI (by decide),aL,XJ (by omega)];show (nV ns)[_]?=_;rw[←hx];congr 1;omega
theorem yt {t:TT}{σ:L2.St}{H:Hp}{b c:Bool}(h:Tv t σ H b)(e:b=c):Tv t σ H c:=e ▸ h
theorem zW {fld:aar}{pt:W}:(!decide (∃n∈fld,ay pt=(n:Int)))=!decide (Fits fld [] pt):=by
 congr 1;rw[Zu];exact⟨λ⟨n,h1,h2⟩=>⟨n,h2,h1,λ_ z=>by cases z⟩,λ⟨n,h1,h2,_⟩=>⟨n,h2,h1⟩⟩
theorem Ab {fld acc:aar}{pt:W}{x:Nat}(h:acc.getLast?=some x):(!decide (∃n∈fld,ay pt=(n:Int))||(true&&decide (ay pt<=((x:Nat):Int))))=!decide (Fits fld acc pt):=by
 rw[Bool.true_and,Ym];simp only[YH,Yy,XS,Yp];constructor
 · rintro (z|z) ⟨n,h1,h2,h3⟩
   · exact z ⟨n,h2,h1⟩
   · have:=h3 x h;omega
 · intro z;by_cases q:∃n∈fld,ay pt=(n:Int)
   · obtain⟨n,h1,h2⟩:=q;refine .inr ?_;by_cases q2:ay pt<=((x:Nat):Int)
     · exact q2
     · exact absurd ⟨n,h2,h1,λy hy=>by rw[h] at hy;injection hy with hy;omega⟩ z
   · exact .inl q
theorem Ia:Str.ofString ","=st [44]:=by rw[kY];rfl
section
variable {P:Program}{w:World}{K:aas}{mg:aau}{base:Heap}
def uT (K:aas) (CW CF:Addr):Sp:=λvs H Q E=>∃(a f:Addr) (fd:aar) (e:Nat) (l:List Word) (pl:Nat),vs=[.ref a,.ref f]/\aX K CW H a e l pl/\aO K H f (nV fd)/\(∀x∈fd,x<=24) /\
 (∀t,setIn e fd l=.error t->Rz CF E (t.kind:Nat) (t.place:Nat)) /\
 (∀s p r,setIn e fd l=.ok ((s,p),r)->∀H' x,aM a H H'->H x=none->H' x=some (.lst (nV s))->aX K CW H' a e r p->Q (.ref x) H')
theorem uu:aG ["words","field","numbers","part","number"] ["words","field"] (aw iP):=fs
theorem Ie {CW CF aW:Addr}(G:GW mg)(B:GB K mg aW)(T:CK K mg "Words" cx CW)(FL:Flt P w K mg base CF){k:Nat}(hk:2<=k)(FT:o7 P w K mg base (eW P w CF) k CW "take" ["self"] (nH K CW CF))(FN:Fn P w K mg base bF k "number_of" ["word"] kX)
  {f:Addr}{fd:FuncData}(F:dm K "take_set" "take_set" iP f fd):a9 P w K mg base (eW P w CF) (k+1) f fd ["words","field"] (uT K CW CF):=by
 refine F.lW uu λLP A outer s H vs Q E hr h=>?_;obtain⟨a,fa,fld,e,l,pl,rfl,hW,hF,L7,q0,q1⟩:=h;refine⟨_,af (aZ 2 uu.nd (bT ah))
  (af (cT (yx aH) rfl (bG (mq (j5 FT T.cl (pv 0) hr (bR aH rfl rfl)) bt)) (bh 3 uu.nd)
   (af (aZ 4 uu.nd (aV FN hr bc (aa (pv 3) ah)))
   (af (aP (PW.pt (eD (aA eh (pv 4) (pv 1) (by with_unfolding_all rfl)) (cU (PW.pt (tV (aA kZ (bf G.len (pv 2)) ax (aJ _)) (oF (aA cj (pv 4) (bp aN (pv 2) (vI oT ax) (λ_ _=>rfl)) (aJ _)))))))) (ak (fN FL aH (hr.mono hk) (aa (bb B.num) (aa (aS (pv 0) rfl) ah)))) aB)
   (ak (cX (lQ PySem.F.plainAttrs_list PySem.F.slot_list_append PySem.F.type_list_append gf (pv 2) (aa (pv 4) ah)))))))
  (ak (az (pv 2)))),?_⟩
 refine⟨Ye _,λp hp=>?_⟩;have S0:au H (upd H p (.lst [])):=(au.refl H).laid hp;have Qm:=hW.same S0;obtain⟨dx,wl,m,np,ha⟩:=Qm.obj;refine⟨_,rfl,a,dx,_,rfl,ha,cA (by decide +kernel),a,e,l,pl,rfl,Qm,λz=>?_,λwd r hl H1 S1 Mg MC=>?_⟩
 · subst z;exact q0 _ Ay
 subst hl;rw[qL L7] at q0 q1;refine⟨⟨_,rfl⟩,_,_,rfl,rfl,by decide +kernel,by rw[b9,Yb];have:=MC.1;omega,λsl NY=>?_⟩;rw[Ia,mM (by decide)];have RK:a≠p:=ao (hW.obj.choose_spec.choose_spec.choose_spec.choose_spec) hp;have e1:H1 p=some (.lst []):=S1 p _ ae RK.symm;have Tp:sl≠p:=by
  rintro rfl;rw[e1] at NY;cases NY
 have Pu:aM a H H1:=S0.x.trans S1;have RM:H sl=none:=Pu.free NY (by
  rintro rfl;rw[Mg.obj.choose_spec.choose_spec.choose_spec.choose_spec] at NY;cases NY)
 have eP:List.map (λx=>V.str x) (List.map st (aY 44 [] (tx wd.w)))=sV (aY 44 [] (tx wd.w)):=by
  unfold sV;rw[X_];rfl
 rw[eP];unfold setM at q0 q1;have LY:(aY 44 [] (tx wd.w)).length<=70001:=by
  have:=fj 44 (tx wd.w) [];have:=MC.1;omega
 have Qn:∀v∈aY 44 [] (tx wd.w),v.length<=70000/\∀c∈v,c < 128:=λv hv=>by
  obtain⟨z1,z2⟩:=dY 44 (tx wd.w) [] v hv;refine⟨by simp at z1;have:=MC.1;omega,λc hc=>?_⟩;rcases z2 c hc with z|z
  · cases z
  · exact MC.2 c z
 generalize aY 44 [] (tx wd.w)=ps at q0 q1 LY Qn;obtain⟨dh,wh,mh,nh,WD⟩:=hW.obj;refine⟨sl,rfl,⟨_,aO.of ae⟩,cM (K:=K) (a:=sl) (xs:=sV ps) (λi σ H'=>∃(v3 v4:Option V) (acc:aar),σ=[some (.ref a),some (.ref fa),some (.ref p),v3,v4]/\aM a H H'/\aX K CW H' a e r wd.at_ /\
   H' p=some (.lst (nV acc))/\H' sl=some (.lst (sV ps))/\acc.length<=i/\i<=ps.length/\jl fld (ps.drop i) acc=jl fld ps [])
  ⟨none,none,[],rfl,Pu.laid RM,Mg.same ((au.refl H1).laid NY),by rw[aq Tp.symm];exact e1,ae,XT _,Ye _,rfl⟩ (λi σ H' _ ⟨_,_,_,_,_,_,_,z,_⟩=>aO.of z) ?_ ?_⟩
 · rintro i x σ H' hi ⟨v3,v4,acc,rfl,SX,MD,e2,e3,Qo,LX,hc⟩;have LX:i < ps.length:=by
    have:=(XY.mp hi).1
    rwa [dJ] at this
   have hx:x=.str (st ps[i]):=by
    rw[Bf (XU LX)] at hi;exact (Yl hi).symm
   subst hx;have Tq:=Qn ps[i] (Zz LX);rw[Y4 LX] at hc;generalize ps[i]=pt at hc Tq;have hc:(if Fits fld acc pt then jl fld (ps.drop (i+1)) (acc++[(ay pt).toNat]) else none)=jl fld ps []:=hc;obtain⟨MK,wl',m',np',Rg⟩:=MD.obj;refine cG (gC (wd:=pt) (ag rfl) Tq) ?_;have Oq:=SX.seq WD hF;have fail:¬Fits fld acc pt->Rz CF E 4 (wd.at_:Nat):=λz=>by
    rw[XI z] at hc;rw[←hc] at q0;exact q0 _ rfl
   dsimp only;refine aU (b:=!decide (Fits fld acc pt)) ?_ (λh=>?_) (λh=>?_)
   · cases hl:acc.getLast? with
     |none =>
      have:acc=[]:=by simpa using hl
      subst this;refine yt (gO (aI (mE (ag rfl) (ag rfl) (.inl Oq) rfl (fZ fld))) λ_=>qC (c:=false) (jG (aT (ag rfl) (.inl (aO.of e2))) aD) λz=>absurd z (by decide)) ?_;rw[Bool.and_false,ZV,←zW,←nP];rfl
     |some y =>
      have L0:0 < acc.length:=by
       cases acc with
       |nil=>cases hl
       |cons _ _=>exact Nat.succ_pos _
      refine yt (gO (aI (mE (ag rfl) (ag rfl) (.inl Oq) rfl (fZ fld))) λ_=>qC (jG (aT (ag rfl) (.inl (aO.of e2))) aD) λz=>jG (ag rfl) (a8 (ag rfl) (tH aD) (aO.of e2) (DG hl))) ?_;rw[←Ab hl,←nP,aL];rw[show decide ((acc.length:Int) > 0)=true from Yn (by omega)];rfl
   · exact (a_ (ag rfl) Rg T.cl (T.no _ (by simp)) bO) _ ⟨4,_,rfl,fail (by simpa using h)⟩
   · have Pw:Fits fld acc pt:=by simpa using h
     rw[XJ Pw] at hc;obtain⟨n,hn,_⟩:=Pw;have en:(ay pt).toNat=n:=by omega
     rw[en] at hc;have eA:nV acc++[V.int (n:Nat)]=nV (acc++[n]):=by
      unfold nV;rw[X3];rfl
     rw[hn];refine⟨_,rfl,.inl ⟨rfl,_,aO.of e2⟩,_,rfl,p,_,_,rfl,rfl,e2,by rw[aL,Yb];omega,?_⟩;rw[eA];exact⟨_,_,acc++[n],rfl,SX.laid hp,MD.put e2 HG,ae,by rw[aq Tp];exact e3,by rw[X6];simp;omega,LX,hc⟩
 · rintro σ H' ⟨v3,v4,acc,rfl,SX,MD,e2,e3,Qo,LX,hc⟩;rw[dJ,ZC] at hc;have hc:some acc=jl fld ps []:=hc;rw[←hc] at q1;exact⟨_,rfl,q1 _ _ _ rfl _ _ SX hp e2 MD⟩
end
theorem jV {C:Addr}{E:XK}{tp:TE}{D:Ends}{σ:L2.St}{H:Hp}{k p:Int}(h:Ev tp σ H (.int p))(q:Rz C E k p):Kj C E (cI (tC (.int k)) (cI tp eV)) D σ H:=h _ ⟨k,p,rfl,q⟩
section
variable {P:Program}{w:World}{K:aas}{mg:aau}{base:Heap}
theorem mL {CW CF:Addr} {H:Hp} {Q:VK} {E:XK} {a t:Addr} {e:Nat} {l:List Word} {pl:Nat} {s:String} (hp:plainT s=true) (hW:aX K CW H a e l pl) (hT:b6 K H t [V.str (Str.ofString s)]) (q0:∀x,must e s l=.error x->Rz CF E (x.kind:Nat) (x.place:Nat))
  (q1:∀r,must e s l=.ok r->∀H' v N6,aM a H H'->aX K CW H' a e r N6->Q v H'):qk K CW CF [.ref a,.ref t] H Q E:=by
 have one:∀wd:Word,m8 [s] wd↔wd.w=ascii s:=λwd=>by
  rw[←bo _ hp];unfold m8;exact⟨λ⟨x,h1,h2⟩=>by rw[XZ] at h1;subst h1;exact h2,λh=>⟨s,List.mem_singleton_self s,h⟩⟩
 refine⟨a,t,[s],e,l,pl,rfl,hW,hT,λz=>?_,λwd r hl hn=>?_,λwd r hl ho H' S h'=>?_⟩
 · subst z;exact q0 _ CI
 · subst hl;refine q0 ⟨3,wd.at_⟩ ?_;rw[rD,XI (λz=>hn ((one wd).mpr z))]
 · subst hl;refine q1 r ?_ H' _ _ S h';rw[rD,XJ ((one wd).mp ho)]
def Fj (K:aas)(CW CF:Addr)(a:Addr)(e:Nat)(H:Hp)(Q:VK)(E:XK)(x:Got):Prop:=(∀t,x=.error t->Rz CF E (t.kind:Nat) (t.place:Nat)) /\
 ∀s r,x=.ok (s,r)->∀H' y pl,aM a H H'->k7 H' y s->aX K CW H' a e r pl->Q (.ref y) H'
def CS (K:aas)(CW CF:Addr):Sp:=λvs H Q E=>∃(a f:Addr) (fd:aar) (k e:Nat) (l:List Word) (pl:Nat),vs=[.ref a,.ref f,.int (k:Nat)]/\aX K CW H a e l pl/\aO K H f (nV fd)/\(∀x∈fd,x<=24)/\Fj K CW CF a e H Q E (xP e k fd l)
theorem C6:aG ["words","field","size","numbers"] ["words","field","size"] (aw jd):=fs
theorem HP {CW CF aW:Addr}(G:GW mg)(B:GB K mg aW)(T:CK K mg "Words" cx CW)(FL:Flt P w K mg base CF){k:Nat}(hk:2<=k)(FS:Fn P w K mg base (eW P w CF) k "take_set" ["words","field"] (uT K CW CF))
  {f:Addr}{fd:FuncData}(F:dm K "take_box" "take_box" jd f fd):a9 P w K mg base (eW P w CF) (k+1) f fd ["words","field","size"] (CS K CW CF):=by
 refine F.lW C6 λLP A outer s H vs Q E hr h=>?_;obtain⟨a,fa,fld,sz,e,l,pl,rfl,hW,hF,L7,q0,q1⟩:=h;refine⟨_,af (aZ 3 C6.nd (aV FS hr (bR aH rfl rfl) (aa (pv 0) (aa (pv 1) ah))))
  (af (aP (aA nS (bf G.len (pv 3)) (pv 2) (aJ _)) (ak (fN FL aH (hr.mono hk) (aa (bb B.num) (aa (aS (pv 0) rfl) ah)))) aB)
  (ak (az (bT (aa (pv 3) ah))))),?_⟩
 unfold xP at q0 q1;refine⟨_,rfl,_,rfl,a,fa,fld,e,l,pl,rfl,hW,hF,L7,λt ht=>?_,λst p r Ms H1 x S1 hx ME Mg=>?_⟩
 · rw[ht] at q0;exact q0 _ rfl
 rw[Ms] at q0 q1;obtain⟨Ql,RI,m1,RJ,Mo⟩:=Mg.obj;obtain⟨_,_,wd,_,LY,_⟩:=di L7 Ms;refine aU (jG (aT (ag rfl) (.inl (aO.of ME))) (ag rfl)) (λh=>?_) (λh=>?_)
 · rw[aL] at h;have h:=X4 h;have q0:=q0 ⟨4,p⟩ (by show (if sz<=st.length then _ else _)=_;rw[XI (by omega)]);exact (a_ (ag rfl) Mo T.cl (T.no _ (by simp)) bO) _ ⟨4,_,rfl,q0⟩
 · rw[aL] at h;have h:=Yr h;have q1:=q1 [st] r (by show (if sz<=st.length then _ else _)=_;rw[XJ (by omega)]);refine⟨_,rfl,(by show 1<=sizeLine;decide),λy hy=>q1 _ y p (λb u z n=>?_) ⟨[x],ae,.cons ?_ .nil⟩ (Mg.same ((au.refl H1).laid hy))⟩
   · have:=S1 b u z n;rw[aq (ao this hy)];exact this
   · rw[aq (ao ME hy)];exact ME
theorem bK.Iy {fd s:aar}(g:bK fd s)(h:∀x∈fd,x<=24):s.length<=25:=by
 have:=h_ (m:=List.range 25) g.rise.nodup λx hx=>Zw.mpr (by have:=h x (g.sub x hx);omega);simpa using this
def Cq (K:aas)(CW CF:Addr):Sp:=λvs H Q E=>∃(a f:Addr) (fd:aar) (k e:Nat) (l:List Word) (pl:Nat),vs=[.ref a,.ref f,.int (k:Nat)]/\aX K CW H a e l pl/\aO K H f (nV fd)/\(∀x∈fd,x<=24)/\Fj K CW CF a e H Q E (yd e k fd l)
theorem ph:aG ["words","field","size","bankers","others","number"] ["words","field","size"] (aw ji):=fs
theorem Hx {CW CF aW:Addr}(G:GW mg)(B:GB K mg aW)(T:CK K mg "Words" cx CW)(FL:Flt P w K mg base CF){k:Nat}(hk:2<=k)(FS:Fn P w K mg base (eW P w CF) k "take_set" ["words","field"] (uT K CW CF))(FO:o7 P w K mg base (eW P w CF) k CW "take_one_of" ["self","known"] (qk K CW CF))
  {f:Addr}{fd:FuncData}(F:dm K "take_key" "take_key" ji f fd):a9 P w K mg base (eW P w CF) (k+1) f fd ["words","field","size"] (Cq K CW CF):=by
 refine F.lW ph λLP A outer s H vs Q E hr h=>?_;obtain⟨a,fa,fld,sz,e,l,pl,rfl,hW,hF,L7,q0,q1⟩:=h;refine⟨_,af (o4 (i:=3) ph.nd rfl (Or.inr rfl) (aV FS hr (bR aH rfl rfl) (aa (pv 0) (aa (pv 1) ah))))
  (af (aP (aA kZ (bf G.len (pv 3)) (bJ fH (pv 2) ax) (aJ _)) (ak (fN FL aH (hr.mono hk) (aa (bb B.num) (aa (aS (pv 0) rfl) ah)))) aB)
  (af (cX (lq FO T.cl (pv 0) hr (bR aH rfl rfl) (aa (dg (aa bt ah)) ah)))
  (af (aZ 4 ph.nd (aV FS hr (bR aH rfl rfl) (aa (pv 0) (aa (pv 1) ah))))
  (af (aP (PW.pt (eD (ib (bX (Cu rfl) (by rfl) B.any (by decide +kernel) (aa (fz (te:=kK (HJ K false) (cJ 5) (cJ 3)) rfl ph.nd (bG (pv 4)) (bz (own:=[("number",5)]) rfl) (λ_ _ _ _ _=>bh 5 ph.nd) (λ_ _ _ _ _=>cp)
    (λ_ _ _ _ _=>fm gg (pv 5) (pv 3) (by with_unfolding_all rfl))) ah)))
    (cU (aA nS (bJ eK (bf G.len (pv 3)) (bf G.len (pv 4))) (pv 2) (aJ _))))) (ak (fN FL aH (hr.mono hk) (aa (bb B.num) (aa (aS (pv 0) rfl) ah)))) aB)
  (ak (az (bT (aa (pv 3) (aa (pv 4) ah))))))))),?_⟩
 unfold yd at q0 q1;obtain⟨d0,w0,m0,n0,Mi⟩:=hW.obj;refine⟨_,rfl,_,rfl,a,fa,fld,e,l,pl,rfl,hW,hF,L7,λt ht=>?_,λsa p r Tr H1 x S1 hx ME Mg=>?_⟩
 · rw[ht] at q0;exact q0 _ rfl
 rw[Tr] at q0 q1;obtain⟨Ql,RI,m1,RJ,Mo⟩:=Mg.obj;obtain⟨ga,_⟩:=di L7 Tr;have q0:∀t,sM e sz fld sa p r=.error t->Rz CF E (t.kind:Nat) (t.place:Nat):=q0;have q1:∀s u,sM e sz fld sa p r=.ok (s,u)->_:=q1;unfold sM at q0 q1;have Ts:x≠a:=(ao Mi hx).symm;refine aU (jG (aT (ag rfl) (.inl (aO.of ME))) (pS (ag rfl) aD)) (λh=>?_) (λh=>?_)
 · rw[aL] at h;have h:=X4 h;rw[XI (by omega)] at q0;exact (a_ (ag rfl) Mo T.cl (T.no _ (by simp)) bO) _ ⟨4,_,rfl,q0 _ rfl⟩
 rw[aL] at h;have h:=Yr h;rw[XJ (by omega)] at q0 q1;refine⟨_,rfl,a,Ql,_,rfl,Mo,cA (by decide +kernel),(by show 1<=sizeLine;decide),λt ht=>?_⟩;have St:au H1 (upd H1 t (.tup [V.str (Str.ofString "with")])):=(au.refl H1).laid ht;show eV _ _ _;unfold eV;dsimp only [YJ];refine mL (s:="with") (by decide +kernel) (Mg.same St) (b6.of ae) (λy hy=>?_) (λm hm H2 v Oy S2 NI=>?_)
 · rw[hy] at q0;exact q0 _ rfl
 rw[hm] at q0 q1;have q0:∀t,sG e sz fld sa m=.error t->Rz CF E (t.kind:Nat) (t.place:Nat):=q0;have q1:∀s u,sG e sz fld sa m=.ok (s,u)->_:=q1;unfold sG at q0 q1;have Qp:aM a H H2:=(S1.trans St.x).trans S2;have WE:H2 x=some (.lst (nV sa)):=S2 _ _ (St _ _ ME) Ts;refine⟨_,rfl,_,rfl,a,fa,fld,e,m,Oy,rfl,NI,Qp.seq Mi hF,L7,λt ht=>?_,λsb p2 r2 MX H3 y S3 hy RN OA=>?_⟩
 · rw[ht] at q0;exact q0 _ rfl
 rw[MX] at q0 q1;have q0:∀t,(if (∀x∈sb,¬x∈sa)/\sz<=sa.length+sb.length then (Except.ok ([sa,sb],r2):Got) else .error ⟨4,p2⟩)=.error t->Rz CF E (t.kind:Nat) (t.place:Nat):=q0;have q1:∀s u,(if (∀x∈sb,¬x∈sa)/\sz<=sa.length+sb.length then (Except.ok ([sa,sb],r2):Got) else .error ⟨4,p2⟩)=.ok (s,u)->_:=q1;obtain⟨gb,_⟩:=di L7 MX;have Qq:H3 x=some (.lst (nV sa)):=S3 _ _ WE Ts;have Qr:aM a H H3:=Qp.trans S3;obtain⟨dx3,wl3,m3,np3,WG⟩:=OA.obj;have lb:sb.length<=25:=gb.Iy L7;refine⟨_,rfl,y,rfl,⟨_,aO.of RN⟩,λD hD=>iZ (K:=K) (a:=y) (xs:=nV sb) (λi H'=>au H3 H'/\H' D=some (.lst ((sb.take i).map λn=>V.bl (decide (n∈sa))))) ⟨(au.refl H3).laid hD,ae⟩ (λi H' _ h=>aO.of (h.1 _ _ RN)) ?_ ?_⟩
 · rintro i v H' hi ⟨k1,k2⟩;obtain⟨n,hn,rfl⟩:∃n,sb[i]?=some n/\V.int (n:Nat)=v:=by
    unfold nV at hi;rw[XO] at hi;exact Yj.mp hi
   refine⟨rfl,?_⟩;refine (mE (neg:=false) (ag rfl) (ag rfl) (.inl (aO.of (k1 _ _ Qq))) rfl (fZ sa)) _ ⟨_,k2,?_,?_⟩
   · rw[XH,X7,Yb];omega
   · refine⟨λb u z=>?_,?_⟩
     · rw[aq (ao z hD)];exact k1 b u z
     · have e1:og (V.int (n:Nat)) (nV sa)=decide (n∈sa):=by
        rw[nP,Zu]
        exact⟨λ⟨m,h1,h2⟩=>by have:n=m:=by omega
                             subst this;exact h1,λh=>⟨n,h,rfl⟩⟩
       rw[ae,take_snoc hn,X3];show some (HO.lst (_++[V.bl (og (V.int (n:Nat)) (nV sa))]))=_;rw[e1];rfl
 · rintro H' ⟨k1,k2⟩;have k2:H' D=some (.lst ((sb.take (nV sb).length).map λn=>V.bl (decide (n∈sa)))):=k2;rw[aL,YE] at k2;refine⟨D,sb.map λn=>decide (n∈sa),rfl,aO.of (by rw[k2,X_];rfl),_,rfl,?_⟩;have eA:((sb.map λn=>decide (n∈sa)).any id)=!decide (∀x∈sb,¬x∈sa):=by
    rw[Ym,Z4];simp
   rw[eA];have N7:=k1 _ _ Qq;have RO:=k1 _ _ RN;have Qs:=k1 _ _ WG;have Qt:=OA.same k1;refine gI (λh=>?_) (λh=>?_)
   · have h:¬∀x∈sb,¬x∈sa:=by simpa using h
     rw[XI (λz=>h z.1)] at q0;refine p_ ?_;exact jV (a_ (ag rfl) Qs T.cl (T.no _ (by simp)) bO) (q0 _ rfl)
   · have L1:∀x∈sb,¬x∈sa:=by simpa using h
     refine aU (jG (jL (aT (ag rfl) (.inl (aO.of N7))) (aT (ag rfl) (.inl (aO.of RO)))) (ag rfl)) (λh=>?_) (λh=>?_)
     · rw[aL,aL] at h;have h:=X4 h;rw[XI (λz=>by have:=z.2;omega)] at q0;exact jV (a_ (ag rfl) Qs T.cl (T.no _ (by simp)) bO) (q0 _ rfl)
     · rw[aL,aL] at h;have h:=Yr h;rw[XJ ⟨L1,by omega⟩] at q1;refine⟨_,rfl,_,rfl,(by show 2<=sizeLine;decide),λu hu=>q1 _ _ rfl _ u p2 (λb o z n=>?_) ⟨[x,y],ae,.cons ?_ (.cons ?_ .nil)⟩ (Qt.same ((au.refl H').laid hu))⟩
       · have:=k1 b o (Qr b o z n);rw[aq (ao this hu)];exact this
       · rw[aq (ao N7 hu)];exact N7
       · rw[aq (ao RO hu)];exact RO
end
theorem zF {e:Nat}{h:aar}{t acc:aaq}{l:List Word}:jq e (h::t) acc l=match (if 0 < acc.length then must e "/" l else .ok l) with
  |.error x=>.error x
  |.ok m=>match setIn e h m with
   |.error x=>.error x
   |.ok s=>jq e t (acc++[s.1.1]) s.2:=rfl
section
variable {P:Program}{w:World}{K:aas}{mg:aau}{base:Heap}
def GX (K:aas) (CW CF:Addr):Sp:=λvs H Q E=>∃(a f:Addr) (fs:aaq) (e:Nat) (l:List Word) (pl:Nat),vs=[.ref a,.ref f]/\aX K CW H a e l pl/\bC K H f fs/\fs.length<=24/\(∀fd∈fs,∀x∈fd,x<=24)/\Fj K CW CF a e H Q E (jq e fs [] l)
theorem AU:aG ["words","fields","sets","field"] ["words","fields"] (aw j4):=fs
theorem IY {CW CF aW:Addr}(G:GW mg)(B:GB K mg aW)(T:CK K mg "Words" cx CW)(FL:Flt P w K mg base CF){k:Nat}(hk:2<=k)(FS:Fn P w K mg base (eW P w CF) k "take_set" ["words","field"] (uT K CW CF))(FO:o7 P w K mg base (eW P w CF) k CW "take_one_of" ["self","known"] (qk K CW CF))
  {f:Addr}{fd:FuncData}(F:dm K "take_on" "take_on" j4 f fd):a9 P w K mg base (eW P w CF) (k+1) f fd ["words","fields"] (GX K CW CF):=by
 refine F.lW AU λLP A outer s H vs Q E hr h=>?_;obtain⟨a,fa,fs,e,l,pl,rfl,hW,⟨MM,Qu,Qv⟩,ND,L7,q0,q1⟩:=h;refine⟨_,af (aZ 2 AU.nd (bT ah))
  (af (cT (yx aH) rfl (bG (pv 1)) (bh 3 AU.nd)
   (af (aP (aA kZ (bf G.len (pv 2)) ax (aJ _)) (ak (cX (lq FO T.cl (pv 0) hr (bR aH rfl rfl) (aa (dg (aa bt ah)) ah)))) aB)
   (ak (cX (lQ PySem.F.plainAttrs_list PySem.F.slot_list_append PySem.F.type_list_append gf (pv 2) (aa (aV FS hr (bR aH rfl rfl) (aa (pv 0) (aa (pv 3) ah))) ah))))))
  (ak (az (pv 2)))),?_⟩
 obtain⟨d0,w0,m0,n0,Mi⟩:=hW.obj;have MU:MM.length=fs.length:=Paired.length Qv;refine⟨Ye _,λp hp=>?_⟩;have S0:au H (upd H p (.lst [])):=(au.refl H).laid hp;have Tt:a≠p:=ao Mi hp;refine⟨_,rfl,fa,rfl,⟨_,S0.seq Qu⟩,cM (K:=K) (a:=fa) (xs:=MM.map V.ref) (λi σ H'=>∃(v3:Option V) (acc:aaq) (M7:List Addr) (l':List Word) (N6:Nat),σ=[some (.ref a),some (.ref fa),some (.ref p),v3]/\aM a H H'/\aX K CW H' a e l' N6 /\
   H' p=some (.lst (M7.map V.ref))/\Paired (λb ns=>b≠p/\H' b=some (.lst (nV ns))) M7 acc/\acc.length=i/\i<=fs.length/\jq e (fs.drop i) acc l'=jq e fs [] l)
  ⟨none,[],[],l,pl,rfl,S0.x,hW.same S0,ae,.nil,rfl,Ye _,rfl⟩ (λi σ H' _ ⟨_,_,_,_,_,_,SX,_⟩=>SX.seq Mi Qu) ?_ ?_⟩
 · rintro i x σ H' hi ⟨v3,acc,M7,l',N6,rfl,SX,MD,e2,hP,Qo,LX,hc⟩;rw[XO] at hi;obtain⟨fi,WH,rfl⟩:=Yj.mp hi;obtain⟨fl,N8,WI⟩:=Paired.qP Qv WH;have LX:i < fs.length:=(XY.mp N8).1;have hd:fs.drop i=fl::fs.drop (i+1):=by
    rw[Y4 LX];congr 1;exact Yl ((XU LX).symm.trans N8)
   rw[hd,zF] at hc;have WJ:=L7 fl (Yc N8);obtain⟨d1,w1,m1,n1,Mo⟩:=MD.obj;have Pk:M7.length=acc.length:=Paired.length hP;dsimp only;refine aU (b:=decide (0 < acc.length)) (yt (jG (aT (ag rfl) (.inl (aO.of e2))) aD) ?_) (λh=>?goA) (λh=>?goB)
   · rw[XH,Pk,Zu];omega
   case' goA =>
    have h:=X4 h;rw[XJ h] at hc;refine⟨_,rfl,a,d1,_,rfl,Mo,cA (by decide +kernel),(by show 1<=sizeLine;decide),λt ht=>?_⟩;have St:au H' (upd H' t (.tup [V.str (Str.ofString "/")])):=(au.refl H').laid ht;show eV _ _ _;unfold eV;dsimp only [YJ];refine mL (s:="/") (by decide +kernel) (MD.same St) (b6.of ae) (λy hy=>?_) (λm hm H2 v Oy S2 NI=>?_)
    · rw[hy] at hc;exact q0 _ hc.symm
    rw[hm] at hc;have OB:aM a H H2:=(SX.trans St.x).trans S2;have Qw:H2 p=some (.lst (M7.map V.ref)):=S2 _ _ (St _ _ e2) Tt.symm;have Tu:Paired (λb ns=>b≠p/\H2 b=some (.lst (nV ns))) M7 acc:=Paired.d9 hP λb ns z=>⟨z.1,S2 _ _ (St _ _ z.2) (dG z.2 Mo (by intro q;cases q))⟩;clear e2 hP MD Mo St S2 SX
   case' goB =>
    have h:=Yr h;rw[XI h] at hc;obtain⟨H2,Qj⟩:∃H2,H2=H':=⟨_,rfl⟩;obtain⟨m,hm⟩:∃m,m=l':=⟨_,rfl⟩;obtain⟨Oy,RP⟩:∃m,m=N6:=⟨_,rfl⟩;rw[←hm] at hc MD;rw[←RP] at MD;rw[←Qj] at MD e2 hP SX;rw[←Qj];have NI:=MD;have OB:=SX;have Qw:=e2;have Tu:=hP
   all_goals
    dsimp only at hc;obtain⟨d2,w2,m2,n2,Px⟩:=NI.obj;refine⟨_,rfl,.inl ⟨rfl,_,aO.of Qw⟩,?_⟩;refine⟨_,rfl,_,rfl,a,fi,fl,e,m,Oy,rfl,NI,OB.seq Mi WI,WJ,λt ht=>?_,λst q r Ms H3 x S3 hx Qq OA=>?_⟩
    · rw[ht] at hc;exact q0 _ hc.symm
    rw[Ms] at hc;dsimp only at hc;have Pd:x≠p:=(ao Qw hx).symm;have e3:H3 p=some (.lst (M7.map V.ref)):=S3 _ _ Qw Tt.symm;refine⟨p,_,_,rfl,rfl,e3,by rw[XH,Yb];omega,?_⟩;refine⟨_,acc++[st],M7++[x],r,q,rfl,(OB.trans S3).laid hp,OA.put e3 DQ,?_,?_,by simp[Qo],LX,hc⟩
    · rw[ae,X3];rfl
    · refine Paired.snoc (Paired.d9 Tu λb ns z=>⟨z.1,?_⟩) ⟨Pd,by rw[aq Pd];exact Qq⟩;rw[aq z.1];exact S3 _ _ z.2 (dG z.2 Px (by intro q;cases q))
 · rintro σ H' ⟨v3,acc,M7,l',N6,rfl,SX,MD,e2,hP,Qo,LX,hc⟩;rw[XH,MU,ZC] at hc;exact⟨_,rfl,q1 _ _ hc.symm _ _ N6 SX ⟨M7,e2,Paired.d9 hP λb ns z=>z.2⟩ MD⟩
end
section
variable {P:Program}{w:World}{K:aas}{mg:aau}{base:Heap}
theorem EW {H:Hp} {fa:Addr} {p:aK} (o:DU p) (h:bC K H fa p.fields):∃(as:List Addr) (b:Addr),aO K H fa (as.map V.ref)/\as.length=p.fields.length/\nU (as.map V.ref) 0=some (V.ref b)/\aO K H b (nV (p.fields.getD 0 []))/\∀x∈p.fields.getD 0 [],x<=24:=by
 obtain⟨as,h1,h2⟩:=h;have hl:0 < p.fields.length:=YL.mpr o.ne;obtain⟨b,hb,hI⟩:=Paired.at2 h2 (XU hl);have eg:p.fields.getD 0 []=p.fields[0]:=by rw[Yq,XU hl];rfl
 refine⟨as,b,h1,Paired.length h2,?_,by rw[eg];exact hI,by rw[eg];exact o.hi _ (Zz hl)⟩;exact cv (j:=0) (by rw[XO,hb];rfl)
def wK (K:aas)(CW CF CP:Addr):Sp:=λvs H Q E=>∃(a b:Addr) (p:aK) (how e:Nat) (l:List Word) (pl:Nat),vs=[.ref a,.ref b,.int (how:Nat)]/\aX K CW H a e l pl/\dw K CP H b p/\DU p/\Fj K CW CF a e H Q E (fF e p how l)
theorem yN:aG ["words","pool","how","size"] ["words","pool","how"] (aw gM):=fs
theorem DO {CW CF CP aW:Addr}(G:GW mg)(B:GB K mg aW)(TP:CK K mg "Pool" hU CP){k:Nat}(FO:Fn P w K mg base (eW P w CF) k "take_on" ["words","fields"] (GX K CW CF))(FB:Fn P w K mg base (eW P w CF) k "take_box" ["words","field","size"] (CS K CW CF))(FK:Fn P w K mg base (eW P w CF) k "take_key" ["words","field","size"] (Cq K CW CF))
  {f:Addr}{fd:FuncData}(F:dm K "take_sets" "take_sets" gM f fd):a9 P w K mg base (eW P w CF) (k+1) f fd ["words","pool","how"] (wK K CW CF CP):=by
 refine F.lW yN λLP A outer s H vs Q E hr h=>?_;obtain⟨a,b,p,how,e,l,pl,rfl,hW,⟨dx,fa,hb,hF⟩,o,g⟩:=h;refine⟨_,af (aP (aA cn (pv 2) (bb B.on) (aJ _)) (ak (az (aV FO hr (bR aH rfl rfl) (aa (pv 0) (aa (aS (pv 1) rfl) ah))))) aB)
  (af (aZ 3 yN.nd (bf G.len (aS (pv 1) rfl)))
  (af (aP (aA cn (pv 2) (bb B.box) (aJ _)) (ak (az (aV FB hr (bR aH rfl rfl) (aa (pv 0) (aa (bp aN (aS (pv 1) rfl) ax (λ_ _=>rfl)) (aa (pv 3) ah)))))) aB)
  (ak (az (aV FK hr (bR aH rfl rfl) (aa (pv 0) (aa (bp aN (aS (pv 1) rfl) ax (λ_ _=>rfl)) (aa (pv 3) ah)))))))),?_⟩
 unfold fF at g;obtain⟨as,b0,h1,h2,h3,h4,h5⟩:=EW o hF;have Qx:∀{σ:L2.St},σ[1]?=some (some (V.ref b))->Ev (vd K (cJ 1) "fields") σ H (.ref fa):=λz=>a_ (ag z) hb TP.cl (TP.no _ (by simp)) mz;refine aU (aI (cb (ag rfl) aD)) (λh=>?_) (λh=>?_)
 · rw[a7] at h;have h:how=0:=by have:=Za h;omega
   rw[XJ h] at g;refine⟨_,rfl,Qx rfl _ ⟨a,fa,p.fields,e,l,pl,rfl,hW,hF,o.len,o.hi,g⟩⟩
 · rw[a7] at h;have h:¬how=0:=λz=>by rw[z] at h;cases h
   rw[XI h] at g;refine cG (aT (Qx rfl) (.inl h1)) ?_;rw[XH,h2];refine aU (aI (cb (ag rfl) aD)) (λh=>?_) (λh=>?_)
   · rw[a7] at h;have h:how=1:=by have:=Za h;omega
     rw[XJ h] at g;refine⟨_,rfl,(a8 (Qx rfl) aD h1 h3) _ ⟨_,rfl,⟨a,b0,_,_,e,l,pl,rfl,hW,h4,h5,g⟩⟩⟩
   · rw[a7] at h;have h:¬how=1:=λz=>by rw[z] at h;cases h
     rw[XI h] at g;refine⟨_,rfl,(a8 (Qx rfl) aD h1 h3) _ ⟨_,rfl,⟨a,b0,_,_,e,l,pl,rfl,hW,h4,h5,g⟩⟩⟩
end
end Bw
namespace L2
open PySem PySem.Spec PyProof.Rows
theorem uF {prog:Program}{w:World}{A:Around}{a:Addr}{u0 u1 u2 uy:Value}{n:Nat}{E:aat}{Q:aat}{s:Shared}{o:Obj}(ho:s.heap.get? a=some o)(hc:o.cls=.type "tuple")(hd:o.data=.seq #[u0,u1,u2] n)
  {b0 b1 b2:Bool}(e0:SeqAt.EqAt A s u0 uy b0)(e1:SeqAt.EqAt A s u1 uy b1)(e2:SeqAt.EqAt A s u2 uy b2){j:Nat}(hj:(b0=true/\j=0)∨(b0=false/\((b1=true/\j=1)∨(b1=false/\b2=true/\j=2))))
  (q:Q (.int (j:Nat) s.toks) {s with toks:=s.toks+1}):wpAny (model prog w) A (Builtin.«tuple.index» {pos:=[.ref a,uy]}) (λfin s'=>∃v,fin=Fin.done (Flow.ret v)/\Q v s') E s:=by
 show wpAny _ _ (selfAndSome "tuple.index" "index" 1 3 {pos:=[.ref a,uy]} >>= _) _ E s;refine XG (m:=selfAndSome "tuple.index" "index" 1 3 {pos:=[.ref a,uy]}) ?_;have h1:selfAndSome "tuple.index" "index" 1 3 {pos:=[.ref a,uy]}=pure (.ref a,[uy]):=by rfl
 rw[h1];refine XQ ?_;refine XG (m:=Builtin.Tuple.tupleItemsOf (.ref a)) (tupleItemsOf_ (items:=#[u0,u1,u2]) ⟨_,ho,hc,n,hd⟩ ?_);refine XG (m:=pure 0) (XQ ?_);refine XG (m:=pure 3) (XQ ?_);refine XG ?_;rw[Std.Legacy.Range.forIn_eq_forIn_range'];have hr:List.range' [:min 3 #[u0,u1,u2].size].start [:min 3 #[u0,u1,u2].size].size [:min 3 #[u0,u1,u2].size].step=[0,1,2]:=by
  show List.range' 0 ((min 3 3 - 0+1 - 1) / 1) 1=[0,1,2];decide
 rw[hr];have fin:∀(i:Nat),i=j->∀{R:ForInStep (Option PySem.Fin×Unit)->Shared->Prop},(∀v s',v=Value.int (j:Nat) s.toks->s'={s with toks:=s.toks+1}->R (.done (some (.done (.ret v)),())) s')->wpAny (model prog w) A (do let x ←retInt (i:Nat);pure (ForInStep.done (some x,()))) R E s:=λi hi R hR=>by
  subst hi;exact XG (XG (wpAny_mkInt (XQ (XQ (hR _ _ rfl rfl)))))
 rw[List.forIn_cons];refine XG (XG (e0 _ _ _ _ ?_));rcases hj with ⟨rfl,rfl⟩|⟨rfl,hj⟩
 · exact fin 0 rfl λv s' hv hs=>XQ (XQ ⟨v,rfl,by rw[hv,hs];exact q⟩)
 refine XQ ?_;show wpAny _ _ (forIn [1,2] _ _) _ _ _;rw[List.forIn_cons];refine XG (XG (e1 _ _ _ _ ?_));rcases hj with ⟨rfl,rfl⟩|⟨rfl,rfl,rfl⟩
 · exact fin 1 rfl λv s' hv hs=>XQ (XQ ⟨v,rfl,by rw[hv,hs];exact q⟩)
 refine XQ ?_;show wpAny _ _ (forIn [2] _ _) _ _ _;rw[List.forIn_cons];refine XG (XG (e2 _ _ _ _ ?_));exact fin 2 rfl λv s' hv hs=>XQ (XQ ⟨v,rfl,by rw[hv,hs];exact q⟩)
section
variable {X:Cx}
def IC (K:aas):V->List V->Hp->VK->Prop:=λx xs H Q=>∃(a:Addr) (y0 y1 y2 y:V) (j:Nat),x=V.ref a/\xs=[y]/\b6 K H a [y0,y1,y2]/\dM y=true/\[y0,y1,y2].all dM=true /\
 ((sF y0 y=true/\j=0)∨(sF y0 y=false/\((sF y1 y=true/\j=1)∨(sF y1 y=false/\sF y2 y=true/\j=2))))/\Q (.int (j:Nat)) H
theorem E3:CM X "tuple.index" (IC X.K):=by
 intro pins s σ H x xs v us Q I rx Q5 h;obtain⟨a,y0,y1,y2,y,j,rfl,rfl,hs,fy,Ny,hj,q⟩:=h;cases rx;obtain⟨uy,rfl,ry⟩:=Q5.one;obtain⟨LO,rv,⟨o,ho,hc,n,hd⟩,hz⟩:=I.tuple hs;have WK:=rv;cases rv with
 |cons r0 rv=>cases rv with
  |cons r1 rv=>cases rv with
   |cons r2 rv =>
    cases rv;have key:=λ(A:Around) (u:Value) (hu:u∈_)=>gG (A:=A) (s:=s) ry fy WK Ny u hu;have f0:dM y0=true:=Yd.mp Ny _ (by simp);have f1:dM y1=true:=Yd.mp Ny _ (by simp);have f2:dM y2=true:=Yd.mp Ny _ (by simp);rw[←lh r0 f0,←lh r1 f1,←lh r2 f2] at hj;exact Y3 PySem.F.slot_tuple_index ⟨_,ho,hc⟩ PySem.F.entry_tuple_index
     (uF ho hc hd (key _ _ (by simp)) (key _ _ (by simp)) (key _ _ (by simp)) hj ⟨.int (j:Nat),H,I.tok _,⟨_,rfl⟩,q⟩) (PySem.F.args_tuple_index_2 _ _)
end
end L2
namespace Bw
open PySem PySem.Spec PyProof.Rows L2 Tote
section
variable {P:Program}{w:World}{K:aas}{mg:aau}{base:Heap}
def BI (K:aas) (CW CF CP:Addr):Sp:=λvs H Q E=>∃(a b:Addr) (p:aK) (e:Nat) (l:List Word) (pl:Nat),vs=[.ref a,.ref b]/\aX K CW H a e l pl/\dw K CP H b p/\(l=[]->Rz CF E 3 (e:Nat)) /\
 (∀w r,l=w::r->jk p w.w=none->Rz CF E 3 (w.at_:Nat))/\(∀w r how,l=w::r->jk p w.w=some how->∀H',aM a H H'->aX K CW H' a e r w.at_->Q (.int (how:Nat)) H')
theorem G4:aG ["words","pool"] ["words","pool"] (aw iO):=fs
theorem Bz {k:Tote.Kind}:og (.str (st (cd (kindS k)))) [V.str (Str.ofString "order"),V.str (Str.ofString "any")]=(k==.order||k==.any):=by
 have:=B5 (kn:=["order","any"]) (w:=cd (kindS k));rw[show [V.str (Str.ofString "order"),V.str (Str.ofString "any")]=(["order","any"].map λs=>V.str (Str.ofString s)) from rfl,this];cases k <;> decide
theorem Ij {CW CF CP aW:Addr}(B:GB K mg aW)(T:CK K mg "Words" cx CW)(TP:CK K mg "Pool" hU CP){k:Nat}(FO:o7 P w K mg base (eW P w CF) k CW "take_one_of" ["self","known"] (qk K CW CF))
  {f:Addr}{fd:FuncData}(F:dm K "take_how" "take_how" iO f fd):a9 P w K mg base (eW P w CF) (k+1) f fd ["words","pool"] (BI K CW CF CP):=by
 refine F.lW G4 λLP A outer s H vs Q E hr h=>?_;obtain⟨a,b,p,e,l,pl,rfl,hW,⟨dx,fa,hb,hF⟩,q0,q1,q2⟩:=h;refine⟨_,af (aP (aA gg (aS (pv 1) rfl) (dg (aa bt (aa bt ah))) (by with_unfolding_all rfl))
   (ak (az (lQ PySem.F.plainAttrs_tuple PySem.F.slot_tuple_index PySem.F.type_tuple_index E3 (bb B.IM) (aa (lq FO T.cl (pv 0) hr (bR aH rfl rfl) (aa (bb B.IM) ah)) ah)))) aB)
  (af (cX (lq FO T.cl (pv 0) hr (bR aH rfl rfl) (aa (dg (aa bt ah)) ah)))
  (ak (az (bb B.on)))),?_⟩
 obtain⟨d0,w0,m0,n0,Mi⟩:=hW.obj;refine (a_ (ag rfl) hb TP.cl (TP.no _ (by simp)) i5) _ ⟨(by show 2<=sizeLine;decide),λt ht=>⟨t,_,rfl,.inr (b6.of ae),rfl,rfl,?_⟩⟩;have S0:au H (upd H t (.tup [V.str (Str.ofString "order"),V.str (Str.ofString "any")])):=(au.refl H).laid ht;have Qm:=hW.same S0;have Mo:=S0 _ _ Mi;refine⟨_,rfl,?_⟩;show if og (.str (st (cd (kindS p.kind)))) [V.str (Str.ofString "order"),V.str (Str.ofString "any")]=true then _ else _;rw[Bz];refine gI (λh=>?_) (λh=>?_)
 · have Py:cS p=true:=h;have OC:∀(x:String) (v:W),sF (V.str (Str.ofString x)) (V.str (st v))=decide (v=cd x):=λx v=>by
    show (Str.ofString x==st v)=_;rw[Ym,Yx,XS,kY,jx];exact⟨λz=>z.symm,λz=>z.symm⟩
   refine⟨.inr (.inl ⟨rfl,B.IX⟩),_,rfl,a,d0,_,rfl,Mo,cA (by decide +kernel),a,aW,["on","box","key"],e,l,pl,rfl,Qm,B.yr _,q0,λwd r hl hn=>?_,λwd r hl ho H' S h'=>?_⟩
   · refine q1 wd r hl ?_;unfold jk;have no:∀x∈["on","box","key"],plainT x=true->¬wd.w=ascii x:=λx hx hp z=>hn ⟨x,hx,(bo _ hp).mpr z⟩;rw[XI (no _ (by simp) (by decide +kernel)),XI (λz=>no _ (by simp) (by decide +kernel) z.1),XI (λz=>no _ (by simp) (by decide +kernel) z.1)]
   · have Tw:=bo (s:="on") wd.w (by decide +kernel);have Pz:=bo (s:="box") wd.w (by decide +kernel);have RQ:=bo (s:="key") wd.w (by decide +kernel);have S2:aM a H H':=S0.x.trans S;have q2:=λhow hh=>q2 wd r how hl hh H' S2 h';unfold jk at q2;by_cases c0:wd.w=ascii "on"
     · rw[XJ c0] at q2;exact⟨aW,_,_,_,_,0,rfl,rfl,B.yr _,rfl,rfl,.inl ⟨by rw[OC];exact Yn (Tw.mpr c0),rfl⟩,q2 0 rfl⟩
     · rw[XI c0] at q2;have RR:¬tx wd.w=cd "on":=λz=>c0 (Tw.mp z);by_cases c1:wd.w=ascii "box"
       · rw[XJ ⟨c1,Py⟩] at q2;exact⟨aW,_,_,_,_,1,rfl,rfl,B.yr _,rfl,rfl,.inr ⟨by rw[OC];exact Yv RR,.inl ⟨by rw[OC];exact Yn (Pz.mpr c1),rfl⟩⟩,q2 1 rfl⟩
       · rw[XI (λz=>c1 z.1)] at q2;have Tx:¬tx wd.w=cd "box":=λz=>c1 (Pz.mp z);have Od:tx wd.w=cd "key":=by
          obtain⟨x,hx,hw⟩:=ho;simp only[XN,Zv,or_false] at hx;rcases hx with rfl|rfl|rfl
          · exact absurd hw RR
          · exact absurd hw Tx
          · exact hw
         rw[XJ ⟨RQ.mp Od,Py⟩] at q2;exact⟨aW,_,_,_,_,2,rfl,rfl,B.yr _,rfl,rfl,.inr ⟨by rw[OC];exact Yv RR,.inr ⟨by rw[OC];exact Yv Tx,by rw[OC];exact Yn Od,rfl⟩⟩,q2 2 rfl⟩
 · have Py:cS p=false:=by
    unfold cS;simpa using h
   refine⟨_,rfl,a,d0,_,rfl,Mo,cA (by decide +kernel),(by show 1<=sizeLine;decide),λt2 WL=>?_⟩;have St:au H (upd (upd H t (.tup [V.str (Str.ofString "order"),V.str (Str.ofString "any")])) t2 (.tup [V.str (Str.ofString "on")])):=S0.trans ((au.refl _).laid WL);show eV _ _ _;unfold eV;dsimp only [YJ];have one:∀wd:Word,m8 ["on"] wd↔wd.w=ascii "on":=λwd=>by
    rw[←bo _ (by decide +kernel)];unfold m8;exact⟨λ⟨x,h1,h2⟩=>by rw[XZ] at h1;subst h1;exact h2,λh=>⟨_,List.mem_singleton_self _,h⟩⟩
   refine⟨a,t2,["on"],e,l,pl,rfl,hW.same St,b6.of ae,q0,λwd r hl hn=>?_,λwd r hl ho H' S h'=>?_⟩
   · refine q1 wd r hl ?_;unfold jk;rw[XI (λz=>hn ((one wd).mpr z)),XI (λz=>by rw[Py] at z;cases z.2),XI (λz=>by rw[Py] at z;cases z.2)]
   · refine q2 wd r 0 hl ?_ H' (St.x.trans S) h';unfold jk;rw[XJ ((one wd).mp ho)]
end
end Bw
namespace L2
open PySem PySem.Spec PyProof.Rows
theorem u_ {K:aas}{a:Addr}{xs:List V}{g:TG}{tb:TS}{D:Ends}{σ:L2.St}{H:Hp}(Pv:Nat->L2.St->Hp->Prop)(h0:Pv 0 σ H)(hl:∀i σ H,i<=xs.length->Pv i σ H->aO K H a xs)
  (hs:∀i x σ H T,xs[i]?=some x->Pv i σ H->H T=none->g (.ref T) σ (upd H T (.tup [.int (i:Nat),x])) λσ2 H2=>tb {D with nx:=Pv (i+1),ct:=Pv (i+1),bk:=D.nx} σ2 H2)(hd:∀σ H,Pv xs.length σ H->D.nx σ H) :
  ∃W:Nat->Nat->L2.St->Hp->Prop,(∃m,W 0 m σ H)/\∀i m σ H,W i m σ H ->
   ((FU K a).stop i H/\D.nx σ H)∨((FU K a).go i H/\∃N:L2.St->Hp->Prop,(∀σ' H',N σ' H'->∃m',m' < m/\W (i+1) m' σ' H')/\∀x H',(FU K a).we i H x H'->g x σ H' λσ2 H2=>tb {D with nx:=N,ct:=N,bk:=D.nx} σ2 H2):=by
 refine⟨λi m σ H=>m=xs.length - i/\i<=xs.length/\Pv i σ H,⟨xs.length,by simp,Ye _,h0⟩,?_⟩;rintro i m σ H ⟨rfl,hi,p⟩;have q:=hl i σ H hi p;by_cases LU:i < xs.length
 · refine .inr ⟨⟨xs,xs[i],q,by simp[LU]⟩,Pv (i+1),λσ' H' p'=>⟨xs.length - (i+1),by omega,rfl,LU,p'⟩,λx H' y=>?_⟩;obtain⟨T,v,rfl,hT,rfl,hx⟩:=y;exact hs i v σ _ T (hx xs q) p hT
 · have e:i=xs.length:=by omega
   subst e;exact .inl ⟨⟨xs,q,XT _⟩,hd σ H p⟩
end L2
namespace Bw
open PySem PySem.Spec PyProof.Rows L2 Tote
section
variable {K:aas}{CW CP:Addr}{H H':Hp}{a b:Addr}
theorem aM.lists {dx:Addr} {fs:List (Str×V)} {rs:aaq} (S:aM a H H') (ha:H a=some (.ins CW dx fs)) (h:bC K H b rs):bC K H' b rs:=by
 obtain⟨as,h1,h2⟩:=h;exact⟨as,S.seq ha h1,Paired.d9 h2 λ_ _ z=>S.seq ha z⟩
theorem Bn {C dx C' MK:Addr}{fs Mj:List (Str×V)}(h:fs.length≠Mj.length):HO.ins C dx fs≠HO.ins C' MK Mj:=by
 intro z;injection z with _ _ z;exact h (by rw[z])
theorem dw.jw {dx:Addr}{v0 v1 v2 v3 v4:V}{p:aK}(h:dw K CP H b p)(S:aM a H H')(ha:H a=some (.ins CW dx (bV v0 v1 v2 v3 v4))):dw K CP H' b p:=by
 obtain⟨d,fa,h1,h2⟩:=h;exact⟨d,fa,S _ _ h1 (dG h1 ha (Bn (by show 4≠5;decide))),aM.lists S ha h2⟩
theorem c_.jw {dx:Addr}{v0 v1 v2 v3 v4:V}{ps:List aK}(h:c_ K CP H b ps)(S:aM a H H')(ha:H a=some (.ins CW dx (bV v0 v1 v2 v3 v4))):c_ K CP H' b ps:=by
 obtain⟨as,h1,h2⟩:=h;exact⟨as,S.seq ha h1,Paired.d9 h2 λ_ _ z=>dw.jw z S ha⟩
end
section
variable {P:Program}{w:World}{K:aas}{mg:aau}{base:Heap}
def tu (K:aas) (CW CF CP:Addr):Sp:=λvs H Q E=>∃(a b:Addr) (ps:List aK) (e:Nat) (l:List Word) (pl:Nat),vs=[.ref b,.ref a]/\aX K CW H a e l pl/\c_ K CP H b ps/\(l=[]->Rz CF E 3 (e:Nat)) /\
 (∀w r,l=w::r->dU ps (tx w.w)=none->Rz CF E 5 (w.at_:Nat))/\(∀w r i,l=w::r->dU ps (tx w.w)=some i->∀H',aM a H H'->aX K CW H' a e r w.at_->Q (.int (i:Nat)) H')
theorem mD:aG ["pools","words","name","number","pool"] ["pools","words"] (aw gT):=fs
theorem BM {CW CF CP aW:Addr}(B:GB K mg aW)(T:CK K mg "Words" cx CW)(TP:CK K mg "Pool" hU CP)(FL:Flt P w K mg base CF){k:Nat}(hk:2<=k)(FT:o7 P w K mg base (eW P w CF) k CW "take" ["self"] (nH K CW CF))
  {f:Addr}{fd:FuncData}(F:dm K "take_pool" "take_pool" gT f fd):a9 P w K mg base (eW P w CF) (k+1) f fd ["pools","words"] (tu K CW CF CP):=by
 refine F.lW mD λLP A outer s H vs Q E hr h=>?_;obtain⟨a,b,ps,e,l,pl,rfl,hW,MN,q0,q1,q2⟩:=h;refine⟨_,af (aZ 2 mD.nd (j5 FT T.cl (pv 1) hr (bR aH rfl rfl)))
  (af (cT (yx aH) rfl (uD rfl B.enum (aa (pv 0) ah)) (lD rfl (cg (bh 3 mD.nd) (cg (bh 4 mD.nd) jh)))
   (ak (aP (aA cn (aS (pv 4) rfl) (pv 2) (aJ _)) (ak (az (pv 3))) aB)))
  (ak (fN FL aH (hr.mono hk) (aa (bb B.pool) (aa (aS (pv 1) rfl) ah))))),?_⟩
 obtain⟨d0,w0,m0,n0,Mi⟩:=hW.obj;refine⟨_,rfl,a,d0,_,rfl,Mi,cA (by decide +kernel),a,e,l,pl,rfl,hW,q0,λwd r hl H1 S1 Mg MC=>?_⟩;have RT:=c_.jw MN S1 Mi;obtain⟨as,hA,hP⟩:=RT;have q1:=q1 wd r hl;have q2:=λi=>q2 wd r i hl;generalize tx wd.w=nm at q1 q2;refine⟨_,rfl,b,_,rfl,hA,u_ (K:=K) (a:=b) (xs:=as.map V.ref) (λi σ H'=>∃(v3 v4:Option V),σ=[some (.ref b),some (.ref a),some (.str (st nm)),v3,v4]/\au H1 H'/\∀j p,j < i->ps[j]?=some p->¬p.name=nm)
  ⟨none,none,rfl,au.refl H1,λj p hj=>absurd hj (Nat.not_lt_zero j)⟩ (λi σ H' _ ⟨_,_,_,S,_⟩=>S.seq hA) ?_ ?_⟩
 · rintro i x σ H' tt hi ⟨v3,v4,rfl,S2,M5⟩ hT;rw[XO] at hi;obtain⟨ai,Mb,rfl⟩:=Yj.mp hi;obtain⟨p,hp,d,fa,M8,_⟩:=Paired.qP hP Mb;have S3:au H1 (upd H' tt (.tup [.int (i:Nat),.ref ai])):=S2.trans ((au.refl H').laid hT);refine⟨tt,_,rfl,b6.of ae,rfl,_,_,rfl,_,_,rfl,rfl,?_⟩;refine aU (aI (cb (a_ (ag rfl) (S3 _ _ M8) TP.cl (TP.no _ (by simp)) ll) (ag rfl))) (λh=>?_) (λh=>?_)
   · have h:p.name=nm:=by
      have:=X4 h;injection this with this;exact jx.mp this
     refine⟨_,rfl,q2 i ?_ _ (S1.trans S3.x) (Mg.same S3)⟩;unfold dU;rw[ZX];obtain⟨LX,WM⟩:=XY.mp hp;refine⟨LX,by rw[WM,h];exact beq_self_eq_true _,λj hj=>?_⟩;have:=M5 j _ hj (XU (by omega));simpa using this
   · have h:¬p.name=nm:=λz=>by
      have:=Yr h;exact this (by rw[z])
     refine⟨_,_,rfl,S3,λj p' hj PB=>?_⟩;by_cases WN:j=i
     · subst WN;rw[hp] at PB;injection PB with PB;subst PB;exact h
     · exact M5 j p' (by omega) PB
 · rintro σ H' ⟨v3,v4,rfl,S2,M5⟩;obtain⟨d1,w1,m1,n1,Mo⟩:=Mg.obj;dsimp only;refine jV (a_ (ag rfl) (S2 _ _ Mo) T.cl (T.no _ (by simp)) bO) (q1 ?_);unfold dU;rw[List.findIdx?_eq_none_iff];intro p hp;obtain⟨j,hj⟩:=List.mem_iff_getElem?.mp hp;have Ol:=(XY.mp hj).1;have:=M5 j p (by rw[XH,Paired.length hP];exact Ol) hj;simpa using this
end
def pJ:Bool->Nat->aar->Option Nat
 |_,_,[]=>none
 |gap,p,c::r=>if ¬(32<=c/\c<=126) then some p else if c=32/\(gap=true∨r=[]) then some p else pJ (c==32) (p+1) r
def vy (cs:aar):Option Nat:=if cs=[] then some 0 else pJ true 0 cs
theorem tf:∀(l:Bytes) (gap:Bool) (p:Nat),gap=false∨l≠[]->badByte gap p l=pJ gap p (l.map UInt8.toNat)
 |[],gap,p,h=>by
  have:gap=false:=by simpa using h
  subst this;rfl
 |c::r,gap,p,_=>by
  have Tz:c=32↔c.toNat=32:=⟨λz=>by rw[z];rfl,λz=>jF z⟩;have elt:(c < 32∨126 < c)↔¬(32<=c.toNat/\c.toNat<=126):=by
   rw[UInt8.lt_iff_toNat_lt,UInt8.lt_iff_toNat_lt];show c.toNat < 32∨126 < c.toNat↔_;omega
  show (if c < 32∨126 < c then some p else if c=32 then (if gap=true then some p else if r.isEmpty=true then some p else badByte true (p+1) r) else badByte false (p+1) r) =
   if ¬(32<=c.toNat/\c.toNat<=126) then some p else if c.toNat=32/\(gap=true∨r.map UInt8.toNat=[]) then some p else pJ (c.toNat==32) (p+1) (r.map UInt8.toNat)
  by_cases h1:c < 32∨126 < c
  · rw[XJ h1,XJ (elt.mp h1)]
  · rw[XI h1,XI (λz=>h1 (elt.mpr z))];by_cases h2:c=32
    · have Qy:=Tz.mp h2;rw[XJ h2,Qy];by_cases h3:gap=true
      · rw[XJ h3,XJ ⟨rfl,.inl h3⟩]
      · rw[XI h3];cases r with
        |nil=>rw[XJ (show ([]:Bytes).isEmpty=true from rfl),XJ ⟨rfl,.inr rfl⟩]
        |cons d r =>
         rw[XI (by simp),XI (by rintro⟨_,z|z⟩;exact h3 z;cases z)];exact tf (d::r) true (p+1) (.inr (by simp))
    · have Qy:¬c.toNat=32:=λz=>h2 (Tz.mpr z);rw[XI h2,XI (λz=>Qy z.1)];have:(c.toNat==32)=false:=by simpa using Qy
      rw[this];exact tf r false (p+1) (.inl rfl)
theorem Fq (l:Bytes):badByte true 0 l=vy (l.map UInt8.toNat):=by
 unfold vy;cases l with
 |nil=>rfl
 |cons c r =>
  rw[XI (by simp)];exact tf (c::r) true 0 (.inr (by simp))
theorem Jx {ns:aar}{i:Nat}(h:i < ns.length):nU (nV ns) ((i:Nat):Int)=some (.int (ns[i]:Nat)):=cv (by unfold nV;rw[XO,XU h];rfl)
section
variable {P:Program}{w:World}{K:aas}{mg:aau}{base:Heap}
def wI (K:aas) (CF:Addr):Sp:=λvs H Q E=>∃(a:Addr) (cs:aar),vs=[.ref a]/\aO K H a (nV cs)/\(∀i,vy cs=some i->Rz CF E 2 (i:Nat))/\(vy cs=none->∀H',au H H'->Q .b8 H')
theorem sT:aG ["line","place","code"] ["line"] (aw gd):=fs
theorem Fi {CF aW:Addr}(G:GW mg)(B:GB K mg aW)(FL:Flt P w K mg base CF)
  {f:Addr}{fd:FuncData}(F:dm K "check_line" "check_line" gd f fd):a9 P w K mg base (eW P w CF) 3 f fd ["line"] (wI K CF):=by
 refine F.lW sT λLP A outer s H vs Q E hr h=>?_;obtain⟨a,cs,rfl,hS,q0,q1⟩:=h;refine⟨_,af (aP (aA cn (bf G.len (pv 0)) ax (aJ _)) (ak (fN FL aH hr (aa (bb B.byte) (aa ax ah)))) aB)
  (ak (cT (yx aH) rfl (uD rfl B.enum (aa (pv 0) ah)) (lD rfl (cg (bh 1 sT.nd) (cg (bh 2 sT.nd) jh)))
   (af (aP (cB (cE cj cj ax (pv 2) ax)) (ak (fN FL aH hr (aa (bb B.byte) (aa (pv 1) ah)))) aB)
   (ak (aP (PW.pt (tV (aA cn (pv 2) (bb B.blank) (aJ _)) (oF (PW.pt (eD (aA gg (pv 1) (dg (aa ax (aa (bJ fH (bf G.len (pv 0)) ax) ah))) (by with_unfolding_all rfl))
    (cU (aA cn (bp aN (pv 0) (bJ fH (pv 1) ax) (λ_ _=>rfl)) (bb B.blank) (aJ _)))))))) (ak (fN FL aH hr (aa (bb B.byte) (aa (pv 1) ah)))) aB))))),?_⟩
 refine aU (aI (cb (aT (ag rfl) (.inl hS)) aD)) (λh=>?_) (λh=>?_)
 · rw[a7,aL] at h;have h:cs=[]:=by
    have:=Za h;exact Zy.mp (by omega)
   exact jV aD (q0 0 (by unfold vy;rw[XJ h]))
 rw[a7,aL] at h;have L0:cs≠[]:=λz=>by rw[z] at h;cases h
 have eL:vy cs=pJ true 0 cs:=by unfold vy;rw[XI L0]
 rw[eL] at q0 q1;refine⟨_,rfl,a,_,rfl,hS,u_ (K:=K) (a:=a) (xs:=nV cs) (λi σ H'=>∃(v1 v2:Option V) (gap:Bool),σ=[some (.ref a),v1,v2]/\au H H'/\(gap=true↔i=0∨cs[i - 1]?=some 32)/\pJ gap i (cs.drop i)=pJ true 0 cs)
  ⟨none,none,true,rfl,au.refl H,by simp,rfl⟩ (λi σ H' _ ⟨_,_,_,_,S,_⟩=>S.seq hS) ?_ ?_⟩
 · rintro i x σ H' tt hi ⟨v1,v2,gap,rfl,S2,hg,hc⟩ hT;have LX:i < cs.length:=by
    have:=(XY.mp hi).1
    rwa [aL] at this
   have hx:x=.int (cs[i]:Nat):=by
    unfold nV at hi;rw[XO,XU LX] at hi;exact (Yl hi).symm
   subst hx;have TC:cs[i]?=some cs[i]:=XU LX;rw[Y4 LX] at hc;have NJ:cs.drop (i+1)=[]↔i=cs.length - 1:=by
    rw[List.drop_eq_nil_iff];omega
   generalize QW:cs[i]=c at hc TC;have hc:(if ¬(32<=c/\c<=126) then some i else if c=32/\(gap=true∨cs.drop (i+1)=[]) then some i else pJ (c==32) (i+1) (cs.drop (i+1)))=pJ true 0 cs:=hc;have S3:au H (upd H' tt (.tup [.int (i:Nat),.int (c:Nat)])):=S2.trans ((au.refl H').laid hT);refine⟨tt,_,rfl,b6.of ae,rfl,_,_,rfl,_,_,rfl,rfl,?_⟩;refine aU (fh (cD aD (ag rfl) aD)) (λh=>?_) (λh=>?_)
   · simp only[Yy,Y5,Yp] at h;rw[XJ (by omega)] at hc;exact jV (ag rfl) (q0 i hc.symm)
   simp only[YB,XR,XS] at h;rw[XI (by omega)] at hc;have go:c=32->(gap=true∨cs.drop (i+1)=[])->Rz CF E 2 (i:Nat):=λz1 z2=>by
    rw[XJ ⟨z1,z2⟩] at hc;exact q0 i hc.symm
   have on:∀H4,au H H4->¬(c=32/\(gap=true∨cs.drop (i+1)=[]))->∃(v1 v2:Option V) (gap:Bool),[some (V.ref a),some (V.int (i:Nat)),some (V.int (c:Nat))]=[some (V.ref a),v1,v2]/\au H H4/\(gap=true↔i+1=0∨cs[i+1 - 1]?=some 32)/\pJ gap (i+1) (cs.drop (i+1))=pJ true 0 cs:=λH4 S4 hn=>by
    rw[XI hn] at hc;refine⟨_,_,(c==32),rfl,S4,?_,hc⟩;rw[show i+1 - 1=i by omega,TC,Yx];constructor
    · intro z;exact .inr (by rw[z])
    · rintro (z|z)
      · omega
      · exact Yl z
   refine (aI (cb (ag rfl) aD)) _ ?_;refine gI (λh1=>?_) (λh1=>?_)
   · have h1:c=32:=by
      rw[a7] at h1;have:=Za h1;omega
     refine⟨_,rfl,(pS (aT (ag rfl) (.inl (S3.seq hS))) aD) _ ⟨(by show 2<=sizeLine;decide),λt ht=>⟨t,_,rfl,.inr (b6.of ae),rfl,rfl,_,rfl,?_⟩⟩⟩;rw[aL];have S4:=S3.trans ((au.refl _).laid ht (o:=.tup [V.int 0,V.int ((cs.length:Int) - 1)]));have eI:og (V.int (i:Nat)) [V.int 0,V.int ((cs.length:Int) - 1)]=decide (i=0∨i=cs.length - 1):=by
      show ((0:Int)==(i:Nat)||((cs.length:Int) - 1==(i:Nat)||false))=_;rw[Ym];simp only[YH,Yx,XS,ZV];omega
     show if og (V.int (i:Nat)) [V.int 0,V.int ((cs.length:Int) - 1)]=true then _ else _;rw[eI];refine gI (λh2=>?_) (λh2=>?_)
     · refine p_ ?_;refine jV (ag rfl) (go h1 ?_);rcases X4 h2 with z|z
       · exact .inl (hg.mpr (.inl z))
       · exact .inr (NJ.mpr z)
     · have h2:¬(i=0∨i=cs.length - 1):=λz=>h2 (Yn z);have hi0:0 < i:=by omega
       refine aU (aI (cb (a8 (ag rfl) (pS (ag rfl) aD) (S4.seq hS) (by rw[show (((i:Nat):Int) - 1)=((i - 1:Nat):Int) by omega];exact Jx (by omega))) aD)) (λh3=>?_) (λh3=>?_)
       · refine jV (ag rfl) (go h1 (.inl (hg.mpr (.inr ?_))));rw[a7] at h3;have:=Za h3;rw[XU (by omega)];congr 1;omega
       · refine on _ S4 ?_;rintro⟨_,z|z⟩
         · rcases hg.mp z with z|z
           · omega
           · rw[XU (by omega)] at z;have z:=Yl z;rw[a7,z] at h3;cases h3
         · have:=NJ.mp z;omega
   · have h1:¬c=32:=λz=>by
      rw[a7,z] at h1;exact h1 rfl
     refine v8 ?_;exact on _ S3 λz=>h1 z.1
 · rintro σ H' ⟨v1,v2,gap,rfl,S2,hg,hc⟩;rw[aL,ZC] at hc;exact q1 hc.symm H' S2
end
end Bw
namespace L2
open PySem PySem.Spec PyProof.Rows
theorem oE {K:aas}{a:Addr}{xs:List V}{g:TG}{te:TE}{vs:aar}{σ:St}{H1:Hp}{D:Addr}{Qd:Hp->Prop}(F:Nat->V->Hp->Prop)(mono:∀i y H H',(∀b u,b≠D->H b=some u->H' b=some u)->F i y H->F i y H')(hA:aO K H1 a xs)(hD:H1 D=none)(hz:xs.length<=100000)
  (hs:∀i x H',xs[i]?=some x->au H1 H'->(∃acc,H' D=some (.lst acc))->∀R:VK,(∀y H4,au H' H4->F i y H4->R y H4)->g x (wipe σ vs) H' λσ2 H2=>wipe σ2 vs=wipe σ vs/\te σ2 H2 R)
  (hd:∀ys H',au H1 H'->H' D=some (.lst ys)->ys.length=xs.length->(∀i y,ys[i]?=some y->F i y H')->Qd H') :
  ∃W:Nat->Nat->Hp->Prop,(∃m,W 0 m (upd H1 D (.lst [])))/\∀i m H,W i m H ->
   ((C8 K a).stop i H/\Qd H)∨((C8 K a).go i H/\∃Nx:Hp->Prop,(∀H',Nx H'->∃m',m' < m/\W (i+1) m' H')/\∀x H',(C8 K a).we i H x H'->g x (wipe σ vs) H' λσ2 H2=>wipe σ2 vs=wipe σ vs/\A5 σ2 H2 λb H3 =>
    if b=true then te σ2 H3 λy H4=>∃acc,H4 D=some (.lst acc)/\acc.length < sizeLine/\Nx (upd H4 D (.lst (acc++[y]))) else Nx H3):=by
 refine iZ (tt:=A5) (xs:=xs) (λi H'=>au H1 H'/\∃ys,H' D=some (.lst ys)/\ys.length=i/\∀j y,ys[j]?=some y->F j y H') ⟨(au.refl H1).laid hD,[],ae,rfl,λj y h=>by simp at h⟩ (λi H' _ h=>h.1.seq hA) ?_ ?_
 · rintro i x H' hx ⟨S,ys,e,l,f⟩;refine hs i x H' hx S ⟨ys,e⟩ _ λy H4 S4 fy=>⟨ys,S4 _ _ e,?_,?_,ys++[y],ae,by rw[X6,l];rfl,?_⟩
   · have:=(XY.mp hx).1;rw[Yb];omega
   · intro b u z;rw[aq (ao z hD)];exact S4 b u (S b u z)
   · have up:∀b u,b≠D->H4 b=some u->(upd H4 D (.lst (ys++[y]))) b=some u:=λb u n z=>by rw[aq n];exact z
     intro j v h;by_cases z:j < ys.length
     · rw[List.getElem?_append_left z] at h;exact mono j v _ _ (λb u n z=>up b u n (S4 b u z)) (f j v h)
     · rw[aao (by omega)] at h;have:j - ys.length=0:=by
        have:=(XY.mp h).1;rw[YV] at this;omega
       rw[this] at h;cases h;have:j=i:=by omega
       subst this;exact mono j _ _ _ up fy
 · rintro H' ⟨S,ys,e,l,f⟩;exact hd ys H' S e l f
theorem pZ {xs:List V}{n:Nat}:fA xs (some ((n:Nat):Int)) none=xs.drop n:=by
 unfold fA;rw[HT.iQ,HT.iw];by_cases h:n<=xs.length
 · rw[ZJ h];exact YD (by rw[Yz];omega)
 · rw[Nat.min_eq_right (by omega),ZF (by omega:xs.length<=n),ZC];simp
theorem qr {xs:List V}{n:Nat}:fA xs none (some ((n:Nat):Int))=xs.take n:=by
 unfold fA;rw[HT.iQ,HT.iw,List.drop_zero,Nat.sub_zero];by_cases h:n<=xs.length
 · rw[ZJ h]
 · rw[Nat.min_eq_right (by omega),YD (XT _),YD (by omega)]
end L2
namespace Bw
open PySem PySem.Spec PyProof.Rows L2 Tote
structure GN (mg:aau):Prop where
 range:mg "range"=none
 list:mg "list"=none
 tuple:mg "tuple"=none
 sorted:mg "sorted"=none
 sum:mg "sum"=none
 runners:Gv mg "MOST_RUNNERS" (.int 24)
 zip:mg "zip"=none
 set:mg "set"=none
theorem zU (l:aar)(x:Nat):product (l++[x])=product l*x:=by
 unfold product;rw[List.foldl_append];rfl
theorem Cm {n:Nat}{l:aar}:og (V.int (n:Nat)) (nV l)=l.contains n:=by
 rw[nP,Ym,XS,YO,XS]
 exact⟨λ⟨m,h1,h2⟩=>by have:n=m:=by omega
                      subst this;exact h1,λh=>⟨n,h,rfl⟩⟩
theorem Dv {l:aar}{x:Nat}:nV (l++[x])=nV l++[V.int (x:Nat)]:=by
 unfold nV;rw[X3];rfl
theorem yu {l:aar}{i:Nat}{v:V}(h:(nV l)[i]?=some v):∃n,l[i]?=some n/\v=V.int (n:Nat):=by
 unfold nV at h;rw[XO] at h;obtain⟨n,h1,h2⟩:=Yj.mp h;exact⟨n,h1,h2.symm⟩
theorem jW {l:List Addr}{i:Nat}{v:V}(h:(l.map V.ref)[i]?=some v):∃n,l[i]?=some n/\v=V.ref n:=by
 rw[XO] at h;obtain⟨n,h1,h2⟩:=Yj.mp h;exact⟨n,h1,h2.symm⟩
section
variable {P:Program}{w:World}{K:aas}{mg:aau}{base:Heap}
def BP (K:aas):Sp:=λvs H Q _=>∃(a:Addr) (ns:aar),vs=[.ref a]/\aO K H a (nV ns)/\(∀n∈ns,n < 1000000)/\∀H',au H H'->Q (.int (product ns:Nat)) H'
theorem ox:aG ["numbers","product","number"] ["numbers"] (aw fV):=fs
theorem Fu {f:Addr}{fd:FuncData}(F:dm K "product_of" "product_of" fV f fd):a9 P w K mg base bF 1 f fd ["numbers"] (BP K):=by
 refine F.oo ox λLP A outer s H vs Q E hr h=>?_;obtain⟨a,ns,rfl,hS,hn,q⟩:=h;refine⟨_,af (aZ 1 ox.nd ax)
  (af (cT YM rfl (bG (pv 0)) (bh 2 ox.nd) (ak (BV (i:=1) ox.nd rfl (Or.inl rfl) (pv 2) Dz)))
  (ak (az (pv 1)))),?_⟩
 refine cG aD ?_;refine⟨_,rfl,a,rfl,⟨_,hS⟩,cM (K:=K) (a:=a) (xs:=nV ns) (λi σ H'=>∃v2:Option V,σ=[some (.ref a),some (.int (product (ns.take i):Nat)),v2]/\au H H') ⟨none,rfl,au.refl H⟩ (λi σ H' _ ⟨_,_,S⟩=>S.seq hS) ?_ ?_⟩
 · rintro i x σ H' hi ⟨v2,rfl,S⟩;obtain⟨n,TF,rfl⟩:=yu hi;have:=hn n (Yc TF);refine⟨_,rfl,_,rfl,_,_,rfl,rfl,.inr ⟨by omega,by omega⟩,some (.int (n:Nat)),?_,S⟩;rw[take_snoc TF,zU,Int.natCast_mul];rfl
 · rintro σ H' ⟨v2,rfl,S⟩;rw[aL,YE];exact⟨_,rfl,q H' S⟩
def tW (K:aas):Sp:=λvs H Q _=>∃(a t:Addr) (ns s:aar),vs=[.ref a,.ref t]/\aO K H a (nV ns)/\b6 K H t (nV s)/\ns.length<=1000/\∀H' x,au H H'->H x=none->H' x=some (.lst (nV (gu s ns)))->Q (.ref x) H'
theorem um:aG ["numbers","taken","number"] ["numbers","taken"] (aw ko):=fs
theorem Eu {f:Addr}{fd:FuncData}(F:dm K "without" "without" ko f fd):a9 P w K mg base bF 1 f fd ["numbers","taken"] (tW K):=by
 refine F.oo um λLP A outer s H vs Q E hr h=>?_;obtain⟨a,t,ns,s,rfl,hA,hT,hl,q⟩:=h;refine⟨_,ak (az (fz (te:=cJ 2) (tt:=qj (kK (HJ K true) (cJ 2) (cJ 1))) rfl um.nd (bG (pv 0)) (bz (own:=[("number",2)]) rfl) (λ_ _ _ _ _=>bh 2 um.nd) (λ_ _ _ _ _=>oA (aA eh (pv 2) (pv 1) (by with_unfolding_all rfl))) (λ_ _ _ _ _=>pv 2))),?_⟩;refine⟨_,rfl,a,rfl,⟨_,hA⟩,λD hD=>iZ (K:=K) (a:=a) (xs:=nV ns) (λi H'=>au H H'/\H' D=some (.lst (nV (gu s (ns.take i))))) ⟨(au.refl H).laid hD,ae⟩ (λi H' _ h=>h.1.seq hA) ?_ ?_⟩
 · rintro i v H' hi ⟨k1,k2⟩;obtain⟨n,hn,rfl⟩:=yu hi;refine⟨rfl,?_⟩;refine (aI (mE (neg:=true) (ag rfl) (ag rfl) (.inr (k1.tup hT)) rfl (fZ s))) _ ?_;show if (!og (V.int (n:Nat)) (nV s))=true then _ else _;rw[Cm];have e:gu s (ns.take (i+1))=gu s (ns.take i)++if (!s.contains n)=true then [n] else []:=by
    unfold gu;rw[take_snoc hn,ZE];congr 1;simp[YU]
   refine gI (λh=>?_) (λh=>?_)
   · rw[XJ h] at e;refine⟨_,rfl,_,k2,?_,?_,?_⟩
     · have:(gu s (ns.take i)).length<=(ns.take i).length:=Z7 ..;rw[X7] at this;rw[aL,Yb];omega
     · intro b u z;rw[aq (ao z hD)];exact k1 b u z
     · rw[ae,e,Dv]
   · rw[XI h,YJ] at e;exact⟨k1,by rw[e];exact k2⟩
 · rintro H' ⟨k1,k2⟩;have k2:H' D=some (.lst (nV (gu s (ns.take (nV ns).length)))):=k2;rw[aL,YE] at k2;exact q H' D k1 hD k2
def ur (K:aas):Sp:=λvs H Q _=>∃(a t:Addr) (ss:aaq) (s:aar),vs=[.ref a,.ref t]/\bC K H a ss/\b6 K H t (nV s)/\ss.length<=6/\s.length<=ss.length/\∀H',au H H'->Q (.bl (iu ss s)) H'
theorem oy:aG ["sets","start","number","numbers"] ["sets","start"] (aw oN):=fs
theorem E5 (G:GW mg)(N:GN mg){f:Addr}{fd:FuncData}(F:dm K "is_of" "is_of" oN f fd):a9 P w K mg base bF 1 f fd ["sets","start"] (ur K):=by
 refine F.oo oy λLP A outer s H vs Q E hr h=>?_;obtain⟨a,t,ss,s,rfl,⟨as,hA,hP⟩,hT,h6,hl,q⟩:=h;refine⟨_,ak (az (bX (xa rfl) (by rfl) G.all PyProof.Rows.boot_all (aa (fz (g:=EH K 2 (pK (fB 2) (pK (fB 3) E1))) (te:=kK (HJ K false) (cJ 2) (cJ 3)) rfl oy.nd (DC rfl N.zip (aa (pv 1) (aa (pv 0) ah))) (bz (own:=[("number",2),("numbers",3)]) rfl)
  (λ_ _ _ _ _=>lD rfl (cg (bh 2 oy.nd) (cg (bh 3 oy.nd) jh))) (λ_ _ _ _ _=>cp) (λ_ _ _ _ _=>fm gg (pv 2) (pv 3) (by with_unfolding_all rfl))) ah))),?_⟩
 have LQ:as.length=ss.length:=Paired.length hP;refine⟨_,rfl,_,rfl,t,a,nV s,as.map V.ref,rfl,hT,hA,λD hD=>Jk (K:=K) (a:=t) (b:=a) (xs:=nV s) (ys:=as.map V.ref) (by rw[aL,XH];omega) (λi H'=>au H H'/\H' D=some (.lst (((s.zip ss).take i).map λz=>V.bl (z.2.contains z.1)))) ⟨(au.refl H).laid hD,ae⟩ (λi H' _ h=>⟨h.1.tup hT,h.1.seq hA⟩) ?_ ?_⟩
 · rintro i x y H' T hx hy ⟨k1,k2⟩ TH;obtain⟨n,hn,rfl⟩:=yu hx;obtain⟨ai,Mb,rfl⟩:=jW hy;obtain⟨si,MY,hI⟩:=Paired.qP hP Mb;have ML:au H' (upd H' T (.tup [.int (n:Nat),.ref ai])):=(au.refl H').laid TH;have Qz:D≠T:=ao k2 TH;refine⟨T,_,rfl,b6.of ae,rfl,_,_,rfl,_,_,rfl,rfl,rfl,?_⟩;refine (mE (neg:=false) (ag rfl) (ag rfl) (.inl ((k1.trans ML).seq hI)) rfl (fZ si)) _ ⟨_,by rw[aq Qz];exact k2,?_,?_,?_⟩
   · have:=(XY.mp hn).1;rw[XH,X7,Yb];omega
   · intro b u z;rw[aq (ao z hD)];exact ML b u (k1 b u z)
   · have ez:(s.zip ss)[i]?=some (n,si):=by rw[List.getElem?_zip_eq_some];exact⟨hn,MY⟩
     rw[ae,take_snoc ez,X3];show some (HO.lst (_++[V.bl (og (V.int (n:Nat)) (nV si))]))=_;rw[Cm];rfl
 · rintro H' ⟨k1,k2⟩;have k2:H' D=some (.lst (((s.zip ss).take (nV s).length).map λz=>V.bl (z.2.contains z.1))):=k2;rw[aL,YD (by rw[List.length_zip];omega)] at k2;refine⟨D,(s.zip ss).map λz=>z.2.contains z.1,rfl,aO.of (by rw[k2,X_];rfl),?_⟩;have e:((s.zip ss).map λz=>z.2.contains z.1).all id=iu ss s:=by unfold iu;rw[ZQ];rfl
   rw[e];exact q H' k1
end
end Bw
namespace L2
open PySem PySem.Spec PyProof.Rows
def Jg (K:aas):V->V->Hp->VK->Prop:=λo i H Q=>∃(p:Addr) (xs:List V) (k:Nat) (v:V),o=.ref p/\i=.int (k:Nat)/\aO K H p xs/\xs[k]?=some v/\Q v H
theorem Bj {X:Cx}:JC X (Jg X.K):=by
 intro pins s σ H o i ov iv Q I ro ri h;obtain⟨p,xs,k,v,rfl,rfl,hq,he,q⟩:=h;cases ro;obtain⟨t,rfl⟩:=ri;obtain⟨LO,r,pl,hz⟩:=I.list hq;obtain⟨w,ew,NW⟩:=r.get he;have hl:=r.length;have hk:=(XY.mp he).1;have hn:=lG;exact wpAny_getItem_list pl.isList (by omega) (by omega) (by simpa using ew) ⟨v,H,I,NW,q⟩
theorem Et {K:aas}{a:Addr}{xs:List V}{g:TG}{tt:TT}{te:TE}{vs:aar}{σ:L2.St}{H1:Hp}{D:Addr}{Qd:Hp->Prop}(Pv:Nat->Hp->Prop)(h0:Pv 0 (upd H1 D (.lst [])))(hl:∀i H,i<=xs.length->Pv i H->aO K H a xs)
  (hs:∀i x H T,xs[i]?=some x->Pv i H->H T=none->g (.ref T) (wipe σ vs) (upd H T (.tup [.int (i:Nat),x])) λσ2 H2=>wipe σ2 vs=wipe σ vs/\tt σ2 H2 λb H3 =>
   if b=true then te σ2 H3 λy H4=>∃acc,H4 D=some (.lst acc)/\acc.length < sizeLine/\Pv (i+1) (upd H4 D (.lst (acc++[y]))) else Pv (i+1) H3) (hd:∀H,Pv xs.length H->Qd H) :
  ∃W:Nat->Nat->Hp->Prop,(∃m,W 0 m (upd H1 D (.lst [])))/\∀i m H,W i m H ->
   ((FU K a).stop i H/\Qd H)∨((FU K a).go i H/\∃Nx:Hp->Prop,(∀H',Nx H'->∃m',m' < m/\W (i+1) m' H')/\∀x H',(FU K a).we i H x H'->g x (wipe σ vs) H' λσ2 H2=>wipe σ2 vs=wipe σ vs/\tt σ2 H2 λb H3 =>
    if b=true then te σ2 H3 λy H4=>∃acc,H4 D=some (.lst acc)/\acc.length < sizeLine/\Nx (upd H4 D (.lst (acc++[y]))) else Nx H3):=by
 refine⟨λi m H=>m=xs.length - i/\i<=xs.length/\Pv i H,⟨xs.length,by simp,Ye _,h0⟩,?_⟩;rintro i m H ⟨rfl,hi,p⟩;have q:=hl i H hi p;by_cases LU:i < xs.length
 · refine .inr ⟨⟨xs,xs[i],q,by simp[LU]⟩,Pv (i+1),λH' p'=>⟨xs.length - (i+1),by omega,rfl,LU,p'⟩,λx H' y=>?_⟩;obtain⟨T,v,rfl,hT,rfl,hx⟩:=y;exact hs i v _ T (hx xs q) p hT
 · have e:i=xs.length:=by omega
   subst e;exact .inl ⟨⟨xs,q,XT _⟩,hd H p⟩
end L2
namespace Bw
open PySem PySem.Spec PyProof.Rows L2 Tote
theorem Cj {σ:L2.St}{H:Hp}{ta tb:TE}{i j:Int}(ha:Ev ta σ H (.int i))(hb:Ev tb σ H (.int j))(h:E6 i j):Ev (kK (rI E6 λi j=>.int (i*2 ^ j.toNat)) ta tb) σ H (.int (i*2 ^ j.toNat)):=λ_ r=>ha _ (hb _ ⟨i,j,rfl,rfl,h,r⟩)
theorem pL:∀l:aar,(l.map λn=>((n:Nat):Int)).sum=((l.sum:Nat):Int)
 |[]=>rfl
 |n::l=>by rw[X1,Zd,Zd,pL l,Int.natCast_add]
section
variable {P:Program}{w:World}{K:aas}{mg:aau}{base:Heap}
def FZ (K:aas):Sp:=λvs H Q _=>∃(a:Addr) (ss:aaq),vs=[.ref a]/\bC K H a ss/\Dc ss/\∀H',au H H'->Q (.int (dk ss la:Nat)) H'
theorem fJ:aG ["sets","full","ways","number","bits","mask","place","numbers","bit"] ["sets"] (aw da):=fs
theorem HH {aW:Addr}(G:GW mg)(B:GB K mg aW)(N:GN mg){f:Addr}{fd:FuncData}(F:dm K "count_different" "count_different" da f fd):a9 P w K mg base bF 1 f fd ["sets"] (FZ K):=by
 refine F.oo fJ λLP A outer s H vs Q E hr h=>?_;obtain⟨a,ss,rfl,hL,hS,q⟩:=h;refine⟨_,af (aZ 1 fJ.nd (bJ fH (bJ BS ax (bf G.len (pv 0))) ax))
  (af (o4 (i:=2) fJ.nd rfl (Or.inr rfl) (bJ xw (bT (aa ax ah)) (fz rfl fJ.nd (gi rfl N.range (aa (pv 1) ah)) (bz (own:=[("mask",5)]) rfl) (λ_ _ _ _ _=>bh 5 fJ.nd) (λ_ _ _ _ _=>cp) (λ_ _ _ _ _=>ax))))
  (af (cT YM rfl (sA rfl N.range (aa ax (aa (bJ eK (bb N.runners) ax) ah))) (sO (i:=3) fJ.nd rfl (Or.inr rfl))
   (af (qG (i:=4) (te:=kK (rI E6 λi j=>.int (i*2 ^ j.toNat)) (tC (.int 1)) (cJ 6)) (tt:=qj (kK (HJ K false) (cJ 3) (cJ 7))) (g:=EH K 2 (pK (fB 6) (pK (fB 7) E1))) rfl fJ.nd rfl rfl (sQ rfl rfl rfl rfl) (uD rfl B.enum (aa (pv 0) ah)) (bz (own:=[("place",6),("numbers",7)]) rfl) (λ_ _ _ _ _=>lD rfl (cg (bh 6 fJ.nd) (cg (bh 7 fJ.nd) jh)))
     (λ_ _ _ _ _=>oA (aA gg (pv 3) (pv 7) (by with_unfolding_all rfl))) (λ_ _ _ _ _=>bJ BS ax (pv 6)))
   (ak (cT YM rfl (rY rfl N.range (aa (pv 1) (aa ax (aa (vI oT ax) ah)))) (sO (i:=5) fJ.nd rfl (Or.inr rfl))
    (ak (Fv (pv 2) (pv 5) Bj (bX (xM rfl) (by rfl) N.sum (by decide +kernel) (aa (fz (te:=kK (z_ K) (cJ 2) (kK (qM λi j=>.int (i - j)) (cJ 5) (cJ 8))) rfl fJ.nd (bG (pv 4)) (bz (own:=[("bit",8)]) rfl) (λ_ _ _ _ _=>bh 8 fJ.nd)
     (λ_ _ _ _ _=>oA (aA p8 (bJ HL (pv 5) (pv 8)) ax (aJ _))) (λ_ _ _ _ _=>bp aN (pv 2) (bJ fH (pv 5) (pv 8)) (λ_ _=>rfl))) ah)) B8 set_list))))))
  (ak (az (bp aN (pv 2) (pv 1) (λ_ _=>rfl)))))),?_⟩
 obtain⟨as,hA,hP⟩:=hL;have LQ:as.length=ss.length:=Paired.length hP;have h6:=hS.len;have hpow:0 < 2 ^ ss.length:=Nat.pow_pos (by decide);have hp64:2 ^ ss.length<=64:=Yu (ZL (by decide) h6) (by decide);obtain⟨f,hf⟩:∃f,f=2 ^ ss.length - 1:=⟨_,rfl⟩;have ef:(1:Int)*2 ^ ((as.map V.ref).length:Int).toNat - 1=((f:Nat):Int):=by
  rw[XH,LQ,Ys,hf,Int.one_mul];have:((2 ^ ss.length:Nat):Int)=2 ^ ss.length:=by rw[Int.natCast_pow];rfl
  omega
 have nd:∀s∈ss,s.Nodup:=λs hs=>(hS.good s hs).1.nodup;refine cG (pS (Cj aD (aT (ag rfl) (.inl hA)) ⟨by omega,by rw[XH];omega,by decide⟩) aD) ?_;rw[ef];refine⟨by show 1<=sizeLine;decide,λp1 Pl=>?_⟩;refine yT (tj (ag rfl) (by omega) (by omega) λD0 Nh=>?_);have RU:p1≠D0:=by
  rintro rfl;rw[ae] at Nh;cases Nh
 have PD:H D0=none:=by rwa [aq RU.symm] at Nh
 rw[Ys];refine mP (lo:=0) (n:=f) (λi H'=>au H H'/\H' p1=some (.lst [V.int 1])/\H' D0=some (.lst (nV (List.replicate i 0)))) ⟨((au.refl H).laid Pl).laid PD,by rw[aq RU];exact ae,ae⟩ ?_ ?_
 · rintro i H' hi ⟨k0,k1,k2⟩;refine⟨rfl,?_⟩;refine⟨_,k2,by rw[aL,Yi,Yb];omega,λb u z=>?_,by rw[aq RU];exact k1,?_⟩
   · rw[aq (ao z PD)];exact k0 b u z
   · rw[ae,List.replicate_succ'];unfold nV;rw[X3];rfl
 rintro H1 ⟨S1,e1,e0⟩;refine⟨p1,D0,_,_,rfl,rfl,e1,e0,?_,λwy TJ=>?_⟩
 · show 1+_<=_;rw[aL,Yi,Yb];omega
 have WO:[V.int 1]++nV (List.replicate f 0)=nV (tab ss 1 f):=by
  rw[hf,←Af];unfold nV;rw[X3];rfl
 rw[WO];have PF:H wy=none:=by
  cases hz:H wy with
  |none=>rfl
  |some o=>rw[S1 wy o hz] at TJ;cases TJ
 have S2:au H (upd H1 wy (.lst (nV (tab ss 1 f)))):=λb u z=>by
  rw[aq (ao z PF)];exact S1 b u z
 refine pH (y4 aD (jL aD aD) (by omega) ?_);refine mV (lo:=1) (n:=((24:Int)+1 - 1).toNat) (λi σ H'=>∃v3 v4 v5:Option V,σ=[some (.ref a),some (.int (f:Nat)),some (.ref wy),v3,v4,v5,none,none,none]/\au H H'/\H' wy=some (.lst (nV (tab ss (i+1) f))))
  ⟨none,none,none,rfl,S2,ae⟩ ?_ ?_
 · rintro i σ H2 hi ⟨v3,v4,v5,rfl,S3,e3⟩;have hi:i < 24:=hi;have ex:(1:Int)+(i:Nat)=((i+1:Nat):Int):=by omega
   rw[ex];obtain⟨x,hx⟩:∃x,x=i+1:=⟨_,rfl⟩;rw[←hx] at e3 ⊢;refine⟨_,rfl,a,_,rfl,S3.seq hA,λD hD=>Et (K:=K) (a:=a) (xs:=as.map V.ref) (λj H'=>au H2 H'/\H' D=some (.lst (nV (bitsOf x 1 (ss.take j))))) ⟨(au.refl H2).laid hD,ae⟩ (λj H' _ h=>(S3.trans h.1).seq hA) ?_ ?_⟩
   · rintro j v H' T hj ⟨k1,k2⟩ hT;rw[XO] at hj;obtain⟨aj,WQ,rfl⟩:=Yj.mp hj;obtain⟨sj,N9,hI⟩:=Paired.qP hP WQ;have Ol:j < ss.length:=(XY.mp N9).1;have Qz:D≠T:=ao k2 hT;have RV:au H2 (upd H' T (.tup [.int (j:Nat),.ref aj])):=k1.trans ((au.refl H').laid hT);have eb:=sC x (ss.take j) 1 sj;rw[←take_snoc N9] at eb;refine⟨T,_,rfl,b6.of ae,rfl,_,_,rfl,_,_,rfl,rfl,rfl,?_⟩;refine (aI (mE (neg:=false) (ag rfl) (ag rfl) (.inl ((S3.trans RV).seq hI)) rfl (fZ sj))) _ ?_;have eI:og (V.int (x:Nat)) (nV sj)=sj.contains x:=by
      rw[nP,Ym,XS,YO,XS]
      exact⟨λ⟨m,h1,h2⟩=>by have:x=m:=by omega
                           subst this;exact h1,λh=>⟨x,h,rfl⟩⟩
     show if og (V.int (x:Nat)) (nV sj)=true then _ else _;rw[eI];refine gI (λh=>?_) (λh=>?_)
     · rw[XJ h] at eb;refine (Cj aD (ag rfl) ⟨by omega,by omega,by decide⟩) _ ⟨_,by rw[aq Qz];exact k2,?_,?_,?_⟩
       · rw[aL];have:=qf x (ss.take j) 1;rw[X7] at this;rw[Yb];omega
       · intro b u z;rw[aq (ao z hD)];exact RV b u z
       · rw[ae,eb];have e2:(1:Int)*2 ^ ((j:Nat):Int).toNat=((1*2 ^ (ss.take j).length:Nat):Int):=by
          rw[Ys,X7,ZJ (by omega),Int.one_mul,Nat.one_mul,Int.natCast_pow];rfl
         rw[e2];unfold nV;rw[X3];rfl
     · rw[XI h,YJ] at eb;exact⟨RV,by rw[aq Qz,eb];exact k2⟩
   rintro H3 ⟨k1,k2⟩;have k2:H3 D=some (.lst (nV (bitsOf x 1 (ss.take (as.map V.ref).length)))):=k2;rw[XH,LQ,YE] at k2;obtain⟨bits,MF⟩:∃bits,bits=bitsOf x 1 ss:=⟨_,rfl⟩;rw[←MF] at k2;have WR:D≠wy:=by
    rintro rfl;rw[e3] at hD;cases hD
   have e4:=k1 _ _ e3;have S4:=S3.trans k1;have hDH:H D=none:=by
    cases hz:H D with
    |none=>rfl
    |some o=>rw[S3 D o hz] at hD;cases hD
   refine pH (yI (n:=f) (ag rfl) aD (tH aD) ?_ ?_)
   · have:=Jw.neg (i:=(f:Int)) (j:=0) (by omega) (by omega) (by omega) (by omega);rw[show ((f:Int) - 0).toNat=f by omega] at this;exact this
   refine qb (lo:=(f:Nat)) (c:=-1) (n:=f) (λj σ H'=>∃v5:Option V,σ=[some (.ref a),some (.int (f:Nat)),some (.ref wy),some (.int (x:Nat)),some (.ref D),v5,none,none,none]/\au H H'/\H' wy=some (.lst (nV (jR ss x f j)))/\H' D=some (.lst (nV bits)))
    ⟨v5,rfl,S4,by rw[AV];exact e4,k2⟩ ?_ ?_
   · rintro j σ H4 hj ⟨v5,rfl,S5,e5,e6⟩;obtain⟨m,hm⟩:∃m,m=f - j:=⟨_,rfl⟩;have em:((f:Nat):Int)+((j:Nat):Int)*(-1)=((m:Nat):Int):=by omega
     rw[em];have WS:m<=f:=by omega
     have old:(nV (jR ss x f j))[m]?=some (.int (cC ss x m:Nat)):=by
      unfold nV;rw[XO,s_ WS,XI (by omega)];rfl
     refine⟨_,rfl,_,rfl,wy,_,m,_,rfl,rfl,aO.of e5,old,?_⟩;refine⟨_,rfl,D,rfl,⟨_,aO.of e6⟩,λD2 TK=>iZ (K:=K) (a:=D) (xs:=nV bits) (λt H'=>au H4 H'/\H' D2=some (.lst (nV (((bits.take t).filter (bB m)).map λb=>cC ss x (m - b))))) ⟨(au.refl H4).laid TK,ae⟩ (λt H' _ h=>aO.of (h.1 _ _ e6)) ?_ ?_⟩
     · rintro t v H' ht ⟨k3,k4⟩;unfold nV at ht;rw[XO] at ht;obtain⟨b,hb,rfl⟩:=Yj.mp ht;obtain⟨pw,hpw,RW⟩:=vP x ss 1 b (by rw[←MF];exact Yc hb);rw[Nat.one_mul] at RW;have OG:0 < b:=by rw[RW];exact Nat.pow_pos (by decide)
       refine⟨rfl,?_⟩;refine (aI (oQ (md (f:=λi j=>.int (Builtin.bitAnd i j)) (ag rfl) (ag rfl)) aD)) _ ?_;have eA:(!decide (V.int (Builtin.bitAnd ((m:Nat):Int) ((b:Nat):Int))=V.int 0))=bB m b:=by
        rw[a7];have e1:Builtin.bitAnd ((m:Nat):Int) ((b:Nat):Int)=((m &&& b:Nat):Int):=by
         unfold Builtin.bitAnd;rw[Yn (by omega:(0:Int)<=((m:Nat):Int)),Yn (by omega:(0:Int)<=((b:Nat):Int))];rfl
        rw[e1,Ym,RW,←Fp,Yy,Yg];omega
       rw[eA];refine gI (λh=>?_) (λh=>?_)
       · have hbm:=Hu h OG;have at2:nU (nV (jR ss x f j)) (((m:Nat):Int) - ((b:Nat):Int))=some (.int (cC ss x (m - b):Nat)):=by
          rw[show ((m:Nat):Int) - ((b:Nat):Int)=((m - b:Nat):Int) by omega];refine cv ?_;unfold nV;rw[XO,s_ (by omega),XI (by omega)];rfl
         refine (a8 (ag rfl) (pS (ag rfl) (ag rfl)) (aO.of (k3 _ _ e5)) at2) _ ⟨_,k4,?_,?_,?_⟩
         · rw[aL,XH,Yb];have l1:=Z7 (bB m) (bits.take t);have l2:=qf x ss 1;rw[←MF] at l2;rw[X7] at l1;omega
         · intro c u z;rw[aq (ao z TK)];exact k3 c u z
         · rw[ae,take_snoc hb,ZE,X3];have:[b].filter (bB m)=[b]:=by rw[YU,XJ h];rfl
           rw[this];unfold nV;rw[X3];rfl
       · refine⟨k3,?_⟩;have:[b].filter (bB m)=[]:=by rw[YU,XI h];rfl
         rw[take_snoc hb,ZE,this,YJ];exact k4
     rintro H5 ⟨k3,k4⟩;have k4:H5 D2=some (.lst (nV (((bits.take (nV bits).length).filter (bB m)).map λb=>cC ss x (m - b)))):=k4;rw[aL,YE] at k4;refine⟨D2,((bits.filter (bB m)).map λb=>cC ss x (m - b)).map λn=>((n:Nat):Int),rfl,aO.of (by rw[k4];unfold nV;rw[X_,X_,X_];rfl),?_⟩;rw[pL];refine⟨_,_,rfl,rfl,wy,_,_,m,rfl,rfl,k3 _ _ e5,?_,?_⟩
     · unfold E4;rw[XJ (by omega),aL,XJ (by unfold jR;rw[XH,ZZ];omega)];rfl
     have ew:((cC ss x m:Nat):Int)+((((bits.filter (bB m)).map λb=>cC ss x (m - b)).sum:Nat):Int)=((cC ss (x+1) m:Nat):Int):=by
      rw[CC nd (by omega),←MF,Int.natCast_add]
     refine⟨_,rfl,λc u z=>?_,?_,?_⟩
     · rw[aq (ao z PF)];exact k3 c u (S5 c u z)
     · rw[ae];show some (HO.lst ((nV (jR ss x f j)).set m (V.int (((cC ss x m:Nat):Int)+((((bits.filter (bB m)).map λb=>cC ss x (m - b)).sum:Nat):Int)))))=_;rw[ew,←Ci (by omega),hm];unfold nV;rw[List.map_set]
     · rw[aq WR];exact k3 _ _ e6
   · rintro σ H4 ⟨v5,rfl,S5,e5,e6⟩;rw[AO] at e5;exact⟨_,_,_,rfl,S5,e5⟩
 · rintro σ H2 ⟨v3,v4,v5,rfl,S3,e3⟩;have e3:H2 wy=some (.lst (nV (tab ss 25 f))):=e3;refine bU (a8 (ag rfl) (ag rfl) (aO.of e3) (cv (v:=.int (dk ss la:Nat)) ?_)) (q H2 S3);unfold nV;rw[XO,CG (XT _),←BE,hf];rfl
end
end Bw
namespace L2
open PySem PySem.Spec PyProof.Rows
section
variable {P:Program}{w:World}{d:Addr}{o:Obj}{es:Array DictEntry}{ep:Nat}
theorem zz {A:Around} (hh:A.handled=none) (it:Addr) (ne:d≠it) (dt:o.data=.dict es ep) :
  Walks P w A it [it,d] [it] es.size (λi v=>∃en,es[i]?=some en/\v=en.key) (λi h=>h.IsKeyIter it d i es.size ep/\h.get? d=some o) where
 sub:=λb hb=>XN.mpr (.inl (XZ.mp hb))
 frame:=λi h h' st k=>⟨st.1.at λob e=>k it (Yt ..) ob e,k d (by simp) o st.2⟩
 item:=λi s Q E hi st hQ=>by
  obtain⟨en,Om⟩:∃en,es[i]?=some en:=⟨es[i],Array.getElem?_eq_getElem hi⟩;refine qQ st.1 st.2 dt rfl Om λh' WT sb=>?_;exact hQ _ h' s.toks ⟨en,Om,rfl⟩ ⟨WT,(sb.2 d ne).trans st.2⟩ λb ob hb e=>(sb.2 b λz=>hb (by simp[z])).trans e
 done:=λs Q E st hQ=>uc hh st.1 st.2 dt rfl (XT _) λh' eb=>hQ h' s.toks λb ob hb e=>eb b ob (λz=>hb (by simp[z])) e
 self:=λi s Q E st hQ=>wpAny_pyIter_keyiter st.1 hQ
theorem Cz (lo:(d==sysModules)=false)(hx:o.ExactDict)(dt:o.data=.dict es ep):W.KdlSrc P w "dict" d d es.size (λi v=>∃en,es[i]?=some en/\v=en.key) (λh=>h.get? d=some o) where
 type:=λs e=>⟨o,e,hx.1⟩
 there:=λh e=>⟨XX e,XX e⟩
 keep:=λh h' e k=>k d (.inl rfl) o e
 notList:=by decide
 notTuple:=by decide
 hint:=λA E s Q e q=>W.kdl_hint_dict ⟨o,e,hx.1⟩ q
 iter:=λA s hh e=>⟨_,_,(λE Q q=>Am lo e hx dt q),zz hh _ (Yk (XX e)) dt,⟨⟨_,X0 _ rfl,rfl,rfl⟩,XM _ e⟩⟩
end
section
variable {X:Cx}
theorem wQ (hc:X.calm=true):iE X (.type "list") (λxs H Q=>∃(d:Addr) (LN:List (List Key×V)),xs=[.ref d]/\H d=some (.dT LN) /\
  ∀(qs:List Addr) (l:Addr),Paired (λq (kv:List Key×V)=>H q=some (.tup (kv.1.map kV))) qs LN->H l=none->Q (.ref l) (upd H l (.lst (qs.map V.ref)))):=by
 intro pins s σ H xs us Q I r h;obtain⟨d,LN,rfl,hd,q⟩:=h;rw[Vals.xk r];obtain⟨z,lo,ys,pr,ob,es,ep,ho,hx,dt,he,_⟩:=I.bu d _ hd;have l1:es.size=ys.length:=size_of_entries he;have l2:LN.length=ys.length:=Paired.length pr;refine W.kdl_call (Cz lo hx dt) (I.ok.hd hc) ho (by omega) λh' tk acc c' kp hl it=>?_;have pq:Paired (λq (kv:List Key×V)=>H q=some (.tup (kv.1.map kV))) (ys.map λy=>y.2.1) LN:=by
  refine ka (by rw[XH,l2]) λi a b ha hb=>?_;rw[XO] at ha;obtain⟨y,hy,rfl⟩:=Yj.mp ha;obtain⟨y',NA,e1,e2,_⟩:=xX pr hb;rw[hy] at NA;injection NA with NA;subst NA;exact e2
 have rv:Vals ((ys.map λy=>y.2.1).map V.ref) acc.toList:=by
  have l3:acc.toList.length=es.size:=by rw[Zs];exact it.1
  refine ka (by rw[XH,XH];omega) λi a b ha hb=>?_;obtain⟨en,Om,rfl⟩:=it.2 i b (by simpa using hb);rw[XO,XO] at ha;have qe:=entry_at he i;cases hy:ys[i]? with
  |none=>rw[hy] at ha;cases ha
  |some y =>
   rw[hy] at ha qe;have ha:some (V.ref y.2.1)=some a:=ha;injection ha with ha;subst ha;rw[Om] at qe;injection qe with qe;rw[qe];rfl
 have hlen:((ys.map λy=>y.2.1).map V.ref).length<=sizeLine:=by rw[XH,XH];omega
 exact⟨.ref s.heap.objs.size,_,I.laid (t':=tk) kp (XT _) (show bM X.prog X.w _ h' _ (.lst _) from ⟨hlen,acc.toList,c',rv,by simpa using hl⟩),rfl,q _ _ pq (I.bu.fresh (XT _))⟩
end
section
variable {P:Program}{w:World}{A:Around}{E:aat}{s:Shared}
theorem Cr {t b:Addr} {ws:aaw} {R:aat} (ht:IsTup s.heap t #[]) (hb:IsTup s.heap b ws.toArray) (hR:R (.ref b) s):wpAny (model P w) A (binaryOp .Add (.ref t) (.ref b)) R E s:=by
 obtain⟨⟨c1,d1,f1,l1⟩,g1,k1,n1,e1⟩:=id ht;obtain⟨⟨c2,d2,f2,l2⟩,g2,k2,n2,e2⟩:=id hb;simp only at k1 e1 k2 e2;subst k1 e1 k2 e2;have m:=tuple_addW0 t b #[] ws.toArray n1 n2 d1 d2 l1 l2 rfl;exact concat_meets ⟨_,g1,rfl⟩ ⟨_,g2,rfl⟩ noFill_tuple_add seq_tuple_add F.slot_tuple_add F.entry_tuple_add (F.args_tuple_add_2 _ _) m ⟨g1,g2,hR⟩
end
section
variable {X:Cx}
def JA (K:aas):R2:=λx y H Q=>∃a b xs ys,x=.ref a/\y=.ref b/\b6 K H a xs/\H b=some (.tup ys)/\ys≠[]/\xs.length+ys.length<=sizeLine/\∀p H',au H H'->H' p=some (.tup (xs++ys))->Q (.ref p) H'
theorem Dx:jU X (binaryOp .Add) (JA X.K):=by
 intro pins s σ H x y v u Q I rx ry h;obtain⟨a,b,xs,ys,rfl,rfl,ha,hb,hy,hz,q⟩:=h;by_cases e:xs=[]
 · subst e;cases rx;cases ry;obtain⟨LO,r1,p1,_⟩:=I.tuple ha;obtain⟨L3,r2,p2,_⟩:=I.tuple (b6.of hb);have:LO=[]:=r1.oJ.mpr rfl;subst this;exact Cr p1 p2 ⟨.ref b,H,I,rfl,q b H (au.refl H) hb⟩
 · exact DE pins s σ H _ _ v u Q I rx ry ⟨a,b,xs,ys,rfl,rfl,ha,b6.of hb,e,hz,λz=>absurd z hy,λ_ p hp=>q p _ ((au.refl H).laid hp) ae⟩
end
end L2
namespace Bw
open PySem PySem.Spec PyProof.Rows L2 Tote
def kL (l:aar):List Key:=l.map λn=>Sum.inl ((n:Nat):Int)
theorem Eb (l:aar):(kL l).map kV=nV l:=by
 unfold kL nV;rw[X_];rfl
theorem A_ {l m:aar}(h:kL l=kL m):l=m:=by
 unfold kL at h;refine List.map_inj_right (λa b e=>?_) |>.mp h;have:=Sum.inl.inj e;omega
theorem ve {LN:List (List Key×V)}{K:aaq}{k:aar}{v:V}(h:LN.map (·.1)=K.map kL):(putK LN (kL k) v).map (·.1)=(jS K k).map kL:=by
 have RX:(LN.any λkv=>decide (kv.1=kL k))=K.contains k:=by
  have e1:(LN.any λkv=>decide (kv.1=kL k))=(LN.map (·.1)).any λz=>decide (z=kL k):=by rw[Z4];rfl
  rw[e1,h,Z4,Ym,Zj,YO,XS];constructor
  · rintro⟨x,h1,h2⟩;have:=A_ (X4 h2);rw[←this];exact h1
  · intro hk;exact⟨k,hk,Yn rfl⟩
 unfold putK jS;rw[RX];by_cases c:K.contains k=true
 · rw[XJ c,XJ c,←h,X_];refine YA λkv _=>?_;show (if kv.1=kL k then (kv.1,v) else kv).1=kv.1;split <;> rfl
 · rw[XI c,XI c,X3,X3,h];rfl
theorem wB {pick:aar}{n:Nat}{ms:List Int}(hp:ck pick)(hn:¬n∈pick)(h1:ms.Perm ((pick++[n]).map λx=>((x:Nat):Int)))(h2:ms.Pairwise (·<=·)):ms=(f9 n pick).map λx=>((x:Nat):Int):=by
 have hr:=lC hp hn;have nd:(pick++[n]).Nodup:=by
  rw[Zm];refine⟨hp.nodup,by simp,λa ha b hb=>?_⟩;rw[XZ] at hb;subst hb;exact λz=>hn (z ▸ ha)
 have pm:(f9 n pick).Perm (pick++[n]):=(aam hr.nodup nd).mpr λx=>by
  rw[mi];simp[or_comm]
 refine List.Perm.eq_of_pairwise (le:=(·<=·)) (λa b _ _ x y=>by omega) h2 ?_ (h1.trans (pm.map _).symm);rw[List.pairwise_map];exact hr.imp λh=>by omega
theorem lJ {pick:aar}:∀(s:aar) (K:aaq),(cR s K pick).length<=K.length+s.length
 |[],K=>XT _
 |n::s,K=>by
  show (cR s (cu pick K n) pick).length<=_;have:=lJ (pick:=pick) s (cu pick K n);have h2:(cu pick K n).length<=K.length+1:=by
   unfold cu jS;split
   · omega
   · split
     · omega
     · simp
  rw[XW];omega
theorem oS {s:aar}{c:Nat}(hs:s.length<=c):∀(ps K:aaq),(ps.foldl (cR s) K).length<=K.length+ps.length*c
 |[],K=>by simp
 |p::ps,K=>by
  rw[Zb,XW];have h1:=oS hs ps (cR s K p);have h2:=lJ (pick:=p) s K;rw[Nat.add_mul];omega
theorem oX {α β:Type}(f:β->α->β)(b:β)(l:List α)(x:α):(l++[x]).foldl f b=f (l.foldl f b) x:=by rw[List.foldl_append];rfl
theorem mS:∀(i:Nat) (ss:aaq),(∀s∈ss,s.length<=25)->(bx (ss.take i)).length<=25 ^ i
 |0,ss,_=>by show 1<=1;decide
 |i+1,ss,h=>by
  have ih:=mS i ss h;by_cases hi:i < ss.length
  · rw[List.take_add_one,XU hi];show (bx (ss.take i++[ss[i]])).length<=_;rw[iM];have:=oS (h _ (Zz hi)) (bx (ss.take i)) [];unfold e_;rw[ZN];have h2:(bx (ss.take i)).length*25<=25 ^ i*25:=Nat.mul_le_mul_right _ ih;simp only[Zg] at this;omega
  · have:ss.take (i+1)=ss.take i:=by rw[YD (by omega),YD (by omega)]
    rw[this,ZN];omega
section
variable {P:Program}{w:World}{K:aas}{mg:aau}{base:Heap}
def Bl (H:Hp) (x:Addr) (R:aaq):Prop:=∃qs:List Addr,H x=some (.lst (qs.map V.ref))/\Paired (λq l=>H q=some (.tup (nV l))) qs R
def sf (K:aas):Sp:=λvs H Q _=>∃(a:Addr) (ss:aaq),vs=[.ref a]/\bC K H a ss/\Dc ss/\ss.length<=3/\∀H' x,au H H'->Bl H' x (bx ss)->Q (.ref x) H'
theorem lL:aG ["sets","picks","numbers","longer","pick","number"] ["sets"] (aw jb):=fs
theorem GZ (N:GN mg){f:Addr}{fd:FuncData}(F:dm K "picks_of" "picks_of" jb f fd):a9 P w K mg base bF 1 f fd ["sets"] (sf K):=by
 refine F.oo lL λLP A outer s H vs Q E hr h=>?_;obtain⟨a,ss,rfl,⟨as,hA,hP⟩,hS,h3,q⟩:=h;have hu:=vS hr;refine⟨_,af (aZ 1 lL.nd (bT (aa (dg ah) ah)))
  (af (cT YM rfl (bG (pv 0)) (bh 2 lL.nd)
   (af (aZ 3 lL.nd qF)
   (af (cT YM rfl (bG (pv 1)) (bh 4 lL.nd)
    (ak (cT YM rfl (bG (pv 2)) (bh 5 lL.nd)
     (ak (aP (aA eh (pv 5) (pv 4) (by with_unfolding_all rfl)) (ak (mw hu (pv 3) (jZ qY (by rfl) N.tuple (by decide +kernel) (aa (bX xO (by rfl) N.sorted PyProof.Rows.boot_sorted (aa (bJ Dx (pv 4) (dg (aa (pv 5) ah))) ah)) ah)) mK rfl)) aB)))))
   (ak (aZ 1 lL.nd (jZ (wQ rfl) (by rfl) N.list (by decide +kernel) (aa (pv 3) ah)))))))
  (ak (az (pv 1)))),?_⟩
 have LQ:as.length=ss.length:=Paired.length hP;have RY:∀s∈ss,s.length<=25:=λs hs=>jT (hS.good s hs).1 (hS.good s hs).2;refine⟨Ye _,λt0 WU=>⟨by show 1<=sizeLine;decide,λp0 OK=>?_⟩⟩;have n0:p0≠t0:=by
  rintro rfl;rw[ae] at OK;cases OK
 have S0:au H (upd (upd H t0 (.tup [])) p0 (.lst [V.ref t0])):=((au.refl H).laid WU).trans ((au.refl _).laid OK);refine⟨_,rfl,a,rfl,⟨_,S0.seq hA⟩,cM (K:=K) (a:=a) (xs:=as.map V.ref) (λi σ H'=>∃(pk:Addr) (qs:List Addr) (v2 v3 v4 v5:Option V),σ=[some (.ref a),some (.ref pk),v2,v3,v4,v5]/\au H H'/\H' pk=some (.lst (qs.map V.ref))/\Paired (λq l=>H' q=some (.tup (nV l))) qs (bx (ss.take i)))
  ⟨p0,[t0],none,none,none,none,rfl,S0,ae,.cons (by rw[aq n0.symm];exact ae) .nil⟩ (λi σ H' _ ⟨_,_,_,_,_,_,_,S,_⟩=>S.seq hA) ?_ ?_⟩
 · rintro i x σ H1 hi ⟨pk,qs,v2,v3,v4,v5,rfl,S1,e1,hQ⟩;rw[XO] at hi;obtain⟨ai,Mb,rfl⟩:=Yj.mp hi;obtain⟨sj,N9,hI⟩:=Paired.qP hP Mb;have LX:i < ss.length:=(XY.mp N9).1;have gs:=hS.good sj (Yc N9);have WV:=RY sj (Yc N9);have lp:=mS i ss RY;have WW:(bx (ss.take i)).length<=625:=Yu lp (Yu (ZL (by decide) (show i<=2 by omega)) (by decide));have PH:∀l∈bx (ss.take i),ck l/\l.length<=6:=λl hl=>by
    obtain⟨z1,z2⟩:=(ku (ss.take i) l).mp hl;refine⟨z1,?_⟩;have:=(j_ z2).1;rw[X7] at this;omega
   have NK:bx (ss.take (i+1))=e_ (bx (ss.take i)) sj:=by rw[take_snoc N9,iM]
   generalize bx (ss.take i)=Nk at hQ WW PH NK;have N_:qs.length=Nk.length:=Paired.length hQ;intro lg TM;have S2:au H1 (upd H1 lg (.dT [])):=(au.refl H1).laid TM;refine⟨_,rfl,pk,rfl,⟨_,S2.seq (aO.of e1)⟩,cM (K:=K) (a:=pk) (xs:=qs.map V.ref) (λj σ H'=>∃(v4 v5:Option V) (LN:List (List Key×V)),σ=[some (.ref a),some (.ref pk),some (.ref ai),some (.ref lg),v4,v5]/\au H1 H'/\H' lg=some (.dT LN)/\LN.map (·.1)=((Nk.take j).foldl (cR sj) []).map kL)
    ⟨v4,v5,[],rfl,S2,ae,rfl⟩ (λj σ H' _ ⟨_,_,_,_,S,_⟩=>aO.of (S _ _ e1)) ?_ ?_⟩
   · rintro j x σ H2 hj ⟨v4,v5,LN,rfl,S3,e3,hk⟩;rw[XO] at hj;obtain⟨qa,RZ,rfl⟩:=Yj.mp hj;obtain⟨pick,MZ,hT⟩:=Paired.qP hQ RZ;have Ol:j < Nk.length:=(XY.mp MZ).1;obtain⟨N3,hr6⟩:=PH pick (Yc MZ);have lk:=oS WV (Nk.take j) [];rw[X7,Zg] at lk;have TN:(Nk.take (j+1)).foldl (cR sj) []=cR sj ((Nk.take j).foldl (cR sj) []) pick:=by rw[take_snoc MZ,oX]
     generalize (Nk.take j).foldl (cR sj) []=K2 at hk lk TN;refine⟨_,rfl,ai,rfl,⟨_,(S1.trans S3).seq hI⟩,cM (K:=K) (a:=ai) (xs:=nV sj) (λm σ H'=>∃(v5:Option V) (LN:List (List Key×V)),σ=[some (.ref a),some (.ref pk),some (.ref ai),some (.ref lg),some (.ref qa),v5]/\au H1 H'/\H' lg=some (.dT LN)/\LN.map (·.1)=((sj.take m).foldl (cu pick) K2).map kL)
      ⟨v5,LN,rfl,S3,e3,hk⟩ (λm σ H' _ ⟨_,_,_,S,_⟩=>(S1.trans S).seq hI) ?_ ?_⟩
     · rintro m x σ H3 hm ⟨v5,LN,rfl,S4,e4,hk⟩;unfold nV at hm;rw[XO] at hm;obtain⟨n,hn,rfl⟩:=Yj.mp hm;have lk3:LN.length<=K2.length+25:=by
        have z1:LN.length=(cR (sj.take m) K2 pick).length:=by
         have:=YN List.length hk;rw[XH,XH] at this;exact this
        have z2:=lJ (pick:=pick) (sj.take m) K2;rw[X7] at z2;omega
       have R0:(sj.take (m+1)).foldl (cu pick) K2=cu pick ((sj.take m).foldl (cu pick) K2) n:=by rw[take_snoc hn,oX]
       generalize (sj.take m).foldl (cu pick) K2=K3 at hk R0;have TQ:=S4 _ _ hT;have eI:(!og (V.int (n:Nat)) (nV pick))=!decide (n∈pick):=by
        congr 1;rw[nP,Zu]
        exact⟨λ⟨y,h1,h2⟩=>by have:n=y:=by omega
                             subst this;exact h1,λh=>⟨n,h,rfl⟩⟩
       refine aU (b:=!decide (n∈pick)) (yt (aI (mE (neg:=true) (ag rfl) (ag rfl) (.inr (b6.of TQ)) rfl (fZ pick))) eI) (λh=>?_) (λh=>?_)
       · have Ox:¬n∈pick:=by simpa using h
         refine⟨_,rfl,_,rfl,_,rfl,by show 1<=sizeLine;decide,λt1 WX=>?_⟩;have S5:au H3 (upd H3 t1 (.tup [V.int (n:Nat)])):=(au.refl H3).laid WX;refine⟨qa,t1,nV pick,[V.int (n:Nat)],rfl,rfl,b6.of (S5 _ _ TQ),ae,by simp,by rw[aL,Yb];simp;omega,λp4 H4 S6 WY=>?_⟩;have R1:nV pick++[V.int (n:Nat)]=((pick++[n]).map λx=>((x:Nat):Int)).map V.int:=by
          unfold nV;rw[X3,X3,X_];rfl
         refine⟨p4,(pick++[n]).map λx=>((x:Nat):Int),rfl,b6.of (by rw[WY,R1]),by rw[XH,X6];simp;omega,λms p5 WZ W0 Qk=>?_⟩;have W2:=wB N3 Ox WZ W0;subst W2;have e7:((f9 n pick).map λx=>((x:Nat):Int)).map V.int=(kL (f9 n pick)).map kV:=by
          rw[Eb];unfold nV;rw[X_];rfl
         rw[e7];refine⟨p5,_,rfl,.inl ⟨aO.of ae,λp6 W3=>?_⟩⟩;have S7:au H3 (upd (upd H4 p5 (.lst ((kL (f9 n pick)).map kV))) p6 (.tup ((kL (f9 n pick)).map kV))):=(S5.trans S6).trans (((au.refl H4).laid Qk).trans ((au.refl _).laid W3));have R3:=S7 _ _ e4;refine⟨lg,_,rfl,.inr ⟨LN,kL (f9 n pick),p6,R3,rfl,ae,by rw[Yb];omega,rfl⟩,some (.int (n:Nat)),putK LN (kL (f9 n pick)) (V.bl true),rfl,?_,ae,?_⟩
         · intro c u z;rw[aq (ao z TM)];exact S7 c u (S4 c u z)
         · rw[R0,ve hk];unfold cu;rw[XI (by rw[YO,XS];exact Ox)]
       · have Ox:n∈pick:=by simpa using h
         refine⟨_,LN,rfl,S4,e4,?_⟩;rw[R0,hk];unfold cu;rw[XJ (by rw[YO,XS];exact Ox)]
     · rintro σ H3 ⟨v5,LN,rfl,S4,e4,hk⟩;rw[aL,YE] at hk;exact⟨_,_,LN,rfl,S4,e4,by rw[TN];exact hk⟩
   · rintro σ H2 ⟨v4,v5,LN,rfl,S3,e3,hk⟩;rw[XH,N_,YE] at hk;refine⟨_,rfl,lg,LN,rfl,e3,λrs l TU hl=>?_⟩;refine⟨l,rs,_,_,_,_,rfl,(S1.trans S3).laid ?_,ae,?_⟩
     · cases hz:H l with
       |none=>rfl
       |some o=>rw[S3 l o (S1 l o hz)] at hl;cases hl
     · rw[NK];have hk:LN.map (·.1)=(e_ Nk sj).map kL:=hk;have R4:LN.length=(e_ Nk sj).length:=by
        have:=YN List.length hk
        rwa [XH,XH] at this
       refine ka (by rw[Paired.length TU,R4]) λt q' l' M4 OM=>?_;obtain⟨kv,W4,hH⟩:=Paired.qP TU M4;have W5:kv.1=kL l':=by
        have z1:(LN.map (·.1))[t]?=some kv.1:=by rw[XO,W4];rfl
        rw[hk,XO,OM] at z1;exact (Yl z1).symm
       rw[aq (ao hH hl),hH,W5,Eb]
 · rintro σ H1 ⟨pk,qs,v2,v3,v4,v5,rfl,S1,e1,hQ⟩;rw[XH,LQ,YE] at hQ;exact⟨_,rfl,q H1 pk S1 ⟨qs,e1,hQ⟩⟩
end
theorem xD {α:Type}{ys zs:List α}(l:ys.length=zs.length)(f:∀(i:Nat) y,ys[i]?=some y->zs[i]?=some y):ys=zs:=Z3 λi=>by
 cases h:ys[i]? with
 |some y=>exact (f i y h).symm
 |none =>
  rw[List.getElem?_eq_none_iff] at h;exact (YK (by omega)).symm
theorem yX {β:Type}{G:Addr->β->Prop}:∀{ys:List V} {zs:List β},ys.length=zs.length->(∀(i:Nat) (y:V),ys[i]?=some y->∃b z,zs[i]?=some z/\y=V.ref b/\G b z)->∃bs:List Addr,ys=bs.map V.ref/\Paired G bs zs
 |[],[],_,_=>⟨[],rfl,.nil⟩
 |y::ys,z::zs,l,f=>by
  obtain⟨b,z',h1,h2,h3⟩:=f 0 y rfl;obtain⟨bs,e,p⟩:=yX (ys:=ys) (zs:=zs) (G:=G) (by simpa using l) λi v h=>f (i+1) v h;cases h1;exact⟨b::bs,by rw[h2,e];rfl,.cons h3 p⟩
 |[],_::_,l,_=>by simp at l
 |_::_,[],l,_=>by simp at l
theorem n8 {α β γ:Type}{F:α->β->Prop}{G:α->γ->Prop}{f:β->γ}:∀{l:List α} {m:List β},Paired F l m->(∀a b,F a b->G a (f b))->Paired G l (m.map f)
 |_,_,.nil,_=>.nil
 |_,_,.cons h t,k=>.cons (k _ _ h) (n8 t k)
theorem yc {s:aar}:(s.map λn=>((n:Nat):Int)).Nodup↔s.Nodup:=by
 unfold List.Nodup;rw[List.pairwise_map];exact⟨λh=>h.imp λn e=>n (by rw[e]),λh=>h.imp λn e=>n (by omega)⟩
theorem D4 {s:aar}:nV s=(s.map λn=>((n:Nat):Int)).map V.int:=by
 unfold nV;rw[X_];rfl
section
variable {P:Program}{w:World}{K:aas}{mg:aau}{base:Heap}
def i9 (K:aas) (r:aaq->aar->Nat):Sp:=λvs H Q _=>∃(a t:Addr) (ss:aaq) (s:aar),vs=[.ref a,.ref t]/\bC K H a ss/\b6 K H t (nV s)/\Dc ss/\s.length<=ss.length/\∀H',au H H'->Q (.int (r ss s:Nat)) H'
theorem ug:aG ["sets","start","numbers"] ["sets","start"] (aw fW):=fs
theorem EU (G:GW mg){k:Nat}(FI:Fn P w K mg base bF k "is_of" ["sets","start"] (ur K))(FP:Fn P w K mg base bF k "product_of" ["numbers"] (BP K)){f:Addr}{fd:FuncData}(F:dm K "count_legs" "count_legs" fW f fd):a9 P w K mg base bF (k+1) f fd ["sets","start"] (i9 K kP):=by
 refine F.oo ug λLP A outer s H vs Q E hr h=>?_;obtain⟨a,t,ss,s,rfl,hL,hT,hS,hl,q⟩:=h;refine⟨_,af (aP (cB (ib (aV FI hr bc (aa (pv 0) (aa (pv 1) ah))))) (ak (az ax)) aB)
  (ak (az (aV FP hr bc (aa (fz (te:=G1 (λxs H Q=>∃p ys,xs=[.ref p]/\(aO K H p ys∨b6 K H p ys)/\Q (.int ys.length) H) (cI (cJ 2) eV)) rfl ug.nd (bG (cN fw (pv 0) (cZ (bf G.len (pv 1))) ft)) (bz (own:=[("numbers",2)]) rfl)
   (λ_ _ _ _ _=>bh 2 ug.nd) (λ_ _ _ _ _=>cp) (λ_ _ _ _ _=>bf G.len (pv 2))) ah)))),?_⟩
 refine⟨_,rfl,_,rfl,a,t,ss,s,rfl,hL,hT,hS.len,hl,λH1 S1=>⟨_,rfl,?_⟩⟩;obtain⟨as,hA,hP⟩:=hL;have LQ:as.length=ss.length:=Paired.length hP;unfold kP at q;refine gI (λh=>?_) (λh=>?_)
 · have h:¬iu ss s=true:=by simpa using h
   rw[XI h] at q;exact q H1 S1
 have h:iu ss s=true:=by simpa using h
 rw[XJ h] at q;refine⟨_,rfl,_,rfl,t,_,rfl,.inr (S1.tup hT),_,rfl,a,_,rfl,S1.seq hA,λp hp=>?_⟩;rw[aL,pZ,←aaa];have S2:au H (upd H1 p (.lst ((as.drop s.length).map V.ref))):=S1.trans ((au.refl H1).laid hp);refine⟨p,rfl,⟨_,aO.of ae⟩,λD hD=>oE (K:=K) (a:=p) (xs:=(as.drop s.length).map V.ref) (λi y _=>∃si,(ss.drop s.length)[i]?=some si/\y=.int (si.length:Nat)) (λi y H H' _ z=>z) (aO.of ae) hD (by rw[XH,Yz];have:=hS.len;omega) ?_ ?_⟩
 · rintro i x H' hx S _ R hR;obtain⟨ai,Mb,rfl⟩:=jW hx;obtain⟨si,MY,hI⟩:=Paired.qP (Paired.dp s.length hP) Mb;exact⟨rfl,_,rfl,ai,nV si,rfl,.inl ((S2.trans S).seq hI),hR _ _ (au.refl _) ⟨si,MY,by rw[aL]⟩⟩
 · rintro ys H' S e l f;have ey:ys=nV ((ss.drop s.length).map List.length):=by
    refine xD (by rw[l,aL,XH,XH,Yz,Yz,LQ]) λi y hy=>?_;obtain⟨si,MY,rfl⟩:=f i y hy;unfold nV;rw[XO,XO,MY];rfl
   subst ey;refine⟨D,_,rfl,aO.of e,λn hn=>?_,λH2 S3=>q H2 ((S2.trans S).trans S3)⟩;obtain⟨s0,RC,rfl⟩:=Yh.mp hn;have g:=hS.good s0 (Zf RC);have:=jT g.1 g.2;omega
theorem Dc.out {ss:aaq}{s:aar}(o:Dc ss)(n:Nat):Dc ((ss.drop n).map (gu s)):=by
 refine⟨by rw[XH,Yz];have:=o.len;omega,λu hu=>?_,λu hu x hx=>?_⟩
 · obtain⟨v,hv,rfl⟩:=Yh.mp hu;have g:=o.good v (Zf hv);exact⟨List.Pairwise.filter _ g.1,λx hx=>g.2 x (YR.mp hx).1⟩
 · obtain⟨v,hv,rfl⟩:=Yh.mp hu;exact o.lo v (Zf hv) x (YR.mp hx).1
theorem ud:aG ["sets","start","numbers"] ["sets","start"] (aw eT):=fs
theorem DF (G:GW mg)(N:GN mg){k:Nat}(FI:Fn P w K mg base bF k "is_of" ["sets","start"] (ur K))(FD:Fn P w K mg base bF k "count_different" ["sets"] (FZ K))(FW:Fn P w K mg base bF k "without" ["numbers","taken"] (tW K)){f:Addr}{fd:FuncData}(F:dm K "count_orders" "count_orders" eT f fd):a9 P w K mg base bF (k+1) f fd ["sets","start"] (i9 K tS):=by
 refine F.oo ud λLP A outer s H vs Q E hr h=>?_;obtain⟨a,t,ss,s,rfl,hL,hT,hS,hl,q⟩:=h;refine⟨_,af (aP (PW.pt (eD (cB (ib (aV FI hr bc (aa (pv 0) (aa (pv 1) ah))))) (cU (aA nS (bX Ff (by rfl) G.len PySem.boot_len (aa (jZ (D_ rfl) (by rfl) N.set (by decide +kernel) (aa (pv 1) ah)) ah)) (bf G.len (pv 1)) (aJ _))))) (ak (az ax)) aB)
  (ak (az (aV FD hr bc (aa (fz (te:=n9 (tW K) [] E0 (cI (cJ 2) (cI (cJ 1) eV))) rfl ud.nd (bG (cN fw (pv 0) (cZ (bf G.len (pv 1))) ft)) (bz (own:=[("numbers",2)]) rfl)
   (λ_ _ _ _ _=>bh 2 ud.nd) (λ_ _ _ _ _=>cp) (λ_ _ _ _ _=>aV FW (by first|exact hr|exact hr.qO) bc (aa (pv 2) (aa (pv 1) ah)))) ah)))),?_⟩
 refine⟨_,rfl,_,rfl,a,t,ss,s,rfl,hL,hT,hS.len,hl,λH1 S1=>⟨_,rfl,?_⟩⟩;obtain⟨as,hA,hP⟩:=hL;have LQ:as.length=ss.length:=Paired.length hP;have h6:=hS.len;unfold tS at q;refine gI (λh=>?_) (λh=>?_)
 · have h:¬iu ss s=true:=by simpa using h
   rw[XI λz=>h z.1] at q;exact p_ (q H1 S1)
 have h:iu ss s=true:=by simpa using h
 refine⟨_,rfl,t,s.map λn=>((n:Nat):Int),rfl,by rw[←D4];exact S1.tup hT,by rw[XH];omega,λp S n hp hn Nl=>?_⟩;rw[XH] at hn Nl;rw[yc] at Nl;have Sp:au H (upd H1 p (.set S n)):=S1.trans ((au.refl H1).laid hp);refine⟨p,S,n,rfl,ae,by omega,_,rfl,t,_,rfl,.inr (Sp.tup hT),_,_,rfl,rfl,_,rfl,?_⟩;rw[aL];refine gI (λh2=>?_) (λh2=>?_)
 · have h2:=X4 h2;rw[XI λz=>by have:=Nl.mpr z.2;omega] at q;exact q _ Sp
 have h2:s.Nodup:=Nl.mp (by have:¬((n:Nat):Int) < ((s.length:Nat):Int):=by simpa using h2
                            omega)
 rw[XJ ⟨h,h2⟩] at q;refine⟨_,rfl,_,rfl,t,_,rfl,.inr (Sp.tup hT),_,rfl,a,_,rfl,Sp.seq hA,λp2 N5=>?_⟩;rw[aL,pZ,←aaa];have S2:au H (upd (upd H1 p (.set S n)) p2 (.lst ((as.drop s.length).map V.ref))):=Sp.trans ((au.refl _).laid N5);refine⟨p2,rfl,⟨_,aO.of ae⟩,λD hD=>oE (K:=K) (a:=p2) (xs:=(as.drop s.length).map V.ref) (λi y H=>∃b si,(ss.drop s.length)[i]?=some si/\y=.ref b/\b≠D/\H b=some (.lst (nV (gu s si)))) (λi y H H' z ⟨b,si,z1,z2,z3,z4⟩=>⟨b,si,z1,z2,z3,z b _ z3 z4⟩) (aO.of ae) hD (by rw[XH,Yz];omega) ?_ ?_⟩
 · rintro i x H' hx S3 ⟨acc,R5⟩ R hR;obtain⟨ai,Mb,rfl⟩:=jW hx;obtain⟨si,MY,hI⟩:=Paired.qP (Paired.dp s.length hP) Mb;have g:=hS.good si (Zf (Yc MY));have:=jT g.1 g.2;refine⟨rfl,_,rfl,_,rfl,ai,t,si,s,rfl,(S2.trans S3).seq hI,(S2.trans S3).tup hT,by omega,λH4 x S4 TV N7=>hR _ _ S4 ⟨x,si,MY,rfl,?_,N7⟩⟩;rintro rfl;rw[R5] at TV;cases TV
 · rintro ys H' S3 e l f;obtain⟨bs,rfl,hB⟩:=yX (zs:=ss.drop s.length) (G:=λb si=>b≠D/\H' b=some (.lst (nV (gu s si)))) (by rw[l,XH,Yz,Yz,LQ]) f;refine⟨D,(ss.drop s.length).map (gu s),rfl,⟨bs,aO.of e,n8 hB λb si z=>aO.of z.2⟩,hS.out _,λH2 S4=>q H2 ((S2.trans S3).trans S4)⟩
end
structure pA (LN:List (List Key×V))(f:aar->Nat):Prop where
 val:∀s,cV LN (kL s)=if f s=0 then none else some (.int (f s:Nat))
 keys:∃ks:aaq,LN.map (·.1)=ks.map kL/\ks.Nodup
theorem pA.get {LN:List (List Key×V)}{f:aar->Nat}(h:pA LN f)(s:aar):(cV LN (kL s)).getD (.int 0)=.int (f s:Nat):=by
 rw[h.val s];by_cases z:f s=0
 · rw[XJ z,z];rfl
 · rw[XI z];rfl
theorem pA.put {LN:List (List Key×V)}{f g:aar->Nat}(h:pA LN f)(s:aar)(hg:∀r,g r=if r=s then f s+1 else f r):pA (putK LN (kL s) (.int (f s+1:Nat))) g:=by
 refine⟨λr=>?_,?_⟩
 · rw[qA,hg r];by_cases e:r=s
   · subst e;rw[XJ rfl,XJ rfl,XI (by omega)]
   · rw[XI λz=>e (A_ z),XI e,h.val r]
 · obtain⟨ks,e,nd⟩:=h.keys;exact⟨_,ve e,mJ nd⟩
theorem Bt {LN:List (List Key×V)}{k:List Key}{v:V}:(putK LN k v).length<=LN.length+1:=by
 unfold putK;split
 · rw[XH];omega
 · rw[X6];exact XT _
def uh (R:aaq)(row:aar)(j:Nat)(s:aar):Nat:=pre R s+if s.length < j/\s.isPrefixOf row=true then 1 else 0
theorem Ae (R:aaq)(row s:aar):uh R row 0 s=pre R s:=by
 unfold uh;rw[XI (by omega),Nat.add_zero]
theorem Cw (R:aaq)(row s:aar):uh R row (row.length+1) s=pre (R++[row]) s:=by
 unfold uh pre;rw[List.countP_append,List.countP_singleton];congr 1;refine kg ⟨λh=>h.2,λh=>⟨?_,h⟩⟩;have:=(aan.mp h).length_le;omega
theorem zB {R:aaq}{row:aar}{j:Nat}(hj:j<=row.length)(s:aar):uh R row (j+1) s=if s=row.take j then uh R row j (row.take j)+1 else uh R row j s:=by
 have l:(row.take j).length=j:=by rw[X7];omega
 unfold uh;by_cases e:s=row.take j
 · subst e;rw[XJ rfl,XJ ⟨by omega,aan.mpr (List.take_prefix ..)⟩,XI (by omega)]
 · rw[XI e];congr 1;refine kg ⟨λh=>⟨?_,h.2⟩,λh=>⟨by omega,h.2⟩⟩;have:s.length≠j:=λz=>e (by rw[(List.prefix_iff_eq_take.mp (aan.mp h.2)),z]);omega
section
variable {P:Program}{w:World}{K:aas}{mg:aau}{base:Heap}
def Gj:Sp:=λvs H Q _=>∃(a:Addr) (R:aaq),vs=[.ref a]/\Bl H a R/\(∀r∈R,r.length<=3)/\R.length<=20000/\∀H' x LN,au H H'->H x=none->H' x=some (.dT LN)->pA LN (pre R)->Q (.ref x) H'
theorem pM:aG ["rows","counts","row","size","start"] ["rows"] (aw eU):=fs
theorem Hr (G:GW mg)(N:GN mg){f:Addr}{fd:FuncData}(F:dm K "count_starts" "count_starts" eU f fd):a9 P w K mg base bF 1 f fd ["rows"] Gj:=by
 refine F.oo pM λLP A outer s H vs Q E hr h=>?_;obtain⟨a,R,rfl,⟨qs,hA,hP⟩,h3,hl,q⟩:=h;have hu:=vS hr;refine⟨_,af (aZ 1 pM.nd qF)
  (af (cT YM rfl (bG (pv 0)) (bh 2 pM.nd)
   (ak (cT YM rfl (gi rfl N.range (aa (bJ eK (bf G.len (pv 2)) ax) ah)) (bh 3 pM.nd)
    (af (aZ 4 pM.nd (cN Ed (pv 2) ft (cZ (pv 3))))
    (ak (mw hu (pv 1) (pv 4) (bJ eK (uW hu (pv 1) (pv 4) ax ⟨rfl,rfl,rfl,rfl⟩) ax) rfl))))))
  (ak (az (pv 1)))),?_⟩
 have N_:qs.length=R.length:=Paired.length hP;intro dc R6;have S0:au H (upd H dc (.dT [])):=(au.refl H).laid R6;refine⟨_,rfl,a,rfl,⟨_,aO.of (S0 _ _ hA)⟩,cM (K:=K) (a:=a) (xs:=qs.map V.ref) (λi σ H'=>∃(v2 v3 v4:Option V) (LN:List (List Key×V)),σ=[some (.ref a),some (.ref dc),v2,v3,v4]/\au H H'/\H' dc=some (.dT LN)/\pA LN (pre (R.take i))/\LN.length<=4*i)
  ⟨none,none,none,[],rfl,S0,ae,⟨λs=>rfl,[],rfl,by simp⟩,by simp⟩ (λi σ H' _ ⟨_,_,_,_,_,S,_⟩=>aO.of (S _ _ hA)) ?_ ?_⟩
 · rintro i x σ H1 hi ⟨v2,v3,v4,LN,rfl,S1,e1,k1,l1⟩;obtain⟨qa,RZ,rfl⟩:=jW hi;obtain⟨row,Oa,hT⟩:=Paired.qP hP RZ;have LX:i < R.length:=(XY.mp Oa).1;have r3:=h3 row (Yc Oa);refine pH (tj (jL (aT (ag rfl) (.inr (b6.of (S1 _ _ hT)))) aD) (by omega) (by rw[aL];omega) ?_);rw[aL,show (((row.length:Nat):Int)+1).toNat=row.length+1 by omega];refine mV (lo:=0) (n:=row.length+1) (λj σ H'=>∃(v3 v4:Option V) (LN:List (List Key×V)),σ=[some (.ref a),some (.ref dc),some (.ref qa),v3,v4]/\au H H'/\H' dc=some (.dT LN)/\pA LN (uh (R.take i) row j)/\LN.length<=4*i+j)
    ⟨v3,v4,LN,rfl,S1,e1,⟨λs=>by rw[Ae];exact k1.val s,k1.keys⟩,l1⟩ ?_ ?_
   · rintro j σ H2 hj ⟨v3,v4,LN,rfl,S2,e2,k2,l2⟩;rw[Int.zero_add];refine⟨_,rfl,_,rfl,_,rfl,qa,_,rfl,S2 _ _ hT,λp H3 S3 hp=>?_⟩;rw[qr] at hp;have et:(nV row).take j=(kL (row.take j)).map kV:=by rw[Eb];unfold nV;rw[List.map_take]
     rw[et] at hp;have e3:=S3 _ _ e2;refine⟨_,rfl,dc,rfl,.inr ⟨LN,.inl e3⟩,_,rfl,_,gy.t e3 hp,_,_,k2.get _,rfl,_,rfl,_,rfl,dc,_,rfl,.inr ⟨LN,_,p,e3,rfl,hp,by rw[Yb];omega,rfl⟩,_,_,_,rfl,?_,ae,?_,?_⟩
     · intro b u z;rw[aq (ao z R6)];exact S3 b u (S2 b u z)
     · have:=k2.put (row.take j) (zB (R:=R.take i) (row:=row) (j:=j) (by omega));exact this
     · exact Yu Bt (by omega)
   · rintro σ H2 ⟨v3,v4,LN,rfl,S2,e2,k2,l2⟩;refine⟨_,_,_,LN,rfl,S2,e2,⟨λs=>?_,k2.keys⟩,by omega⟩;rw[k2.val s,Cw,←take_snoc Oa]
 · rintro σ H1 ⟨v2,v3,v4,LN,rfl,S1,e1,k1,l1⟩;rw[XH,N_,YE] at k1;exact⟨_,rfl,q H1 dc LN S1 R6 e1 k1⟩
end
def lN (k g p:V):List (Str×V):=[("kind",k),("grids",g),("picks",p)]
abbrev js:List Str:=["kind","grids","picks"]
section
variable {a b c:V}
theorem xR:(lN a b c).lookup ("kind":Str)=some a:=bE
theorem vL:(lN a b c).lookup ("grids":Str)=some b:=by unfold lN;rw[aR (by decide +kernel)];exact bE
theorem vg:(lN a b c).lookup ("picks":Str)=some c:=by unfold lN;rw[aR (by decide +kernel),aR (by decide +kernel)];exact bE
theorem Cy {f:Str}(h:¬f∈js):(lN a b c).lookup f=none:=oB h
end
def dB (K:aas)(H:Hp)(a:Addr)(gs:List (aaq)):Prop:=∃as:List Addr,aO K H a (as.map V.ref)/\Paired (bC K H) as gs
def dX (K:aas)(CR:Addr)(H:Hp)(x:Addr)(kd:Tote.Kind)(gs:List (aaq)):Prop :=
 ∃dx ga pa LN,H x=some (.ins CR dx (lN (.str (st (cd (kindS kd)))) (.ref ga) (.ref pa)))/\dB K H ga gs/\uH kd gs/\H pa=some (.dT LN)/\(kd=.any->pA LN (pre (bx (gs.headD []))))
section
variable {K:aas}{H H':Hp}{CR a x:Addr}{kd:Tote.Kind}{gs:List (aaq)}
theorem dB.same (h:dB K H a gs) (e:au H H'):dB K H' a gs:=by
 obtain⟨as,h1,h2⟩:=h;exact⟨as,e.seq h1,Paired.d9 h2 λ_ _ z=>z.same e⟩
theorem dB.jw {C dx:Addr}{fs:List (Str×V)}(h:dB K H a gs)(S:aM x H H')(hx:H x=some (.ins C dx fs)):dB K H' a gs:=by
 obtain⟨as,h1,h2⟩:=h;exact⟨as,S.seq hx h1,Paired.d9 h2 λ_ _ z=>aM.lists S hx z⟩
theorem dB.first (h:dB K H a gs)(ne:gs≠[]):∃(as:List Addr) (a0:Addr),aO K H a (as.map V.ref)/\nU (as.map V.ref) 0=some (V.ref a0)/\bC K H a0 (gs.headD [])/\gs.headD []∈gs:=by
 obtain⟨as,h1,h2⟩:=h;cases h2 with
 |nil=>exact absurd rfl ne
 |@cons a0 g as gs h t=>exact⟨_,a0,h1,cv (j:=0) rfl,h,by simp⟩
theorem dX.same (h:dX K CR H x kd gs)(e:au H H'):dX K CR H' x kd gs:=by
 obtain⟨dx,ga,pa,LN,h1,h2,h3,h4,h5⟩:=h;exact⟨dx,ga,pa,LN,e _ _ h1,h2.same e,h3,e _ _ h4,h5⟩
theorem dX.jw {y C dy:Addr}{fs:List (Str×V)}(h:dX K CR H x kd gs)(S:aM y H H')(hy:H y=some (.ins C dy fs))(hl:fs.length≠3):dX K CR H' x kd gs:=by
 obtain⟨dx,ga,pa,LN,h1,h2,h3,h4,h5⟩:=h;exact⟨dx,ga,pa,LN,S _ _ h1 (dG h1 hy (Bn λz=>hl z.symm)),h2.jw S hy,h3,S _ _ h4 (dG h4 hy (by intro z;cases z)),h5⟩
end
theorem kind_any {kd:Tote.Kind}:decide (V.str (st (cd (kindS kd)))=V.str (Str.ofString "any"))=decide (kd=.any):=by
 rw[ir];cases kd <;> decide
theorem kind_ord {kd:Tote.Kind}:decide (V.str (st (cd (kindS kd)))=V.str (Str.ofString "order"))=decide (kd=.order):=by
 rw[ir];cases kd <;> decide
section
variable {P:Program}{w:World}{K:aas}{mg:aau}{base:Heap}
def kj (K:aas) (CR:Addr):Sp:=λvs H Q _=>∃(x dx ga:Addr) (kd:Tote.Kind) (gs:List (aaq)),vs=[.ref x,.str (st (cd (kindS kd))),.ref ga]/\H x=some (.ins CR dx [])/\dB K H ga gs/\uH kd gs/\∀H',aM x H H'->dX K CR H' x kd gs->Q .b8 H'
theorem Bm:aG ["self","kind","grids"] ["self","kind","grids"] (aw gY):=fs
theorem A4 {CR:Addr}(T:CK K mg "Rows" js CR){k:Nat}(FC:Fn P w K mg base bF k "count_starts" ["rows"] Gj)(FP:Fn P w K mg base bF k "picks_of" ["sets"] (sf K)){f:Addr}{fd:FuncData}(F:dm K "__init__" "Rows.__init__" gY f fd):a9 P w K mg base bF (k+1) f fd ["self","kind","grids"] (kj K CR):=by
 refine F.oo Bm λLP A outer s H vs Q E hr h=>?_;obtain⟨x,dx,ga,kd,gs,rfl,hx,hG,o,q⟩:=h;refine⟨_,af (cH (pv 0) (pv 1) rfl) (af (cH (pv 0) (pv 2) rfl) (ak (cH (pv 0) (Cn (aA cn (pv 1) bt (aJ _)) (aV FC hr bc (aa (aV FP hr bc (aa (bp aN (pv 2) ax (λ_ _=>rfl)) ah)) ah)) qF) rfl))),?_⟩;refine⟨_,rfl,_,rfl,x,CR,dx,[],rfl,hx,T.cl,T.no _ (by simp),(by show 0 < 1000;decide),?_⟩;refine⟨_,rfl,_,rfl,x,CR,dx,_,rfl,ae,T.cl,T.no _ (by simp),(by show 1 < 1000;decide),?_⟩;rw[cy]
 repeat (first|rw[bS]|rw[bg (by decide +kernel)])
 have S1:aM x H (upd H x (.ins CR dx [("kind",.str (st (cd (kindS kd)))),("grids",.ref ga)])):=(aM.refl x H).upd;have ME:(upd H x (.ins CR dx [("kind",.str (st (cd (kindS kd)))),("grids",.ref ga)])) x=some (.ins CR dx [("kind",.str (st (cd (kindS kd)))),("grids",.ref ga)]):=ae;generalize upd H x (.ins CR dx [("kind",.str (st (cd (kindS kd)))),("grids",.ref ga)])=H1 at S1 ME;have W6:=hG.jw S1 hx;have fin:∀(H2:Hp) (pa:Addr) (LN:List (List Key×V)),au H1 H2->H2 pa=some (.dT LN)->(kd=.any->pA LN (pre (bx (gs.headD []))))->Q .b8 (upd H2 x (.ins CR dx (lN (.str (st (cd (kindS kd)))) (.ref ga) (.ref pa)))):=λH2 pa LN S2 hp hk=>by
  have SX:aM x H (upd H2 x (.ins CR dx (lN (.str (st (cd (kindS kd)))) (.ref ga) (.ref pa)))):=(S1.trans S2.x).upd;exact q _ SX ⟨dx,ga,pa,LN,ae,hG.jw SX hx,o,by rw[aq (dG hp (S2 _ _ ME) (by intro z;cases z))];exact hp,hk⟩
 have last:∀(H2:Hp) (pa:Addr) (LN:List (List Key×V)),au H1 H2->H2 pa=some (.dT LN)->(kd=.any->pA LN (pre (bx (gs.headD []))))->Q .b8 (upd H2 x (.ins CR dx (d_ "picks" (.ref pa) [("kind",.str (st (cd (kindS kd)))),("grids",.ref ga)]))):=λH2 pa LN S2 hp hk=>by
  rw[bg (by decide +kernel),bg (by decide +kernel),bS];exact fin H2 pa LN S2 hp hk
 refine (aI (cb (ag rfl) aD)) _ ?_;rw[kind_any];refine gI (λh=>?_) (λh=>?_)
 · have h:=X4 h;obtain⟨as,a0,hA,h0,hL,hm⟩:=W6.first o.ne
   have sg:=o.ok _ hm;have l3:=o.any h _ hm;generalize gs.headD []=g at hL sg l3 last;refine (a8 (ag rfl) aD hA h0) _ ⟨a0,g,rfl,hL,sg,l3,λH2 xp S2 ML=>⟨xp,_,rfl,ML,λr hm=>?_,?_,λH3 xd LN S3 hxd e3 k3=>?_⟩⟩
   · rw[(j_ ((ku g r).mp hm).2).1];exact l3
   · have:=mS 3 g λs hs=>jT (sg.good s hs).1 (sg.good s hs).2;rw[YD l3] at this;exact Yu this (by decide)
   · exact⟨_,rfl,x,CR,dx,_,rfl,S3 _ _ (S2 _ _ ME),T.cl,T.no _ (by simp),(by show 2 < 1000;decide),last H3 xd LN (S2.trans S3) e3 λ_=>k3⟩
 · have h:=Yr (by simpa using h);intro d hd;exact⟨_,rfl,x,CR,dx,_,rfl,((au.refl H1).laid hd) _ _ ME,T.cl,T.no _ (by simp),(by show 2 < 1000;decide),last _ d [] ((au.refl H1).laid hd) ae λz=>absurd z h⟩
def uj (K:aas)(CR:Addr):Sp:=λvs H Q _=>∃(x t:Addr) (kd:Tote.Kind) (gs:List (aaq)) (s:aar),vs=[.ref x,.ref t]/\dX K CR H x kd gs/\H t=some (.tup (nV s))/\(∀g∈gs,s.length<=g.length)/\∀H',au H H'->Q (.int (pre (su kd gs) s:Nat)) H'
theorem jQ:aG ["self","start","grid"] ["self","start"] (aw dQ):=fs
theorem Bb {CR:Addr}(N:GN mg)(T:CK K mg "Rows" js CR){k:Nat}(FO:Fn P w K mg base bF k "count_orders" ["sets","start"] (i9 K tS))(FL:Fn P w K mg base bF k "count_legs" ["sets","start"] (i9 K kP)){f:Addr}{fd:FuncData}(F:dm K "starting" "Rows.starting" dQ f fd):a9 P w K mg base bF (k+1) f fd ["self","start"] (uj K CR):=by
 refine F.oo jQ λLP A outer s H vs Q E hr h=>?_;obtain⟨x,t,kd,gs,s,rfl,⟨dx,ga,pa,LN,hx,hG,o,hp,hk⟩,hT,hl,q⟩:=h;have hu:=vS hr;refine⟨_,af (aP (aA cn (aS (pv 0) rfl) bt (aJ _)) (ak (az (uW hu (aS (pv 0) rfl) (pv 1) ax ⟨rfl,rfl,rfl,rfl⟩))) aB)
  (af (aP (aA cn (aS (pv 0) rfl) bt (aJ _)) (ak (az (bX (xM rfl) (by rfl) N.sum (by decide +kernel) (aa (fz (te:=n9 (i9 K tS) [] E0 (cI (cJ 2) (cI (cJ 1) eV))) rfl jQ.nd (bG (aS (pv 0) rfl)) (bz (own:=[("grid",2)]) rfl) (λ_ _ _ _ _=>bh 2 jQ.nd) (λ_ _ _ _ _=>cp) (λ_ _ _ _ _=>aV FO (by first|exact hr|exact hr.qO) bc (aa (pv 2) (aa (pv 1) ah)))) ah)))) aB)
  (ak (az (bX (xM rfl) (by rfl) N.sum (by decide +kernel) (aa (fz (te:=n9 (i9 K kP) [] E0 (cI (cJ 2) (cI (cJ 1) eV))) rfl jQ.nd (bG (aS (pv 0) rfl)) (bz (own:=[("grid",2)]) rfl) (λ_ _ _ _ _=>bh 2 jQ.nd) (λ_ _ _ _ _=>cp) (λ_ _ _ _ _=>aV FL (by first|exact hr|exact hr.qO) bc (aa (pv 2) (aa (pv 1) ah)))) ah))))),?_⟩
 have TX:∀{σ:L2.St},σ[0]?=some (some (V.ref x))->Ev (vd K (cJ 0) "kind") σ H (.str (st (cd (kindS kd)))):=λz=>a_ (ag z) hx T.cl (T.no _ (by simp)) xR;have W7:∀{σ:L2.St},σ[0]?=some (some (V.ref x))->Ev (vd K (cJ 0) "grids") σ H (.ref ga):=λz=>a_ (ag z) hx T.cl (T.no _ (by simp)) vL;have many:∀(r:aaq->aar->Nat) (R:VK),(∀H',au H H'->R (.int (((gs.map λg=>r g s).sum:Nat))) H')->(Hd (FE K (vd K (cJ 0) "grids")) (fB 2) A5 (n9 (i9 K r) [] E0 (cI (cJ 2) (cI (cJ 1) eV))) [2]) [some (.ref x),some (.ref t),none] H λv H'=>JX K [v] H' R:=by
  intro r R hR;obtain⟨as,hA,hP⟩:=hG;have LQ:as.length=gs.length:=Paired.length hP;refine yT ?_;show vd _ _ _ _ _ _;refine W7 rfl _ ⟨ga,rfl,⟨_,hA⟩,λD hD=>oE (K:=K) (a:=ga) (xs:=as.map V.ref) (λi y _=>∃g,gs[i]?=some g/\y=.int (r g s:Nat)) (λi y H H' _ z=>z) hA hD (by rw[XH,LQ];have:=o.vJ;omega) ?_ ?_⟩
  · rintro i v H' hi S _ R hR;obtain⟨ai,Mb,rfl⟩:=jW hi;obtain⟨g,hg,hL⟩:=Paired.qP hP Mb;have mg:=Yc hg;exact⟨rfl,_,rfl,_,rfl,ai,t,g,s,rfl,hL.same S,b6.of (S _ _ hT),o.ok g mg,hl g mg,λH4 S4=>hR _ _ S4 ⟨g,hg,rfl⟩⟩
  · rintro ys H' S e l f;have ey:ys=((gs.map λg=>r g s).map λn=>((n:Nat):Int)).map V.int:=by
     refine xD (by rw[l];simp[LQ]) λi y hy=>?_;obtain⟨g,hg,rfl⟩:=f i y hy;rw[XO,XO,XO,hg];rfl
    subst ey;refine⟨D,_,rfl,aO.of e,?_⟩;rw[pL];exact hR H' S
 refine aU (aI (cb (TX rfl) aD)) (λh=>?_) (λh=>?_)
 · rw[kind_any] at h;have h:=X4 h;have Tc:=hk h;subst h;show vd _ _ _ _ _ _;refine (a_ (ag rfl) hx T.cl (T.no _ (by simp)) vg) _ ⟨pa,rfl,.inr ⟨LN,.inl hp⟩,_,rfl,_,gy.t hp (k:=kL s) (by rw[Eb];exact hT),?_⟩;show Q ((cV LN (kL s)).getD (.int 0)) H;rw[Tc.get s];exact q H (au.refl H)
 rw[kind_any] at h;have na:=Yr h;refine aU (aI (cb (TX rfl) aD)) (λh=>?_) (λh=>?_)
 · rw[kind_ord] at h;have h:=X4 h;subst h;refine many tS _ λH' S=>?_;rw[zL o hl];exact q H' S
 rw[kind_ord] at h;have no:=Yr h;refine many kP _ λH' S=>?_;rw[Bi no na o hl];exact q H' S
end
abbrev dN (s:aar):List PyData:=s.map λn=>.int (n:Nat)
theorem uQ:∀s t:aar,PyData.eqvAll (dN s) (dN t)=(s==t)
 |[],[]=>by simp[PyData.eqvAll]
 |[],_::_=>by simp[PyData.eqvAll]
 |_::_,[]=>by simp[PyData.eqvAll]
 |x::s,y::t=>by
  have ih:=uQ s t;have e:(((x:Nat):Int)==((y:Nat):Int))=(x==y):=by rw[Ym,Yx,Yx];omega
  show (PyData.eqv (.int (x:Nat)) (.int (y:Nat))&&PyData.eqvAll (dN s) (dN t))=_;rw[ih];simp only[PyData.eqv];rw[e];rfl
theorem shaped_ints (s:aar):SeqAt.shaped (.list (dN s))=true:=by
 have h1:∀s:aar,PyData.canLayAll0 (dN s)=true:=λs=>by
  induction s with
  |nil=>simp[PyData.canLayAll0]
  |cons x s ih=>show (PyData.canLay0 (.int (x:Nat))&&PyData.canLayAll0 (dN s))=true;rw[ih];simp[PyData.canLay0]
 have h2:∀s:aar,PyData.depthAll (dN s)=0:=λs=>by
  induction s with
  |nil=>simp[PyData.depthAll]
  |cons x s ih=>show max (PyData.depth (.int (x:Nat))) (PyData.depthAll (dN s))=0;rw[ih];simp[PyData.depth]
 unfold SeqAt.shaped;rw[XR,XS];refine⟨?_,?_⟩
 · simp only[PyData.canLay0];exact h1 s
 · simp only[PyData.depth];rw[h2];decide
theorem yo {K:aas}{H:Hp}{c:Addr}{s:aar}(h:aO K H c (nV s)):Dp K H (.ref c) (.list (dN s)):=by
 refine .lst h ?_;clear h
 induction s with
 |nil=>exact .nil
 |cons x s ih=>exact .cons (.int _) ih
def RS (K:aas)(sd:Addr)(H:Hp)(c:Addr)(xs:List V):Prop:=∀H',aM sd H H'->aO K H' c xs
def RL (K:aas)(sd:Addr)(H:Hp)(b:Addr)(g:aaq):Prop:=∃as:List Addr,RS K sd H b (as.map V.ref)/\Paired (λc s=>RS K sd H c (nV s)) as g
section
variable {K:aas}{sd b c:Addr}{H H':Hp}{xs:List V}{g:aaq}
theorem RS.of (h:H c=some (.lst xs)) (n:c≠sd):RS K sd H c xs:=λ_ S=>aO.of (S _ _ h n)
theorem RS.old (h:aO K H c xs)(n:H sd=none)(S:au H H'):RS K sd H' c xs:=λ_ SX=>au.seq (λb u z=>SX b u (S b u z) (ao z n)) h
theorem RS.step (h:RS K sd H c xs)(S:aM sd H H'):RS K sd H' c xs:=λ_ T=>h _ (S.trans T)
theorem RL.step (h:RL K sd H b g)(S:aM sd H H'):RL K sd H' b g:=by
 obtain⟨as,h1,h2⟩:=h;exact⟨as,h1.step S,Paired.d9 h2 λ_ _ z=>z.step S⟩
theorem RL.lists (h:RL K sd H b g):bC K H b g:=by
 obtain⟨as,h1,h2⟩:=h;exact⟨as,h1 _ (aM.refl sd H),Paired.d9 h2 λ_ _ z=>z _ (aM.refl sd H)⟩
end
theorem gF {α β:Type}{F:α->β->Prop}:∀{l:List α} {m:List β} {l':List α} {m':List β},Paired F l m->Paired F l' m'->Paired F (l++l') (m++m')
 |_,_,_,_,.nil,h=>h
 |_,_,_,_,.cons h t,k=>.cons h (gF t k)
section
variable {P:Program}{w:World}{K:aas}{mg:aau}{base:Heap}
def pF (K:aas) (CR:Addr):Sp:=λvs H Q _=>∃(a:Addr) (kd:Tote.Kind) (ss:aaq),vs=[.str (st (cd (kindS kd))),.ref a]/\bC K H a ss/\uH kd [ss]/\∀H' x,au H H'->dX K CR H' x kd [ss]->Q (.ref x) H'
theorem Gu:aG ["kind","sets"] ["kind","sets"] (aw j7):=fs
theorem made {CR:Addr}{H H1:Hp}{Q:VK}{ga:Addr}{kd:Tote.Kind}{gs:List (aaq)}(S:au H H1)(hG:dB K H1 ga gs)(o:uH kd gs)(q:∀H' x,au H H'->dX K CR H' x kd gs->Q (.ref x) H')(x dx:Addr)(hx:H1 x=none)(Mv:H1 dx=none)(nx:dx≠x) :
  kj K CR [.ref x,.str (st (cd (kindS kd))),.ref ga] (upd (upd H1 dx (.own x)) x (.ins CR dx [])) (λv H2=>v=.b8/\Q (.ref x) H2) E0:=by
 have S1:au H1 (upd (upd H1 dx (.own x)) x (.ins CR dx [])):=((au.refl H1).laid Mv).laid hx;exact⟨x,dx,ga,kd,gs,rfl,ae,hG.same S1,o,λH' SX hR=>⟨rfl,q H' x (λb u z=>SX b u (S1 b u (S b u z)) (ao (S b u z) hx)) hR⟩⟩
theorem He {CR:Addr}(T:CK K mg "Rows" js CR){k:Nat}(FR:xI P w K mg base bF k CR ["self","kind","grids"] (kj K CR)){f:Addr}{fd:FuncData}(F:dm K "rows_on" "rows_on" j7 f fd):a9 P w K mg base bF (k+2) f fd ["kind","sets"] (pF K CR):=by
 refine F.oo Gu λLP A outer s H vs Q E hr h=>?_;obtain⟨a,kd,ss,rfl,hL,o,q⟩:=h;refine⟨_,ak (az (pX FR hr T.mg bc (aa (pv 0) (aa (bT (aa (pv 1) ah)) ah)))),?_⟩;refine⟨_,rfl,_,rfl,by show 1<=sizeLine;decide,λl hl=>?_⟩;have S1:au H (upd H l (.lst [V.ref a])):=(au.refl H).laid hl;exact λx dx hx Mv nx=>made S1 ⟨[a],aO.of ae,.cons (hL.same S1) .nil⟩ o q x dx hx Mv nx
def rj (K:aas)(CR:Addr):Sp:=λvs H Q _=>∃(a:Addr) (k:Nat) (kd:Tote.Kind) (s:aar),vs=[.str (st (cd (kindS kd))),.int (k:Nat),.ref a]/\aO K H a (nV s)/\k<=6/\uH kd [List.replicate k s]/\∀H' x,au H H'->dX K CR H' x kd [List.replicate k s]->Q (.ref x) H'
theorem uq:aG ["kind","size","numbers","place"] ["kind","size","numbers"] (aw iN):=fs
theorem yP {te:TE}{σ:L2.St}{H:Hp}{Q:VK}(h:te σ H λx H1=>1<=sizeLine/\∀p,H1 p=none->Q (.ref p) (upd H1 p (.lst [x]))):G5 (cI te eV) σ H Q:=h
theorem GR {te:TE}{n:Nat}{D:Ends}{σ:L2.St}{H:Hp}(h:te σ H λv H'=>D.nx (σ.set n (some v)) H'):yf te (fB n) D σ H:=h
theorem zg {k n m:Nat}{vs:aar}{a:Addr}{σ:L2.St}{H:Hp}{Q:VK}{ta:TA}{g:TG}(hk:k<=6)(ha:∀R:List V->Hp->Prop,R [.int (k:Nat)] H->ta σ H R)(hg:g=fB n)(W8:vs=[n])(hv:∀i:Int,((wipe σ [n]).set n (some (.int i)))[m]?=some (some (.ref a))/\wipe ((wipe σ [n]).set n (some (.int i))) [n]=wipe σ [n])
  (q:∀D H',H D=none->au H H'->H' D=some (.lst (List.replicate k (V.ref a)))->Q (.ref D) H'):(Hd (B_ ta) g A5 (cJ m) vs) σ H Q:=by
 subst hg W8;refine yT (ha _ ⟨_,rfl,by omega,by omega,λD hD=>?_⟩);rw[Ys];refine mP (lo:=0) (n:=k) (λi H'=>au H H'/\H' D=some (.lst (List.replicate i (V.ref a)))) ⟨(au.refl H).laid hD,ae⟩ ?_ ?_
 · rintro i H' hi ⟨k1,k2⟩;refine⟨(hv _).2,_,(hv _).1,_,k2,by rw[Yi,Yb];omega,λb u z=>?_,?_⟩
   · rw[aq (ao z hD)];exact k1 b u z
   · rw[ae,List.replicate_succ']
 · rintro H' ⟨k1,k2⟩;exact q D H' hD k1 k2
theorem sv {H:Hp}{D a:Addr}{k:Nat}{s:aar}(h:H D=some (.lst (List.replicate k (V.ref a))))(hs:aO K H a (nV s)):bC K H D (List.replicate k s):=⟨List.replicate k a,aO.of (by rw[h,List.map_replicate]),Paired.rep (F:=hZ K H) hs k⟩
theorem ET {CR:Addr}(N:GN mg)(T:CK K mg "Rows" js CR){k:Nat}(FR:xI P w K mg base bF k CR ["self","kind","grids"] (kj K CR)){f:Addr}{fd:FuncData}(F:dm K "rows_box" "rows_box" iN f fd):a9 P w K mg base bF (k+2) f fd ["kind","size","numbers"] (rj K CR):=by
 refine F.oo uq λLP A outer s H vs Q E hr h=>?_;obtain⟨a,n,kd,ss,rfl,hS,h6,o,q⟩:=h;refine⟨_,ak (az (pX FR hr T.mg bc (aa (pv 0) (aa (bT (aa (fz (te:=cJ 2) rfl uq.nd (gi rfl N.range (aa (pv 1) ah)) (bz (own:=[("place",3)]) rfl) (λ_ _ _ _ _=>bh 3 uq.nd) (λ_ _ _ _ _=>cp) (λ_ _ _ _ _=>pv 2)) ah)) ah)))),?_⟩;refine⟨_,rfl,yP (zg h6 (λR r=>⟨_,rfl,r⟩) rfl rfl (λi=>⟨rfl,rfl⟩) λD H1 hD S1 e1=>⟨by show 1<=sizeLine;decide,λl hl=>?_⟩)⟩;have S2:au H1 (upd H1 l (.lst [V.ref D])):=(au.refl H1).laid hl;exact λx dx hx Mv nx=>made (S1.trans S2) ⟨[D],aO.of ae,.cons ((sv e1 (S1.seq hS)).same S2) .nil⟩ o q x dx hx Mv nx
end
section
variable {P:Program}{w:World}{K:aas}{mg:aau}{base:Heap}
def Ll (K:aas) (H:Hp) (a:Addr) (gs:List (aaq)):Prop:=∃bs:List Addr,H a=some (.lst (bs.map V.ref))/\Paired (bC K H) bs gs
def xB (K:aas):Sp:=λvs H Q _=>∃(a b:Addr) (k:Nat) (A B:aar),vs=[.int (k:Nat),.ref a,.ref b]/\aO K H a (nV A)/\aO K H b (nV B)/\k<=4/\A.length<=3/\∀H' x,au H H'->Ll K H' x (bH B A [List.replicate k B])->Q (.ref x) H'
theorem fS:aG ["size","bankers","others","grids","banker","seated","grid","place"] ["size","bankers","others"] (aw gp):=fs
theorem Dk (N:GN mg){f:Addr}{fd:FuncData}(F:dm K "seatings" "seatings" gp f fd):a9 P w K mg base bF 1 f fd ["size","bankers","others"] (xB K):=by
 refine F.oo fS λLP A outer s H vs Q E hr h=>?_;obtain⟨a,b,k,Bk,B,rfl,hA,hB,h4,h3,q⟩:=h;have hu:(A.deeper (envOfC "seatings" (aw gp) s.heap.objs.size f LP)).units+64 < cLine:=by have:=hr.un;omega
 refine⟨_,af (aZ 3 fS.nd (bT (aa (fz (te:=cJ 2) rfl fS.nd (gi rfl N.range (aa (pv 0) ah)) (bz (own:=[("place",7)]) rfl) (λ_ _ _ _ _=>bh 7 fS.nd) (λ_ _ _ _ _=>cp) (λ_ _ _ _ _=>pv 2)) ah)))
  (af (cT YM rfl (bG (pv 1)) (bh 4 fS.nd)
   (af (aZ 5 fS.nd (bT ah))
   (af (cT YM rfl (bG (pv 3)) (bh 6 fS.nd)
    (ak (cT YM rfl (gi rfl N.range (aa (pv 0) ah)) (bh 7 fS.nd)
     (ak (aP (aA (Gq hu) (bp aN (pv 6) (pv 7) (λ_ _=>rfl)) (pv 2) (aJ _))
      (ak (cX (lQ PySem.F.plainAttrs_list PySem.F.slot_list_append PySem.F.type_list_append gf (pv 5) (aa (bJ xw (bJ xw (cN fw (pv 6) ft (cZ (pv 7))) (bT (aa (bT (aa (pv 4) ah)) ah))) (cN fw (pv 6) (cZ (bJ eK (pv 7) ax)) ft)) ah)))) aB)))))
   (ak (aZ 3 fS.nd (pv 5))))))
  (ak (az (pv 3)))),?_⟩
 refine HV (GR (yP (zg (by omega) (λR r=>⟨_,rfl,r⟩) rfl rfl (λi=>⟨rfl,rfl⟩) λD0 H0 Nh S0 e0=>⟨by show 1<=sizeLine;decide,λg0 W9=>?_⟩)));have S1:au H0 (upd H0 g0 (.lst [V.ref D0])):=(au.refl H0).laid W9;have gk:∀i,∀g∈bH B (Bk.take i) [List.replicate k B],g.length=k:=λi=>zc λg hg=>by rw[XZ.mp hg,Yi]
 have gn:∀i,(bH B (Bk.take i) [List.replicate k B]).length<=64:=λi=>by
  have z:=nc (B:=B) (A:=Bk.take i) (k:=k) (gs:=[List.replicate k B]) (λg hg=>by rw[XZ.mp hg,Yi]);have pw:k ^ (Bk.take i).length<=4 ^ 3:=Yu (Nat.pow_le_pow_left h4 _) (ZL (by decide) (by rw[X7];omega));rw[YV,Nat.one_mul] at z;omega
 refine⟨_,rfl,a,rfl,⟨_,(S0.trans S1).seq hA⟩,cM (K:=K) (a:=a) (xs:=nV Bk) (λi σ H'=>∃(gr:Addr) (v4 v5 v6 v7:Option V),σ=[some (.int (k:Nat)),some (.ref a),some (.ref b),some (.ref gr),v4,v5,v6,v7]/\au H H'/\Ll K H' gr (bH B (Bk.take i) [List.replicate k B]))
  ⟨g0,none,none,none,none,rfl,S0.trans S1,[D0],ae,.cons ((sv e0 (S0.seq hB)).same S1) .nil⟩ (λi σ H' _ ⟨_,_,_,_,_,_,S,_⟩=>S.seq hA) ?_ ?_⟩
 · rintro i x σ H1 hi ⟨gr,v4,v5,v6,v7,rfl,SH,bs,eg,hP⟩;obtain⟨bk,W_,rfl⟩:=yu hi;have k1:=gk i;have n1:=gn i;have en:bH B (Bk.take (i+1)) [List.replicate k B]=(bH B (Bk.take i) [List.replicate k B]).flatMap (jr bk B):=by rw[take_snoc W_,ya]
   generalize bH B (Bk.take i) [List.replicate k B]=gs at hP k1 n1 en;have R7:bs.length=gs.length:=Paired.length hP;refine⟨Ye _,λsd R8=>?_⟩;have S2:au H1 (upd H1 sd (.lst [])):=(au.refl H1).laid R8;refine⟨_,rfl,gr,rfl,⟨_,S2.seq (aO.of eg)⟩,cM (K:=K) (a:=gr) (xs:=bs.map V.ref) (λj σ H'=>∃(v6 v7:Option V) (cs:List Addr),σ=[some (.int (k:Nat)),some (.ref a),some (.ref b),some (.ref gr),some (.int (bk:Nat)),some (.ref sd),v6,v7]/\au H1 H'/\H' sd=some (.lst (cs.map V.ref))/\Paired (RL K sd H') cs ((gs.take j).flatMap (jr bk B)))
    ⟨v6,v7,[],rfl,S2,ae,.nil⟩ (λj σ H' _ ⟨_,_,_,_,S,_⟩=>aO.of (S _ _ eg)) ?_ ?_⟩
   · rintro j x σ H2 hj ⟨v6,v7,cs,rfl,S3,e3,hC⟩;obtain⟨bj,Xa,rfl⟩:=jW hj;obtain⟨g,hg,as,R9,MN⟩:=Paired.qP hP Xa;have Ol:j < gs.length:=(XY.mp hg).1;have gl:=k1 g (Yc hg);have LQ:as.length=g.length:=Paired.length MN;have TY:(gs.take (j+1)).flatMap (jr bk B)=(gs.take j).flatMap (jr bk B)++kQ bk B g k:=by
      rw[take_snoc hg,List.flatMap_append,←gl,sJ];simp
     have ln:((gs.take j).flatMap (jr bk B)).length<=256:=by
      have z:=qv (f:=jr bk B) (c:=4) (l:=gs.take j) λg' Xb=>Yu (sS g') (by rw[k1 g' (Zn Xb)];exact h4);rw[X7] at z;have:min j gs.length<=64:=by omega
      omega
     generalize (gs.take j).flatMap (jr bk B)=had at hC TY ln;refine pH (tj (ag rfl) (by omega) (by omega) ?_);rw[Ys];refine mV (lo:=0) (n:=k) (λp σ H'=>∃(v7:Option V) (cs:List Addr),σ=[some (.int (k:Nat)),some (.ref a),some (.ref b),some (.ref gr),some (.int (bk:Nat)),some (.ref sd),some (.ref bj),v7]/\au H1 H'/\H' sd=some (.lst (cs.map V.ref))/\Paired (RL K sd H') cs (had++kQ bk B g p))
      ⟨v7,cs,rfl,S3,e3,by simpa [kQ] using hC⟩ ?_ ?_
     · rintro p σ H3 hp ⟨v7,cs,rfl,S4,e4,hC⟩;rw[Int.zero_add];have hpg:p < g.length:=by omega
       have M8:p < as.length:=by omega
       have ha:as[p]?=some as[p]:=XU M8;obtain⟨sp,Mq,hI⟩:=Paired.qP MN ha;have Xc:g.getD p []=sp:=by rw[Yq,Mq];rfl
       have eS:=wL bk B g p;rw[Xc] at eS;have lc:cs.length<=300:=by
        have z:=Paired.length hC;rw[X6] at z;have:=zu (a:=bk) (B:=B) (g:=g) (j:=p);omega
       refine (a8 (ag rfl) (ag rfl) (S4.seq R9) (cv (by rw[XO,ha];rfl))) _ ⟨_,rfl,_,_,yo (S4.seq hI),yo ((SH.trans S4).seq hB),shaped_ints sp,shaped_ints B,_,rfl,?_⟩;have ee:PyData.eqv (.list (dN sp)) (.list (dN B))=(sp==B):=by simp only[PyData.eqv];exact uQ sp B
       rw[ee];refine gI (λh=>?_) (λh=>?_)
       · rw[XJ h] at eS;refine⟨_,rfl,.inl ⟨rfl,_,aO.of e4⟩,_,rfl,_,rfl,_,rfl,bj,_,rfl,S4.seq R9,λq1 Xd=>?_⟩;rw[qr];refine⟨_,rfl,by show 1<=sizeLine;decide,λq2 R_=>⟨by show 1<=sizeLine;decide,λq3 Sa=>?_⟩⟩;have T1:au H3 (upd H3 q1 (.lst ((as.map V.ref).take p))):=(au.refl H3).laid Xd;have f1:(upd H3 q1 (.lst ((as.map V.ref).take p))) q1=some (.lst ((as.map V.ref).take p)):=ae;generalize upd H3 q1 (.lst ((as.map V.ref).take p))=h1 at T1 f1 R_ Sa ⊢;have T2:au h1 (upd h1 q2 (.lst [V.int (bk:Nat)])):=(au.refl h1).laid R_;have f2:(upd h1 q2 (.lst [V.int (bk:Nat)])) q2=some (.lst [V.int (bk:Nat)]):=ae;generalize upd h1 q2 (.lst [V.int (bk:Nat)])=h2 at T2 f2 Sa ⊢;have T3:au h2 (upd h2 q3 (.lst [V.ref q2])):=(au.refl h2).laid Sa;have f3:(upd h2 q3 (.lst [V.ref q2])) q3=some (.lst [V.ref q2]):=ae;generalize upd h2 q3 (.lst [V.ref q2])=h3 at T3 f3 ⊢;refine⟨q1,q3,_,_,rfl,rfl,T3 _ _ (T2 _ _ f1),f3,by rw[X7,XH,Yb];show _+1<=_;omega,λq4 Xe=>?_⟩;have T4:au h3 (upd h3 q4 (.lst ((as.map V.ref).take p++[V.ref q2]))):=(au.refl h3).laid Xe;have f4:(upd h3 q4 (.lst ((as.map V.ref).take p++[V.ref q2]))) q4=some (.lst ((as.map V.ref).take p++[V.ref q2])):=ae;generalize upd h3 q4 (.lst ((as.map V.ref).take p++[V.ref q2]))=OD at T4 f4 ⊢;have T:au H3 OD:=((T1.trans T2).trans T3).trans T4;refine⟨_,rfl,(jL (ag rfl) aD) _ ⟨_,rfl,bj,_,rfl,(S4.trans T).seq R9,λq5 Xf=>?_⟩⟩;rw[show ((p:Nat):Int)+1=((p+1:Nat):Int) by omega,pZ];have T5:au OD (upd OD q5 (.lst ((as.map V.ref).drop (p+1)))):=(au.refl OD).laid Xf;have f5:(upd OD q5 (.lst ((as.map V.ref).drop (p+1)))) q5=some (.lst ((as.map V.ref).drop (p+1))):=ae;generalize upd OD q5 (.lst ((as.map V.ref).drop (p+1)))=h5 at T5 f5 ⊢;refine⟨q4,q5,_,_,rfl,rfl,T5 _ _ f4,f5,by rw[X6,X7,Yz,XH,Yb];show _+1+_<=_;omega,λq6 TZ=>?_⟩;have T6:au h5 (upd h5 q6 (.lst ((as.map V.ref).take p++[V.ref q2]++(as.map V.ref).drop (p+1)))):=(au.refl h5).laid TZ;have f6:(upd h5 q6 (.lst ((as.map V.ref).take p++[V.ref q2]++(as.map V.ref).drop (p+1)))) q6=some (.lst ((as.map V.ref).take p++[V.ref q2]++(as.map V.ref).drop (p+1))):=ae;have Xg:q6≠sd:=(ao (T5 _ _ (T _ _ e4)) TZ).symm;have Xh:q2≠sd:=(ao (T1 _ _ e4) R_).symm;generalize upd h5 q6 (.lst ((as.map V.ref).take p++[V.ref q2]++(as.map V.ref).drop (p+1)))=h6 at T6 f6 ⊢;have TT:au H3 h6:=(T.trans T5).trans T6;have Xi:h6 q2=some (.lst [V.int (bk:Nat)]):=T6 _ _ (T5 _ _ (T4 _ _ (T3 _ _ f2)));refine⟨sd,_,_,rfl,rfl,TT _ _ e4,by rw[XH,Yb];omega,some (.int (p:Nat)),cs++[q6],rfl,?_,by rw[ae,X3];rfl,?_⟩
         · intro c u z;rw[aq (ao z R8)];exact TT c u (S4 c u z)
         · have SX:aM sd H3 (upd h6 sd (.lst (cs.map V.ref++[V.ref q6]))):=(TT.x).upd;have OE:aM sd h6 (upd h6 sd (.lst (cs.map V.ref++[V.ref q6]))):=(aM.refl sd h6).upd;have S6:au H1 h6:=S4.trans TT;rw[eS,←Y_];refine gF (Paired.d9 hC λ_ _ z=>z.step SX) (.cons ⟨as.take p++[q2]++as.drop (p+1),?_,?_⟩ .nil)
           · refine RS.step (RS.of ?_ Xg) OE;rw[f6,X3,X3,List.map_take,aaa];rfl
           · have old:Paired (λc s=>RS K sd (upd h6 sd (.lst (cs.map V.ref++[V.ref q6]))) c (nV s)) as g:=Paired.d9 MN λc s z=>RS.step (RS.old z R8 S6) OE;exact gF (gF (Paired.tk p old) (.cons (RS.step (RS.of Xi Xh) OE) .nil)) (Paired.dp (p+1) old)
       · rw[XI h,YJ] at eS;exact⟨_,cs,rfl,S4,e4,by rw[eS];exact hC⟩
     · rintro σ H3 ⟨v7,cs,rfl,S4,e4,hC⟩;exact⟨_,_,cs,rfl,S4,e4,by rw[TY];exact hC⟩
   · rintro σ H2 ⟨v6,v7,cs,rfl,S3,e3,hC⟩;rw[XH,R7,YE,←en] at hC;exact⟨_,rfl,sd,_,_,_,_,rfl,SH.trans S3,cs,e3,Paired.d9 hC λ_ _ z=>z.lists⟩
 · rintro σ H1 ⟨gr,v4,v5,v6,v7,rfl,SH,hG⟩;rw[aL,YE] at hG;exact⟨_,rfl,q H1 gr SH hG⟩
end
theorem tP {sp:Sp}{L8:List V}{E:XK}{te:TE}{t:TA}{D:Ends}{σ:L2.St}{H:Hp}{v:V}(h:Ev te σ H v)(q:t σ H λxs H2=>sp ((v::xs)++L8) H2 D.rt E):EV (n9 sp L8 E (cI te t)) D σ H:=h _ q
section
variable {P:Program}{w:World}{K:aas}{mg:aau}{base:Heap}
abbrev E8 (kd:Tote.Kind) (k:Nat) (A B:aar):List (aaq):=if kd=.any then (bH B A [List.replicate k B]).take 1 else bH B A [List.replicate k B]
def rN (K:aas)(CR:Addr):Sp:=λvs H Q _=>∃(a b:Addr) (k:Nat) (kd:Tote.Kind) (A B:aar),vs=[.str (st (cd (kindS kd))),.int (k:Nat),.ref a,.ref b]/\aO K H a (nV A)/\aO K H b (nV B)/\k<=4/\A.length<=3/\uH kd (E8 kd k A B)/\∀H' x,au H H'->dX K CR H' x kd (E8 kd k A B)->Q (.ref x) H'
theorem yJ:aG ["kind","size","bankers","others","grids"] ["kind","size","bankers","others"] (aw i8):=fs
theorem Eg {CR:Addr}(T:CK K mg "Rows" js CR){k:Nat}(FS:Fn P w K mg base bF (k+1) "seatings" ["size","bankers","others"] (xB K))(FR:xI P w K mg base bF k CR ["self","kind","grids"] (kj K CR)){f:Addr}{fd:FuncData}(F:dm K "rows_key" "rows_key" i8 f fd):a9 P w K mg base bF (k+2) f fd ["kind","size","bankers","others"] (rN K CR):=by
 refine F.oo yJ λLP A outer s H vs Q E hr h=>?_;obtain⟨a,b,n,kd,Bk,B,rfl,hA,hB,h4,h3,o,q⟩:=h;refine⟨_,af (aZ 4 yJ.nd (aV FS hr bc (aa (pv 1) (aa (pv 2) (aa (pv 3) ah)))))
  (af (aP (aA cn (pv 0) bt (aJ _)) (ak (az (pX FR hr T.mg bc (aa (pv 0) (aa (cN fw (pv 4) ft (cZ ax)) ah))))) aB)
  (ak (az (pX FR hr T.mg bc (aa (pv 0) (aa (pv 4) ah)))))),?_⟩
 refine⟨_,rfl,_,rfl,_,rfl,a,b,n,Bk,B,rfl,hA,hB,h4,h3,λH1 x S1 ⟨bs,e1,hP⟩=>?_⟩;refine aU (aI (cb (ag rfl) aD)) (λh=>?_) (λh=>?_)
 · rw[kind_any] at h;have h:=X4 h;unfold E8 at o q;rw[XJ h] at o q;refine⟨_,rfl,_,rfl,_,rfl,x,_,rfl,aO.of e1,λl hl=>?_⟩;have ec:fA (bs.map V.ref) none (some 1)=(bs.take 1).map V.ref:=by rw[show (1:Int)=((1:Nat):Int) from rfl,qr,List.map_take]
   rw[ec];have S2:au H1 (upd H1 l (.lst ((bs.take 1).map V.ref))):=(au.refl H1).laid hl;exact λy dy hy Sb ny=>made (S1.trans S2) ⟨bs.take 1,aO.of ae,Paired.d9 (Paired.tk 1 hP) λ_ _ z=>z.same S2⟩ o q y dy hy Sb ny
 · rw[kind_any] at h;have h:=Yr h;unfold E8 at o q;rw[XI h] at o q;refine⟨_,rfl,_,rfl,?_⟩;exact λy dy hy Sb ny=>made S1 ⟨bs,aO.of e1,hP⟩ o q y dy hy Sb ny
def zj (K:aas)(CP CR:Addr):Sp:=λvs H Q _=>∃(pa sa:Addr) (p:aK) (how:Nat) (sets:aaq),vs=[.ref pa,.int (how:Nat),.ref sa]/\dw K CP H pa p/\bC K H sa sets/\sH p how sets/\∀H' x,au H H'->dX K CR H' x p.kind (jA p.kind (cK how) p.fields.length sets)->Q (.ref x) H'
theorem Cc:aG ["pool","how","sets","size"] ["pool","how","sets"] (aw jY):=fs
theorem G3 {CP CR aW:Addr}(G:GW mg)(B:GB K mg aW)(TP:CK K mg "Pool" hU CP){k:Nat}(FO:Fn P w K mg base bF k "rows_on" ["kind","sets"] (pF K CR))(FB:Fn P w K mg base bF k "rows_box" ["kind","size","numbers"] (rj K CR))(FK:Fn P w K mg base bF k "rows_key" ["kind","size","bankers","others"] (rN K CR))
  {f:Addr}{fd:FuncData}(F:dm K "rows_of" "rows_of" jY f fd):a9 P w K mg base bF (k+1) f fd ["pool","how","sets"] (zj K CP CR):=by
 refine F.oo Cc λLP A outer s H vs Q E hr h=>?_;obtain⟨pa,sa,p,how,sets,rfl,⟨dp,fa,M8,⟨MM,Qu,Qv⟩⟩,PJ,m,q⟩:=h;refine⟨_,af (aP (aA cn (pv 1) (bb B.on) (aJ _)) (ak (az (aV FO hr bc (aa (aS (pv 0) rfl) (aa (pv 2) ah))))) aB)
  (af (aZ 3 Cc.nd (bf G.len (aS (pv 0) rfl)))
  (af (aP (aA cn (pv 1) (bb B.box) (aJ _)) (ak (az (aV FB hr bc (aa (aS (pv 0) rfl) (aa (pv 3) (aa (bp aN (pv 2) ax (λ_ _=>rfl)) ah)))))) aB)
  (ak (az (aV FK hr bc (aa (aS (pv 0) rfl) (aa (pv 3) (aa (bp aN (pv 2) ax (λ_ _=>rfl)) (aa (bp aN (pv 2) ax (λ_ _=>rfl)) ah))))))))),?_⟩
 have MU:MM.length=p.fields.length:=Paired.length Qv;have o:=m.Ji;obtain⟨_,_,mb,mk⟩:=m.all;refine aU (aI (cb (ag rfl) aD)) (λh=>?_) (λh=>?_)
 · rw[a7] at h;have h:how=0:=by have:=Za h;omega
   rw[vR.mpr h] at q o;exact tP (a_ (ag rfl) M8 TP.cl (TP.no _ (by simp)) i5) ⟨_,rfl,sa,p.kind,sets,rfl,PJ,o,q⟩
 rw[a7] at h;have h0:how≠0:=λz=>by rw[z] at h;cases h
 obtain⟨as,hA,hP⟩:=PJ;refine cG (aT (a_ (ag rfl) M8 TP.cl (TP.no _ (by simp)) mz) (.inl Qu)) ?_;rw[XH,MU];refine aU (aI (cb (ag rfl) aD)) (λh=>?_) (λh=>?_)
 · rw[a7] at h;have h:how=1:=by have:=Za h;omega
   obtain⟨t,e,h2⟩:=mb h;rw[BA.mpr h] at q o;rw[e] at hP q o;cases hP with
   |cons hI hn =>
    cases hn;rename_i a0;exact tP (a_ (ag rfl) M8 TP.cl (TP.no _ (by simp)) i5) ⟨_,rfl,(a8 (ag rfl) aD hA (v:=.ref a0) rfl) _ ⟨a0,p.fields.length,p.kind,t,rfl,hI,m.ok.six,o,q⟩⟩
 rw[a7] at h;have h1:how≠1:=λz=>by rw[z] at h;cases h
 obtain⟨t,u,e,h2,h3,h4⟩:=mk h0 h1;have k4:=m.k4 h0;rw[Bp.mpr ⟨h0,h1⟩] at q o;rw[e] at hP q o;cases hP with
 |cons hI hn =>
  cases hn with
  |cons hJ hn =>
   cases hn;rename_i a0 a1;exact tP (a_ (ag rfl) M8 TP.cl (TP.no _ (by simp)) i5) ⟨_,rfl,(a8 (ag rfl) aD hA (v:=.ref a0) rfl) _ ((a8 (ag rfl) aD hA (v:=.ref a1) rfl) _ ⟨a0,a1,p.fields.length,p.kind,t,u,rfl,hI,hJ,k4,by omega,o,q⟩)⟩
def wZ (K:aas)(CB CR:Addr):Sp:=λvs H Q _=>∃(x dx r:Addr) (a b c d e:V) (kd:Tote.Kind) (gs:List (aaq)),vs=[.ref x,a,b,c,d,e,.ref r]/\H x=some (.ins CB dx [])/\dX K CR H r kd gs/\∀H',aM x H H'->H' x=some (.ins CB dx (mC a b c d e (.ref r) (.int ((su kd gs).length:Nat))))->Q .b8 H'
theorem DI:aG ["self","pool","pool_number","how","stake","sets","rows"] ["self","pool","pool_number","how","stake","sets","rows"] (aw ja):=fs
theorem Eh {CB CR:Addr}(T:CK K mg "Bet" rK CB)(TR:CK K mg "Rows" js CR){k:Nat}(FS:o7 P w K mg base bF k CR "starting" ["self","start"] (uj K CR)){f:Addr}{fd:FuncData}(F:dm K "__init__" "Bet.__init__" ja f fd):a9 P w K mg base bF (k+1) f fd ["self","pool","pool_number","how","stake","sets","rows"] (wZ K CB CR):=by
 refine F.oo DI λLP A outer s H vs Q E hr h=>?_;obtain⟨x,dx,r,a,b,c,d,e,kd,gs,rfl,hx,hR,q⟩:=h;refine⟨_,af (cH (pv 0) (pv 1) rfl) (af (cH (pv 0) (pv 2) rfl) (af (cH (pv 0) (pv 3) rfl) (af (cH (pv 0) (pv 4) rfl) (af (cH (pv 0) (pv 5) rfl) (af (cH (pv 0) (pv 6) rfl) (ak (cH (pv 0) (lq FS TR.cl (pv 6) hr bc (aa (dg ah) ah)) rfl))))))),?_⟩;refine⟨_,rfl,_,rfl,x,CB,dx,[],rfl,hx,T.cl,T.no _ (by simp),(by show 0 < 1000;decide),?_⟩;refine⟨_,rfl,_,rfl,x,CB,dx,_,rfl,ae,T.cl,T.no _ (by simp),(by show 1 < 1000;decide),?_⟩;refine⟨_,rfl,_,rfl,x,CB,dx,_,rfl,ae,T.cl,T.no _ (by simp),(by repeat (first|rw[bS]|rw[bg (by decide +kernel)]);show 2 < 1000;decide),?_⟩;refine⟨_,rfl,_,rfl,x,CB,dx,_,rfl,ae,T.cl,T.no _ (by simp),(by repeat (first|rw[bS]|rw[bg (by decide +kernel)]);show 3 < 1000;decide),?_⟩;refine⟨_,rfl,_,rfl,x,CB,dx,_,rfl,ae,T.cl,T.no _ (by simp),(by repeat (first|rw[bS]|rw[bg (by decide +kernel)]);show 4 < 1000;decide),?_⟩;refine⟨_,rfl,_,rfl,x,CB,dx,_,rfl,ae,T.cl,T.no _ (by simp),(by repeat (first|rw[bS]|rw[bg (by decide +kernel)]);show 5 < 1000;decide),?_⟩;rw[cy,cy,cy,cy,cy]
 repeat (first|rw[bS]|rw[bg (by decide +kernel)])
 have S1:aM x H (upd H x (.ins CB dx [("pool",a),("pool_number",b),("how",c),("stake",d),("sets",e),("rows",.ref r)])):=(aM.refl x H).upd;have ME:(upd H x (.ins CB dx [("pool",a),("pool_number",b),("how",c),("stake",d),("sets",e),("rows",.ref r)])) x=some (.ins CB dx [("pool",a),("pool_number",b),("how",c),("stake",d),("sets",e),("rows",.ref r)]):=ae;generalize upd H x (.ins CB dx [("pool",a),("pool_number",b),("how",c),("stake",d),("sets",e),("rows",.ref r)])=H1 at S1 ME;have T7:=hR.jw S1 hx (by decide);obtain⟨dr,_,_,_,N3,_⟩:=id T7;refine⟨_,rfl,r,dr,_,rfl,N3,Cy (by decide +kernel),Ye _,λt ht=>?_⟩;have S2:au H1 (upd H1 t (.tup [])):=(au.refl H1).laid ht;show eV _ _ _;unfold eV;dsimp only [YJ];refine⟨r,t,kd,gs,[],rfl,T7.same S2,ae,λg _=>Ye _,λH2 S3=>?_⟩;rw[lM];refine⟨_,rfl,x,CB,dx,_,rfl,S3 _ _ (S2 _ _ ME),T.cl,T.no _ (by simp),(by show 6 < 1000;decide),?_⟩;rw[bg (by decide +kernel),bg (by decide +kernel),bg (by decide +kernel),bg (by decide +kernel),bg (by decide +kernel),bg (by decide +kernel),bS];exact q _ ((S1.trans (S2.trans S3).x).upd) ae
end
def jO (K:aas)(CB CP CR:Addr)(H:Hp)(x:Addr)(p:aK)(b:bL):Prop:=∃dx pa sa ra,H x=some (.ins CB dx (mC (.ref pa) (.int (b.pool:Nat)) (.int (b.how:Nat)) (.int (b.stake:Nat)) (.ref sa) (.ref ra) (.int (countM p.kind (cK b.how) p.fields.length b.sets:Nat))))/\dw K CP H pa p/\k7 H sa b.sets/\dX K CR H ra p.kind (jA p.kind (cK b.how) p.fields.length b.sets)/\b.stake<=1000000/\sH p b.how b.sets
section
variable {a b c d e r m:V}
theorem A8:(mC a b c d e r m).lookup ("pool_number":Str)=some b:=by unfold mC;rw[aR (by decide +kernel)];exact bE
theorem CJ:(mC a b c d e r m).lookup ("how":Str)=some c:=by unfold mC;rw[aR (by decide +kernel),aR (by decide +kernel)];exact bE
theorem qy:(mC a b c d e r m).lookup ("stake":Str)=some d:=by unfold mC;rw[aR (by decide +kernel),aR (by decide +kernel),aR (by decide +kernel)];exact bE
theorem rO:(mC a b c d e r m).lookup ("sets":Str)=some e:=by unfold mC;rw[aR (by decide +kernel),aR (by decide +kernel),aR (by decide +kernel),aR (by decide +kernel)];exact bE
theorem sh:(mC a b c d e r m).lookup ("many":Str)=some m:=by unfold mC;rw[aR (by decide +kernel),aR (by decide +kernel),aR (by decide +kernel),aR (by decide +kernel),aR (by decide +kernel),aR (by decide +kernel)];exact bE
theorem Dy {f:Str}(h:¬f∈rK):(mC a b c d e r m).lookup f=none:=oB h
end
theorem HB {σ:L2.St}{H:Hp}{ta tb:TE}{i j:Int}(ha:Ev ta σ H (.int i))(hb:Ev tb σ H (.int j))(h:AA i j):Ev (kK (rI AA λi j=>.int (i*j)) ta tb) σ H (.int (i*j)):=λ_ r=>ha _ (hb _ ⟨i,j,rfl,rfl,h,r⟩)
section
variable {K:aas}{CB CP CR CW:Addr}{H H':Hp}{a x:Addr}{p:aK}{b:bL}
theorem jO.same (h:jO K CB CP CR H x p b) (e:au H H'):jO K CB CP CR H' x p b:=by
 obtain⟨dx,pa,sa,ra,h1,h2,h3,h5,h4⟩:=h;exact⟨dx,pa,sa,ra,e _ _ h1,h2.same e,h3.same e,h5.same e,h4⟩
end
section
variable {P:Program}{w:World}{K:aas}{mg:aau}{base:Heap}
def pR (K:aas) (CB CP CR:Addr):Sp:=λvs H Q _=>∃(x:Addr) (p:aK) (b:bL),vs=[.ref x]/\jO K CB CP CR H x p b/\Q (.int ((b.stake:Int)*(countM p.kind (cK b.how) p.fields.length b.sets:Nat))) H
theorem E2:aG ["self"] ["self"] (aw iW):=fs
theorem DD {CB CP CR:Addr}(TB:CK K mg "Bet" rK CB){f:Addr}{fd:FuncData}(F:dm K "cost" "Bet.cost" iW f fd):a9 P w K mg base bF 1 f fd ["self"] (pR K CB CP CR):=by
 refine F.oo E2 λLP A outer s H vs Q E hr h=>?_;obtain⟨x,p,b,rfl,⟨dx,pa,sa,ra,h1,_,_,_,h4,_⟩,q⟩:=h;refine⟨_,ak (az (bJ yb (aS (pv 0) rfl) (aS (pv 0) rfl))),?_⟩;exact (HB (a_ (ag rfl) h1 TB.cl (TB.no _ (by simp)) qy) (a_ (ag rfl) h1 TB.cl (TB.no _ (by simp)) sh) (.inl ⟨by omega,by omega⟩)) _ q
def wM (K:aas)(CW CF CB CP CR:Addr):Sp:=λvs H Q E=>∃(a b:Addr) (ps:List aK) (e:Nat) (l:List Word) (pl:Nat),vs=[.ref b,.ref a]/\aX K CW H a e l pl/\c_ K CP H b ps/\(∀p∈ps,DU p) /\
 (∀t,Bs e ps l=.error t->Rz CF E (t.kind:Nat) (t.place:Nat))/\(∀y,Bs e ps l=.ok y->∀H' x p,aM a H H'->jO K CB CP CR H' x p y->ps[y.pool]?=some p->Q (.ref x) H')
theorem fR:aG ["pools","words","pool_number","pool","stake","stake_place","how","how_place","sets","bet"] ["pools","words"] (aw fT):=fs
theorem Ft {CW CF CB CP CR aW:Addr}(B:GB K mg aW)(T:CK K mg "Words" cx CW)(TP:CK K mg "Pool" hU CP)(TB:CK K mg "Bet" rK CB)(FL:Flt P w K mg base CF){k:Nat}(hk:5<=k)
  (FO:o7 P w K mg base (eW P w CF) k CW "take_one_of" ["self","known"] (qk K CW CF))(Xj:Fn P w K mg base (eW P w CF) k "take_pool" ["pools","words"] (tu K CW CF CP))(FS:Fn P w K mg base (eW P w CF) k "take_stake" ["words","unit"] (ub K CW CF))
  (FH:Fn P w K mg base (eW P w CF) k "take_how" ["words","pool"] (BI K CW CF CP))(Xk:Fn P w K mg base (eW P w CF) k "take_sets" ["words","pool","how"] (wK K CW CF CP))(FB:xI P w K mg base bF 4 CB ["self","pool","pool_number","how","stake","sets","rows"] (wZ K CB CR))
  (FF:o7 P w K mg base (eW P w CF) k CW "finish" ["self"] (AJ K CW CF))(FM:Fn P w K mg base bF k "rows_of" ["pool","how","sets"] (zj K CP CR))(FC:o7 P w K mg base bF k CB "cost" ["self"] (pR K CB CP CR))
  {f:Addr}{fd:FuncData}(F:dm K "read_words" "read_words" fT f fd):a9 P w K mg base (eW P w CF) (k+1) f fd ["pools","words"] (wM K CW CF CB CP CR):=by
 refine F.lW fR λLP A outer s H vs Q E hr h=>?_;obtain⟨a,b,ps,e,l,pl,rfl,hW,MN,bu,q0,q1⟩:=h;refine⟨_,af (cX (lq FO T.cl (pv 1) hr (bR aH rfl rfl) (aa (dg (aa bt ah)) ah)))
  (af (aZ 2 fR.nd (aV Xj hr (bR aH rfl rfl) (aa (pv 0) (aa (pv 1) ah))))
  (af (aZ 3 fR.nd (bp aN (pv 0) (pv 2) (λ_ _=>rfl)))
  (af (cX (lq FO T.cl (pv 1) hr (bR aH rfl rfl) (aa (dg (aa bt ah)) ah)))
  (af (aZ 4 fR.nd (aV FS hr (bR aH rfl rfl) (aa (pv 1) (aa (aS (pv 3) rfl) ah))))
  (af (aZ 5 fR.nd (aS (pv 1) rfl))
  (af (aZ 6 fR.nd (aV FH hr (bR aH rfl rfl) (aa (pv 1) (aa (pv 3) ah))))
  (af (aZ 7 fR.nd (aS (pv 1) rfl))
  (af (aZ 8 fR.nd (aV Xk hr (bR aH rfl rfl) (aa (pv 1) (aa (pv 3) (aa (pv 6) ah)))))
  (af (cX (j5 FF T.cl (pv 1) hr (bR aH rfl rfl)))
  (af (aZ 9 fR.nd (pX FB (hr.mono hk) TB.mg bc (aa (pv 3) (aa (pv 2) (aa (pv 6) (aa (pv 4) (aa (pv 8) (aa (aV FM hr bc (aa (pv 3) (aa (pv 6) (aa (pv 8) ah)))) ah))))))))
  (af (aP (aA cn (aS (pv 9) rfl) ax (aJ _)) (ak (fN FL aH (hr.mono (by omega)) (aa (bb B.comb) (aa (pv 7) ah)))) aB)
  (af (aP (aA kZ (j5 FC TB.cl (pv 9) hr bc) (bb B.cost) (aJ _)) (ak (fN FL aH (hr.mono (by omega)) (aa (bb B.La) (aa (pv 5) ah)))) aB)
  (ak (az (pv 9))))))))))))))),?_⟩
 obtain⟨d0,w0,m0,n0,Mi⟩:=hW.obj;unfold Bs at q0 q1;refine⟨_,rfl,a,d0,_,rfl,Mi,cA (by decide +kernel),(by show 1<=sizeLine;decide),λt ht=>?_⟩;have St:au H (upd H t (.tup [V.str (Str.ofString "bet")])):=(au.refl H).laid ht;show eV _ _ _;unfold eV;dsimp only [YJ];refine mL (s:="bet") (by decide +kernel) (hW.same St) (b6.of ae) (λy hy=>?_) (λm hm H1 v Xl S1 Mg=>?_)
 · rw[hy] at q0;exact q0 _ rfl
 rw[hm] at q0 q1;have q0:∀t,Ja e ps m=.error t->Rz CF E (t.kind:Nat) (t.place:Nat):=q0;have q1:∀y,Ja e ps m=.ok y->_:=q1;have Pu:aM a H H1:=St.x.trans S1;refine⟨_,rfl,_,rfl,a,b,ps,e,m,Xl,rfl,Mg,c_.jw MN Pu Mi,λz=>?_,λwn r hl hn=>?_,λwn r i hl hi H2 S2 NI=>?_⟩
 · subst z;exact q0 ⟨3,e⟩ rfl
 · subst hl;refine q0 ⟨5,wn.at_⟩ ?_;show (match dU ps (tx wn.w) with
    |none=>(Except.error ⟨5,wn.at_⟩:Except Fault bL)
    |some i=>match ps[i]? with
     |none=>.error ⟨5,wn.at_⟩
     |some p=>AR e i p r)=_
   rw[hn]
 subst hl;have OB:=Pu.trans S2;have LX:=xg hi;have eB:Ja e ps (wn::r)=AR e i ps[i] r:=by
  show (match dU ps (tx wn.w) with
   |none=>(Except.error ⟨5,wn.at_⟩:Except Fault bL)
   |some i=>match ps[i]? with
    |none=>.error ⟨5,wn.at_⟩
    |some p=>AR e i p r)=_
  rw[hi];show (match ps[i]? with
    |none=>(Except.error ⟨5,wn.at_⟩:Except Fault bL)
    |some p=>AR e i p r)=_
  rw[XU LX]
 rw[eB] at q0 q1;have hO:=bu _ (Zz LX);have T8:∃(as:List Addr) (pa:Addr),aO K H b (as.map V.ref)/\as[i]?=some pa/\dw K CP H pa ps[i]:=by
  obtain⟨as,h1,h2⟩:=MN;obtain⟨pa,h3,h4⟩:=Paired.at2 h2 (XU LX);exact⟨as,pa,h1,h3,h4⟩
 have T9:ps[i]?=some ps[i]:=XU LX;generalize ps[i]=p at q0 q1 hO T8 T9;obtain⟨as,pa,hA,M8,Xm⟩:=T8;have pool:∀{H'},aM a H H'->dw K CP H' pa p:=λS=>dw.jw Xm S Mi;refine cG (a8 (ag rfl) (ag rfl) (OB.seq Mi hA) (cv (by rw[XO,M8];rfl))) ?_;unfold AR at q0 q1;obtain⟨d2,w2,m2,n2,Px⟩:=NI.obj;refine⟨_,rfl,a,d2,_,rfl,Px,cA (by decide +kernel),(by show 1<=sizeLine;decide),λt3 Xn=>?_⟩;have T_:au H2 (upd H2 t3 (.tup [V.str (Str.ofString "for")])):=(au.refl H2).laid Xn;dsimp only [YJ];refine mL (s:="for") (by decide +kernel) (NI.same T_) (b6.of ae) (λy hy=>?_) (λm3 Xo H3 v3 Xp S3 OA=>?_)
 · rw[hy] at q0;exact q0 _ rfl
 rw[Xo] at q0 q1;have q0:∀t,Jq e i p m3=.error t->Rz CF E (t.kind:Nat) (t.place:Nat):=q0;have q1:∀y,Jq e i p m3=.ok y->_:=q1;have Ua:aM a H H3:=(OB.trans T_.x).trans S3;obtain⟨dp,fap,Qn,LY⟩:=pool Ua;refine⟨_,rfl,(a_ (ag rfl) Qn TP.cl (TP.no _ (by simp)) xC) _ ⟨a,p.unit,e,m3,Xp,rfl,hO.unit,OA,λz=>?_,λws r4 hl hn=>?_,λws r4 hl hs H4 S4 Qt=>?_⟩⟩
 · subst z;exact q0 ⟨3,e⟩ rfl
 · subst hl;refine q0 ⟨4,ws.at_⟩ ?_;show (if eN p.unit (tx ws.w) then _ else _)=_;rw[XI (show ¬eN p.unit (tx ws.w) from hn)]
 subst hl;have eB:Jq e i p (ws::r4)=JD e i p (ay (tx ws.w)).toNat ws.at_ r4:=by
  show (if eN p.unit (tx ws.w) then _ else _)=_;rw[XJ (show eN p.unit (tx ws.w) from hs)]
 rw[eB] at q0 q1;have Ms:ay (tx ws.w)=(((ay (tx ws.w)).toNat:Nat):Int):=by have:=hs.1;omega
 have MX:(ay (tx ws.w)).toNat<=1000000:=by have:=hs.2.1;omega
 generalize (ay (tx ws.w)).toNat=stake at q0 q1 Ms MX;rw[Ms];have Ub:=Ua.trans S4;obtain⟨d4,w4,m4,n4,Qs⟩:=Qt.obj;refine cG (a_ (ag rfl) Qs T.cl (T.no _ (by simp)) bO) ?_;refine⟨_,rfl,_,rfl,a,pa,p,e,r4,ws.at_,rfl,Qt,pool Ub,λz=>?_,λwh r5 hl hn=>?_,λwh r5 how hl hh H5 S5 Uc=>?_⟩
 · subst z;exact q0 ⟨3,e⟩ rfl
 · subst hl;refine q0 ⟨3,wh.at_⟩ ?_;show (match jk p wh.w with
    |none=>(Except.error ⟨3,wh.at_⟩:Except Fault bL)
    |some how=>xy e i how stake wh.at_ ws.at_ p (fF e p how r5))=_
   rw[hn]
 subst hl;have eB:JD e i p stake ws.at_ (wh::r5)=xy e i how stake wh.at_ ws.at_ p (fF e p how r5):=by
  show (match jk p wh.w with
   |none=>(Except.error ⟨3,wh.at_⟩:Except Fault bL)
   |some how=>xy e i how stake wh.at_ ws.at_ p (fF e p how r5))=_
  rw[hh]
 rw[eB] at q0 q1;have Ud:=Ub.trans S5;obtain⟨d5,w5,m5,n5,Xq⟩:=Uc.obj;refine cG (a_ (ag rfl) Xq T.cl (T.no _ (by simp)) bO) ?_;have Sd:how=0∨cS p=true:=by
  unfold jk at hh;split at hh
  · exact .inl (Yl hh).symm
  · split at hh
    · rename_i z;exact .inr z.2
    · split at hh
      · rename_i z;exact .inr z.2
      · cases hh
 refine⟨_,rfl,_,rfl,_,rfl,a,pa,p,how,e,r5,wh.at_,rfl,Uc,pool Ud,hO,λt ht=>?_,λsets r6 Ue H6 sa Xr S6 PJ Ug=>?_⟩
 · rw[ht] at q0;exact q0 t rfl
 rw[Ue] at q0 q1;have OE:=Ud.trans S6;obtain⟨d6,w6,m6,n6,Xs⟩:=Ug.obj;refine⟨_,rfl,a,d6,_,rfl,Xs,cA (by decide +kernel),a,e,r6,Xr,rfl,Ug,λwr r7 hl=>?_,λhl=>?_⟩
 · subst hl;exact q0 ⟨3,wr.at_⟩ rfl
 subst hl;have q0:∀t,HX i how stake wh.at_ ws.at_ p sets=.error t->Rz CF E (t.kind:Nat) (t.place:Nat):=q0;have q1:∀y,HX i how stake wh.at_ ws.at_ p sets=.ok y->_:=q1;unfold HX at q0 q1;have hM:sH p how sets:=⟨hO,Sd,e,r5,[],Ue⟩;refine⟨_,rfl,_,rfl,_,rfl,_,rfl,_,rfl,_,rfl,_,rfl,_,rfl,pa,sa,p,how,sets,rfl,pool OE,PJ.lists,hM,λH7 ra S7 hR=>?_⟩;have Uh:aM a H H7:=OE.trans S7.x;intro x dx hx Mv Qc;have Sn:au H7 (upd (upd H7 dx (.own x)) x (.ins CB dx [])):=((au.refl H7).laid Mv).laid hx;refine⟨x,dx,ra,_,_,_,_,_,p.kind,_,rfl,ae,hR.same Sn,λH8 SX PK=>⟨rfl,?_⟩⟩;have PK:H8 x=some (.ins CB dx (mC (.ref pa) (.int (i:Nat)) (.int (how:Nat)) (.int (stake:Nat)) (.ref sa) (.ref ra) (.int (countM p.kind (cK how) p.fields.length sets:Nat)))):=PK;have S8:au H7 H8:=λb u z=>SX b u (Sn b u z) (ao z hx);have Ui:jO K CB CP CR H8 x p ⟨i,how,stake,sets⟩:=⟨dx,pa,sa,ra,PK,(pool Uh).same S8,(PJ.same S7).same S8,hR.same S8,MX,hM⟩;have Xu:aM a H H8:=Uh.trans S8.x;refine aU (aI (cb (a_ (ag rfl) PK TB.cl (TB.no _ (by simp)) sh) aD)) (λh=>?_) (λh=>?_)
 · rw[a7] at h;rw[XJ (by have:=Za h;omega)] at q0;exact jV (ag rfl) (q0 _ rfl)
 have Xv:¬countM p.kind (cK how) p.fields.length sets=0:=λz=>by rw[z] at h;cases h
 rw[XI Xv] at q0 q1;have Xw:∀{σ:L2.St},σ[9]?=some (some (V.ref x))->Ev (uY CB "cost" (pR K CB CP CR) [] E0 (cJ 9) λ_ H Q=>Q [] H) σ H8 (.int ((stake:Int)*(countM p.kind (cK how) p.fields.length sets:Nat))):=λz _ r =>
  ⟨_,z,x,dx,_,rfl,PK,Dy (by decide +kernel),x,p,⟨i,how,stake,sets⟩,rfl,Ui,r⟩
 refine aU (jG (Xw rfl) aD) (λh=>?_) (λh=>?_)
 · have h:=X4 h;have h:2147483647 < stake*countM p.kind (cK how) p.fields.length sets:=by
    have e1:((stake:Int)*(countM p.kind (cK how) p.fields.length sets:Int))=((stake*countM p.kind (cK how) p.fields.length sets:Nat):Int):=by rw[Int.natCast_mul]
    rw[e1] at h;omega
   rw[XJ h] at q0;exact jV (ag rfl) (q0 _ rfl)
 · have h:=Yr h;have h:¬2147483647 < stake*countM p.kind (cK how) p.fields.length sets:=by
    have e1:((stake:Int)*(countM p.kind (cK how) p.fields.length sets:Int))=((stake*countM p.kind (cK how) p.fields.length sets:Nat):Int):=by rw[Int.natCast_mul]
    rw[e1] at h;omega
   rw[XI h] at q1;exact⟨_,rfl,q1 _ rfl H8 x p Xu Ui T9⟩
end
def ic (b:Bytes):aar:=b.map UInt8.toNat
theorem yV {b:Bytes}:10∈ic b↔(10:UInt8)∈b:=by
 unfold ic;rw[Yh]
 exact⟨λ⟨x,h1,h2⟩=>by have:x=10:=jF h2
                      rwa [←this],λh=>⟨10,h,rfl⟩⟩
theorem qr {xs:List V}{j:Nat}(h:j<=xs.length):fA xs none (some (j:Int))=xs.take j:=by
 unfold fA;rw[HT.iQ,HT.iw,ZJ h];simp
section
variable {P:Program}{w:World}{K:aas}{mg:aau}{base:Heap}
def AK (K:aas) (CF CB CP CR:Addr):Sp:=λvs H Q E=>∃(c b:Addr) (ps:List aK) (bs:Bytes),vs=[.ref b,.ref c]/\aO K H c (nV (ic bs))/\bs.length<=4096/\c_ K CP H b ps/\(∀p∈ps,DU p) /\
 (∀t,dv ps bs=.error t->Rz CF E (t.kind:Nat) (t.place:Nat))/\(∀y,dv ps bs=.ok y->∀H' x p,au H H'->jO K CB CP CR H' x p y->ps[y.pool]?=some p->Q (.ref x) H')
theorem uo:aG ["pools","codes","line_end","line","bet"] ["pools","codes"] (aw iJ):=fs
theorem GJ {CW CF CB CP CR aW:Addr}(G:GW mg)(B:GB K mg aW)(T:CK K mg "Words" cx CW)(FL:Flt P w K mg base CF){k:Nat}(hk:2<=k)
  (FC:Fn P w K mg base (eW P w CF) k "check_line" ["line"] (wI K CF))(FR:Fn P w K mg base (eW P w CF) k "read_words" ["pools","words"] (wM K CW CF CB CP CR))(FX:Fn P w K mg base bF k "text_of" ["codes"] (uC K))(FW:xI P w K mg base bF 1 CW ["self","line"] (ql K CW))
  {f:Addr}{fd:FuncData}(F:dm K "read_bet" "read_bet" iJ f fd):a9 P w K mg base (eW P w CF) (k+1) f fd ["pools","codes"] (AK K CF CB CP CR):=by
 refine F.lW uo λLP A outer s H vs Q E hr h=>?_;obtain⟨c,b,ps,bs,rfl,hS,hlen,MN,bu,q0,q1⟩:=h;refine⟨_,af (aP (aA eh (bb B.nl) (pv 1) (by with_unfolding_all rfl)) (ak (fN FL aH (hr.mono hk) (aa (bb B.ended) (aa (bf G.len (pv 1)) ah)))) aB)
  (af (aZ 2 uo.nd (lQ PySem.F.plainAttrs_list PySem.F.slot_list_index PySem.F.type_list_index Co (pv 1) (aa (bb B.nl) ah)))
  (af (aZ 3 uo.nd (cN fw (pv 1) ft (cZ (pv 2))))
  (af (cX (aV FC hr (bR aH rfl rfl) (aa (pv 3) ah)))
  (af (aZ 4 uo.nd (aV FR hr (bR aH rfl rfl) (aa (pv 0) (aa (pX FW (hr.mono hk) T.mg bc (aa (aV FX hr bc (aa (pv 3) ah)) ah)) ah))))
  (af (aP (aA nS (bJ eK (pv 2) ax) (bf G.len (pv 1)) (aJ _)) (ak (fN FL aH (hr.mono hk) (aa (bb B.more) (aa (bJ eK (pv 2) ax) ah)))) aB)
  (ak (az (pv 4)))))))),?_⟩
 have QA:(ic bs).length=bs.length:=by unfold ic;rw[XH]
 refine aU (aI (mE aD (ag rfl) (.inl hS) rfl (fZ _))) (λh=>?_) (λh=>?_)
 · have h:(!og (V.int 10) (nV (ic bs)))=true:=h;rw[nP,Yy,Yp] at h;have hn:¬(10:UInt8)∈bs:=λz=>h ⟨10,yV.mpr z,rfl⟩;have hu:upTo bs=none:=by
    cases hu:upTo bs with
    |none=>rfl
    |some x =>
     obtain⟨l,r⟩:=x;obtain⟨e,_⟩:=j8 hu;exact absurd (by rw[e];simp) hn
   rw[wW hu] at q0;refine jV (p:=(bs.length:Nat)) ?_ (q0 _ rfl);have:=aT (K:=K) (σ:=L2.start ["pools","codes","line_end","line","bet"] [V.ref b,V.ref c]) (H:=H) (ag (n:=1) rfl) (.inl hS);rw[aL,QA] at this;exact this
 have h:(!og (V.int 10) (nV (ic bs)))=false:=h;rw[nP,YB,XS] at h;have Xx:(10:UInt8)∈bs:=by
  obtain⟨n,h1,h2⟩:=h;have:n=10:=by omega
  subst this;exact yV.mp h1
 cases hu:upTo bs with
 |none=>exact absurd Xx (rA hu)
 |some x =>
 obtain⟨l,r⟩:=x;obtain⟨Uj,Se⟩:=j8 hu;rw[xl hu] at q0 q1;have Sg:nV (ic bs)=nV (ic l)++V.int 10::nV (ic r):=by
  rw[Uj];unfold nV ic;rw[X3,X3];rfl
 have Xy:(nV (ic l)).length=l.length:=by rw[aL];unfold ic;rw[XH]
 have Sh:bs.length=l.length+1+r.length:=by rw[Uj];simp;omega
 refine⟨_,rfl,.inl ⟨rfl,_,hS⟩,c,nV (ic bs),.int 10,l.length,.int 10,rfl,rfl,hS,rfl,fZ _,?_,rfl,?_,?_⟩
 · rw[Sg,aao (by omega),Xy];simp
 · intro m z hm hz;rw[Sg,List.getElem?_append_left (by omega)] at hz;unfold nV ic at hz;rw[XO,XO,Option.map_map] at hz;obtain⟨y,hy,rfl⟩:=Yj.mp hz
   have hny:¬y.toNat=10:=λq=>Se (by have:y=10:=jF q
                                    rw[←this];exact Yc hy)
   show ((y.toNat:Int)==10)=false;rw[Yg];omega
 refine⟨_,rfl,_,rfl,_,rfl,c,_,rfl,hS,λp hp=>?_⟩;rw[qr (by rw[aL,QA,Sh];omega),Sg,List.take_append_of_le_length (by omega),YD (by omega)];have S1:au H (upd H p (.lst (nV (ic l)))):=(au.refl H).laid hp;have e1:(upd H p (.lst (nV (ic l)))) p=some (.lst (nV (ic l))):=ae;generalize upd H p (.lst (nV (ic l)))=H1 at S1 e1;have Nm:badByte true 0 l=vy (ic l):=Fq l;unfold Gk at q0 q1;rw[Nm] at q0 q1;refine⟨_,rfl,p,ic l,rfl,aO.of e1,λi hi=>?_,λhi H2 S2=>?_⟩
 · rw[hi] at q0;exact q0 ⟨2,i⟩ rfl
 rw[hi] at q0 q1 Nm;have q0:∀t,(match Bs l.length ps (wordsFrom 0 [] l) with
  |.error t=>(Except.error t:Except Fault bL)
  |.ok x=>if r=[] then .ok x else .error ⟨8,l.length+1⟩)=.error t->Rz CF E (t.kind:Nat) (t.place:Nat):=q0
 have q1:∀y,(match Bs l.length ps (wordsFrom 0 [] l) with
  |.error t=>(Except.error t:Except Fault bL)
  |.ok x=>if r=[] then .ok x else .error ⟨8,l.length+1⟩)=.ok y->_:=q1
 have Qp:=S1.trans S2;have QB:(ic l).map sg=tx l:=by
  unfold ic tx;rw[X_];rfl
 have hl4:l.length<=4096:=by omega
 refine⟨_,rfl,_,rfl,p,ic l,rfl,aO.of (S2 _ _ e1),by unfold ic;rw[XH];omega,λH3 S3=>?_⟩;rw[QB];intro x dx hx Mv Qc;have Xz:(tx l).length=l.length:=iA l;refine⟨x,dx,tx l,rfl,ae,by omega,λH4 wl S4 M6 Si N7=>⟨rfl,?_⟩⟩;have Qr:=Qp.trans S3;have Sj:au H H4:=λd o z=>by
  have z3:=Qr d o z;have n1:d≠x:=ao z3 hx;have n2:d≠dx:=ao z3 Mv;exact S4 d o (by rw[aq n1,aq n2];exact z3) n1
 have XA:H x=none:=by
  cases hz:H x with
  |none=>rfl
  |some o=>rw[Qr x o hz] at hx;cases hx
 have Sk:∀c∈tx l,c < 128:=λc hc=>by
  unfold tx at hc;obtain⟨d,_,rfl⟩:=Yh.mp hc;exact FQ _
 have Sm:mW (aY 32 [] (tx l)):=by
  have h3:=fj 32 (tx l) [];refine⟨by omega,λv hv=>?_⟩;obtain⟨z1,z2⟩:=dY 32 (tx l) [] v hv;refine⟨by simp at z1;omega,λc hc=>?_⟩;rcases z2 c hc with z|z
  · simp at z
  · exact Sk c z
 have Ob:=(words_of l [] 0 0 (XT _) Nm).2;have XB:aX K CW H4 x l.length (wordsFrom 0 [] l) 0:=by
  refine⟨dx,wl,aY 32 [] (tx l),0,0,?_,aO.of Si,⟨Sm,kq 32 _ []⟩,Ye _,?_,Ob⟩
  · rw[N7,Xz]
  · rw[qd 0 Nm];rfl
 have So:c_ K CP H4 b ps:=by
  obtain⟨as,h1,h2⟩:=MN;exact⟨as,Sj.seq h1,pG h2 Sj⟩
 refine⟨x,b,ps,l.length,wordsFrom 0 [] l,0,rfl,XB,So,bu,λt ht=>?_,λy hy H5 xb pp S5 hB Oc=>?_⟩
 · rw[ht] at q0;exact q0 t rfl
 rw[hy] at q0 q1;have q0:∀t,(if r=[] then (Except.ok y:Except Fault bL) else .error ⟨8,l.length+1⟩)=.error t->Rz CF E (t.kind:Nat) (t.place:Nat):=q0;have q1:∀y',(if r=[] then (Except.ok y:Except Fault bL) else .error ⟨8,l.length+1⟩)=.ok y'->_:=q1;have Uk:au H H5:=λd o z=>S5 d o (Sj d o z) (ao z XA);refine aU (jG (jL (ag rfl) aD) (aT (ag rfl) (.inl (Uk.seq hS)))) (λh=>?_) (λh=>?_)
 · rw[aL,QA,Sh] at h;have h:=X4 h;rw[XI (λz=>by rw[z] at h;simp at h)] at q0;have e8:((l.length+1:Nat):Int)=(l.length:Int)+1:=by omega
   have q8:=q0 _ rfl;dsimp only at q8;rw[e8] at q8;exact jV (jL (ag rfl) aD) q8
 · rw[aL,QA,Sh] at h;have h:=Yr h;rw[XJ (Zy.mp (by omega))] at q1;exact⟨_,rfl,q1 _ rfl H5 xb pp Uk hB Oc⟩
end
end Bw
namespace L2
open PySem PySem.Spec PyProof.Rows
def zh (K:aas)(H:Hp):Prop:=∀b o,K.lookup b=some o->H b=none
def C7 (K:aas):V->List V->Hp->VK->Prop:=λx vs H Q=>∃l xs y,x=.ref l/\vs=[y]/\H l=some (.lst xs)/\xs.length < sizeLine/\(zh K H->Q .b8 (upd H l (.lst (xs++[y]))))
theorem w_ {X:Cx}:Kw X "list.append" (C7 X.K):=by
 intro pins s σ H x vs v us Q I rx rv h;obtain⟨l,xs,y,e1,e2,hH,hz,q⟩:=h;exact gf pins s σ H x vs v us Q I rx rv ⟨l,xs,y,e1,e2,hH,hz,q λb o hb=>(I.bs b o (I.ok.mod.F6 _ _ hb)).2⟩
end L2
namespace Bw
open PySem PySem.Spec PyProof.Rows L2 Tote
section
variable {K:aas}{H:Hp}{c fo a x:Addr}{ys zs:List V}{o:HO}{xs:List Addr}
theorem yh (h:aO K H c ys) (hf:H fo=some (.lst zs)) (ne:ys≠zs):aO K (upd H fo o) c ys:=by
 rcases h with (h|⟨u,h⟩)|h
 · exact .inl (.inl (by rw[aq (dG h hf (by intro z;cases z;exact ne rfl))];exact h))
 · exact .inl (.inr ⟨u,by rw[aq (dG h hf (by intro z;cases z))];exact h⟩)
 · exact .inr h
theorem GI (hK:zh K H)(h:aO K H c ys){C dx:Addr}{fs:List (Str×V)}(hi:H c=some (.ins C dx fs)):False:=by
 rcases h with (h|⟨u,h⟩)|⟨u,_,_,h,_⟩
 · rw[hi] at h;cases h
 · rw[hi] at h;cases h
 · rw[hK _ _ h] at hi;cases hi
def Kf (H:Hp)(xs:List Addr):Prop:=∀x∈xs,∃C dx fs,H x=some (.ins C dx fs)
theorem yO {s:aar}(h:s≠[]):nV s≠xs.map V.ref:=λe=>by
 cases s with
 |nil=>exact h rfl
 |cons n s =>
  cases xs with
  |nil=>cases e
  |cons x xs=>cases e
theorem tO {bs:List Addr}(ne:bs≠[])(hK:zh K H)(hG:∀b∈bs,∃ys,aO K H b ys)(hi:Kf H xs):bs.map V.ref≠xs.map V.ref:=λe=>by
 cases bs with
 |nil=>exact ne rfl
 |cons b bs =>
  cases xs with
  |nil=>cases e
  |cons x xs =>
   injection e with e1 e2;injection e1 with e1;subst e1;obtain⟨ys,h⟩:=hG b (by simp);obtain⟨C,dx,fs,hx⟩:=hi b (by simp);exact GI hK h hx
theorem gm {α β:Type}{F:α->β->Prop}{G:α->Prop}(k:∀a b,F a b->G a):∀{l:List α} {m:List β},Paired F l m->∀a∈l,G a
 |_,_,.nil,_,h=>by cases h
 |_,_,.cons h t,a,hm=>by
  rcases XN.mp hm with rfl|hm
  · exact k _ _ h
  · exact gm k t a hm
theorem j0 {α β:Type}{F G:α->β->Prop}:∀{l:List α} {m:List β},Paired F l m->(∀a b,b∈m->F a b->G a b)->Paired G l m
 |_,_,.nil,_=>.nil
 |_,_,.cons h t,k=>.cons (k _ _ (by simp) h) (j0 t λa b hb z=>k a b (by simp[hb]) z)
theorem mZ {α β:Type}{F:α->β->Prop}{l:List α}{m:List β}(h:Paired F l m)(n:m≠[]):l≠[]:=λe=>by
 subst e;cases h;exact n rfl
variable (hK:zh K H)(hf:H fo=some (.lst (xs.map V.ref)))(hi:Kf H xs)
include hK hf hi
theorem sL {g:aaq}(h:bC K H a g)(ne:g≠[])(hs:∀s∈g,s≠[]):bC K (upd H fo o) a g:=by
 obtain⟨as,h1,h2⟩:=h;exact⟨as,yh h1 hf (tO (mZ h2 ne) hK (gm (λ_ _ z=>⟨_,z⟩) h2) hi),j0 h2 λ_ s m z=>yh z hf (yO (hs s m))⟩
theorem As {gs:List (aaq)}(h:dB K H a gs)(ne:gs≠[])(hs:∀g∈gs,g≠[]/\∀s∈g,s≠[]):dB K (upd H fo o) a gs:=by
 obtain⟨as,h1,h2⟩:=h;exact⟨as,yh h1 hf (tO (mZ h2 ne) hK (gm (λ_ _ ⟨_,z,_⟩=>⟨_,z⟩) h2) hi),j0 h2 λ_ g m z=>sL hK hf hi z (hs g m).1 (hs g m).2⟩
theorem zd {CB CP CR:Addr}{p:aK}{y:bL}(h:jO K CB CP CR H x p y):jO K CB CP CR (upd H fo o) x p y:=by
 obtain⟨dx,pa,sa,ra,h1,⟨dp,fa,h2,h3⟩,⟨as,h4,h5⟩,⟨dr,ga,qa,LN,h6,h7,h8,h9,QG⟩,QI,m⟩:=h;have ins:∀{b C d:Addr} {fs:List (Str×V)},H b=some (.ins C d fs)->(upd H fo o) b=some (.ins C d fs):=λz=>by rw[aq (dG z hf (by intro z;cases z))];exact z
 have XC:y.sets≠[]:=λz=>by
  obtain⟨_,m0,m1,m2⟩:=m.all;have pos:0 < p.fields.length:=YL.mpr m.ok.ne;by_cases z0:y.how=0
  · have:=(m0 z0).1;rw[z] at this;have:0=p.fields.length:=this;omega
  · by_cases z1:y.how=1
    · obtain⟨t,e,_⟩:=m1 z1;rw[e] at z;cases z
    · obtain⟨t,u,e,_⟩:=m2 z0 z1;rw[e] at z;cases z
 refine⟨dx,pa,sa,ra,ins h1,⟨dp,fa,ins h2,sL hK hf hi h3 m.ok.ne m.K5⟩,⟨as,?_,j0 h5 λb s hm z=>?_⟩,⟨dr,ga,qa,LN,ins h6,As hK hf hi h7 h8.ne m.Ls,h8,?_,QG⟩,QI,m⟩
 · rw[aq (dG h4 hf (by
    intro z;injection z with z;exact tO (mZ h5 XC) hK (gm (λ_ _ z=>⟨_,aO.of z⟩) h5) hi z))]
   exact h4
 · rw[aq (dG z hf (by intro q;injection q with q;exact yO (m.all.1 s hm).1 q))];exact z
 · rw[aq (dG h9 hf (by intro z;cases z))];exact h9
end
structure GD (mg:aau):Prop where
 long:Gv mg "TOO_LONG" (.int (-2))
 Hb:Gv mg "FAULTY_BET" (.int (-6))
 Ik:Gv mg "NO_CARD" (.int (-8))
 Jd:Gv mg "MOST_CARD" (.int 65536)
 JN:Gv mg "MOST_BET" (.int 4096)
theorem Df {zs:List Int}:fA (zs.map V.int) none (some ((1:Nat):Int))=(zs.take 1).map V.int:=by
 unfold fA;rw[HT.iQ,HT.iw];cases zs <;> simp
def readAll (ps:List aK):List Bytes->Except Fault (List bL)
 |[]=>.ok []
 |b::bs=>match dv ps b with
  |.error f=>.error f
  |.ok y=>match readAll ps bs with
   |.error f=>.error f
   |.ok ys=>.ok (y::ys)
theorem jD {ps:List aK}:∀{l m:List Bytes} {ys:List bL},readAll ps l=.ok ys->readAll ps (l++m)=match readAll ps m with
  |.error f=>.error f
  |.ok zs=>.ok (ys++zs)
 |[],m,ys,h=>by
  injection h with h;subst h;cases h2:readAll ps m with
  |error f=>exact h2
  |ok zs=>exact h2
 |b::l,m,ys,h=>by
  show (match dv ps b with
   |.error f=>(Except.error f:Except Fault (List bL))
   |.ok y=>match readAll ps (l++m) with
    |.error f=>.error f
    |.ok ys=>.ok (y::ys))=_
  have h:(match dv ps b with
   |.error f=>(Except.error f:Except Fault (List bL))
   |.ok y=>match readAll ps l with
    |.error f=>.error f
    |.ok ys=>.ok (y::ys))=.ok ys:=h
  cases hb:dv ps b with
  |error f=>rw[hb] at h;cases h
  |ok y =>
   rw[hb] at h;cases hl:readAll ps l with
   |error f=>rw[hl] at h;cases h
   |ok xs =>
    rw[hl] at h;injection h with h;subst h;show (match readAll ps (l++m) with
     |.error f=>(Except.error f:Except Fault (List bL))
     |.ok ys=>.ok (y::ys))=_
    rw[jD hl];cases readAll ps m <;> rfl
theorem oa {ps:List aK}{b:Bytes}:readAll ps [b]=match dv ps b with
  |.error f=>.error f
  |.ok y=>.ok [y]:=by
 show (match dv ps b with
   |.error f=>(Except.error f:Except Fault (List bL))
   |.ok y=>.ok [y])=_
 cases dv ps b <;> rfl
def j1 (t:Bytes)(bs:List Bytes):Except (List Int) (List bL):=if 65536 < t.length∨(bs.any λb=>decide (4096 < b.length))=true then .error [-2] else match dH (tx t) with
 |none=>.error [-8]
 |some ps=>match readAll ps bs with
  |.error f=>.error [-6,(f.kind:Nat),(f.place:Nat)]
  |.ok ys=>.ok ys
theorem uZ {t b:Bytes}:j1 t [b]=match fM t b with
  |.error z=>.error z
  |.ok y=>.ok [y]:=by
 unfold j1 fM;have e:([b].any λb=>decide (4096 < b.length))=true↔4096 < b.length:=by simp
 rw[kg (p:=65536 < t.length∨([b].any λb=>decide (4096 < b.length))=true) (q:=65536 < t.length∨4096 < b.length) ⟨λh=>h.imp id e.mp,λh=>h.imp id e.mpr⟩];by_cases h:65536 < t.length∨4096 < b.length
 · rw[XJ h,XJ h]
 · rw[XI h,XI h];cases dH (tx t) with
   |none=>rfl
   |some ps =>
    show (match readAll ps [b] with
     |.error f=>(Except.error [-6,((f.kind:Nat):Int),((f.place:Nat):Int)]:Except (List Int) (List bL))
     |.ok ys=>.ok ys)=_
    rw[oa];show _=(match (match dv ps b with
     |.error f=>(Except.error [-6,((f.kind:Nat):Int),((f.place:Nat):Int)]:Except (List Int) bL)
     |.ok y=>.ok y) with
     |.error z=>(Except.error z:Except (List Int) (List bL))
     |.ok y=>.ok [y])
    cases dv ps b <;> rfl
section
variable {P:Program}{w:World}{K:aas}{mg:aau}{base:Heap}
theorem yy {CX:mx} {N:List Str} {qual:Str} {scope:Scope} {f:Addr} {cd:Value} {A:Around} {outer:List Env} {s:Shared} {H:Hp} {E:XK}:mO (nj CX P w K mg base N qual scope f cd A outer s H E).HS:=⟨rfl,rfl,rfl,rfl⟩
def tI (K:aas)(CB CP CR:Addr)(ps:List aK)(H:Hp)(x:Addr)(y:bL):Prop:=∃p,jO K CB CP CR H x p y/\ps[y.pool]?=some p
def tQ (K:aas)(CB CP CR:Addr):Sp:=λvs H Q _=>∃(c d:Addr) (ds:List Addr) (t:Bytes) (bs:List Bytes),vs=[.ref c,.ref d]/\aO K H c (nV (ic t))/\aO K H d (ds.map V.ref)/\Paired (λa b=>aO K H a (nV (ic b))) ds bs/\bs.length<=2 /\
 (∀zs,j1 t bs=.error zs->∀H' T L F,H' T=some (.tup [.ref L,.ref F])->H' L=some (.lst (zs.map V.int))->H' F=some (.lst [])->Q (.ref T) H') /\
 (∀ys,j1 t bs=.ok ys->∀H' T L F xs ps,H' T=some (.tup [.ref L,.ref F])->H' L=some (.lst [])->H' F=some (.lst (xs.map V.ref))->Paired (tI K CB CP CR ps H') xs ys->dH (tx t)=some ps->Q (.ref T) H')
theorem gH:aG ["card","bets","bet","pools","found","fault"] ["card","bets"] (aw fu):=fs
theorem CD {CF CB CP CR aW N fI:Addr}(Sq:∀t ps,dH (tx t)=some ps->∀p∈ps,DU p)(G:GW mg)(B:GB K mg aW)(D:GD mg)(Z:oP K CF N fI)(hF:mg "Fault"=some (.ref CF)){k:Nat}
  (FC:Fn P w K mg base bF k "read_card" ["codes"] (wF K CP))(FB:Fn P w K mg base (eW P w CF) k "read_bet" ["pools","codes"] (AK K CF CB CP CR))
  {f:Addr}{fd:FuncData}(F:dm K "look_at_all" "look_at_all" fu f fd):a9 P w K mg base bF (k+1) f fd ["card","bets"] (tQ K CB CP CR):=by
 refine F.Ks gH (λvs H Q E h=>?_) (λLP A outer s H vs Q E hr h=>?_)
 · obtain⟨_,_,_,_,_,rfl,_⟩:=h;rfl
 · obtain⟨c,d,ds,t,bs,rfl,hC,hD,hP,h2,q0,q1⟩:=h
   refine⟨_,iC (PS.zero (aP (PW.pt (eD (aA kZ (bf G.len (pv 0)) (bb D.Jd) (aJ _)) (cU (ib (bX (Cu rfl) (by rfl) B.any (by decide +kernel) (aa (fz (te:=kK (qM λi j=>.bl (decide (j < i))) (G1 (λxs H Q=>∃p ys,xs=[.ref p]/\(aO K H p ys∨b6 K H p ys)/\Q (.int ys.length) H) (cI (cJ 2) eV)) (tC (.int 4096))) rfl gH.nd (bG (pv 1)) (bz (own:=[("bet",2)]) rfl)
         (λ_ _ _ _ _=>bh 2 gH.nd) (λ_ _ _ _ _=>cp) (λ_ _ _ _ _=>fm kZ (bf G.len (pv 2)) (bb D.JN) (aJ _))) ah))))))
     (ak (az (dg (aa (bT (aa (bb D.long) ah)) (aa (bT ah) ah))))) aB))
    (iC (PS.zero (aZ 3 gH.nd (aV FC hr bc (aa (pv 0) ah))))
    (iC (PS.zero (aP (aA ui (pv 3) cF (aJ _)) (ak (az (dg (aa (bT (aa (bb D.Ik) ah)) (aa (bT ah) ah))))) aB))
    (iC (PS.zero (aZ 4 gH.nd (bT ah)))
    (iC (E_ YM rfl (bG (pv 1)) (bh 2 gH.nd)
      (G9 (i:=5) (R:=λk p=>∃ps y,dH (tx t)=some ps/\readAll ps bs=.error y/\k=(y.kind:Nat)/\p=(y.place:Nat)) yy Z (by rfl) hF gH.nd rfl rfl
       (ak (cX (lQ PySem.F.plainAttrs_list PySem.F.slot_list_append PySem.F.type_list_append w_ (pv 4) (aa (aV FB hr (bR yy rfl rfl) (aa (pv 3) (aa (pv 2) ah))) ah))))
       (λ_=>ak (az (dg (aa (bT (aa (bb D.Hb) (aa (zf Z Z.fK (pv 5) rfl) (aa (zf Z Z.fP (pv 5) rfl) ah)))) (aa (bT ah) ah)))))))
    (qR.zero (ak (az (dg (aa (bT ah) (aa (pv 4) ah)))))))))),?_⟩
   have MV:ds.length=bs.length:=Paired.length hP;have tl:(ic t).length=t.length:=by unfold ic;rw[XH]
   have bl:∀b:Bytes,(ic b).length=b.length:=λb=>by unfold ic;rw[XH]
   have QB:(ic t).map sg=tx t:=by
    unfold ic tx;rw[X_];rfl
   have no:∀(zs:List Int) (H1:Hp) (L:Addr),j1 t bs=.error zs->H1 L=none->∀F,(upd H1 L (.lst (zs.map V.int))) F=none->∀T,(upd (upd H1 L (.lst (zs.map V.int))) F (.lst [])) T=none->Q (.ref T) (upd (upd (upd H1 L (.lst (zs.map V.int))) F (.lst [])) T (.tup [.ref L,.ref F])):=λzs H1 L e hL F hF T hT=>by
    have nF:L≠F:=λz=>by rw[←z,ae] at hF;cases hF
    have nT:L≠T:=λz=>by rw[←z,aq nF,ae] at hT;cases hT
    have XD:F≠T:=λz=>by rw[←z,ae] at hT;cases hT
    exact q0 zs e _ T L F ae (by rw[aq nT,aq nF];exact ae) (by rw[aq XD];exact ae)
   unfold j1 at no q1;refine (jG (aT (ag rfl) (.inl hC)) aD) _ ?_;rw[aL,tl];refine gI (λh=>?_) (λh=>?_)
   · have h:65536 < t.length:=by have:=X4 h;omega
     rw[XJ (.inl h)] at no;exact p_ ⟨by show 1<=sizeLine;decide,λL hL=>⟨Ye _,λF hF=>⟨by show 2<=sizeLine;decide,λT hT=>no [-2] _ L rfl hL F hF T hT⟩⟩⟩
   have h1:¬65536 < t.length:=λz=>h (Yn (by omega));refine⟨_,rfl,d,rfl,⟨_,hD⟩,λD0 Nh=>oE (K:=K) (a:=d) (xs:=ds.map V.ref) (λi y _=>∃b,bs[i]?=some b/\y=.bl (decide (4096 < b.length))) (λi y H H' _ z=>z) hD Nh (by rw[XH,MV];omega) ?_ ?_⟩
   · rintro i v H' hi S _ R hR;obtain⟨ai,Mb,rfl⟩:=jW hi;obtain⟨b,hb,hI⟩:=Paired.qP hP Mb;refine⟨rfl,_,rfl,ai,_,rfl,.inl (S.seq hI),_,_,rfl,rfl,hR _ _ (au.refl _) ⟨b,hb,?_⟩⟩;rw[aL,bl];show V.bl (decide _)=V.bl (decide _);congr 1;rw[Zu];omega
   rintro ys H1 S1 e1 l1 f1;have ey:ys=(bs.map λb=>decide (4096 < b.length)).map V.bl:=by
    refine xD (by rw[l1];simp[MV]) λi y hy=>?_;obtain⟨b,hb,rfl⟩:=f1 i y hy;rw[XO,XO,hb];rfl
   subst ey;refine⟨D0,_,rfl,aO.of e1,_,rfl,?_⟩;have ea:(bs.map λb=>decide (4096 < b.length)).any id=bs.any λb=>decide (4096 < b.length):=by rw[Z4];rfl
   rw[ea];refine gI (λh=>?_) (λh=>?_)
   · rw[XJ (.inr h)] at no;exact⟨by show 1<=sizeLine;decide,λL hL=>⟨Ye _,λF hF=>⟨by show 2<=sizeLine;decide,λT hT=>no [-2] _ L rfl hL F hF T hT⟩⟩⟩
   rw[XI λz=>z.elim h1 h] at no q1;have small:∀b∈bs,b.length<=4096:=λb hb=>by
    have:¬4096 < b.length:=λz=>h (Zj.mpr ⟨b,hb,Yn z⟩);omega
   refine⟨_,rfl,c,ic t,rfl,S1.seq hC,by omega,λhn H2 S2=>?_,λps Nn H2 x S2 MN=>?_⟩
   · rw[QB] at hn;rw[hn] at no;refine aU (aI (tm (ag rfl))) (λh=>?_) (λh=>absurd h (by decide));exact⟨by show 1<=sizeLine;decide,λL hL=>⟨Ye _,λF hF=>⟨by show 2<=sizeLine;decide,λT hT=>no [-8] _ L rfl hL F hF T hT⟩⟩⟩
   rw[QB] at Nn;rw[Nn] at no q1;have no:∀(zs:List Int) (H1:Hp) (L:Addr),(match readAll ps bs with
    |.error f=>(Except.error [-6,((f.kind:Nat):Int),((f.place:Nat):Int)]:Except (List Int) (List bL))
    |.ok ys=>.ok ys)=.error zs->_:=no
   have q1:∀ys,(match readAll ps bs with
    |.error f=>(Except.error [-6,((f.kind:Nat):Int),((f.place:Nat):Int)]:Except (List Int) (List bL))
    |.ok ys=>.ok ys)=.ok ys->_:=q1
   refine aU (aI (tm (ag rfl))) (λh=>absurd (X4 h) (by intro z;cases z)) (λh=>?_);refine⟨Ye _,λfo P7=>?_⟩;have SH:au H H2:=S1.trans S2;have Sf:au H2 (upd H2 fo (.lst [])):=(au.refl H2).laid P7;refine⟨_,rfl,d,rfl,⟨_,(SH.trans Sf).seq hD⟩,cM (K:=K) (a:=d) (xs:=ds.map V.ref) (λi σ H'=>∃(v2:Option V) (xs:List Addr) (ys:List bL),σ=[some (.ref c),some (.ref d),v2,some (.ref x),some (.ref fo),none]/\au H2 H'/\H' fo=some (.lst (xs.map V.ref))/\readAll ps (bs.take i)=.ok ys/\Paired (tI K CB CP CR ps H') xs ys)
    ⟨none,[],[],rfl,Sf,ae,rfl,.nil⟩ (λi σ H' _ ⟨_,_,_,_,S,_⟩=>(SH.trans S).seq hD) ?_ ?_⟩
   · rintro i v σ H3 hi ⟨v2,xs,ys,rfl,S3,e3,r3,QC⟩;obtain⟨ai,Mb,rfl⟩:=jW hi;obtain⟨b,hb,hI⟩:=Paired.qP hP Mb;have LX:i < bs.length:=(XY.mp hb).1;have hs:=small b (Yc hb);have ed:bs=bs.take i++b::bs.drop (i+1):=by
      rw[←(XY.mp hb).2,List.getElem_cons_drop,List.take_append_drop]
     refine⟨?_,?_⟩
     · refine⟨_,rfl,.inl ⟨rfl,_,aO.of e3⟩,_,rfl,_,rfl,ai,x,ps,b,rfl,(SH.trans S3).seq hI,hs,MN.same S3,Sq t ps Nn,λy hy=>IU ⟨ps,y,Nn,?_,rfl,rfl⟩,λy hy H4 xb p S4 XE Oc=>?_⟩
       · rw[ed,jD r3];show (match (match dv ps b with
          |.error f=>(Except.error f:Except Fault (List bL))
          |.ok y=>match readAll ps (bs.drop (i+1)) with
           |.error f=>.error f
           |.ok ys=>.ok (y::ys)) with
          |.error f=>(Except.error f:Except Fault (List bL))
          |.ok zs=>.ok (ys++zs))=_
         rw[hy]
       · have lx:xs.length<=2:=by
          have z1:=Paired.length QC;have z2:∀{l:List Bytes} {zs:List bL},readAll ps l=.ok zs->zs.length=l.length:=λ{l}=>by
           induction l with
           |nil=>intro zs h;injection h with h;subst h;rfl
           |cons b l ih =>
            intro zs h;have h:(match dv ps b with
             |.error f=>(Except.error f:Except Fault (List bL))
             |.ok y=>match readAll ps l with
              |.error f=>.error f
              |.ok ys=>.ok (y::ys))=.ok zs:=h
            cases hb:dv ps b with
            |error f=>rw[hb] at h;cases h
            |ok y =>
             rw[hb] at h;cases hl:readAll ps l with
             |error f=>rw[hl] at h;cases h
             |ok xs =>
              rw[hl] at h;injection h with h;subst h;rw[XW,XW,ih hl]
          have z3:=z2 r3;rw[X7] at z3;omega
         refine⟨fo,_,_,rfl,rfl,S4 _ _ e3,by rw[XH,Yb];omega,λhK=>⟨some (.ref ai),xs++[xb],ys++[y],rfl,?_,by rw[ae,X3];rfl,?_,?_⟩⟩
         · intro b' u z;rw[aq (ao z P7)];exact S4 b' u (S3 b' u z)
         · rw[take_snoc hb,jD r3,oa,hy]
         · have old:Paired (tI K CB CP CR ps H4) xs ys:=Paired.d9 QC λ_ _ ⟨p,z1,z2⟩=>⟨p,z1.same S4,z2⟩;have hi:Kf H4 xs:=gm (λ_ _ ⟨p,⟨dx,_,_,_,z,_⟩,_⟩=>⟨_,dx,_,z⟩) old;exact gF (Paired.d9 old λ_ _ ⟨p,z1,z2⟩=>⟨p,zd hK (S4 _ _ e3) hi z1,z2⟩) (.cons ⟨p,zd hK (S4 _ _ e3) hi XE,Oc⟩ .nil)
     · rintro σ' H' a dx k' p' ⟨ps',y,h1,h2,rfl,rfl⟩ hσ ha Mv;rw[Nn] at h1;injection h1 with h1;subst h1;rw[h2] at no;refine⟨_,hσ,a,dx,_,_,rfl,ha,Mv,bE,_,hσ,a,dx,_,_,rfl,ha,Mv,(aR (by decide +kernel)).trans bE,by show 3<=sizeLine;decide,λL hL=>⟨Ye _,λF hF=>⟨by show 2<=sizeLine;decide,λT hT=>?_⟩⟩⟩;exact no [-6,((y.kind:Nat):Int),((y.place:Nat):Int)] _ L rfl hL F hF T hT
   · rintro σ H3 ⟨v2,xs,ys,rfl,S3,e3,r3,QC⟩;rw[XH,MV,YE] at r3;rw[r3] at q1;refine⟨Ye _,λL hL=>⟨_,rfl,by show 2<=sizeLine;decide,λT hT=>?_⟩⟩;have S4:au H3 (upd H3 L (.lst [])):=(au.refl H3).laid hL;have S5:au (upd H3 L (.lst [])) (upd (upd H3 L (.lst [])) T (.tup [.ref L,.ref fo])):=(au.refl _).laid hT;exact q1 ys rfl _ T L fo xs ps ae (S5 _ _ ae) (S5 _ _ (S4 _ _ e3)) (Paired.d9 QC λ_ _ ⟨p,z1,z2⟩=>⟨p,z1.same (S4.trans S5),z2⟩) rfl
def xT (K:aas)(CB CP CR:Addr):Sp:=λvs H Q _=>∃(c d:Addr) (t b:Bytes),vs=[.ref c,.ref d]/\aO K H c (nV (ic t))/\aO K H d (nV (ic b)) /\
 (∀zs,fM t b=.error zs->∀H' T L,H' T=some (.tup [.ref L,.b8])->H' L=some (.lst (zs.map V.int))->Q (.ref T) H') /\
 (∀y,fM t b=.ok y->∀H' T L x p,H' T=some (.tup [.ref L,.ref x])->jO K CB CP CR H' x p y->(∃ps,dH (tx t)=some ps/\ps[y.pool]?=some p)->Q (.ref T) H')
theorem tT:aG ["card","bet","refusal","found"] ["card","bet"] (aw kh):=fs
theorem Ei {CB CP CR:Addr}(G:GW mg){k:Nat}(FA:Fn P w K mg base bF k "look_at_all" ["card","bets"] (tQ K CB CP CR)){f:Addr}{fd:FuncData}(F:dm K "look_at" "look_at" kh f fd):a9 P w K mg base bF (k+1) f fd ["card","bet"] (xT K CB CP CR):=by
 refine F.oo tT λLP A outer s H vs Q E hr h=>?_;obtain⟨c,d,t,b,rfl,hC,hB,q0,q1⟩:=h;refine⟨_,af (BR (aV FA hr bc (aa (pv 0) (aa (bT (aa (pv 1) ah)) ah))) (lD rfl (cg (bh 2 tT.nd) (cg (bh 3 tT.nd) jh))))
  (af (aP (aA cn (bf G.len (pv 3)) ax (aJ _)) (ak (az (dg (aa (pv 2) (aa cF ah))))) aB)
  (ak (az (dg (aa (pv 2) (aa (bp aN (pv 3) ax (λ_ _=>rfl)) ah)))))),?_⟩
 refine⟨_,rfl,_,rfl,by show 1<=sizeLine;decide,λl hl=>?_⟩;have Sl:au H (upd H l (.lst [V.ref d])):=(au.refl H).laid hl;have e1:=uZ (t:=t) (b:=b);refine⟨c,l,[d],t,[b],rfl,Sl.seq hC,aO.of ae,.cons (Sl.seq hB) .nil,by show 1<=2;decide,λzs hz H' T L F hT hL hF=>?_,λys hy H' T L F xs ps hT hL hF hP Nn=>?_⟩
 · refine⟨T,_,rfl,b6.of hT,rfl,_,_,rfl,_,_,rfl,rfl,?_⟩;refine aU (aI (cb (aT (ag rfl) (.inl (aO.of hF))) aD)) (λh=>?_) (λh=>absurd h (by decide));rw[e1] at hz;cases hm:fM t b with
   |ok y=>rw[hm] at hz;cases hz
   |error z =>
    rw[hm] at hz;injection hz with hz;subst hz;refine⟨_,rfl,by show 2<=sizeLine;decide,λT2 ML=>q0 z hm _ T2 L ae ?_⟩;rw[aq (ao hL ML)];exact hL
 · rw[e1] at hy;cases hm:fM t b with
   |error z=>rw[hm] at hy;cases hy
   |ok y =>
    rw[hm] at hy;injection hy with hy;subst hy;cases hP with
    |cons hx hn =>
     cases hn;rename_i x;obtain⟨p,Sr,Oc⟩:=hx;refine⟨T,_,rfl,b6.of hT,rfl,_,_,rfl,_,_,rfl,rfl,?_⟩;refine aU (aI (cb (aT (ag rfl) (.inl (aO.of hF))) aD)) (λh=>absurd h (by show ¬decide (V.int 1=V.int 0)=true;decide)) (λh=>?_);refine⟨_,rfl,(a8 (ag rfl) aD (aO.of hF) (v:=.ref x) rfl) _ ⟨by show 2<=sizeLine;decide,λT2 ML=>q1 y hm _ T2 L x p ae (Sr.same ((au.refl H').laid ML)) ⟨ps,Nn,Oc⟩⟩⟩
end
section
variable {P:Program}{w:World}{K:aas}{mg:aau}{base:Heap}
theorem o7.mono {CX:mx} {C:Addr} {m:Str} {ps:List Str} {j k:Nat} {sp:Sp} (F:o7 P w K mg base CX j C m ps sp) (h:j<=k):o7 P w K mg base CX k C m ps sp:=by
 obtain⟨f,fd,hm,hb,F⟩:=F;exact⟨f,fd,hm,hb,F.mono h⟩
structure TopW (K:aas)(mg:aau):Prop where
 G:GW mg
 sign:hX K mg "sign_of" j6
 text:hX K mg "text_of" kl
 name:hX K mg "is_name" ki
 num:hX K mg "number_of" gX
section
variable (T:TopW K mg)
include T
theorem TopW.Em:Fn P w K mg base bF 1 "number_of" ["word"] kX:=T.num.mk λ_ _ F=>Gw T.G F
theorem TopW.Gf:Fn P w K mg base bF 1 "is_name" ["word"] lX:=T.name.mk λ_ _ F=>zP T.G F
theorem TopW.F9:Fn P w K mg base bF 2 "text_of" ["codes"] (uC K):=T.text.mk λ_ _ F=>DR (T.sign.mk λ_ _ F=>Ds T.G F) F
end
theorem Di.mk {CX:mx}{C:Addr}{qual:Str}{st:Stmt}{ps:List Str}{k:Nat}{sp:Sp}(D:Di K C qual st)
  (ok:∀f fd,dm K "__init__" qual st f fd->a9 P w K mg base CX k f fd ps sp)(hb:∀(kV doc pm:Value) (an:Option Addr) (LP ct:Value) (us:aaw),us.length=ps.length->bindArgs (PySem.W.fnOf "__init__" qual (cY st) (bZ st) (aw st) .none kV doc pm an LP ct) ⟨us,[]⟩=pure (ps.zip us):=by intro _ _ _ _ _ _;first|exact Kb (λ_=>rfl)|exact IF (λ_ _=>rfl)|exact JY (λ_ _ _=>rfl)|exact Ka (λ_ _ _ _=>rfl)|exact Kd (λ_ _ _ _ _=>rfl)|exact KI (λ_ _ _ _ _ _ _=>rfl)):xI P w K mg base CX k C ps sp:=by
 obtain⟨f,fd,hm,F⟩:=D;exact⟨f,fd,hm,F.binds hb,ok f fd F⟩
theorem xI.mono {CX:mx}{C:Addr}{ps:List Str}{j k:Nat}{sp:Sp}(F:xI P w K mg base CX j C ps sp)(h:j<=k):xI P w K mg base CX k C ps sp:=by
 obtain⟨f,fd,hm,hb,F⟩:=F;exact⟨f,fd,hm,hb,F.mono h⟩
theorem Dm.mk {CX:mx}{C:Addr}{m qual:Str}{st:Stmt}{ps:List Str}{k:Nat}{sp:Sp}(D:Dm K C m qual st)
  (ok:∀f fd,dm K m qual st f fd->a9 P w K mg base CX k f fd ps sp)(hb:∀(kV doc pm:Value) (an:Option Addr) (LP ct:Value) (us:aaw),us.length=ps.length->bindArgs (PySem.W.fnOf m qual (cY st) (bZ st) (aw st) .none kV doc pm an LP ct) ⟨us,[]⟩=pure (ps.zip us):=by intro _ _ _ _ _ _;first|exact Kb (λ_=>rfl)|exact IF (λ_ _=>rfl)|exact JY (λ_ _ _=>rfl)|exact Ka (λ_ _ _ _=>rfl)|exact Kd (λ_ _ _ _ _=>rfl)|exact KI (λ_ _ _ _ _ _ _=>rfl)):o7 P w K mg base CX k C m ps sp:=by
 obtain⟨f,fd,hm,F⟩:=D;exact⟨f,fd,hm,F.binds hb,ok f fd F⟩
structure TopC (P:Program)(w:World)(K:aas)(mg:aau)(dS aF CP:Addr):Prop where
 W:TopW K mg
 GC:GC P w K mg dS aF
 TP:CK K mg "Pool" hU CP
 A2:Di K CP "Pool.__init__" gL
 day:hX K mg "is_day" l_
 HU:hX K mg "has_pool_form" dR
 C5:hX K mg "are_terms_good" dD
 fields:hX K mg "fields_of" gU
 pool:hX K mg "read_pool" gS
 race:hX K mg "read_race" fC
 pools:hX K mg "read_pools" f_
 Ik:hX K mg "read_card" g_
theorem TopC.JW {dS aF CP:Addr}(T:TopC P w K mg dS aF CP):Fn P w K mg base bF 6 "read_card" ["codes"] (wF K CP):=by
 have num:Fn P w K mg base bF 2 "number_of" ["word"] kX:=T.W.Em.mono (by decide);have day:Fn P w K mg base bF 2 "is_day" ["words"] (B4 K):=T.day.mk λ_ _ F=>HK T.W.G T.W.Gf F;have HU:Fn P w K mg base bF 2 "has_pool_form" ["words"] (xi K):=T.HU.mk λ_ _ F=>ER T.W.G T.GC T.W.Gf F;have C5:Fn P w K mg base bF 2 "are_terms_good" ["words"] (sR K):=T.C5.mk λ_ _ F=>CN T.W.Em F;have fields:Fn P w K mg base bF 1 "fields_of" ["kind","size","race","races"] (pC K):=T.fields.mk λ_ _ F=>Ad T.W.G T.GC F;have A2:xI P w K mg base bF 1 CP ["self","name","kind","fields","unit"] (ua CP):=T.A2.mk λ_ _ F=>A9 T.TP F;have pool:Fn P w K mg base bF 4 "read_pool" ["words","races"] (xq K CP):=T.pool.mk λ_ _ F=>Ec T.W.G T.GC T.TP HU C5 num (fields.mono (by decide)) (A2.mono (by decide)) F;have race:Fn P w K mg base bF 2 "read_race" ["words"] (wU K):=T.race.mk λ_ _ F=>Fc T.W.G T.GC T.W.Em F;have pools:Fn P w K mg base bF 5 "read_pools" ["lines","races"] (uA K CP):=T.pools.mk λ_ _ F=>A3 T.W.G T.GC T.TP pool F;exact T.Ik.mk λ_ _ F=>DJ T.W.G T.GC (T.W.F9.mono (by decide)) (day.mono (by decide)) (race.mono (by decide)) pools F
structure xr (K:aas)(mg:aau)(aW CR:Addr):Prop where
 G:GW mg
 B:GB K mg aW
 N:GN mg
 TR:CK K mg "Rows" js CR
 prod:hX K mg "product_of" fV
 KY:hX K mg "without" ko
 legs:hX K mg "count_legs" fW
 GH:hX K mg "count_orders" eT
 EX:hX K mg "is_of" oN
 LM:hX K mg "count_different" da
 Ly:hX K mg "picks_of" jb
 cst:hX K mg "count_starts" eU
 JT:Di K CR "Rows.__init__" gY
 start:Dm K CR "starting" "Rows.starting" dQ
 LF:hX K mg "rows_on" j7
 Kv:hX K mg "rows_box" iN
 Ky:hX K mg "rows_key" i8
 Ht:hX K mg "seatings" gp
 KD:hX K mg "rows_of" jY
section
variable {aW CR:Addr}(T:xr K mg aW CR)
include T
theorem xr.JL:Fn P w K mg base bF 1 "without" ["numbers","taken"] (tW K):=T.KY.mk λ_ _ F=>Eu F
theorem xr.G6:o7 P w K mg base bF 3 CR "starting" ["self","start"] (uj K CR):=by
 have EX:Fn P w K mg base bF 1 "is_of" ["sets","start"] (ur K):=T.EX.mk λ_ _ F=>E5 T.G T.N F;have legs:Fn P w K mg base bF 2 "count_legs" ["sets","start"] (i9 K kP):=T.legs.mk λ_ _ F=>EU T.G EX (T.prod.mk λ_ _ F=>Fu F) F;have GH:Fn P w K mg base bF 2 "count_orders" ["sets","start"] (i9 K tS):=T.GH.mk λ_ _ F=>DF T.G T.N EX (T.LM.mk λ_ _ F=>HH T.G T.B T.N F) T.JL F;exact T.start.mk λ_ _ F=>Bb T.N T.TR GH legs F
theorem xr.xu:xI P w K mg base bF 2 CR ["self","kind","grids"] (kj K CR):=T.JT.mk λ_ _ F=>A4 T.TR (T.cst.mk λ_ _ F=>Hr T.G T.N F) (T.Ly.mk λ_ _ F=>GZ T.N F) F
theorem xr.Ke:Fn P w K mg base bF 4 "rows_on" ["kind","sets"] (pF K CR):=T.LF.mk λ_ _ F=>He T.TR T.xu F
theorem xr.K_ {CP:Addr}(TP:CK K mg "Pool" hU CP):Fn P w K mg base bF 5 "rows_of" ["pool","how","sets"] (zj K CP CR):=by
 have Ht:Fn P w K mg base bF 1 "seatings" ["size","bankers","others"] (xB K):=T.Ht.mk λ_ _ F=>Dk T.N F;exact T.KD.mk λ_ _ F=>G3 T.G T.B TP T.Ke (T.Kv.mk λ_ _ F=>ET T.N T.TR T.xu F) (T.Ky.mk λ_ _ F=>Eg T.TR (Ht.mono (by decide)) T.xu F) F
end
structure D3 (P:Program)(w:World)(K:aas)(mg:aau)(dS aF CP CW CB CF nF fI aW CR:Addr):Prop where
 C:TopC P w K mg dS aF CP
 N:xr K mg aW CR
 D:GD mg
 TW:CK K mg "Words" cx CW
 TB:CK K mg "Bet" rK CB
 Z:oP K CF nF fI
 mF:mg "Fault"=some (.ref CF)
 Gy:∃fd,dm K "__init__" "Fault.__init__" fQ fI fd
 G0:Di K CB "Bet.__init__" ja
 cost:Dm K CB "cost" "Bet.cost" iW
 x_:Di K CW "Words.__init__" fY
 take:Dm K CW "take" "Words.take" gc
 one:Dm K CW "take_one_of" "Words.take_one_of" cq
 fin:Dm K CW "finish" "Words.finish" eG
 stake:hX K mg "take_stake" f7
 set:hX K mg "take_set" iP
 box:hX K mg "take_box" jd
 key:hX K mg "take_key" ji
 on:hX K mg "take_on" j4
 sets:hX K mg "take_sets" gM
 how:hX K mg "take_how" iO
 pool:hX K mg "take_pool" gT
 line:hX K mg "check_line" gd
 words:hX K mg "read_words" fT
 Km:hX K mg "read_bet" iJ
 J1:hX K mg "look_at_all" fu
 look:hX K mg "look_at" kh
section
variable {dS aF CP CW CB CF nF fI aW CR:Addr}(T:D3 P w K mg dS aF CP CW CB CF nF fI aW CR)
include T
theorem D3.Hw:Fn P w K mg base bF 9 "look_at_all" ["card","bets"] (tQ K CB CP CR):=by
 have G:=T.C.W.G;have B:=T.N.B;have FL:Flt P w K mg base CF:=by
  obtain⟨fd,F⟩:=T.Gy;exact⟨nF,fI,fd,T.Z,F.binds (λ_ _ _ _ _ _=>JY λ_ _ _=>rfl),zS T.Z F,T.mF⟩
 have num:∀k,1<=k->Fn P w K mg base bF k "number_of" ["word"] kX:=λk hk=>T.C.W.Em.mono hk;have take:o7 P w K mg base (eW P w CF) 3 CW "take" ["self"] (nH K CW CF):=T.take.mk λ_ _ F=>Es G B T.TW FL F;have one:o7 P w K mg base (eW P w CF) 4 CW "take_one_of" ["self","known"] (qk K CW CF):=T.one.mk λ_ _ F=>Ib B T.TW FL (by decide) take F;have fin:o7 P w K mg base (eW P w CF) 3 CW "finish" ["self"] (AJ K CW CF):=T.fin.mk λ_ _ F=>Hn G B T.TW FL F;have stake:Fn P w K mg base (eW P w CF) 4 "take_stake" ["words","unit"] (ub K CW CF):=T.stake.mk λ_ _ F=>C4 B T.TW FL (by decide) take (num 3 (by decide)) F;have set:Fn P w K mg base (eW P w CF) 4 "take_set" ["words","field"] (uT K CW CF):=T.set.mk λ_ _ F=>Ie G B T.TW FL (by decide) take (num 3 (by decide)) F;have box:Fn P w K mg base (eW P w CF) 5 "take_box" ["words","field","size"] (CS K CW CF):=T.box.mk λ_ _ F=>HP G B T.TW FL (by decide) set F;have key:Fn P w K mg base (eW P w CF) 5 "take_key" ["words","field","size"] (Cq K CW CF):=T.key.mk λ_ _ F=>Hx G B T.TW FL (by decide) set one F;have on:Fn P w K mg base (eW P w CF) 5 "take_on" ["words","fields"] (GX K CW CF):=T.on.mk λ_ _ F=>IY G B T.TW FL (by decide) set one F;have sets:Fn P w K mg base (eW P w CF) 6 "take_sets" ["words","pool","how"] (wK K CW CF CP):=T.sets.mk λ_ _ F=>DO G B T.C.TP on box key F;have how:Fn P w K mg base (eW P w CF) 5 "take_how" ["words","pool"] (BI K CW CF CP):=T.how.mk λ_ _ F=>Ij B T.TW T.C.TP one F;have pool:Fn P w K mg base (eW P w CF) 4 "take_pool" ["pools","words"] (tu K CW CF CP):=T.pool.mk λ_ _ F=>BM B T.TW T.C.TP FL (by decide) take F;have line:Fn P w K mg base (eW P w CF) 3 "check_line" ["line"] (wI K CF):=T.line.mk λ_ _ F=>Fi G B FL F;have G0:xI P w K mg base bF 4 CB ["self","pool","pool_number","how","stake","sets","rows"] (wZ K CB CR):=T.G0.mk λ_ _ F=>Eh T.TB T.N.TR T.N.G6 F;have x_:xI P w K mg base bF 1 CW ["self","line"] (ql K CW):=T.x_.mk λ_ _ F=>zT G T.TW F;have KD:Fn P w K mg base bF 6 "rows_of" ["pool","how","sets"] (zj K CP CR):=(T.N.K_ T.C.TP).mono (by decide);have cost:o7 P w K mg base bF 6 CB "cost" ["self"] (pR K CB CP CR):=(T.cost.mk λ_ _ F=>DD T.TB F:o7 P w K mg base bF 1 CB "cost" ["self"] (pR K CB CP CR)).mono (by decide);have words:Fn P w K mg base (eW P w CF) 7 "read_words" ["pools","words"] (wM K CW CF CB CP CR):=T.words.mk λ_ _ F=>Ft B T.TW T.C.TP T.TB FL (k:=6) (by decide) (one.mono (by decide)) (pool.mono (by decide)) (stake.mono (by decide)) (how.mono (by decide)) sets G0 (fin.mono (by decide)) KD cost F;have Km:Fn P w K mg base (eW P w CF) 8 "read_bet" ["pools","codes"] (AK K CF CB CP CR):=T.Km.mk λ_ _ F=>GJ G B T.TW FL (k:=7) (by decide) (line.mono (by decide)) words (T.C.W.F9.mono (by decide)) x_ F;exact T.J1.mk λ_ _ F=>CD Cd G B T.D T.Z T.mF (k:=8) (T.C.JW.mono (by decide)) Km F
theorem D3.JI:Fn P w K mg base bF 10 "look_at" ["card","bet"] (xT K CB CP CR):=T.look.mk λ_ _ F=>Ei T.C.W.G T.Hw F
end
end
theorem AQ {u:Value}{v:V}(r:Bx u=some v):RelV v u:=by
 cases u <;> cases r <;> first|rfl|exact⟨_,rfl⟩
theorem za:∀{us:aaw} {vs:List V},us.map Bx=vs.map some->Vals vs us
 |[],[],_=>.nil
 |[],_::_,h=>by cases h
 |_::_,[],h=>by cases h
 |u::us,v::vs,h=>by
  rw[X1,X1] at h;injection h with h1 h2;exact .cons (AQ h1) (za h2)
section
variable {P:Program}{w:World}{K:aas}{mg:aau}{h:Heap}{x m qual:Str}{st:Stmt}{f C:Addr}{u:Value}{v:V}{fs:List Str}
 {oc kV dc pm cd ct:Value}{od an:Option Addr}{sl:Array (Option Value)}
theorem dC (X:K.In h) (G:h.Ns mainGlobals mg) (e:PySem.W.nsIn K mainGlobals x=some none:=by k_is):mg x=none:=by
 obtain⟨o,es,ep,ho,hd,_,hf⟩:=G;rw[←hf x];have z:=uw e;unfold De at z;cases q:K.lookup mainGlobals with
 |none =>
  unfold PySem.W.nsIn at e;rw[q] at e;cases e
 |some o' =>
  have:=X _ _ q;rw[ho] at this;cases this;obtain⟨c,d,dt,sl⟩:=o;cases hd;rw[q] at z;exact z
theorem gv (X:K.In h)(G:h.Ns mainGlobals mg)(e:PySem.W.nsIn K mainGlobals x=some (some u):=by k_is)(r:Bx u=some v:=by first|rfl|decide +kernel):Gv mg x v:=⟨u,PySem.W.mg_of X G e,AQ r⟩
theorem a6 (X:K.In h)(G:h.Ns mainGlobals mg)(a:PySem.W.nsIn K mainGlobals x=some (some (.ref f)):=by k_is)(l:K.lookup f=some ⟨oc,od,.func (PySem.W.fnOf x x (cY st) (bZ st) (aw st) .none kV dc pm an cd ct),sl⟩:=by k_is)
  (c:PySem.W.codeIn K cd x=true:=by k_is)(k:PySem.W.keepIn K (.ref f)=true:=by k_is):hX K mg x st:=⟨f,_,PySem.W.mg_of X G a,tX l c k⟩
theorem uX (a:PySem.W.findIn K (.ref C) m=some (some (.ref f)):=by k_is)(i:PySem.W.isFn K (.ref f)=true:=by k_is)(l:K.lookup f=some ⟨oc,od,.func (PySem.W.fnOf m qual (cY st) (bZ st) (aw st) .none kV dc pm an cd ct),sl⟩:=by k_is)
  (c:PySem.W.codeIn K cd qual=true:=by k_is)(k:PySem.W.keepIn K (.ref f)=true:=by k_is):Dm K C m qual st:=⟨f,_,⟨a,i,k⟩,tX l c k⟩
theorem yE (mk:PySem.W.makesIn K C=true:=by k_is)(kc:PySem.W.keepIn K (.ref C)=true:=by k_is)(a:PySem.W.findIn K (.ref C) "__init__"=some (some (.ref f)):=by k_is)(i:PySem.W.isFn K (.ref f)=true:=by k_is)(l:K.lookup f=some ⟨oc,od,.func (PySem.W.fnOf "__init__" qual (cY st) (bZ st) (aw st) .none kV dc pm an cd ct),sl⟩:=by k_is)
  (c:PySem.W.codeIn K cd qual=true:=by k_is)(k:PySem.W.keepIn K (.ref f)=true:=by k_is):Di K C qual st:=⟨f,_,⟨mk,a,i,kc⟩,tX l c k⟩
theorem IG (l:K.lookup f=some ⟨oc,od,.func (PySem.W.fnOf "__init__" qual (cY st) (bZ st) (aw st) .none kV dc pm an cd ct),sl⟩:=by k_is)
  (c:PySem.W.codeIn K cd qual=true:=by k_is)(k:PySem.W.keepIn K (.ref f)=true:=by k_is):∃fd,dm K "__init__" qual st f fd:=⟨_,tX l c k⟩
def n_ (K:aas)(C:Addr)(fs:List Str):Prop:=∀f∈fs,ia K C f
theorem n_.nil:n_ K C []:=λ_ h=>by cases h
theorem n_.cons {g:Str}(n:PySem.W.findIn K (.ref C) g=some none)(r:n_ K C fs):n_ K C (g::fs):=λf h=>by
 cases h with
 |head=>exact n
 |tail _ h=>exact r f h
theorem yM (X:K.In h)(G:h.Ns mainGlobals mg)(a:PySem.W.nsIn K mainGlobals x=some (some (.ref C)):=by k_is)(pg:PySem.W.plainGet K C Str.empty=true:=by k_is)(hd:PySem.W.hasDictIn K C=true:=by k_is)(po:PySem.W.plainOver K C=true:=by k_is)
  (sa:PySem.W.findIn K (.ref C) "__setattr__"=some (some (.builtin "object.__setattr__")):=by k_is)(no:n_ K C fs:=by (repeat refine Bw.n_.cons (by k_is) ?_);exact Bw.n_.nil):CK K mg x fs C:=⟨⟨pg,hd,po,sa⟩,no,PySem.W.mg_of X G a⟩
theorem eZ {a:Addr}{LO:Array Value}{n:Nat}{xs:List V}(l:K.lookup a=some ⟨.type "tuple",od,.seq LO n,sl⟩:=by k_is)(hs:LO.size<=sizeLine:=by decide)(r:LO.toList.map Bx=xs.map some:=by first|rfl|decide +kernel):∀H:Hp,b6 K H a xs:=λ_ =>
 .inr ⟨_,LO,n,l,rfl,rfl,hs,za r⟩
theorem DS {a:Addr}{o:Obj}(l:K.lookup a=some o:=by k_is)(c:o.cls=.type "tuple":=by rfl)(d:o.dict=none:=by rfl):∃o,K.lookup a=some o/\o.cls=.type "tuple"/\o.dict=none:=⟨o,l,c,d⟩
theorem key_is {s:String}{t:Tok}:qm (.inr (Bw.st (Bw.cd s))) (.str (Str.ofString s) t)=true:=by rw[←kY];exact sx _ _
theorem yn {s:String}:PyData.keyHash w.params (Str.ofString s)=IK w (.inr (Bw.st (Bw.cd s))):=by rw[←kY];rfl
theorem BK {dS d1 d2 d3 d4:Addr}{t1 t2 t3 t4:Tok}{ep:Nat}(l:K.lookup dS=some ⟨.type "dict",none,.dict #[⟨PyData.keyHash w.params (Str.ofString "place"),.str (Str.ofString "place") t1,.ref d1⟩,⟨PyData.keyHash w.params (Str.ofString "order"),.str (Str.ofString "order") t2,.ref d2⟩,
      ⟨PyData.keyHash w.params (Str.ofString "any"),.str (Str.ofString "any") t3,.ref d3⟩,⟨PyData.keyHash w.params (Str.ofString "legs"),.str (Str.ofString "legs") t4,.ref d4⟩] ep,#[]⟩:=by k_is) (ne:(dS==sysModules)=false:=by decide)
  (h1:∀H,b6 K H d1 [.int 1,.int 4]:=by exact Bw.eZ) (h2:∀H,b6 K H d2 [.int 2,.int 4]:=by exact Bw.eZ) (h3:∀H,b6 K H d3 [.int 2,.int 3]:=by exact Bw.eZ) (h4:∀H,b6 K H d4 [.int 2,.int 6]:=by exact Bw.eZ) :
  ∃ts:Tote.Kind->Addr,yq P w K dS [(.inr (Bw.st (Bw.cd "place")),.ref (ts .place)),(.inr (Bw.st (Bw.cd "order")),.ref (ts .order)),(.inr (Bw.st (Bw.cd "any")),.ref (ts .any)),(.inr (Bw.st (Bw.cd "legs")),.ref (ts .legs))]/\∀(k:Tote.Kind) (H:Hp),b6 K H (ts k) [.int (sizeOf k).1,.int (sizeOf k).2]:=by
 have nd:([.inr (Bw.st (Bw.cd "place")),.inr (Bw.st (Bw.cd "order")),.inr (Bw.st (Bw.cd "any")),.inr (Bw.st (Bw.cd "legs"))]:List Key).Nodup:=by decide +kernel
 refine⟨fun|.place=>d1|.order=>d2|.any=>d3|.legs=>d4,⟨λh X=>⟨_,_,ep,X _ _ l,⟨rfl,rfl,rfl⟩,rfl,λe he=>?_,.cons (key_is (t:=t1)) rfl (.cons (key_is (t:=t2)) rfl (.cons (key_is (t:=t3)) rfl (.cons (key_is (t:=t4)) rfl .nil))),nd⟩,ne⟩,λk=>?_⟩
 · simp only[List.mem_toArray,XN,Zv,or_false] at he;rcases he with rfl|rfl|rfl|rfl
   · exact⟨.inr (Bw.st (Bw.cd "place")),key_is (s:="place") (t:=t1),yn (w:=w) (s:="place")⟩
   · exact⟨.inr (Bw.st (Bw.cd "order")),key_is (s:="order") (t:=t2),yn (w:=w) (s:="order")⟩
   · exact⟨.inr (Bw.st (Bw.cd "any")),key_is (s:="any") (t:=t3),yn (w:=w) (s:="any")⟩
   · exact⟨.inr (Bw.st (Bw.cd "legs")),key_is (s:="legs") (t:=t4),yn (w:=w) (s:="legs")⟩
 · cases k
   · exact h1
   · exact h2
   · exact h3
   · exact h4
theorem Cs {aF t0 t1 t2 t3 t4 t5 t6:Addr}(l:∀H,b6 K H aF [.ref t0,.ref t1,.ref t2,.ref t3,.ref t4,.ref t5,.ref t6]:=by exact Bw.eZ)(h0:∀H,b6 K H t0 [.int 0,.str (Str.ofString "pool")]:=by exact Bw.eZ)(h1:∀H,b6 K H t1 [.int 4,.str (Str.ofString "from")]:=by exact Bw.eZ)
  (h2:∀H,b6 K H t2 [.int 6,.str (Str.ofString "take")]:=by exact Bw.eZ)(h3:∀H,b6 K H t3 [.int 8,.str (Str.ofString "break")]:=by exact Bw.eZ)(h4:∀H,b6 K H t4 [.int 10,.str (Str.ofString "least")]:=by exact Bw.eZ)(h5:∀H,b6 K H t5 [.int 12,.str (Str.ofString "unit")]:=by exact Bw.eZ)(h6:∀H,b6 K H t6 [.int 14,.str (Str.ofString "none")]:=by exact Bw.eZ) :
  ∃ts:List Addr,(∀H,b6 K H aF (ts.map V.ref))/\Paired (λt (p:Nat×W)=>∀H,b6 K H t [.int (p.1:Nat),.str (Bw.st p.2)]) ts eY:=by
 rw[kY] at h0 h1 h2 h3 h4 h5 h6;exact⟨[t0,t1,t2,t3,t4,t5,t6],l,.cons h0 (.cons h1 (.cons h2 (.cons h3 (.cons h4 (.cons h5 (.cons h6 .nil))))))⟩
theorem Er {N:Addr}{es:Array DictEntry}{ep:Nat}(l:K.lookup N=some ⟨oc,od,.dict es ep,sl⟩:=by k_is)(e:(es.toList.all λe=>match e.key with
  |.str _ _=>true
  |_=>false)=true:=by rfl):iq K N=true:=by
 unfold iq;rw[l];exact e
theorem GV {N fI:Addr}{nm q:Str}{bs:aaw}{sn:List Str}{sub:aaw}{ab:Bool}{col:Option Bool}{dd:Option Addr}{k0 k1 k2 k3 k5:Option Value}(l:K.lookup C=some (excClassObj nm q C N bs BwX.rf true sn sub ab col dd k0 k1 k2 k3 k5 "Exception.__new__"):=by k_is)
  (keys:iq K N=true:=by exact Bw.Er)(init:PySem.W.nsIn K N "__init__"=some (some (.ref fI)):=by k_is)(fn:PySem.W.isFn K (.ref fI)=true:=by k_is)(kp:PySem.W.keepIn K (.ref C)=true:=by k_is)(By:PySem.W.nsIn K N "__setattr__"=some none:=by k_is)(K9:PySem.W.nsIn K N "kind"=some none:=by k_is)(Kl:PySem.W.nsIn K N "place"=some none:=by k_is)
  (sa:PySem.W.findIn K (.ref C) "__setattr__"=some (some (.builtin "object.__setattr__")):=by k_is)(ga:PySem.W.findIn K (.ref C) "__getattribute__"=some (some (.builtin "BaseException.__getattribute__")):=by k_is)(gt:PySem.W.findIn K (.ref C) "__getattr__"=some none:=by k_is)(fK:PySem.W.findIn K (.ref C) "kind"=some none:=by k_is)(fP:PySem.W.findIn K (.ref C) "place"=some none:=by k_is):oP K C N fI :=
 ⟨⟨_,l,nm,q,bs,sn,sub,ab,col,dd,k0,k1,k2,k3,k5,rfl⟩,keys,init,fn,kp,By,K9,Kl,sa,ga,gt,fK,fP⟩
end
theorem vW {l:List Int}(h:∀i∈l,0<=i/\i<=255):nV (ic (BetNeutral.text l))=l.map V.int:=by
 unfold nV ic BetNeutral.text BetNeutral.nats;rw[X_,X_,X_];refine YA λi hi=>?_;obtain⟨h1,h2⟩:=h i hi;show V.int (((UInt8.ofNat i.toNat).toNat:Nat):Int)=V.int i;have e:(UInt8.ofNat i.toNat).toNat=i.toNat:=by
  rw[UInt8.toNat_ofNat'];omega
 rw[e];congr 1;omega
theorem vD {l:List Int}(h:l.all (PySem.W.Codec.inInt (Int.ofNat 0) (Int.ofNat 255))=true):∀i∈l,0<=i/\i<=255:=λi hi=>by
 have z:=Yd.mp h i hi;unfold PySem.W.Codec.inInt at z;simp only[XR,XS] at z;exact⟨z.1,z.2⟩
section
variable {K:aas}{H:Hp}{xs:List V}{a b:List Int}
theorem Kh {lo hi Ss Su:Nat} (hx:ik K H xs (PySem.W.Codec.encAll [.list lo hi (.int (Int.ofNat 0) (Int.ofNat 255)),.list Ss Su (.int (Int.ofNat 0) (Int.ofNat 255))] ((a,b,()):List Int×List Int×Unit)))
  (Oo:PySem.W.Codec.withinAll [.list lo hi (.int (Int.ofNat 0) (Int.ofNat 255)),.list Ss Su (.int (Int.ofNat 0) (Int.ofNat 255))] ((a,b,()):List Int×List Int×Unit)=true) :
  ∃c d,xs=[.ref c,.ref d]/\aO K H c (nV (ic (BetNeutral.text a)))/\aO K H d (nV (ic (BetNeutral.text b))):=by
 have w:((PySem.W.Codec.inLen lo hi a&&a.all (PySem.W.Codec.inInt (Int.ofNat 0) (Int.ofNat 255)))&&((PySem.W.Codec.inLen Ss Su b&&b.all (PySem.W.Codec.inInt (Int.ofNat 0) (Int.ofNat 255)))&&true))=true:=Oo;simp only[XR] at w;cases hx with
 |cons h1 h2 =>
  cases h2 with
  |cons h2 h3 =>
   cases h3;cases h1 with
   |lst hs ha =>
    cases h2 with
    |lst NS Px =>
     have e:=L2.tZ a _ ha;have e2:=L2.tZ b _ Px;subst e e2;exact⟨_,_,rfl,by rw[vW (vD w.1.2)];exact hs,by rw[vW (vD w.2.1.2)];exact NS⟩
end
def K7 (P:Program)(w:World)(mg:aau){K:aas}{h:Heap}(_:K.In h):Prop:=∃dS aF CP CW CB CF nF fI aW CR,D3 P w K mg dS aF CP CW CB CF nF fI aW CR
def KR (mg:aau){K:aas}{h:Heap}(_:K.In h)(x:Str)(st:Stmt):Prop:=hX K mg x st
section
variable {P:Program}{w:World}{K:aas}{mg:aau}{fa:Addr}{x:Str}{st:Stmt}{ps:List Str}{k:Nat}{sp:Sp}
theorem G_ (D:hX K mg x st) (O6:mg x=some (.ref fa))
  (hb:∀(kV doc pm:Value) (an:Option Addr) (LP ct:Value) (us:aaw),us.length=ps.length->bindArgs (PySem.W.fnOf x x (cY st) (bZ st) (aw st) .none kV doc pm an LP ct) ⟨us,[]⟩=pure (ps.zip us))
  (ok:∀(base:Heap) (f:Addr) (fd:FuncData),dm K x x st f fd->a9 P w K mg base bF k f fd ps sp) :
  ∃fd:FuncData,(∀(s:Shared) (us:aaw),us.length=ps.length->BindsTo s fd ⟨us,[]⟩ (ps.zip us))/\∀base:Heap,K.In base->base.Ns mainGlobals mg->a9 P w K mg base bF k fa fd ps sp:=by
 obtain⟨f,fd,hm,F⟩:=D;rw[O6] at hm;cases hm;obtain⟨oc,od,kV,doc,pm,an,LP,ct,MG,rfl,lk,Mp⟩:=id F.ex;exact⟨_,λs us hu=>.of_eq (hb _ _ _ _ _ _ us hu),λbase _ _=>ok base _ _ F⟩
end
def front (y:bL)(i:Nat):List Int:=([0,((y.pool:Nat):Int),((y.how:Nat):Int),((y.stake:Nat):Int),((y.sets.length:Nat):Int)]:List Int)++(y.sets.take i).flatMap λs=>((s.length:Nat):Int)::s.map λ(n:Nat)=>(n:Int)
theorem v_ {c:Nat}:∀(ss:aaq),(∀s∈ss,s.length<=c)->(ss.flatMap λs=>((s.length:Nat):Int)::s.map λ(n:Nat)=>(n:Int)).length<=ss.length*(c+1)
 |[],_=>by simp
 |s::ss,h=>by
  have h1:=v_ ss λt ht=>h t (X2 _ ht);have h2:=h s (Yt ..);rw[Z2,X6,XW,XW,XH,Nat.add_mul];omega
theorem Aw {y:bL}{p:aK}(m:sH p y.how y.sets)(i:Nat):(front y i).length<=161:=by
 obtain⟨h1,h2⟩:=m.small;unfold front;have h3:=v_ (c:=25) (y.sets.take i) λs hs=>h2 s (Zn hs);have h4:(y.sets.take i).length<=6:=by rw[X7];omega
 have h5:(y.sets.take i).length*26<=6*26:=Nat.mul_le_mul_right _ h4;rw[X6];show 5+_<=161;omega
theorem wG {y:bL}{i:Nat}{s:aar}(h:y.sets[i]?=some s):((front y i).map V.int++[V.int (s.length:Nat)])++nV s=(front y (i+1)).map V.int:=by
 unfold front nV;rw[take_snoc h,List.flatMap_append,X3,X3,X3];simp
theorem Dr {t:TA}{i:Nat}{u:TS}{D:Ends}{σ:L2.St}{H:Hp}(q:t σ H λxs H1=>xs.length<=sizeLine/\∀p,H1 p=none->u D (σ.set i (some (.ref p))) (upd H1 p (.lst xs))):EC (yf (G5 t) (fB i)) u D σ H:=q
theorem pD {te:TE}{t:TA}{σ:L2.St}{H:Hp}{v:V}{Q:List V->Hp->Prop}(h:Ev te σ H v)(q:t σ H λxs H2=>Q (v::xs) H2):cI te t σ H Q:=h _ q
section
variable {P:Program}{w:World}{K:aas}{mg:aau}{base:Heap}
def Jp (K:aas) (g:bL->aK->List Int):Sp:=λvs H Q _=>∃(c d:Addr) (t b:Bytes),vs=[.ref c,.ref d]/\aO K H c (nV (ic t))/\aO K H d (nV (ic b))/\∀zs,Rs t b g zs->∀H' L,H' L=some (.lst (zs.map V.int))->Q (.ref L) H'
theorem jE:aG ["card","bet","refusal","found","answer","numbers"] ["card","bet"] (aw gN):=fs
theorem Ar {CB CP CR:Addr}(G:GW mg)(TB:CK K mg "Bet" rK CB){k:Nat}(FL:Fn P w K mg base bF k "look_at" ["card","bet"] (xT K CB CP CR)){f:Addr}{fd:FuncData}(F:dm K "means" "means" gN f fd):a9 P w K mg base bF (k+1) f fd ["card","bet"] (Jp K qE):=by
 refine F.oo jE λLP A outer s H vs Q E hr h=>?_;obtain⟨c,d,t,b,rfl,hC,hB,q⟩:=h;refine⟨_,af (BR (aV FL hr bc (aa (pv 0) (aa (pv 1) ah))) (lD rfl (cg (bh 2 jE.nd) (cg (bh 3 jE.nd) jh))))
  (af (aP (aA ui (pv 3) cF (aJ _)) (ak (az (cN fw (pv 2) ft (cZ ax)))) aB)
  (af (aZ 4 jE.nd (bT (aa ax (aa (aS (pv 3) rfl) (aa (aS (pv 3) rfl) (aa (aS (pv 3) rfl) (aa (bf G.len (aS (pv 3) rfl)) ah)))))))
  (af (cT YM rfl (bG (aS (pv 3) rfl)) (bh 5 jE.nd)
   (af (cX (lQ PySem.F.plainAttrs_list PySem.F.slot_list_append PySem.F.type_list_append gf (pv 4) (aa (bf G.len (pv 5)) ah)))
   (ak (cX (lQ PySem.F.plainAttrs_list PySem.F.slot_list_extend PySem.F.type_list_extend zQ (pv 4) (aa (pv 5) ah))))))
  (ak (az (pv 4)))))),?_⟩
 refine⟨_,rfl,_,rfl,c,d,t,b,rfl,hC,hB,λzs hz H' T L hT hL=>?_,λy hy H' T L x p hT Sr hp=>?_⟩
 · refine⟨T,_,rfl,b6.of hT,rfl,_,_,rfl,_,_,rfl,rfl,?_⟩;refine aU (aI (tm (ag rfl))) (λh=>?_) (λh=>absurd h (by decide));refine⟨_,rfl,_,rfl,L,_,rfl,aO.of hL,λp hp=>?_⟩;rw[show ((1:Int))=((1:Nat):Int) from rfl,Df];exact q _ (.inl ⟨zs,hz,rfl⟩) _ p ae
 · refine⟨T,_,rfl,b6.of hT,rfl,_,_,rfl,_,_,rfl,rfl,?_⟩;refine aU (aI (tm (ag rfl))) (λh=>absurd (X4 h) (by intro z;cases z)) (λh=>?_);obtain⟨ps,Nn,Oc⟩:=hp;obtain⟨dx,pa,sa,ra,h1,h2,⟨as,h3,Ul⟩,_,h4,m⟩:=Sr;have LQ:as.length=y.sets.length:=Paired.length Ul;obtain⟨vJ,short⟩:=m.small;refine Dr (pD aD (pD (a_ (ag rfl) h1 TB.cl (TB.no _ (by simp)) A8) (pD (a_ (ag rfl) h1 TB.cl (TB.no _ (by simp)) CJ) (pD (a_ (ag rfl) h1 TB.cl (TB.no _ (by simp)) qy)
    (pD (aT (K:=K) (a_ (ag rfl) h1 TB.cl (TB.no _ (by simp)) rO) (.inl (aO.of h3))) ⟨by show 5<=sizeLine;decide,λL' Sv=>?_⟩)))))
   rw[XH,LQ];have S1:au H' (upd H' L' (.lst ((front y 0).map V.int))):=(au.refl H').laid Sv;have e1:(upd H' L' (.lst ((front y 0).map V.int))) L'=some (.lst ((front y 0).map V.int)):=ae;have e0:upd H' L' (.lst [V.int 0,V.int ((y.pool:Nat):Int),V.int ((y.how:Nat):Int),V.int ((y.stake:Nat):Int),V.int ((y.sets.length:Nat):Int)])=upd H' L' (.lst ((front y 0).map V.int)):=rfl;refine⟨_,rfl,x,CB,dx,_,_,rfl,S1 _ _ h1,TB.cl,TB.no _ (by simp),rO,sa,rfl,⟨_,aO.of (S1 _ _ h3)⟩,cM (K:=K) (a:=sa) (xs:=as.map V.ref) (λi σ H2=>∃v5:Option V,σ=[some (.ref c),some (.ref d),some (.ref L),some (.ref x),some (.ref L'),v5]/\au H' H2/\H2 L'=some (.lst ((front y i).map V.int)))
    ⟨none,rfl,S1,e1⟩ (λi σ H2 _ ⟨_,_,S,_⟩=>aO.of (S _ _ h3)) ?_ ?_⟩
   · rintro i z σ H2 hi ⟨v5,rfl,S2,e2⟩;rw[XO] at hi;obtain⟨ai,Mb,rfl⟩:=Yj.mp hi;obtain⟨si,MY,hI⟩:=Paired.qP Ul Mb;have hl:=Aw m i;have Um:=S2 _ _ hI;have nL:ai≠L':=ao hI Sv;have RY:=short si (Yc MY);refine⟨_,rfl,.inl ⟨rfl,_,aO.of e2⟩,(aT (K:=K) (ag rfl) (.inl (aO.of Um))) _ ⟨L',_,_,rfl,rfl,e2,by rw[XH,Yb];omega,?_⟩⟩;refine⟨_,rfl,.inl ⟨rfl,_,aO.of ae⟩,_,rfl,L',ai,_,_,rfl,rfl,ae,by rw[aq nL];exact Um,?_,?_⟩
     · rw[X6,XH,aL,Yb];simp;omega
     · rw[cy,aL,wG MY];refine⟨_,rfl,λb' u z=>?_,ae⟩;rw[aq (ao z Sv)];exact S2 b' u z
   · rintro σ H2 ⟨v5,rfl,S2,e2⟩;rw[XH,LQ] at e2;refine⟨_,rfl,q _ (.inr ⟨y,ps,p,hy,Nn,Oc,m,rfl⟩) _ L' ?_⟩;rw[e2];unfold front qE;rw[YE]
end
end Bw
end
set_option Elab.async false
set_option linter.all false
set_option maxRecDepth 100000
open PySem PySem.W PyProof.Rows
def gL0:OpenLaw:=⟨PySem.Challenge.pw_betwords_s02_means,"",[],0,none,none,false⟩
set_option maxHeartbeats 0 in
theorem PySem.Challenge.cw_betwords_s02_means_holds : PySem.Challenge.rw_betwords_s02_means.Holds := by
 refine holds_os (r:=PySem.Challenge.rw_betwords_s02_means) (q:=Bw.qV) (loose:=Bw.lV) (Xt:=Bw.xV) (XP:=XL Bw.qV []) (Yf:=(PySem.W.kHook Bw.oq Bw.AI Bw.CO).obs) (Ya:=(PySem.W.kHook Bw.oq Bw.AI Bw.CO).val) (YP:=(PySem.W.kHook Bw.oq Bw.AI Bw.CO).says) (d:=Bw.dV) (kwd:=[]) (N:=5200) Bw.hl (PySem.W.kHook Bw.oq Bw.AI Bw.CO).of (PySem.W.kHook Bw.oq Bw.AI Bw.CO).keeps (λs e=>xl_of s (aad.mp e).1) XL.keeps (by kernel_rfl) (by kernel_rfl) (by kernel_rfl) (λs e=>recFacts_of (aad.mp e).2) os_shapes (by decide +kernel) (by decide +kernel) ⟨rfl,rfl,rfl,rfl,rfl,by decide +kernel⟩ ⟨[.list [],.list []],by decide +kernel,by decide +kernel⟩ ?_
 have:(gL0,Bw.oq)=(gL0,Bw.oq):=by k_fill;rfl
 refine L2.ye (r:=PySem.Challenge.rw_betwords_s02_means) (k:=11) (CX:=L2.bF) (ps:=["card","bet"]) (sp:=(λK=>Bw.Jp K Bw.qE)) (by decide +kernel) rfl rfl ⟨rfl,by decide,by decide⟩ (λw h Y=>kIn_of Y) ?F ?S (λ_ _ _ _ z=>z)
 case F =>
  intro w mg fa h Y KX G O6;have gw:Bw.GW mg:=⟨Bw.gv KX G,Bw.gv KX G,Bw.gv KX G,Bw.gv KX G,Bw.dC KX G,Bw.dC KX G,Bw.dC KX G⟩;have T:Bw.K7 PySem.Challenge.rw_betwords_s02_means.prog w mg KX:=⟨46,58,75,324,282,255,254,252,238,209,⟨⟨⟨gw,Bw.a6 KX G,Bw.a6 KX G,Bw.a6 KX G,Bw.a6 KX G⟩,⟨Bw.gv KX G,Bw.gv KX G,Bw.gv KX G,Bw.gv KX G,Bw.gv KX G,Bw.gv KX G,Bw.gv KX G,Bw.BK,Bw.Cs,Bw.dC KX G⟩,Bw.yM KX G,Bw.yE,Bw.a6 KX G,Bw.a6 KX G,Bw.a6 KX G,Bw.a6 KX G,Bw.a6 KX G,Bw.a6 KX G,Bw.a6 KX G,Bw.a6 KX G⟩,
    ⟨gw,⟨Bw.gv KX G,Bw.gv KX G,Bw.gv KX G,Bw.gv KX G,Bw.gv KX G,Bw.gv KX G,Bw.gv KX G,Bw.gv KX G,Bw.gv KX G,Bw.gv KX G,Bw.gv KX G,Bw.gv KX G,Bw.gv KX G,Bw.gv KX G,Bw.gv KX G,Bw.eZ,Bw.DS,Bw.dC KX G,Bw.dC KX G⟩,⟨Bw.dC KX G,Bw.dC KX G,Bw.dC KX G,Bw.dC KX G,Bw.dC KX G,Bw.gv KX G,Bw.dC KX G,Bw.dC KX G⟩,Bw.yM KX G,Bw.a6 KX G,Bw.a6 KX G,Bw.a6 KX G,Bw.a6 KX G,Bw.a6 KX G,Bw.a6 KX G,Bw.a6 KX G,Bw.a6 KX G,Bw.yE,Bw.uX,Bw.a6 KX G,Bw.a6 KX G,Bw.a6 KX G,Bw.a6 KX G,Bw.a6 KX G⟩,
    ⟨Bw.gv KX G,Bw.gv KX G,Bw.gv KX G,Bw.gv KX G,Bw.gv KX G⟩,Bw.yM KX G,Bw.yM KX G,Bw.GV,mg_of KX G (by k_is),Bw.IG,Bw.yE,Bw.uX,Bw.yE,Bw.uX,Bw.uX,Bw.uX,Bw.a6 KX G,Bw.a6 KX G,Bw.a6 KX G,Bw.a6 KX G,Bw.a6 KX G,Bw.a6 KX G,Bw.a6 KX G,Bw.a6 KX G,Bw.a6 KX G,Bw.a6 KX G,Bw.a6 KX G,Bw.a6 KX G,Bw.a6 KX G⟩⟩
  have J:Bw.KR mg KX "means" Bw.gN:=Bw.a6 KX G;obtain⟨dS,aF,CP,CW,CB,CF,nF,fI,aW,CR,T⟩:=T;exact Bw.G_ J O6 (λ_ _ _ _ _ _=>Bw.IF λ_ _=>rfl) (λbase f fd F=>Bw.Ar gw T.TB T.JI F)
 case S =>
  intro K H xs a hO Oo hask hx;obtain⟨c,d,rfl,hc,hd⟩:=Bw.Kh (a:=a.1) (b:=a.2.1) hx Oo;refine⟨c,d,_,_,rfl,hc,hd,λzs hz H' L hL=>?_⟩;rw[Bw.Az hz] at hL;exact .lst (L2.aO.of hL) (L2.y9 _)
