import PyProof.Rows.All
import KE.KDictList
import KE.KIntText
import Open.SpecLaws
import KE.KStateDown
import KE.OsHead
import Wide.FinOn
import KE.BitLaws
import PyWqaqcl
import PySem.Challenge.RW_betwords_s04_cost
section
set_option Elab.async false
section
set_option autoImplicit false
open PySem PySem.Spec PyProof.Rows
abbrev Xs:=@wpAny_bind
abbrev Xu:=@List.length_map
abbrev Xv:=@if_neg
abbrev Xw:=@if_pos
abbrev Xx:=@Heap.get?_push_of_some
abbrev Xy:=@List.mem_cons
abbrev Xz:=@List.getElem?_map
abbrev XA:=@wpAny_pure
abbrev XB:=@Bool.and_eq_true
abbrev XC:=@decide_eq_true_eq
abbrev XD:=@Nat.le_refl
abbrev XE:=@List.getElem?_eq_getElem
abbrev XG:=@List.length_cons
abbrev XH:=@Heap.lt_size
abbrev XI:=@List.getElem?_eq_some_iff
abbrev XJ:=@List.mem_singleton
abbrev XM:=@Heap.get?_push_size
abbrev XN:=@List.map_cons
abbrev XO:=@List.mem_cons_of_mem
abbrev XQ:=@List.map_append
abbrev XR:=@of_decide_eq_true
abbrev XS:=@List.size_toArray
abbrev XT:=@List.length_append
abbrev XU:=@List.length_take
abbrev XW:=@Bool.false_ne_true
abbrev XX:=@Heap.SameBut.update
abbrev XY:=@List.map_map
abbrev XZ:=@sizeLine_eq
abbrev X0:=@List.mem_of_getElem?
abbrev X1:=@List.all_eq_true
abbrev X2:=@Nat.zero_le
abbrev X3:=@beq_eq_false_iff_ne
abbrev X4:=@List.mem_map
abbrev X5:=@List.length_replicate
abbrev X6:=@Option.map_eq_some_iff
abbrev X7:=@Nat.ne_of_lt
abbrev X8:=@Option.some.inj
abbrev X9:=@Bool.eq_iff_iff
abbrev X_:=@decide_eq_true
abbrev Yb:=@Nat.lt_of_lt_of_le
abbrev Yc:=@decide_eq_false_iff_not
abbrev Yd:=@List.getD_eq_getElem?_getD
abbrev Ye:=@of_decide_eq_false
abbrev Yg:=@Int.toNat_natCast
abbrev Yh:=@List.mem_cons_self
abbrev Yi:=@Nat.le_trans
abbrev Yj:=@decide_eq_false
abbrev Yk:=@List.mem_append
abbrev Yl:=@beq_iff_eq
abbrev Ym:=@Bool.not_eq_true'
abbrev Yn:=@List.length_drop
abbrev Yo:=@List.map_congr_left
abbrev Yp:=@Bool.not_eq_false'
abbrev Yq:=@List.nil_append
abbrev Yr:=@List.take_of_length_le
abbrev Ys:=@List.take_length
abbrev Yt:=@List.mem_append_right
abbrev Yu:=@Heap.get?_update_self
abbrev Yv:=@Bool.or_eq_true
abbrev Yw:=@List.eq_of_mem_replicate
abbrev Yx:=@List.append_nil
abbrev Yy:=@List.getElem?_eq_none
abbrev Yz:=@List.length_pos_iff
abbrev YA:=@PassesOwn.never
abbrev YB:=@congrArg
abbrev YC:=@List.contains_eq_mem
abbrev YD:=@Heap.size_push
abbrev YE:=@List.mem_filter
abbrev YF:=@Bool.or_eq_false_iff
abbrev YG:=@List.nodup_cons
abbrev YH:=@List.filter_cons
abbrev YI:=@List.length_singleton
abbrev YJ:=@wpAny_truthy_bool
abbrev YK:=@wpAny_callSpecial?_slot
abbrev YL:=@PyProof.Rows.slot_tuple_getitem
abbrev YM:=@wpAny_mono
abbrev YN:=@List.pairwise_cons
abbrev YO:=@wpAny_passesOwn
abbrev YQ:=@Nat.lt_irrefl
abbrev YR:=@wpAny_call_entry
abbrev YS:=@List.drop_eq_getElem_cons
abbrev YT:=@Bool.and_eq_false_iff
abbrev YU:=@List.map_nil
abbrev YV:=@Bool.false_eq_true
abbrev YW:=@PyProof.Rows.callWith_type1
abbrev YX:=@wpAny_newObj_type
abbrev YY:=@List.append_assoc
abbrev YZ:=@eq_of_beq
abbrev Y0:=@List.foldl_cons
abbrev Y1:=@decide_eq_true_iff
abbrev Y2:=@List.sum_cons
abbrev Y3:=@List.any_cons
abbrev Y4:=@List.mem_of_mem_drop
abbrev Y5:=@List.length_nil
abbrev Y6:=@F.slot_dict_keyiterator_next
abbrev Y7:=@List.isEmpty_iff
abbrev Y8:=@List.any_eq_true
abbrev Y9:=@List.find?_cons
abbrev Y_:=@List.pairwise_iff_forall_sublist
abbrev Za:=@List.nodup_append
abbrev Zb:=@List.mem_of_mem_take
abbrev Zc:=@List.length_erase_of_mem
abbrev Zd:=@if_true
abbrev Ze:=@List.getElem?_range
abbrev Zf:=@Array.length_toList
abbrev Zg:=@decide_eq_decide
abbrev Zh:=@List.not_mem_nil
abbrev Zi:=@List.mem_range
abbrev Zj:=@List.lookup_cons
abbrev Zk:=@List.length_eq_zero_iff
abbrev Zl:=@List.getElem_mem
abbrev Zm:=@List.drop_length
abbrev Zn:=@wpAny_typeNameOfWhole_keyiter
abbrev Zo:=@List.filter_append
abbrev Zq:=@List.drop_eq_nil_of_le
abbrev Zr:=@Heap.get?_update_other
abbrev Zs:=@wpAny_execs_nil
abbrev Zu:=@if_false
abbrev Zv:=@Nat.min_eq_left
abbrev Zw:=@wpAny_holding
abbrev Zx:=@Nat.pow_le_pow_right
abbrev Zy:=@F.slot_tuple_iterator_next
abbrev Zz:=@Nat.pow_succ
abbrev ZC:=@List.mem_flatMap
abbrev ZD:=@List.cons_append
abbrev ZE:=@List.all_map
abbrev ZF:=@List.takeWhile_cons
abbrev ZG:=@wpAny_typeNameOf_keyiter
abbrev ZH:=@Option.isSome_iff_exists
abbrev ZI:=@List.all_cons
abbrev ZJ:=@Bool.or_false
abbrev ZK:=@wpAny_Call_Name_kw
abbrev ZL:=@List.findIdx?_eq_some_iff_getElem
abbrev ZM:=@Nat.mul_comm
abbrev ZN:=@List.length_range
abbrev ZO:=@List.length_pos_of_mem
abbrev ZP:=@List.getElem?_set_self
abbrev ZQ:=@List.flatMap_cons
abbrev ZR:=@List.ext_getElem?
abbrev ZS:=@List.any_map
abbrev ZT:=@F.called_set
abbrev ZU:=@Calls.callWith_builtin
abbrev ZV:=@List.length_filter_le
abbrev ZW:=@typeIs_str
abbrev ZX:=@Nat.lt_succ_self
abbrev ZY:=@Nat.le_add_right
abbrev ZZ:=@List.map_drop
abbrev Z0:=@List.mem_erase_of_ne
abbrev Z1:=@List.forall_mem_cons
abbrev Z2:=@Bool.and_eq_true_iff
abbrev Z3:=@List.replicate_succ
abbrev Z4:=@List.map_eq_nil_iff
abbrev Z5:=@List.filterMap_cons
abbrev Z6:=@List.dropWhile_cons
abbrev Z7:=@codeAny_mono
abbrev Z8:=@Ne.symm
abbrev Z9:=@Nat.le_of_eq
abbrev Z_:=@tupleKind_room_in1
abbrev aaa:=@List.perm_ext_iff_of_nodup
abbrev aab:=@List.isPrefixOf_iff_prefix
abbrev aac:=@List.getElem?_append_right
abbrev aad:=@Calls.spliced_cons
abbrev aae:=List (List Nat)
abbrev aaf:=List Nat
abbrev aag:=PySem.W.Frag
abbrev aah:=Value->Shared->Prop
abbrev aai:=Str->Option Value
abbrev aaj:=List (Addr×Obj)
abbrev aak:=List Value
end
section
set_option autoImplicit false
set_option linter.all false
set_option maxRecDepth 100000
set_option maxHeartbeats 0
namespace L2
open PySem PySem.Spec PyProof.Rows
def inClass (s:Stmt)(j:Nat):Stmt:=match s with
 |.ClassDef _ _ _ body _ _ _ _ _ _ _=>body.getD j (.Pass ⟨0,0,0,0⟩)
 |_=>.Pass ⟨0,0,0,0⟩
def cW (s:Stmt):Arguments:=match s with
 |.FunctionDef _ a _ _ _ _ _ _ _ _=>a
 |_=>{posonlyargs:=[],args:=[],vararg:=none,kwonlyargs:=[],kw_defaults:=[],kwarg:=none,defaults:=[]}
def bZ (s:Stmt):List Stmt:=match s with
 |.FunctionDef _ _ b _ _ _ _ _ _ _=>b
 |_=>[]
def aw (s:Stmt):Scope:=match s with
 |.FunctionDef _ _ _ _ _ _ sc _ _ _=>sc
 |_=>{kind:=.function,names:=[],isGenerator:=false,isCoroutine:=false}
end L2
end
section
set_option autoImplicit false
set_option linter.all false
set_option maxRecDepth 100000
set_option maxHeartbeats 0
namespace Bw
open PySem L2
def top (i:Nat):Stmt:=PySem.Challenge.pw_betwords_s04_cost.main.body.getD i (.Pass ⟨0,0,0,0⟩)
abbrev DR:Stmt:=top 0
abbrev ka:Stmt:=top 6
abbrev j3:Stmt:=top 7
abbrev kh:Stmt:=top 8
abbrev gN:Stmt:=top 9
abbrev gL:Stmt:=inClass (top 18) 0
abbrev gX:Stmt:=top 19
abbrev mx:Stmt:=top 20
abbrev fE:Stmt:=top 21
abbrev fX:Stmt:=top 22
abbrev gR:Stmt:=top 23
abbrev dU:Stmt:=top 24
abbrev dz:Stmt:=top 25
abbrev gS:Stmt:=top 26
abbrev fW:Stmt:=top 28
abbrev kl:Stmt:=top 29
abbrev f_:Stmt:=top 30
abbrev eJ:Stmt:=top 31
abbrev oM:Stmt:=top 32
abbrev cU:Stmt:=top 33
abbrev i6:Stmt:=top 34
abbrev eh:Stmt:=top 35
abbrev gY:Stmt:=inClass (top 37) 0
abbrev dR:Stmt:=inClass (top 37) 1
abbrev qR:Stmt:=inClass (top 37) 2
abbrev qN:Stmt:=inClass (top 37) 3
abbrev kg:Stmt:=top 38
abbrev i8:Stmt:=top 39
abbrev iM:Stmt:=top 40
abbrev gF:Stmt:=top 41
abbrev fY:Stmt:=inClass (top 58) 0
abbrev i7:Stmt:=inClass (top 59) 0
abbrev iY:Stmt:=inClass (top 59) 1
abbrev fQ:Stmt:=inClass (top 60) 0
abbrev fZ:Stmt:=inClass (top 60) 1
abbrev cv:Stmt:=inClass (top 60) 2
abbrev eN:Stmt:=inClass (top 60) 3
abbrev je:Stmt:=top 61
abbrev f7:Stmt:=top 62
abbrev fV:Stmt:=top 63
abbrev gP:Stmt:=top 64
abbrev gd:Stmt:=top 65
abbrev jd:Stmt:=top 66
abbrev gQ:Stmt:=top 67
abbrev ku:Stmt:=top 68
abbrev iL:Stmt:=top 69
abbrev ja:Stmt:=top 70
abbrev iI:Stmt:=top 71
abbrev j_:Stmt:=top 72
abbrev jF:Stmt:=top 79
abbrev kq:Stmt:=top 80
abbrev fq:Stmt:=top 81
end Bw
end
section
set_option autoImplicit false
set_option linter.all false
set_option maxRecDepth 100000
set_option maxHeartbeats 0
namespace Bw
open PySem L2
abbrev kS (s:String)(t:Nat):Value:=.str (Str.ofString s) t
abbrev kE (P:Params)(s:String)(t:Nat)(v:Value):DictEntry:=⟨PyData.keyHash P (Str.ofString s),.str (Str.ofString s) t,v⟩
abbrev kF (x q:String)(st:Stmt)(m:Value)(c:Nat):Obj:=⟨.type "function",none,.func (PySem.W.fnOf (Str.ofString x) (Str.ofString q) (cW st) (bZ st) (aw st) .none .none .none m none (.ref c) .none),#[]⟩
abbrev kC (x q:String)(t l a g c:Nat)(b:Bool)(z d:Nat)(u v w y:Value)(k:Nat):Obj:=⟨.type "code",none,.fields #[kS x t,kS q (t+1),kS "/claim/cut.py" (t+2),.int l 0,.int a 0,.int 0 0,.int 0 0,.int g 0,.ref c,.bool b,.int z 0,.ref d,u,v,w,y,.int k 0,.int l 0,kS "/claim/cut.py" (k+1)],#[]⟩
abbrev kT (l:List Value)(n:Nat):Obj:=⟨.type "tuple",none,.seq l.toArray n,#[]⟩
abbrev kD (l:List DictEntry)(n:Nat):Obj:=⟨.type "dict",none,.dict l.toArray n,#[]⟩
abbrev kG (x:String)(t l a c d e f g k:Nat):Obj:=kC x x t l a 3 c true 181 d .none (.ref e) (.ref f) (.ref g) k
abbrev kH (x:String)(st:Stmt)(m:Value)(c:Nat):Obj:=kF x x st m c
abbrev kR (P:Params)(s:String)(t a:Nat):DictEntry:=kE P s t (.ref a)
abbrev JV:Value:=kS "betwords.desk" 814
abbrev JY:Value:=kS "betwords.words" 194
abbrev C5:Value:=kS "betwords.cards" 230
abbrev Fv:Value:=kS "betwords.counts" 374
abbrev ER:Value:=kS "betwords.rows" 438
abbrev qJ:Value:=kS "betwords.bets" 524
noncomputable def oj (P:Params):PySem.W.Frag:=(nat_lit 3,kD [kE P "__name__" 165 JV,kE P "__doc__" 166 .none,kE P "__package__" 167 .none,kE P "__loader__" 168 (.builtin "__main__.__loader__#opaque"),kE P "__spec__" 169 .none,kR P "__annotations__" 170 6,kR P "__builtins__" 171 4,kE P "__file__" 173 (kS "/claim/cut.py" 172),kE P "__cached__" 174 .none,kR P "_wall" 193 21,kE P "LETTERS" 197 (kS "abcdefghijklmnopqrstuvwxyz" 196),kE P "DIGITS" 199 (kS "0123456789" 198),kE P "MOST_NAME" 201 (.int 12 200),kE P "MOST_DIGITS" 203 (.int 7 202),kR P "sign_of" 210 28,kR P "text_of" 216 33,kR P "is_name" 222 38,kR P "number_of" 229 45,kE P "MOST_RACES" 233 (.int 16 232),kE P "MOST_POOLS" 235 (.int 64 234),kE P "MOST_COUPLES" 237 (.int 8 236),kE P "MOST_RUNNERS" 239 (.int 24 238),kR P "SIZES" 256 46,kR P "FIXED" 271 58,kE P "POOL_WORDS" 273 (.int 16 272),kR P "Pool" 308 75,kR P "read_card" 314 84,kR P "is_day" 321 91,kR P "read_race" 327 96,kR P "read_pools" 339 103,kR P "read_pool" 352 110,kR P "has_pool_form" 358 115,kR P "are_terms_good" 367 122,kR P "fields_of" 373 127,kR P "product_of" 384 134,kR P "without" 390 139,kR P "count_legs" 396 144,kR P "count_orders" 402 149,kR P "is_of" 408 154,kR P "count_different" 414 159,kR P "picks_of" 426 166,kR P "count_starts" 437 173,kR P "Rows" 492 209,kR P "rows_on" 500 220,kR P "rows_box" 506 225,kR P "rows_key" 517 232,kR P "seatings" 523 237,kE P "NOT_ENDED" 527 (.int 1 526),kE P "BAD_BYTE" 529 (.int 2 528),kE P "BAD_WORD" 531 (.int 3 530),kE P "BAD_NUMBER" 533 (.int 4 532),kE P "NO_POOL" 535 (.int 5 534),kE P "NO_COMBINATION" 537 (.int 6 536),kE P "TOO_DEAR" 539 (.int 7 538),kE P "MORE_BYTES" 541 (.int 8 540),kE P "LINE_END" 543 (.int 10 542),kE P "BLANK" 545 (.int 32 544),kE P "MOST_STAKE" 547 (.int 1000000 546),kE P "MOST_COST" 549 (.int 2147483647 548),kE P "ON" 551 (.int 0 550),kE P "BOX" 553 (.int 1 552),kR P "WAYS" 557 238,kR P "Fault" 588 255,kR P "Bet" 635 282,kR P "Words" 692 324,kR P "read_bet" 703 335,kR P "check_line" 712 342,kR P "read_words" 728 349,kR P "take_pool" 739 356,kR P "take_stake" 748 363,kR P "take_how" 756 370,kR P "take_sets" 766 377,kR P "take_on" 776 384,kR P "take_box" 786 391,kR P "take_key" 792 396,kR P "take_set" 803 403,kR P "rows_of" 813 410,kE P "TOO_LONG" 818 (.int (-2) 817),kE P "FAULTY_BET" 821 (.int (-6) 820),kE P "NO_CARD" 824 (.int (-8) 823),kE P "MOST_CARD" 826 (.int 65536 825),kE P "MOST_BET" 828 (.int 4096 827),kR P "cost" 838 417,kR P "look_at" 848 424,kR P "look_at_all" 854 429] 85) ::
 (nat_lit 6,kD [] 0) ::
 (nat_lit 20,kG "_wall" 187 1 1 15 16 17 18 19 191) ::
 (nat_lit 21,kH "_wall" DR (kS "__main__" 164) 20) ::
 (nat_lit 27,kG "sign_of" 204 9 1 22 23 24 25 26 208) ::
 (nat_lit 28,kH "sign_of" ka JY 27) ::
 (nat_lit 32,kC "text_of" "text_of" 211 23 1 3 29 true 181 30 .none .none .none (.ref 31) 214) ::
 (nat_lit 33,kH "text_of" j3 JY 32) ::
 (nat_lit 37,kC "is_name" "is_name" 217 25 1 3 34 true 181 35 .none .none .none (.ref 36) 220) ::
 (nat_lit 38,kH "is_name" kh JY 37) ::
 (nat_lit 44,kG "number_of" 223 29 1 39 40 41 42 43 227) ::
 (nat_lit 45,kH "number_of" gN JY 44) ::
 (nat_lit 46,kD [kR P "place" 240 47,kR P "order" 243 48,kR P "any" 246 49,kR P "legs" 249 50] 4) ::
 (nat_lit 47,kT [.int 1 241,.int 4 242] 0) ::
 (nat_lit 48,kT [.int 2 244,.int 4 245] 0) ::
 (nat_lit 49,kT [.int 2 247,.int 3 248] 0) ::
 (nat_lit 50,kT [.int 2 250,.int 6 251] 0) ::
 (nat_lit 51,kT [.int 0 257,kS "pool" 258] 0) ::
 (nat_lit 52,kT [.int 4 259,kS "from" 260] 0) ::
 (nat_lit 53,kT [.int 6 261,kS "take" 262] 0) ::
 (nat_lit 54,kT [.int 8 263,kS "break" 264] 0) ::
 (nat_lit 55,kT [.int 10 265,kS "least" 266] 0) ::
 (nat_lit 56,kT [.int 12 267,kS "unit" 268] 0) ::
 (nat_lit 57,kT [.int 14 269,kS "none" 270] 0) ::
 (nat_lit 58,kT [.ref 51,.ref 52,.ref 53,.ref 54,.ref 55,.ref 56,.ref 57] 0) ::
 (nat_lit 71,kC "__init__" "Pool.__init__" 286 45 5 3 66 true 181 67 .none (.ref 68) (.ref 69) (.ref 70) 294) ::
 (nat_lit 72,kF "__init__" "Pool.__init__" gL C5 71) ::
 (nat_lit 73,kT [kS "fields" 297,kS "kind" 298,kS "name" 299,kS "unit" 300] 0) ::
 (nat_lit 74,kD [kE P "__module__" 281 C5,kE P "__firstlineno__" 285 (.int 43 284),kR P "__init__" 296 72,kR P "__static_attributes__" 301 73,kR P "__dict__" 303 76,kR P "__weakref__" 305 77,kE P "__doc__" 306 .none] 4) ::
 (nat_lit 75,⟨.type "type",none,.cls ⟨"Pool",[.type "object"],[.ref 75,.type "object"],74,"Pool",true,[],[],false,none,false⟩,#[none,none,some (kS "Pool" 274),some (kS "Pool" 282),some (.builtin "object.__new__"),some (.bool true)]⟩) ::
 (nat_lit 83,kC "read_card" "read_card" 309 50 1 3 80 true 181 81 .none .none .none (.ref 82) 312) ::
 (nat_lit 84,kH "read_card" gX C5 83) ::
 (nat_lit 90,kG "is_day" 315 64 1 85 86 87 88 89 319) ::
 (nat_lit 91,kH "is_day" mx C5 90) ::
 (nat_lit 95,kC "read_race" "read_race" 322 66 1 3 92 true 181 93 .none .none .none (.ref 94) 325) ::
 (nat_lit 96,kH "read_race" fE C5 95) ::
 (nat_lit 102,kG "read_pools" 328 85 2 97 98 99 100 101 337) ::
 (nat_lit 103,kH "read_pools" fX C5 102) ::
 (nat_lit 109,kG "read_pool" 340 97 2 104 105 106 107 108 350) ::
 (nat_lit 110,kH "read_pool" gR C5 109) ::
 (nat_lit 114,kC "has_pool_form" "has_pool_form" 353 110 1 3 111 true 181 112 .none .none .none (.ref 113) 356) ::
 (nat_lit 115,kH "has_pool_form" dU C5 114) ::
 (nat_lit 121,kG "are_terms_good" 359 116 1 116 117 118 119 120 365) ::
 (nat_lit 122,kH "are_terms_good" dz C5 121) ::
 (nat_lit 126,kC "fields_of" "fields_of" 368 126 4 3 123 true 181 124 .none .none .none (.ref 125) 371) ::
 (nat_lit 127,kH "fields_of" gS C5 126) ::
 (nat_lit 133,kG "product_of" 376 138 1 128 129 130 131 132 382) ::
 (nat_lit 134,kH "product_of" fW Fv 133) ::
 (nat_lit 138,kC "without" "without" 385 143 2 3 135 true 181 136 .none .none .none (.ref 137) 388) ::
 (nat_lit 139,kH "without" kl Fv 138) ::
 (nat_lit 143,kC "count_legs" "count_legs" 391 145 2 3 140 true 181 141 .none .none .none (.ref 142) 394) ::
 (nat_lit 144,kH "count_legs" f_ Fv 143) ::
 (nat_lit 148,kC "count_orders" "count_orders" 397 149 2 3 145 true 181 146 .none .none .none (.ref 147) 400) ::
 (nat_lit 149,kH "count_orders" eJ Fv 148) ::
 (nat_lit 153,kC "is_of" "is_of" 403 153 2 3 150 true 181 151 .none .none .none (.ref 152) 406) ::
 (nat_lit 154,kH "is_of" oM Fv 153) ::
 (nat_lit 158,kC "count_different" "count_different" 409 155 1 3 155 true 181 156 .none .none .none (.ref 157) 412) ::
 (nat_lit 159,kH "count_different" cU Fv 158) ::
 (nat_lit 165,kG "picks_of" 415 163 1 160 161 162 163 164 424) ::
 (nat_lit 166,kH "picks_of" i6 Fv 165) ::
 (nat_lit 172,kG "count_starts" 427 173 1 167 168 169 170 171 435) ::
 (nat_lit 173,kH "count_starts" eh Fv 172) ::
 (nat_lit 186,kC "__init__" "Rows.__init__" 452 183 3 3 181 true 181 182 .none (.ref 183) (.ref 184) (.ref 185) 458) ::
 (nat_lit 187,kF "__init__" "Rows.__init__" gY ER 186) ::
 (nat_lit 191,kC "starting" "Rows.starting" 461 188 2 3 188 true 181 189 .none .none .none (.ref 190) 464) ::
 (nat_lit 192,kF "starting" "Rows.starting" dR ER 191) ::
 (nat_lit 198,kC "row_at" "Rows.row_at" 467 195 2 3 193 true 181 194 .none (.ref 195) (.ref 196) (.ref 197) 472) ::
 (nat_lit 199,kF "row_at" "Rows.row_at" qR ER 198) ::
 (nat_lit 205,kC "listed" "Rows.listed" 475 198 1 3 200 true 181 201 .none (.ref 202) (.ref 203) (.ref 204) 479) ::
 (nat_lit 206,kF "listed" "Rows.listed" qN ER 205) ::
 (nat_lit 207,kT [kS "grids" 482,kS "kind" 483,kS "picks" 484] 0) ::
 (nat_lit 208,kD [kE P "__module__" 447 ER,kE P "__firstlineno__" 451 (.int 181 450),kR P "__init__" 460 187,kR P "starting" 466 192,kR P "row_at" 474 199,kR P "listed" 481 206,kR P "__static_attributes__" 485 207,kR P "__dict__" 487 210,kR P "__weakref__" 489 211,kE P "__doc__" 490 .none] 4) ::
 (nat_lit 209,⟨.type "type",none,.cls ⟨"Rows",[.type "object"],[.ref 209,.type "object"],208,"Rows",true,[],[],false,none,false⟩,#[none,none,some (kS "Rows" 440),some (kS "Rows" 448),some (.builtin "object.__new__"),some (.bool true)]⟩) ::
 (nat_lit 219,kG "rows_on" 493 200 2 214 215 216 217 218 498) ::
 (nat_lit 220,kH "rows_on" kg ER 219) ::
 (nat_lit 224,kC "rows_box" "rows_box" 501 202 3 3 221 true 181 222 .none .none .none (.ref 223) 504) ::
 (nat_lit 225,kH "rows_box" i8 ER 224) ::
 (nat_lit 231,kG "rows_key" 507 204 4 226 227 228 229 230 515) ::
 (nat_lit 232,kH "rows_key" iM ER 231) ::
 (nat_lit 236,kC "seatings" "seatings" 518 209 3 3 233 true 181 234 .none .none .none (.ref 235) 521) ::
 (nat_lit 237,kH "seatings" gF ER 236) ::
 (nat_lit 238,kT [kS "on" 554,kS "box" 555,kS "key" 556] 0) ::
 (nat_lit 251,kC "__init__" "Fault.__init__" 570 237 3 3 246 true 181 247 .none (.ref 248) (.ref 249) (.ref 250) 576) ::
 (nat_lit 252,kF "__init__" "Fault.__init__" fY qJ 251) ::
 (nat_lit 253,kT [kS "kind" 579,kS "place" 580] 0) ::
 (nat_lit 254,kD [kE P "__module__" 565 qJ,kE P "__firstlineno__" 569 (.int 235 568),kR P "__init__" 578 252,kR P "__static_attributes__" 581 253,kR P "__weakref__" 583 256,kE P "__doc__" 584 .none] 3) ::
 (nat_lit 255,⟨.type "type",none,.cls ⟨"Fault",[.type "Exception"],[.ref 255,.type "Exception",.type "BaseException",.type "object"],254,"Fault",true,[],[],false,none,false⟩,#[some (.ref 239),none,some (kS "Fault" 558),some (kS "Fault" 566),some (.builtin "Exception.__new__"),some (.bool true)]⟩) ::
 (nat_lit 271,kC "__init__" "Bet.__init__" 601 242 7 3 266 true 181 267 .none (.ref 268) (.ref 269) (.ref 270) 611) ::
 (nat_lit 272,kF "__init__" "Bet.__init__" i7 qJ 271) ::
 (nat_lit 278,kC "cost" "Bet.cost" 614 251 1 3 273 true 181 274 .none (.ref 275) (.ref 276) (.ref 277) 618) ::
 (nat_lit 279,kF "cost" "Bet.cost" iY qJ 278) ::
 (nat_lit 280,kT [kS "how" 621,kS "many" 622,kS "pool" 623,kS "pool_number" 624,kS "rows" 625,kS "sets" 626,kS "stake" 627] 0) ::
 (nat_lit 281,kD [kE P "__module__" 596 qJ,kE P "__firstlineno__" 600 (.int 240 599),kR P "__init__" 613 272,kR P "cost" 620 279,kR P "__static_attributes__" 628 280,kR P "__dict__" 630 283,kR P "__weakref__" 632 284,kE P "__doc__" 633 .none] 4) ::
 (nat_lit 282,⟨.type "type",none,.cls ⟨"Bet",[.type "object"],[.ref 282,.type "object"],281,"Bet",true,[],[],false,none,false⟩,#[none,none,some (kS "Bet" 589),some (kS "Bet" 597),some (.builtin "object.__new__"),some (.bool true)]⟩) ::
 (nat_lit 299,kC "__init__" "Words.__init__" 648 255 2 3 294 true 181 295 .none (.ref 296) (.ref 297) (.ref 298) 653) ::
 (nat_lit 300,kF "__init__" "Words.__init__" fQ qJ 299) ::
 (nat_lit 306,kC "take" "Words.take" 656 262 1 3 301 true 181 302 .none (.ref 303) (.ref 304) (.ref 305) 661) ::
 (nat_lit 307,kF "take" "Words.take" fZ qJ 306) ::
 (nat_lit 313,kC "take_one_of" "Words.take_one_of" 664 271 2 3 308 true 181 309 .none (.ref 310) (.ref 311) (.ref 312) 670) ::
 (nat_lit 314,kF "take_one_of" "Words.take_one_of" cv qJ 313) ::
 (nat_lit 320,kC "finish" "Words.finish" 673 277 1 3 315 true 181 316 .none (.ref 317) (.ref 318) (.ref 319) 677) ::
 (nat_lit 321,kF "finish" "Words.finish" eN qJ 320) ::
 (nat_lit 322,kT [kS "line_end" 680,kS "met" 681,kS "next_place" 682,kS "place" 683,kS "words" 684] 0) ::
 (nat_lit 323,kD [kE P "__module__" 643 qJ,kE P "__firstlineno__" 647 (.int 253 646),kR P "__init__" 655 300,kR P "take" 663 307,kR P "take_one_of" 672 314,kR P "finish" 679 321,kR P "__static_attributes__" 685 322,kR P "__dict__" 687 325,kR P "__weakref__" 689 326,kE P "__doc__" 690 .none] 4) ::
 (nat_lit 324,⟨.type "type",none,.cls ⟨"Words",[.type "object"],[.ref 324,.type "object"],323,"Words",true,[],[],false,none,false⟩,#[none,none,some (kS "Words" 636),some (kS "Words" 644),some (.builtin "object.__new__"),some (.bool true)]⟩) ::
 (nat_lit 334,kG "read_bet" 693 280 2 329 330 331 332 333 701) ::
 (nat_lit 335,kH "read_bet" je qJ 334) ::
 (nat_lit 341,kG "check_line" 704 290 1 336 337 338 339 340 710) ::
 (nat_lit 342,kH "check_line" f7 qJ 341) ::
 (nat_lit 348,kG "read_words" 713 298 2 343 344 345 346 347 726) ::
 (nat_lit 349,kH "read_words" fV qJ 348) ::
 (nat_lit 355,kG "take_pool" 729 315 2 350 351 352 353 354 737) ::
 (nat_lit 356,kH "take_pool" gP qJ 355) ::
 (nat_lit 362,kG "take_stake" 740 321 2 357 358 359 360 361 746) ::
 (nat_lit 363,kH "take_stake" gd qJ 362) ::
 (nat_lit 369,kG "take_how" 749 326 2 364 365 366 367 368 754) ::
 (nat_lit 370,kH "take_how" jd qJ 369) ::
 (nat_lit 376,kG "take_sets" 757 331 3 371 372 373 374 375 764) ::
 (nat_lit 377,kH "take_sets" gQ qJ 376) ::
 (nat_lit 383,kG "take_on" 767 338 2 378 379 380 381 382 774) ::
 (nat_lit 384,kH "take_on" ku qJ 383) ::
 (nat_lit 390,kG "take_box" 777 345 3 385 386 387 388 389 784) ::
 (nat_lit 391,kH "take_box" iL qJ 390) ::
 (nat_lit 395,kC "take_key" "take_key" 787 350 3 3 392 true 181 393 .none .none .none (.ref 394) 790) ::
 (nat_lit 396,kH "take_key" ja qJ 395) ::
 (nat_lit 402,kG "take_set" 793 359 2 397 398 399 400 401 801) ::
 (nat_lit 403,kH "take_set" iI qJ 402) ::
 (nat_lit 409,kG "rows_of" 804 367 3 404 405 406 407 408 811) ::
 (nat_lit 410,kH "rows_of" j_ qJ 409) ::
 (nat_lit 416,kG "cost" 829 380 2 411 412 413 414 415 836) ::
 (nat_lit 417,kH "cost" jF JV 416) ::
 (nat_lit 423,kG "look_at" 839 385 2 418 419 420 421 422 846) ::
 (nat_lit 424,kH "look_at" kq JV 423) ::
 (nat_lit 428,kC "look_at_all" "look_at_all" 849 390 2 3 425 true 181 426 .none .none .none (.ref 427) 852) ::
 (nat_lit 429,kH "look_at_all" fq JV 428)::[]
def AD:List Nat:=[3,6,20,21,27,28,32,33,37,38,44,45,46,47,48,49,50,51,52,53,54,55,56,57,58,71,72,73,74,75,83,84,90,91,95,96,102,103,109,110,114,115,121,122,126,127,133,134,138,139,143,144,148,149,153,154,158,159,165,166,172,173,186,187,191,192,198,199,205,206,207,208,209,219,220,224,225,231,232,236,237,238,251,252,253,254,255,271,272,278,279,280,281,282,299,300,306,307,313,314,320,321,322,323,324,334,335,341,342,348,349,355,356,362,363,369,370,376,377,383,384,390,391,395,396,402,403,409,410,416,417,423,424,428,429]
def Jx:List Str:=List.map Str.ofString ["_wall","LETTERS","DIGITS","MOST_NAME","MOST_DIGITS","sign_of","text_of","is_name","number_of","MOST_RACES","MOST_POOLS","MOST_COUPLES","MOST_RUNNERS","SIZES","FIXED","POOL_WORDS","Pool","read_card","is_day","read_race","read_pools","read_pool","has_pool_form","are_terms_good","fields_of","product_of","without","count_legs","count_orders","is_of","count_different","picks_of","count_starts","Rows","rows_on","rows_box","rows_key","seatings","NOT_ENDED","BAD_BYTE","BAD_WORD","BAD_NUMBER","NO_POOL","NO_COMBINATION","TOO_DEAR","MORE_BYTES","LINE_END","BLANK","MOST_STAKE","MOST_COST","ON","BOX","WAYS","Fault","Bet","Words","read_bet","check_line","read_words","take_pool","take_stake","take_how","take_sets","take_on","take_box","take_key","take_set","rows_of","TOO_LONG","FAULTY_BET","NO_CARD","MOST_CARD","MOST_BET","cost","look_at","look_at_all"]
end Bw
end
section
set_option autoImplicit false
set_option linter.all false
set_option maxRecDepth 100000
set_option maxHeartbeats 0
namespace Bw
open PySem PyProof.Rows L2
theorem BP (P:Params):AD=(oj P).map (·.1):=by kernel_rfl
def qV:Program:={PySem.Challenge.pw_betwords_s04_cost with main:={PySem.Challenge.pw_betwords_s04_cost.main with body:=[jF]}}
def lV:List Str:=Jx.filter λk=>k != "cost"
def xV (s:Shared):Bool:=PySem.W.xlAt qV [] s&&PySem.W.recOk [] s
def dV:DefRec:=match jF with
 |.FunctionDef n a b _ _ _ c _ _ p=>⟨n,a,b,c,p⟩
 |_=>⟨"",cW jF,[],aw jF,⟨0,0,0,0⟩⟩
theorem gA0 {a b c:Type}{o:Option a}{f:a->b}{g:a->c}{x:b}{y:c}(h:o.map f=some x)(k:o.map g=some y):o.map (fun s=>(f s,g s))=some (x,y):=by
 cases o with
 |none=>cases h
 |some z=>cases h;cases k;rfl
theorem gA1 {a b c:Type}{o:Option a}{f:a->b×c}{x:b×c}(h:o.map (fun s=>(f s).1)=some x.1)(k:o.map (fun s=>(f s).2)=some x.2):o.map f=some x:=by
 cases o with
 |none=>cases h
 |some z=>exact congrArg some (Prod.ext (Option.some.inj h) (Option.some.inj k))
theorem gA2 {a b:Type}{o:Option a}{f:a->List b}{x:List b}(n:Nat)(h:o.map (fun s=>List.take n (f s))=some (List.take n x))(k:o.map (fun s=>List.drop n (f s))=some (List.drop n x)):o.map f=some x:=by
 cases o with
 |none=>cases h
 |some z=>exact congrArg some ((List.take_append_drop n (f z)).symm.trans ((congr (congrArg _ (Option.some.inj h)) (Option.some.inj k)).trans (List.take_append_drop n x)))
theorem gB01 (w:World):(PySem.W.openEnds treeTable PySem.Challenge.pw_betwords_s04_cost (w.withFollow "special-get-raises" false) 5200).map (fun s=>(PySem.W.openSeen qV lV (importedModules PySem.Challenge.pw_betwords_s04_cost.main.body) xV true s).1)=some (PySem.W.openGood qV lV).1:=by kernel_rfl
theorem gB02 (w:World):(PySem.W.openEnds treeTable PySem.Challenge.pw_betwords_s04_cost (w.withFollow "special-get-raises" false) 5200).map (fun s=>(PySem.W.openSeen qV lV (importedModules PySem.Challenge.pw_betwords_s04_cost.main.body) xV true s).2)=some (PySem.W.openGood qV lV).2:=by kernel_rfl
theorem gB03 (w:World):(PySem.W.openEnds treeTable PySem.Challenge.pw_betwords_s04_cost (w.withFollow "special-get-raises" false) 5200).map (fun s=>List.take 68 ((PySem.W.kHook Bw.oj Bw.AD Bw.BP).obs s))=some (List.take 68 ((PySem.W.kHook Bw.oj Bw.AD Bw.BP).val (w.withFollow "special-get-raises" false))):=by kernel_rfl
theorem gB04 (w:World):(PySem.W.openEnds treeTable PySem.Challenge.pw_betwords_s04_cost (w.withFollow "special-get-raises" false) 5200).map (fun s=>List.drop 68 ((PySem.W.kHook Bw.oj Bw.AD Bw.BP).obs s))=some (List.drop 68 ((PySem.W.kHook Bw.oj Bw.AD Bw.BP).val (w.withFollow "special-get-raises" false))):=by kernel_rfl
theorem Lh (w:World):(PySem.W.openEnds treeTable PySem.Challenge.pw_betwords_s04_cost (w.withFollow "special-get-raises" false) 5200).map (fun s=>(PySem.W.openSeen qV lV (importedModules PySem.Challenge.pw_betwords_s04_cost.main.body) xV true s,(PySem.W.kHook Bw.oj Bw.AD Bw.BP).obs s))=some (PySem.W.openGood qV lV,(PySem.W.kHook Bw.oj Bw.AD Bw.BP).val (w.withFollow "special-get-raises" false)):=gA0 (gA1 (gB01 w) (gB02 w)) (gA2 68 (gB03 w) (gB04 w))
theorem gB11 (w:World):(PySem.W.openEnds treeTable PySem.Challenge.pw_betwords_s04_cost (w.withFollow "special-get-raises" true) 5200).map (fun s=>(PySem.W.openSeen qV lV (importedModules PySem.Challenge.pw_betwords_s04_cost.main.body) xV true s).1)=some (PySem.W.openGood qV lV).1:=by kernel_rfl
theorem gB12 (w:World):(PySem.W.openEnds treeTable PySem.Challenge.pw_betwords_s04_cost (w.withFollow "special-get-raises" true) 5200).map (fun s=>(PySem.W.openSeen qV lV (importedModules PySem.Challenge.pw_betwords_s04_cost.main.body) xV true s).2)=some (PySem.W.openGood qV lV).2:=by kernel_rfl
theorem gB13 (w:World):(PySem.W.openEnds treeTable PySem.Challenge.pw_betwords_s04_cost (w.withFollow "special-get-raises" true) 5200).map (fun s=>List.take 68 ((PySem.W.kHook Bw.oj Bw.AD Bw.BP).obs s))=some (List.take 68 ((PySem.W.kHook Bw.oj Bw.AD Bw.BP).val (w.withFollow "special-get-raises" true))):=by kernel_rfl
theorem gB14 (w:World):(PySem.W.openEnds treeTable PySem.Challenge.pw_betwords_s04_cost (w.withFollow "special-get-raises" true) 5200).map (fun s=>List.drop 68 ((PySem.W.kHook Bw.oj Bw.AD Bw.BP).obs s))=some (List.drop 68 ((PySem.W.kHook Bw.oj Bw.AD Bw.BP).val (w.withFollow "special-get-raises" true))):=by kernel_rfl
theorem Lj (w:World):(PySem.W.openEnds treeTable PySem.Challenge.pw_betwords_s04_cost (w.withFollow "special-get-raises" true) 5200).map (fun s=>(PySem.W.openSeen qV lV (importedModules PySem.Challenge.pw_betwords_s04_cost.main.body) xV true s,(PySem.W.kHook Bw.oj Bw.AD Bw.BP).obs s))=some (PySem.W.openGood qV lV,(PySem.W.kHook Bw.oj Bw.AD Bw.BP).val (w.withFollow "special-get-raises" true)):=gA0 (gA1 (gB11 w) (gB12 w)) (gA2 68 (gB13 w) (gB14 w))
theorem hl:PySem.W.LeftO PySem.Challenge.pw_betwords_s04_cost qV lV xV (PySem.W.kHook Bw.oj Bw.AD Bw.BP).obs (PySem.W.kHook Bw.oj Bw.AD Bw.BP).val 5200:=PySem.W.byRow2 "special-get-raises" Lh Lj
end Bw
end
section
set_option autoImplicit false
set_option linter.all false
namespace Bw
open Tote
theorem sum_map_add {α:Type}(f g:α->Nat):∀l:List α,(l.map λx=>f x+g x).sum=(l.map f).sum+(l.map g).sum
 |[]=>rfl
 |x::l=>by
  simp only[XN,Y2,sum_map_add f g l];omega
theorem sum_map_congr {α:Type}{f g:α->Nat}:∀{l:List α},(∀x∈l,f x=g x)->(l.map f).sum=(l.map g).sum
 |[],_=>rfl
 |x::l,h=>by
  simp only[XN,Y2];rw[h x (by simp),sum_map_congr λy hy=>h y (by simp[hy])]
theorem sum_map_const {α:Type}(c:Nat):∀l:List α,(l.map λ_=>c).sum=l.length*c
 |[]=>by simp
 |x::l=>by
  simp only[XN,Y2,sum_map_const c l,XG,Nat.add_mul];omega
theorem fG {α β:Type}(f:α->List β):∀l:List α,(l.flatMap f).length=(l.map λx=>(f x).length).sum
 |[]=>rfl
 |x::l=>by simp[ZQ,fG f l]
theorem nS {α:Type}(p:α->Bool)(c d:Nat):∀l:List α,(l.map λx=>if p x=true then c else d).sum=(l.filter p).length*c+(l.filter λx=>!p x).length*d
 |[]=>by simp
 |x::l=>by
  have ih:=nS p c d l;simp only[XN,Y2,YH];by_cases h:p x=true
  · simp only[h,Zd,Bool.not_true,YV,Zu,XG,Nat.add_mul,ih];omega
  · have h':p x=false:=by simpa using h
    simp only[h',YV,Zu,Bool.not_false,Zd,XG,Nat.add_mul,ih];omega
section
variable (A u:aaf)
end
theorem iX:∀(k:Nat) (l r:aaf),r∈risingRows k l->r.Sublist l
 |0,_,r,h=>by
  have:r=[]:=by simpa [risingRows] using h
  subst this;exact List.nil_sublist _
 |k+1,[],r,h=>by simp[risingRows] at h
 |k+1,x::l,r,h=>by
  rw[risingRows,Yk] at h;rcases h with h|h
  · obtain⟨q,hq,rfl⟩:=X4.mp h;exact (iX k l q hq).cons₂ x
  · exact (iX (k+1) l r h).cons x
def dj:aae->(Nat->Bool)->Nat
 |[],_=>1
 |s::ss,p=>((s.filter p).map λy=>dj ss λz=>p z&&z != y).sum
theorem gy:∀(ss:aae) {p q:Nat->Bool},(∀s∈ss,∀y∈s,p y=q y)->dj ss p=dj ss q
 |[],_,_,_=>rfl
 |s::ss,p,q,h=>by
  unfold dj;have e:s.filter p=s.filter q:=List.filter_congr λy hy=>h s (by simp) y hy;rw[e];refine sum_map_congr λy _=>gy ss λt ht z hz=>?_;rw[h t (by simp[ht]) z hz]
theorem rV:∀(ss:aae) (had:aaf),(apartRows ss had).length=dj ss λz=>!had.contains z
 |[],_=>rfl
 |s::ss,had=>by
  unfold dj;rw[apartRows,fG];refine sum_map_congr λy _=>?_;rw[Xu,rV ss (y::had)];refine gy ss λt _ z _=>?_;simp only[YC,Xy];by_cases c1:z∈had <;> by_cases c2:z=y <;> simp[c1,c2]
def outs (x:Nat):aae->List (aae)
 |[]=>[]
 |s::ss=>(if s.contains x=true then [ss] else [])++(outs x ss).map λr=>s::r
theorem kY {α β:Type}(f:α->β->Nat):∀(l:List α) (m:List β),(l.map λx=>(m.map λy=>f x y).sum).sum=(m.map λy=>(l.map λx=>f x y).sum).sum
 |[],m=>by
  simp only[YU,List.sum_nil];rw[sum_map_const 0 m];simp
 |x::l,m=>by
  simp only[XN,Y2];rw[kY f l m,←sum_map_add]
theorem kZ {x:Nat}:∀{s:aaf},s.Nodup->s.filter (λy=>y==x)=if s.contains x=true then [x] else []
 |[],_=>rfl
 |y::s,nd=>by
  obtain⟨h1,h2⟩:=YG.mp nd;have ih:=kZ (x:=x) h2;by_cases e:y=x
  · subst e;have:s.filter (λz=>z==y)=[]:=List.filter_eq_nil_iff.mpr λz hz c=>h1 ((Yl.mp c) ▸ hz);simp[this]
  · have e':¬x=y:=λz=>e z.symm;rw[YH,Xv (by simp[e]),ih];simp[e']
theorem kQ {f:Nat->Nat}{p q:Nat->Bool}(hd:∀y,p y=true->q y=false):∀l:aaf,((l.filter λy=>p y||q y).map f).sum=((l.filter p).map f).sum+((l.filter q).map f).sum
 |[]=>rfl
 |y::l=>by
  have ih:=kQ (f:=f) hd l;rw[YH,YH,YH];by_cases c:p y=true
  · have:=hd y c;simp only[c,this,ZJ,Zd,YV,Zu,XN,Y2,ih];omega
  · have c':p y=false:=by simpa using c
    by_cases c2:q y=true
    · simp only[c',c2,Bool.or_true,Zd,YV,Zu,XN,Y2,ih];omega
    · have N6:q y=false:=by simpa using c2
      simp only[c',N6,ZJ,YV,Zu,ih]
theorem rA (x:Nat):∀(ss:aae) (p:Nat->Bool),(∀s∈ss,s.Nodup)->p x=false ->
  dj ss (λz=>p z||z==x)=dj ss p+((outs x ss).map λr=>dj r p).sum
 |[],_,_,_=>rfl
 |s::ss,p,nd,hx=>by
  have T_:s.Nodup:=nd s (by simp);have Ua:∀t∈ss,t.Nodup:=λt ht=>nd t (by simp[ht]);have L_:∀y,p y=true->(y==x)=false:=λy hy=>by
   by_cases e:y=x
   · rw[e,hx] at hy;cases hy
   · simp[e]
  show ((s.filter λz=>p z||z==x).map λy=>dj ss λz=>(p z||z==x)&&z != y).sum=_;rw[kQ (q:=λy=>y==x) L_,kZ T_];have e1:((s.filter p).map λy=>dj ss λz=>(p z||z==x)&&z != y).sum
    = ((s.filter p).map λy=>dj ss (λz=>p z&&z != y)+((outs x ss).map λr=>dj r λz=>p z&&z != y).sum).sum:=by
   refine sum_map_congr λy hy=>?_;have py:p y=true:=(YE.mp hy).2;have ne:x≠y:=λe=>by rw[e,py] at hx;cases hx
   rw[←rA x ss (λz=>p z&&z != y) Ua (by simp[hx])];refine gy ss λt _ z _=>?_;show ((p z||z==x)&&z != y)=(p z&&z != y||z==x);cases Ub:p z <;> by_cases c:z=x <;> by_cases d:z=y <;> simp_all
  rw[e1,sum_map_add,kY (λy r=>dj r λz=>p z&&z != y)];have e2:(((if s.contains x=true then [x] else []:aaf)).map λy=>dj ss λz=>(p z||z==x)&&z != y).sum
    = (((if s.contains x=true then [ss] else []:List (aae))).map λr=>dj r p).sum:=by
   by_cases c:s.contains x=true
   · rw[Xw c,Xw c];simp only[XN,YU,Y2,List.sum_nil,Nat.add_zero];refine gy ss λt _ z _=>?_;show ((p z||z==x)&&z != x)=p z;cases Ub:p z <;> by_cases d:z=x <;> simp_all
   · rw[Xv c,Xv c];rfl
  rw[e2];show _=dj (s::ss) p+(((if s.contains x=true then [ss] else [])++(outs x ss).map λr=>s::r).map λr=>dj r p).sum;rw[XQ,List.sum_append,XY];show ((s.filter p).map λy=>dj ss λz=>p z&&z != y).sum+((outs x ss).map λr=>((s.filter p).map λy=>dj r λz=>p z&&z != y).sum).sum+_
   = ((s.filter p).map λy=>dj ss λz=>p z&&z != y).sum+(_+((outs x ss).map λr=>((s.filter p).map λy=>dj r λz=>p z&&z != y).sum).sum)
  omega
def sel:Nat->aae->aae
 |_,[]=>[]
 |m,s::ss=>(if m % 2=1 then [s] else [])++sel (m / 2) ss
def bitsOf (x:Nat):Nat->aae->aaf
 |_,[]=>[]
 |b,s::ss=>(if s.contains x=true then [b] else [])++bitsOf x (2*b) ss
theorem nY (x:Nat):∀(ss:aae) (b:Nat),bitsOf x (2*b) ss=(bitsOf x b ss).map λc=>2*c
 |[],_=>rfl
 |s::ss,b=>by
  unfold bitsOf;rw[XQ,nY x ss (2*b)];congr 1;by_cases c:s.contains x=true
  · simp only[Xw c];rfl
  · simp only[Xv c];rfl
def bF (m b:Nat):Bool:=m / b % 2==1
theorem qz (m:Nat)(s:aaf)(ss:aae):sel m (s::ss)=(if m % 2=1 then [s] else [])++sel (m / 2) ss:=rfl
theorem vG:∀ss:aae,sel 0 ss=[]
 |[]=>rfl
 |s::ss=>by
  unfold sel;rw[vG ss];rfl
theorem uT (x:Nat):∀(ss:aae) (m:Nat),outs x (sel m ss)=((bitsOf x 1 ss).filter (bF m)).map λb=>sel (m - b) ss
 |[],_=>rfl
 |s::ss,m=>by
  have ih:=uT x ss (m / 2);have e1:bitsOf x 1 (s::ss)=(if s.contains x=true then [1] else [])++(bitsOf x 1 ss).map λc=>2*c:=by
   show (if s.contains x=true then [1] else [])++bitsOf x (2*1) ss=_;rw[nY]
  have f1:∀c,bF m (2*c)=bF (m / 2) c:=λc=>by
   unfold bF;rw[Nat.div_div_eq_div_mul]
  have e2:(((bitsOf x 1 ss).map λc=>2*c).filter (bF m))=((bitsOf x 1 ss).filter (bF (m / 2))).map λc=>2*c:=by
   rw[List.filter_map];congr 1;exact List.filter_congr λc _=>f1 c
  rw[e1,Zo,XQ,e2,XY];have big:∀c∈(bitsOf x 1 ss).filter (bF (m / 2)),c<=m / 2:=λc hc=>by
   have h:=(YE.mp hc).2;unfold bF at h;have h':m / 2 / c % 2=1:=by simpa using h
   by_cases z:c<=m / 2
   · exact z
   · rw[Nat.div_eq_of_lt (by omega)] at h';simp at h'
  have e3:((bitsOf x 1 ss).filter (bF (m / 2))).map ((λb=>sel (m - b) (s::ss)) ∘ λc=>2*c)
    = ((bitsOf x 1 ss).filter (bF (m / 2))).map λc=>(if m % 2=1 then [s] else [])++sel (m / 2 - c) ss:=by
   refine Yo λc hc=>?_;have:=big c hc;show (if (m - 2*c) % 2=1 then [s] else [])++sel ((m - 2*c) / 2) ss=_;have a1:(m - 2*c) % 2=m % 2:=by omega
   have a2:(m - 2*c) / 2=m / 2 - c:=by omega
   rw[a1,a2]
  rw[e3,qz];by_cases odd:m % 2=1
  · simp only[Xw odd,List.singleton_append];have NC:bF m 1=true:=by unfold bF;simp[odd]
    rw[outs,ih,XY];congr 1;by_cases c:s.contains x=true
    · simp only[Xw c,YH,NC,Zd,List.filter_nil,XN,YU];have a1:¬(m - 1) % 2=1:=by omega
      have a2:(m - 1) / 2=m / 2:=by omega
      rw[qz,Xv a1,a2];rfl
    · simp only[Xv c];rfl
  · have NC:bF m 1=false:=by unfold bF;simp[odd]
    simp only[Xv odd,Yq];rw[ih];by_cases c:s.contains x=true
    · simp only[Xw c,YH,NC,YV,Zu,List.filter_nil,YU,Yq]
    · simp only[Xv c,List.filter_nil,YU,Yq]
theorem yM:∀{ss:aae} {m:Nat} {s:aaf},s∈sel m ss->s∈ss
 |[],_,_,h=>by simp[sel] at h
 |t::ss,m,s,h=>by
  unfold sel at h;rcases Yk.mp h with h|h
  · by_cases c:m % 2=1
    · rw[Xw c] at h;simp at h;simp[h]
    · rw[Xv c] at h;simp at h
  · exact XO _ (yM h)
theorem uV:∀ss:aae,sel (2 ^ ss.length - 1) ss=ss
 |[]=>rfl
 |s::ss=>by
  have hp:0 < 2 ^ ss.length:=Nat.two_pow_pos _;have e:2 ^ (s::ss).length - 1=2*(2 ^ ss.length - 1)+1:=by
   rw[XG,Zz];omega
  unfold sel;rw[e];have a1:(2*(2 ^ ss.length - 1)+1) % 2=1:=by omega
  have a2:(2*(2 ^ ss.length - 1)+1) / 2=2 ^ ss.length - 1:=by omega
  rw[Xw a1,a2,uV ss];rfl
theorem zQ (x m:Nat)(ss:aae)(p:Nat->Bool)(nd:∀s∈ss,s.Nodup)(hx:p x=false) :
  dj (sel m ss) (λz=>p z||z==x)=dj (sel m ss) p+(((bitsOf x 1 ss).filter (bF m)).map λb=>dj (sel (m - b) ss) p).sum:=by
 rw[rA x (sel m ss) p (λs hs=>nd s (yM hs)) hx,uT,XY];rfl
abbrev cq (l:aaf):Prop:=l.Pairwise (· < ·)
theorem jZ:∀l:aaf,risesN l=true↔cq l
 |[]=>by simp[risesN]
 |[x]=>by simp[risesN]
 |x::y::l=>by
  have ih:=jZ (y::l);rw[risesN,XB,Y1,ih];constructor
  · rintro⟨h1,h2⟩;refine YN.mpr ⟨λz hz=>?_,h2⟩;rcases Xy.mp hz with rfl|hz
    · exact h1
    · exact Nat.lt_trans h1 ((YN.mp h2).1 z hz)
  · intro h;obtain⟨h1,h2⟩:=YN.mp h;exact⟨h1 y (by simp),h2⟩
theorem cq.nodup {l:aaf}(h:cq l):l.Nodup:=List.Pairwise.imp (λh=>X7 h) h
theorem gZ {α:Type} [DecidableEq α]:∀{l m:List α},l.Nodup->(∀x∈l,x∈m)->l.length<=m.length
 |[],_,_,_=>X2 _
 |x::l,m,nd,h=>by
  obtain⟨h1,h2⟩:=YG.mp nd;have hx:x∈m:=h x (by simp);have ih:=gZ (l:=l) (m:=m.erase x) h2 λy hy=>by
   have:y≠x:=λe=>h1 (e ▸ hy);exact (Z0 this).mpr (h y (by simp[hy]))
  have e:=Zc hx;have:0 < m.length:=ZO hx;rw[XG];omega
def fS (n:Nat):aaf->aaf
 |[]=>[n]
 |x::r=>if n < x then n::x::r else x::fS n r
theorem lP {n y:Nat}:∀{l:aaf},y∈fS n l↔y=n∨y∈l
 |[]=>by simp[fS]
 |x::r=>by
  unfold fS;by_cases c:n < x
  · rw[Xw c];simp
  · rw[Xv c,Xy,lP (l:=r),Xy];constructor
    · rintro (h|h|h) <;> simp[h]
    · rintro (h|h|h) <;> simp[h]
theorem lh {n:Nat}:∀{l:aaf},cq l->¬n∈l->cq (fS n l)
 |[],_,_=>by simp[fS]
 |x::r,h,hn=>by
  obtain⟨h1,h2⟩:=YN.mp h;unfold fS;by_cases c:n < x
  · rw[Xw c];refine YN.mpr ⟨λz hz=>?_,h⟩;rcases Xy.mp hz with rfl|hz
    · exact c
    · exact Nat.lt_trans c (h1 z hz)
  · rw[Xv c];have ne:n≠x:=λe=>hn (by simp[e]);refine YN.mpr ⟨λz hz=>?_,lh h2 λm=>hn (by simp[m])⟩;rcases lP.mp hz with rfl|hz
    · omega
    · exact h1 z hz
theorem pT {n:Nat}:∀{l:aaf},cq l->n∈l->fS n (l.erase n)=l
 |[],_,h=>by simp at h
 |x::r,h,hn=>by
  obtain⟨h1,h2⟩:=YN.mp h;by_cases e:x=n
  · subst e;rw[List.erase_cons_head];cases r with
    |nil=>rfl
    |cons y r=>unfold fS;rw[Xw (h1 y (by simp))]
  · have MR:n∈r:=by
     rcases Xy.mp hn with z|z
     · exact absurd z.symm e
     · exact z
    rw[List.erase_cons_tail (by simpa using e)];have:=h1 n MR;unfold fS;rw[Xv (by omega),pT h2 MR]
theorem o5 {n:Nat}:∀{l:aaf},¬n∈l->(fS n l).erase n=l
 |[],_=>by simp[fS]
 |x::r,h=>by
  have ne:x≠n:=λe=>h (by simp[e]);unfold fS;by_cases c:n < x
  · rw[Xw c,List.erase_cons_head]
  · rw[Xv c,List.erase_cons_tail (by simpa using ne),o5 λm=>h (by simp[m])]
def jS (K:aae)(k:aaf):aae:=if K.contains k=true then K else K++[k]
def cx (pick:aaf)(K:aae)(n:Nat):aae:=if pick.contains n=true then K else jS K (fS n pick)
def cT (s:aaf)(K:aae)(pick:aaf):aae:=s.foldl (cx pick) K
def fj (picks:aae)(s:aaf):aae:=picks.foldl (cT s) []
def bx (ss:aae):aae:=ss.foldl fj [[]]
theorem xx {K:aae}{k r:aaf}:r∈jS K k↔r∈K∨r=k:=by
 unfold jS;by_cases c:K.contains k=true
 · rw[Xw c];have c':k∈K:=by simpa using c
   exact⟨.inl,λh=>h.elim id λe=>e ▸ c'⟩
 · rw[Xv c];simp
theorem mN {K:aae}{k:aaf}(h:K.Nodup):(jS K k).Nodup:=by
 unfold jS;by_cases c:K.contains k=true
 · rw[Xw c];exact h
 · rw[Xv c];have c':¬k∈K:=by simpa using c
   refine Za.mpr ⟨h,by simp,λa ha b hb=>?_⟩;have:b=k:=by simpa using hb
   subst this;exact λe=>c' (e ▸ ha)
theorem o8 {pick r:aaf}:∀{s:aaf} {K:aae},r∈cT s K pick↔r∈K∨∃n∈s,¬n∈pick/\r=fS n pick
 |[],K=>by simp[cT]
 |n::s,K=>by
  show r∈cT s (cx pick K n) pick↔_;rw[o8 (s:=s)];unfold cx;by_cases c:pick.contains n=true
  · rw[Xw c];have c':n∈pick:=by simpa using c
    constructor
    · rintro (h|⟨m,hm,h1,h2⟩)
      · exact .inl h
      · exact .inr ⟨m,by simp[hm],h1,h2⟩
    · rintro (h|⟨m,hm,h1,h2⟩)
      · exact .inl h
      · rcases Xy.mp hm with rfl|hm
        · exact absurd c' h1
        · exact .inr ⟨m,hm,h1,h2⟩
  · rw[Xv c,xx];have c':¬n∈pick:=by simpa using c
    constructor
    · rintro ((h|h)|⟨m,hm,h1,h2⟩)
      · exact .inl h
      · exact .inr ⟨n,by simp,c',h⟩
      · exact .inr ⟨m,by simp[hm],h1,h2⟩
    · rintro (h|⟨m,hm,h1,h2⟩)
      · exact .inl (.inl h)
      · rcases Xy.mp hm with rfl|hm
        · exact .inl (.inr h2)
        · exact .inr ⟨m,hm,h1,h2⟩
theorem mz {pick:aaf}:∀{s:aaf} {K:aae},K.Nodup->(cT s K pick).Nodup
 |[],_,h=>h
 |n::s,K,h=>by
  show (cT s (cx pick K n) pick).Nodup;refine mz (s:=s) ?_;unfold cx;by_cases c:pick.contains n=true
  · rw[Xw c];exact h
  · rw[Xv c];exact mN h
theorem vX {s r:aaf}:∀{picks K:aae},r∈picks.foldl (cT s) K↔r∈K∨∃pick∈picks,∃n∈s,¬n∈pick/\r=fS n pick
 |[],K=>by simp
 |p::ps,K=>by
  rw[Y0,vX (picks:=ps),o8];constructor
  · rintro ((h|h)|⟨q,hq,h⟩)
    · exact .inl h
    · exact .inr ⟨p,by simp,h⟩
    · exact .inr ⟨q,by simp[hq],h⟩
  · rintro (h|⟨q,hq,h⟩)
    · exact .inl (.inl h)
    · rcases Xy.mp hq with rfl|hq
      · exact .inl (.inr h)
      · exact .inr ⟨q,hq,h⟩
theorem px {s:aaf}:∀{picks K:aae},K.Nodup->(picks.foldl (cT s) K).Nodup
 |[],_,h=>h
 |p::ps,K,h=>by
  rw[Y0];exact px (picks:=ps) (mz h)
theorem snoc_ind {α:Type}{P:List α->Prop}(h0:P [])(h1:∀l a,P l->P (l++[a]))(l:List α):P l:=by
 have:∀m:List α,P m.reverse:=λm=>by
  induction m with
  |nil=>exact h0
  |cons a m ih=>rw[List.reverse_cons];exact h1 _ a ih
 have h:=this l.reverse
 rwa [List.reverse_reverse] at h
theorem dZ {row s:aaf}{t:aae}:fillsSets row (s::t)=true↔∃x∈row,x∈s/\fillsSets (row.erase x) t=true:=by
 show (row.any λ(x:Nat)=>s.contains x&&fillsSets (row.erase x) t)=true↔_;rw[Y8];constructor
 · rintro⟨x,hx,h⟩;rw[XB] at h;exact⟨x,hx,by simpa using h.1,h.2⟩
 · rintro⟨x,hx,h1,h2⟩;exact⟨x,hx,by rw[XB];exact⟨by simpa using h1,h2⟩⟩
theorem mT {row:aaf}:fillsSets row []=true↔row=[]:=by
 show row.isEmpty=true↔_;exact Y7
theorem jO {x y:Nat}{l:aaf}(hy:y∈l)(hx:x∈l.erase y):x∈l/\y∈l.erase x:=by
 refine⟨List.mem_of_mem_erase hx,?_⟩;by_cases e:y=x
 · subst e;exact hx
 · exact (Z0 e).mpr hy
theorem lB {s:aaf}:∀{ss:aae} {row:aaf},fillsSets row (ss++[s])=true↔∃x∈row,x∈s/\fillsSets (row.erase x) ss=true
 |[],row=>by rw[Yq,dZ]
 |t::ss,row=>by
  rw[ZD,dZ];constructor
  · rintro⟨y,hy,MZ,h⟩;obtain⟨x,hx,MB,h⟩:=lB.mp h;obtain⟨a,b⟩:=jO hy hx;exact⟨x,a,MB,dZ.mpr ⟨y,b,MZ,by rw[List.erase_comm];exact h⟩⟩
  · rintro⟨x,hx,MB,h⟩;obtain⟨y,hy,MZ,h⟩:=dZ.mp h;obtain⟨a,b⟩:=jO hx hy;exact⟨y,a,MZ,lB.mpr ⟨x,b,MB,by rw[List.erase_comm];exact h⟩⟩
theorem cq.erase {l:aaf}(n:Nat)(h:cq l):cq (l.erase n):=List.Pairwise.sublist List.erase_sublist h
theorem oq {n:Nat}{l:aaf}(h:l.Nodup):¬n∈l.erase n:=λm=>by
 have:=(h.mem_erase_iff).mp m;exact this.1 rfl
theorem iQ (ss:aae)(s:aaf):bx (ss++[s])=fj (bx ss) s:=by
 unfold bx;rw[List.foldl_append];rfl
theorem j4 (ss:aae):∀r,r∈bx ss↔cq r/\fillsSets r ss=true:=by
 refine snoc_ind (P:=λss=>∀r,r∈bx ss↔cq r/\fillsSets r ss=true) ?_ ?_ ss
 · intro r;show r∈([[]]:aae)↔_;rw[mT,XJ];constructor
   · rintro rfl;exact⟨List.Pairwise.nil,rfl⟩
   · exact λh=>h.2
 · intro ss s ih r;rw[iQ];unfold fj;rw[vX,lB];constructor
   · rintro (h|⟨p,hp,n,hn,h1,rfl⟩)
     · simp at h
     · obtain⟨rp,fp⟩:=(ih p).mp hp;exact⟨lh rp h1,n,lP.mpr (.inl rfl),hn,by rw[o5 h1];exact fp⟩
   · rintro⟨hr,n,hn,hs,h⟩;exact .inr ⟨r.erase n,(ih _).mpr ⟨hr.erase n,h⟩,n,hs,oq hr.nodup,(pT hr hn).symm⟩
theorem uO (ss:aae):(bx ss).Nodup:=by
 refine snoc_ind (P:=λss=>(bx ss).Nodup) ?_ ?_ ss
 · show ([[]]:aae).Nodup;simp
 · intro ss s _;rw[iQ];exact px List.nodup_nil
theorem ke:∀{ss:aae} {row:aaf},fillsSets row ss=true->row.length=ss.length/\∀x∈row,∃s∈ss,x∈s
 |[],row,h=>by
  have:=mT.mp h;subst this;exact⟨rfl,λx hx=>by simp at hx⟩
 |t::ss,row,h=>by
  obtain⟨y,hy,MZ,h⟩:=dZ.mp h;obtain⟨h1,h2⟩:=ke h;have e:=Zc hy;have:0 < row.length:=ZO hy;refine⟨by rw[XG];omega,λx hx=>?_⟩;by_cases c:x=y
  · subst c;exact⟨t,by simp,MZ⟩
  · obtain⟨s,hs,MB⟩:=h2 x ((Z0 c).mpr hx);exact⟨s,by simp[hs],MB⟩
theorem iJ:∀{k:Nat} {l r:aaf},r.Sublist l->r.length=k->r∈risingRows k l
 |0,l,r,_,h=>by
  have:r=[]:=Zk.mp h;subst this;simp[risingRows]
 |k+1,_,_,.slnil,h=>by simp at h
 |k+1,x::l,r,.cons _ h',h=>by
  rw[risingRows,Yk];exact .inr (iJ h' h)
 |k+1,x::l,_::r,.cons_cons _ h',h=>by
  rw[risingRows,Yk];exact .inl (X4.mpr ⟨r,iJ h' (by simpa using h),rfl⟩)
theorem lz:∀(k:Nat) (l r:aaf),r∈risingRows k l->r.length=k
 |0,_,r,h=>by
  have:r=[]:=by simpa [risingRows] using h
  subst this;rfl
 |k+1,[],r,h=>by simp[risingRows] at h
 |k+1,x::l,r,h=>by
  rw[risingRows,Yk] at h;rcases h with h|h
  · obtain⟨q,hq,rfl⟩:=X4.mp h;rw[XG,lz k l q hq]
  · exact lz (k+1) l r h
theorem iW:∀(k:Nat) (l:aaf),l.Nodup->(risingRows k l).Nodup
 |0,_,_=>by simp[risingRows]
 |k+1,[],_=>by simp[risingRows]
 |k+1,x::l,nd=>by
  obtain⟨h1,h2⟩:=YG.mp nd;rw[risingRows];refine Za.mpr ⟨?_,iW (k+1) l h2,?_⟩
  · exact List.Pairwise.map _ (λa b (h:a≠b) e=>h (by injection e)) (iW k l h2)
  · intro a ha b hb e;obtain⟨q,_,rfl⟩:=X4.mp ha;subst e;exact h1 ((iX _ _ _ hb).subset (by simp))
theorem fT:∀{u r:aaf},cq u->cq r->(∀x∈r,x∈u)->r.Sublist u
 |_,[],_,_,_=>List.nil_sublist _
 |[],x::r,_,_,h=>by simpa using h x (by simp)
 |y::u,x::r,hu,hr,h=>by
  obtain⟨u1,u2⟩:=YN.mp hu;obtain⟨r1,r2⟩:=YN.mp hr;by_cases e:x=y
  · subst e;refine (fT u2 r2 λz hz=>?_).cons_cons x;rcases Xy.mp (h z (by simp[hz])) with q|q
    · have:=r1 z hz;omega
    · exact q
  · have hx:x∈u:=by
     rcases Xy.mp (h x (by simp)) with q|q
     · exact absurd q e
     · exact q
    refine (fT u2 hr λz hz=>?_).cons y;have lt:=u1 x hx;rcases Xy.mp (h z hz) with q|q
    · subst q;rcases Xy.mp hz with q|q
      · exact absurd q.symm e
      · have:=r1 z q;omega
    · exact q
theorem fU {l:aae}{x:Nat}:x∈together l↔x < 32/\∃s∈l,x∈s:=by
 unfold together;rw[YE,Zi,Y8];constructor
 · rintro⟨h,s,hs,hx⟩;exact⟨h,s,hs,by simpa using hx⟩
 · rintro⟨h,s,hs,hx⟩;exact⟨h,s,hs,by simpa using hx⟩
theorem dm (l:aae):cq (together l):=List.Pairwise.filter _ List.pairwise_lt_range
structure bH (heads s:aaf):Prop where
 rise:cq s
 sub:∀x∈s,x∈heads
structure cP (heads:aaf):Prop where
 rise:cq heads
 lo:∀x∈heads,1<=x
 hi:∀x∈heads,x<=24
def lq (z:Nat):Bool:=decide (1<=z)&&decide (z<=24)
def fits:aaf->aae->Prop
 |[],[]=>True
 |x::r,s::g=>x∈s/\fits r g
 |_,_=>False
theorem uX:∀{r:aaf} {g:aae},fits r g->r.length=g.length
 |[],[],_=>rfl
 |_::_,_::_,h=>by simp[uX h.2]
 |[],_::_,h=>h.elim
 |_::_,[],h=>h.elim
theorem fg:∀{g:aae} {had r:aaf},r∈apartRows g had↔fits r g/\r.Nodup/\∀x∈r,¬x∈had
 |[],_,[]=>by simp[apartRows,fits]
 |[],_,_::_=>by simp[apartRows,fits]
 |s::g,_,[]=>by simp[apartRows,fits]
 |s::g,had,x::r=>by
  simp only[apartRows,ZC,YE,X4,List.cons.injEq,fits,YG,Z1];constructor
  · rintro⟨y,⟨h1,h2⟩,q,hq,rfl,rfl⟩;obtain⟨a,b,c⟩:=fg.mp hq;exact⟨⟨h1,a⟩,⟨λm=>c y m (by simp),b⟩,by simpa using h2,λz hz m=>c z hz (by simp[m])⟩
  · rintro⟨⟨h1,a⟩,⟨n,b⟩,h2,c⟩;refine⟨x,⟨h1,by simpa using h2⟩,r,fg.mpr ⟨a,b,λz hz m=>?_⟩,rfl,rfl⟩;rcases Xy.mp m with rfl|m
    · exact n hz
    · exact c z hz m
theorem pI {x:Nat}{l:aae}(h:l.Nodup):(l.map λr=>x::r).Nodup:=List.pairwise_map.mpr (List.Pairwise.imp (λn e=>n (List.cons.inj e).2) h)
theorem vV {f:Nat->aae}{s:aaf}(hs:s.Nodup)(h:∀x∈s,(f x).Nodup):(s.flatMap λx=>(f x).map λr=>x::r).Nodup:=by
 refine List.pairwise_flatMap.mpr ⟨λx hx=>pI (h x hx),List.Pairwise.imp (λn a ha b hb e=>?_) hs⟩;obtain⟨p,_,rfl⟩:=X4.mp ha;obtain⟨q,_,rfl⟩:=X4.mp hb;exact n (List.cons.inj e).1
theorem jG:∀{g:aae} {had:aaf},(∀s∈g,s.Nodup)->(apartRows g had).Nodup
 |[],_,_=>by simp[apartRows]
 |s::g,had,h=>vV ((h s (by simp)).filter _) λ_ _=>jG λt ht=>h t (by simp[ht])
theorem vy:∀{r:aaf} {g:aae},fits r g->(∀x∈r,∃s∈g,x∈s)/\∀s∈g,∃x∈r,x∈s
 |[],[],_=>by simp
 |x::r,s::g,h=>by
  obtain⟨a,b⟩:=vy h.2;refine⟨λy hy=>?_,λt ht=>?_⟩
  · rcases Xy.mp hy with rfl|hy
    · exact⟨s,by simp,h.1⟩
    · obtain⟨t,ht,MZ⟩:=a y hy;exact⟨t,by simp[ht],MZ⟩
  · rcases Xy.mp ht with rfl|ht
    · exact⟨x,by simp,h.1⟩
    · obtain⟨y,hy,MZ⟩:=b t ht;exact⟨y,by simp[hy],MZ⟩
 |[],_::_,h=>h.elim
 |_::_,[],h=>h.elim
theorem vd {B:aaf}:∀{k:Nat} {r:aaf},fits r (List.replicate k B)↔r.length=k/\∀x∈r,x∈B
 |0,[]=>by simp[fits]
 |0,_::_=>by simp[fits]
 |k+1,[]=>by simp[fits,Z3]
 |k+1,x::r=>by
  rw[Z3];show x∈B/\fits r _↔_;rw[vd];simp only[XG,Z1,Nat.add_right_cancel_iff];exact⟨λ⟨a,b,c⟩=>⟨b,a,c⟩,λ⟨b,a,c⟩=>⟨a,b,c⟩⟩
def jr (a:Nat)(B:aaf):aae->List (aae)
 |[]=>[]
 |s::g=>(if s==B then [[a]::g] else [])++(jr a B g).map λr=>s::r
def bD (B:aaf)(A:aaf)(gs:List (aae)):List (aae):=A.foldl (λgs a=>gs.flatMap (jr a B)) gs
theorem tS {x:Nat}{B:aaf}(h:¬x∈B):[x]≠B:=λe=>h (e ▸ XJ.mpr rfl)
theorem tW {a:Nat}{B s:aaf}{g t:aae}:t∈jr a B (s::g)↔(s=B/\t=[a]::g)∨∃r∈jr a B g,t=s::r:=by
 show t∈(if s==B then [[a]::g] else [])++(jr a B g).map (λr=>s::r)↔_;rw[Yk,X4];have z:(∃r,r∈jr a B g/\s::r=t)↔∃r∈jr a B g,t=s::r:=⟨λ⟨r,h,e⟩=>⟨r,h,e.symm⟩,λ⟨r,h,e⟩=>⟨r,h,e.symm⟩⟩;rw[z];by_cases e:s=B <;> simp[e]
structure Good (B had:aaf)(k:Nat)(g:aae):Prop where
 len:g.length=k
 are:∀s∈g,s=B∨∃a∈had,s=[a]
 all:∀a∈had,[a]∈g
theorem oH {a:Nat}{B:aaf}:∀{g t:aae},t∈jr a B g->t.length=g.length/\(∀s∈t,s=[a]∨s∈g)/\[a]∈t/\∀s∈g,s=B∨s∈t
 |[],t,h=>by cases h
 |s::g,t,h=>by
  rcases tW.mp h with ⟨rfl,rfl⟩|⟨r,hr,rfl⟩
  · refine⟨rfl,λu hu=>?_,by simp,λu hu=>?_⟩
    · rcases Xy.mp hu with e|hu
      · exact .inl e
      · exact .inr (by simp[hu])
    · rcases Xy.mp hu with e|hu
      · exact .inl e
      · exact .inr (by simp[hu])
  · obtain⟨a1,a2,a3,a4⟩:=oH hr;refine⟨by simp[a1],λu hu=>?_,by simp[a3],λu hu=>?_⟩
    · rcases Xy.mp hu with e|hu
      · exact .inr (by simp[e])
      · exact (a2 u hu).imp id λm=>by simp[m]
    · rcases Xy.mp hu with e|hu
      · exact .inr (by simp[e])
      · exact (a4 u hu).imp id λm=>by simp[m]
theorem C0 {a k:Nat}{B had:aaf}{g t:aae}(hB:∀x∈had,¬x∈B)(G:Good B had k g)(h:t∈jr a B g):Good B (had++[a]) k t:=by
 obtain⟨a1,a2,a3,a4⟩:=oH h;refine⟨a1.trans G.len,λs hs=>?_,λx hx=>?_⟩
 · rcases a2 s hs with e|m
   · exact .inr ⟨a,by simp,e⟩
   · exact (G.are s m).imp id λ⟨x,hx,e⟩=>⟨x,by simp[hx],e⟩
 · rcases Yk.mp hx with hx|hx
   · exact (a4 _ (G.all x hx)).resolve_left (tS (hB x hx))
   · rw[XJ] at hx;exact hx ▸ a3
def vp (a:Nat)(B:aaf)(g:aae):aae:=g.map λs=>if s=[a] then B else s
theorem xF {a:Nat}{B:aaf}{g:aae}(h:¬[a]∈g):vp a B g=g:=by
 unfold vp
 conv=>rhs;rw[←List.map_id g]
 refine Yo λs hs=>?_;rw[Xv λe=>h (by rw[←e];exact hs)];rfl
theorem qD {a:Nat}{B:aaf}:∀{g t:aae},¬[a]∈g->t∈jr a B g->vp a B t=g
 |[],t,_,h=>by cases h
 |s::g,t,n,h=>by
  have n2:¬[a]∈g:=λm=>n (by simp[m]);rcases tW.mp h with ⟨rfl,rfl⟩|⟨r,hr,rfl⟩
  · show (if [a]=[a] then s else [a])::vp a s g=_;rw[Xw rfl,xF n2]
  · show (if s=[a] then B else s)::vp a B r=_;rw[Xv λe=>n (by simp[e]),qD n2 hr]
theorem sA {a:Nat}{B:aaf}(hB:¬a∈B):∀g:aae,(jr a B g).Nodup
 |[]=>by simp[jr]
 |s::g=>by
  have m:((jr a B g).map λr=>s::r).Nodup:=List.pairwise_map.mpr (List.Pairwise.imp (λn e=>n (List.cons.inj e).2) (sA hB g));unfold jr;by_cases e:s=B
  · rw[Xw (by simp[e])];refine YG.mpr ⟨λh=>?_,m⟩;obtain⟨r,_,hr⟩:=X4.mp h;exact tS hB ((List.cons.inj hr).1 ▸ e)
  · rw[Xv (by simp[e])];exact m
theorem iS {B:aaf}{k:Nat}:∀{A had:aaf} {gs:List (aae)},(∀x∈had++A,¬x∈B)->(had++A).Nodup->gs.Nodup->(∀g∈gs,Good B had k g)->(bD B A gs).Nodup/\∀g∈bD B A gs,Good B (had++A) k g
 |[],had,gs,_,_,h2,h3=>by
  rw[Yx];exact⟨h2,h3⟩
 |a::A,had,gs,hB,nd,h2,h3=>by
  have e:had++a::A=(had++[a])++A:=by simp
  rw[e] at hB nd ⊢;have n1:=Za.mp (Za.mp nd).1;have ha:¬a∈had:=λm=>n1.2.2 a m a (by simp) rfl;have hb:∀x∈had,¬x∈B:=λx hx=>hB x (by simp[hx]);have no:∀g∈gs,¬[a]∈g:=λg hg m=>by
   rcases (h3 g hg).are _ m with e|⟨x,hx,e⟩
   · exact tS (hB a (by simp)) e
   · have:a=x:=by simpa using e
     exact ha (this ▸ hx)
  refine iS hB nd ?_ λg hg=>?_
  · refine List.pairwise_flatMap.mpr ⟨λg _=>sA (hB a (by simp)) g,Y_.mpr λ{g g'} hs x hx y hy e=>?_⟩;have m1:=hs.subset (show g∈[g,g'] by simp);have m2:=hs.subset (show g'∈[g,g'] by simp);have:=Y_.mp h2 hs;exact this (by rw[←qD (no g m1) hx,e,qD (no g' m2) hy])
  · obtain⟨g0,h0,hr⟩:=ZC.mp hg;exact C0 hb (h3 g0 h0) hr
def gi (A B:aaf)(r:aaf):aae:=r.map λx=>if x∈A then [x] else B
theorem vx {a:Nat}{B had:aaf}(ha:¬a∈had):∀{r:aaf},r.Nodup->a∈r->gi (had++[a]) B r∈jr a B (gi had B r)
 |[],_,h=>by cases h
 |y::r,nd,h=>by
  obtain⟨n1,n2⟩:=YG.mp nd;have step:∀z,z≠a->(if z∈had++[a] then [z] else B)=if z∈had then [z] else B:=λz hz=>by simp[hz]
  refine tW.mpr ?_;by_cases e:y=a
  · subst e;refine .inl ⟨Xv ha,?_⟩;show (if y∈had++[y] then [y] else B)::gi (had++[y]) B r=_;rw[Xw (by simp)];congr 1;exact Yo λz hz=>step z λe=>n1 (e ▸ hz)
  · refine .inr ⟨_,vx ha n2 ((Xy.mp h).resolve_left λz=>e z.symm),?_⟩;show (if y∈had++[a] then [y] else B)::_=_;rw[step y e];rfl
theorem o6 {B r:aaf}(nr:r.Nodup):∀{A had:aaf} {gs:List (aae)},(had++A).Nodup->(∀a∈A,a∈r)->gi had B r∈gs->gi (had++A) B r∈bD B A gs
 |[],had,gs,_,_,h=>by rwa [Yx]
 |a::A,had,gs,nd,h1,h=>by
  have e:had++a::A=(had++[a])++A:=by simp
  rw[e] at nd ⊢;have n1:=Za.mp (Za.mp nd).1;exact o6 nr nd (λx hx=>h1 x (by simp[hx])) (ZC.mpr ⟨_,h,vx (λm=>n1.2.2 a m a (by simp) rfl) nr (h1 a (by simp))⟩)
theorem B5 {B r:aaf}:gi [] B r=List.replicate r.length B:=by
 unfold gi;rw[←List.map_const'];exact Yo λx _=>by simp
theorem sF {A B:aaf}:∀{r:aaf},(∀x∈r,x∈A∨x∈B)->fits r (gi A B r)
 |[],_=>trivial
 |x::r,h=>by
  refine⟨?_,sF λy hy=>h y (by simp[hy])⟩;by_cases e:x∈A
  · simp[e]
  · simpa [e] using (h x (by simp)).resolve_left e
theorem mO {A B:aaf}(hB:∀x∈A,¬x∈B):∀{r:aaf} {g:aae},(∀s∈g,s=B∨∃a∈A,s=[a])->fits r g->g=gi A B r
 |[],[],_,_=>rfl
 |x::r,s::g,h,f=>by
  show s::g=(if x∈A then [x] else B)::gi A B r;rw[←mO hB (λt ht=>h t (by simp[ht])) f.2];congr 1;rcases h s (by simp) with rfl|⟨a,ha,rfl⟩
  · rw[Xv λm=>hB x m f.1]
  · have:x=a:=by simpa using f.1
    rw[this,Xw ha]
 |[],_::_,_,f=>f.elim
 |_::_,[],_,f=>f.elim
theorem ya {A B:aaf}{k:Nat}(nA:A.Nodup)(nB:B.Nodup)(L_:∀x∈A,¬x∈B) :
  ((bD B A [List.replicate k B]).flatMap λg=>apartRows g []).Nodup /\
  ∀r,r∈(bD B A [List.replicate k B]).flatMap (λg=>apartRows g [])↔r.length=k/\r.Nodup/\(∀a∈A,a∈r)/\∀x∈r,x∈A∨x∈B:=by
 obtain⟨h1,h2⟩:=iS (B:=B) (k:=k) (A:=A) (had:=[]) (gs:=[List.replicate k B]) (by simpa using L_) (by simpa using nA) (by simp) (λg hg=>by
  rw[XJ] at hg;subst hg;exact⟨by simp,λs hs=>.inl (Yw hs),by simp⟩)
 rw[Yq] at h2;refine⟨List.pairwise_flatMap.mpr ⟨λg hg=>jG λs hs=>?_,Y_.mpr λ{g g'} hs x hx y hy e=>?_⟩,λr=>?_⟩
 · rcases (h2 g hg).are s hs with rfl|⟨a,_,rfl⟩
   · exact nB
   · simp
 · have m1:=hs.subset (show g∈[g,g'] by simp);have m2:=hs.subset (show g'∈[g,g'] by simp);refine Y_.mp h1 hs ?_;rw[mO L_ (h2 g m1).are (fg.mp hx).1,e,←mO L_ (h2 g' m2).are (fg.mp hy).1]
 · rw[ZC];constructor
   · rintro⟨g,hg,hr⟩;obtain⟨f,nr,_⟩:=fg.mp hr;have G:=h2 g hg;obtain⟨f1,f2⟩:=vy f;refine⟨(uX f).trans G.len,nr,λa ha=>?_,λx hx=>?_⟩
     · obtain⟨x,hx,e⟩:=f2 _ (G.all a ha);have:x=a:=by simpa using e
       exact this ▸ hx
     · obtain⟨s,hs,MB⟩:=f1 x hx;rcases G.are s hs with rfl|⟨a,ha,rfl⟩
       · exact .inr MB
       · have:x=a:=by simpa using MB
         exact .inl (this ▸ ha)
   · rintro⟨hl,nr,ha,hx⟩;refine⟨gi A B r,?_,fg.mpr ⟨sF hx,nr,by simp⟩⟩;have:=o6 (B:=B) nr (A:=A) (had:=[]) (gs:=[List.replicate k B]) (by simpa using nA) ha (by rw[B5,hl];simp);simpa using this
theorem lr {B:aaf}:∀{A P:aaf} {j:Nat} {rest:List (aae)},(∀x∈P++A,¬x∈B)->A.length<=j->∃q,bD B A ((P.map (λa=>[a])++List.replicate j B)::rest)=((P++A).map (λa=>[a])++List.replicate (j - A.length) B)::q
 |[],P,j,rest,_,_=>⟨rest,by simp[bD]⟩
 |a::A,P,j,rest,h,hj=>by
  obtain⟨j,rfl⟩:∃i,j=i+1:=⟨j - 1,by rw[XG] at hj;omega⟩;have first:∀P:aaf,(∀x∈P,¬x∈B)->∃q,jr a B (P.map (λa=>[a])++List.replicate (j+1) B)=(P.map (λa=>[a])++[a]::List.replicate j B)::q:=by
   intro P
   induction P with
   |nil=>intro _;exact⟨_,by rw[YU,Yq,Yq,Z3];unfold jr;rw[Xw (by simp)];rfl⟩
   |cons x P ih =>
    intro hP;obtain⟨q,e⟩:=ih λy hy=>hP y (by simp[hy]);refine⟨q.map λr=>[x]::r,?_⟩;rw[XN,ZD];unfold jr;rw[e,Xv (by simpa using tS (hP x (by simp)))];rfl
  obtain⟨q,e⟩:=first P λx hx=>h x (by simp[hx])
  obtain⟨q',e'⟩:=lr (B:=B) (A:=A) (P:=P++[a]) (j:=j) (rest:=q++rest.flatMap (jr a B)) (by simpa using h) (by rw[XG] at hj;omega);refine⟨q',?_⟩;show bD B A (((P.map (λa=>[a])++List.replicate (j+1) B)::rest).flatMap (jr a B))=_;rw[ZQ,e,ZD];have e1:P.map (λa=>[a])++[a]::List.replicate j B=(P++[a]).map (λa=>[a])++List.replicate j B:=by simp
  rw[e1,e'];simp
theorem k8 {B:aaf}:∀{j:Nat} {r:aaf},fillsSets r (List.replicate j B)=true↔r.length=j/\∀x∈r,x∈B
 |0,r=>by
  rw[List.replicate_zero,mT];exact⟨λh=>by subst h;simp,λh=>Zk.mp h.1⟩
 |j+1,r=>by
  rw[Z3,dZ];constructor
  · rintro⟨x,hx,hb,h⟩;obtain⟨h1,h2⟩:=k8.mp h;have:=Zc hx;have:=ZO hx;refine⟨by omega,λy hy=>?_⟩;by_cases e:y=x
    · exact e ▸ hb
    · exact h2 y ((Z0 e).mpr hy)
  · rintro⟨hl,h⟩
    match r,hl,h with
    |x::r,hl,h=>exact⟨x,by simp,h x (by simp),k8.mpr ⟨by simpa using hl,λy hy=>h y (by simp only[List.erase_cons_head] at hy;simp[hy])⟩⟩
theorem la {B:aaf}{j:Nat}:∀{A r:aaf},A.Nodup->(∀x∈B,¬x∈A)->r.Nodup ->
  (fillsSets r (A.map (λa=>[a])++List.replicate j B)=true↔(∀a∈A,a∈r)/\r.length=A.length+j/\∀x∈r,x∈A∨x∈B)
 |[],r,_,_,_=>by
  rw[YU,Yq,k8];simp
 |a::A,r,nA,L_,nr=>by
  obtain⟨n1,n2⟩:=YG.mp nA;rw[XN,ZD,dZ];have ih:=la (B:=B) (j:=j) n2 (λx hx m=>L_ x hx (XO _ m)) (nr.erase a);have me:∀x,x∈r.erase a↔x≠a/\x∈r:=λx=>nr.mem_erase_iff;constructor
  · rintro⟨x,hx,ha,h⟩;have:x=a:=by simpa using ha
    subst this;obtain⟨h1,h2,h3⟩:=ih.mp h;have:=Zc hx;have:=ZO hx;refine⟨λy hy=>?_,by rw[XG];omega,λy hy=>?_⟩
    · rcases Xy.mp hy with rfl|hy
      · exact hx
      · exact ((me y).mp (h1 y hy)).2
    · by_cases e:y=x
      · exact .inl (by simp[e])
      · exact (h3 y ((me y).mpr ⟨e,hy⟩)).imp (XO _) id
  · rintro⟨h1,h2,h3⟩;have ha:=h1 a (by simp);have:=Zc ha;rw[XG] at h2;refine⟨a,ha,by simp,ih.mpr ⟨λy hy=>(me y).mpr ⟨λe=>n1 (e ▸ hy),h1 y (XO _ hy)⟩,by omega,λy hy=>?_⟩⟩;obtain⟨e,hy⟩:=(me y).mp hy;rcases h3 y hy with m|m
    · exact .inl ((Xy.mp m).resolve_left e)
    · exact .inr m
def jK (kind:Kind)(how:How)(k:Nat)(sets:aae):List (aae):=match how with
 |.on=>[sets]
 |.box=>[List.replicate k (sets.headD [])]
 |.key=>if kind=.any then (bD (sets.getD 1 []) (sets.headD []) [List.replicate k (sets.getD 1 [])]).take 1 else bD (sets.getD 1 []) (sets.headD []) [List.replicate k (sets.getD 1 [])]
def sH (kind:Kind)(gs:List (aae)):aae:=match kind with
 |.order=>gs.flatMap λg=>apartRows g []
 |.any=>bx (gs.headD [])
 |_=>gs.flatMap rowsOf
def Bp (kind:Kind)(how:How)(k:Nat)(sets:aae):aae:=sH kind (jK kind how k sets)
def countM (kind:Kind)(how:How)(k:Nat)(sets:aae):Nat:=(Bp kind how k sets).length
section
variable {C:Card}{b:Bet}{p:Pool}
theorem uZ (hl:p.kind≠.legs):(C.sets p).headD []=C.headsOf p.race:=by
 unfold Card.sets Pool.legs;rw[Xv hl];rfl
theorem uR {row:aaf}(hk:p.kind=.order):C.isCombo p row=(row.length==p.k&&(decide row.Nodup&&row.all λx=>(C.headsOf p.race).contains x)):=by
 unfold Card.isCombo;rw[hk];simp only[uZ (C:=C) (p:=p) (by rw[hk];decide)]
theorem rE {row:aaf}(hk:p.kind=.any):C.isCombo p row=(row.length==p.k&&(risesN row&&row.all λx=>(C.headsOf p.race).contains x)):=by
 unfold Card.isCombo;rw[hk];simp only[uZ (C:=C) (p:=p) (by rw[hk];decide)]
structure y_ (C:Card)(b:Bet)(p:Pool):Prop where
 pool:C.pool b.pool=p
 heads:p.kind≠.legs->cP (C.headsOf p.race)
 k:p.kind≠.legs->p.kind≠.place->2<=p.k/\p.k<=mostK p.kind
 good:p.kind≠.legs->∀s∈b.sets,bH (C.headsOf p.race) s
 place:p.kind=.place->b.how=.on/\b.sets.length=1
 legs:p.kind=.legs->b.how=.on
 on:p.kind≠.legs->p.kind≠.place->b.how=.on->b.sets.length=p.k
 box:b.how=.box->∃s,b.sets=[s]/\p.k<=s.length
 key:b.how=.key->∃s t,b.sets=[s,t]/\s.length < p.k/\(∀x∈t,¬x∈s)/\p.k<=s.length+t.length
theorem i9 {l:aae}{heads:aaf}(h:∀s∈l,bH heads s):∀x∈together l,x∈heads:=λx hx=>by
 obtain⟨_,s,hs,MB⟩:=fU.mp hx;exact (h s hs).sub x MB
theorem iP {l:aae}{heads s:aaf}(gh:cP heads)(h:∀s∈l,bH heads s)(hs:s∈l):∀x∈s,x∈together l:=λx hx =>
 fU.mpr ⟨Nat.lt_of_le_of_lt (gh.hi x ((h s hs).sub x hx)) (by decide),s,hs,hx⟩
theorem zK (hk:p.kind=.order)(gh:cP (C.headsOf p.race))(hp:C.pool b.pool=p){A B:aaf}(good:∀s∈b.sets,bH (C.headsOf p.race) s)(hu:∀x,(∃s∈b.sets,x∈s)↔x∈A∨x∈B)(hf:∀r,(∀x∈r,x∈A∨x∈B)->(C.has b r=(C.isCombo p r&&A.all λx=>r.contains x)))(r:aaf) :
  r∈(apartRows (List.replicate p.k (together b.sets)) []).filter (C.has b)↔r.length=p.k/\r.Nodup/\(∀a∈A,a∈r)/\∀x∈r,x∈A∨x∈B:=by
 have ND:∀x,x∈together b.sets↔x∈A∨x∈B:=λx=>by
  rw[←hu];exact⟨λh=>(fU.mp h).2,λ⟨s,hs,hx⟩=>iP gh good hs x hx⟩
 rw[YE,fg,vd];constructor
 · rintro⟨⟨⟨h1,h2⟩,h3,_⟩,h4⟩;have sub:∀x∈r,x∈A∨x∈B:=λx hx=>(ND x).mp (h2 x hx);rw[hf r sub] at h4;simp only[XB,X1] at h4;exact⟨h1,h3,λa ha=>by simpa using h4.2 a ha,sub⟩
 · rintro⟨h1,h2,h3,h4⟩;refine⟨⟨⟨h1,λx hx=>(ND x).mpr (h4 x hx)⟩,h2,by simp⟩,?_⟩;rw[hf r h4,uR hk];simp only[XB,X1,XC];exact⟨⟨by simpa using h1,h2,λx hx=>by simpa using i9 good x ((ND x).mpr (h4 x hx))⟩,λa ha=>by simpa using h3 a ha⟩
theorem Dk (hk:p.kind=.any)(gh:cP (C.headsOf p.race))(hp:C.pool b.pool=p){A B:aaf}(good:∀s∈b.sets,bH (C.headsOf p.race) s)(hu:∀x,(∃s∈b.sets,x∈s)↔x∈A∨x∈B)(hf:∀r,(∀x∈r,x∈A∨x∈B)->(C.has b r=(C.isCombo p r&&A.all λx=>r.contains x)))(r:aaf) :
  r∈(risingRows p.k (together b.sets)).filter (C.has b)↔cq r/\(∀a∈A,a∈r)/\r.length=p.k/\∀x∈r,x∈A∨x∈B:=by
 have ND:∀x,x∈together b.sets↔x∈A∨x∈B:=λx=>by
  rw[←hu];exact⟨λh=>(fU.mp h).2,λ⟨s,hs,hx⟩=>iP gh good hs x hx⟩
 rw[YE];constructor
 · rintro⟨h1,h4⟩;have hs:=iX _ _ _ h1;have sub:∀x∈r,x∈A∨x∈B:=λx hx=>(ND x).mp (hs.subset hx);rw[hf r sub] at h4;simp only[XB,X1] at h4;exact⟨List.Pairwise.sublist hs (dm _),λa ha=>by simpa using h4.2 a ha,lz _ _ _ h1,sub⟩
 · rintro⟨h1,h2,h3,h4⟩;refine⟨iJ (fT (dm _) h1 λx hx=>(ND x).mpr (h4 x hx)) h3,?_⟩;rw[hf r h4,rE hk];simp only[XB,X1,XC];exact⟨⟨by simpa using h3,(jZ r).mpr h1,λx hx=>by simpa using i9 good x ((ND x).mpr (h4 x hx))⟩,λa ha=>by simpa using h2 a ha⟩
theorem zm (v:y_ C b p)(nl:p.kind≠.legs)(hn:b.how≠.on):∃A B,jK p.kind b.how p.k b.sets=(if p.kind=.any then (bD B A [List.replicate p.k B]).take 1 else bD B A [List.replicate p.k B])/\A.Nodup/\B.Nodup/\(∀x∈B,¬x∈A)/\A.length<=p.k /\
  (∀x,(∃s∈b.sets,x∈s)↔x∈A∨x∈B)/\∀r,(∀x∈r,x∈A∨x∈B)->(C.has b r=(C.isCombo p r&&A.all λx=>r.contains x)):=by
 cases hh:b.how with
 |on=>exact absurd hh hn
 |box =>
  obtain⟨s,hs,hl⟩:=v.box hh;have g:bH (C.headsOf p.race) s:=v.good nl s (by rw[hs];simp);refine⟨[],s,?_,by simp,g.rise.nodup,by simp,by simp,λx=>by rw[hs];simp,λr hr=>?_⟩
  · rw[hs];unfold jK bD;by_cases e:p.kind=.any <;> simp[e]
  · unfold Card.has;rw[v.pool,hh,hs];have:(r.all λx=>([s].headD []).contains x)=true:=by
     rw[X1];intro x hx;simpa using hr x hx
    simp only[this,List.all_nil]
 |key =>
  obtain⟨s,t,hs,hl,L_,Nf⟩:=v.key hh;have gs:bH (C.headsOf p.race) s:=v.good nl s (by rw[hs];simp);have gt:bH (C.headsOf p.race) t:=v.good nl t (by rw[hs];simp);refine⟨s,t,by rw[hs];rfl,gs.rise.nodup,gt.rise.nodup,L_,by omega,λx=>by rw[hs];simp,λr hr=>?_⟩;unfold Card.has;rw[v.pool,hh,hs];have:(r.all λx=>s.contains x||t.contains x)=true:=by
   rw[X1];intro x hx;simpa using hr x hx
  show (C.isCombo p r&&((s.all λx=>r.contains x)&&r.all λx=>s.contains x||t.contains x))=_;rw[this,Bool.and_true]
theorem xD (hp:C.pool b.pool=p)(hk:p.kind=.order)(hh:b.how≠.on):C.rows b=(apartRows (List.replicate p.k (together b.sets)) []).filter (C.has b):=by
 unfold Card.rows;rw[hp];dsimp only;rw[hk];cases hb:b.how with
 |on=>exact absurd hb hh
 |box=>rfl
 |key=>rfl
theorem zA (v:y_ C b p):(Bp p.kind b.how p.k b.sets).Perm (C.rows b):=by
 have hp:=v.pool;unfold Bp Card.rows;rw[hp];dsimp only;cases hk:p.kind with
 |legs =>
  rw[v.legs hk];show ([b.sets].flatMap rowsOf).Perm _;simp
 |place =>
  obtain⟨h1,h2⟩:=v.place hk;rw[h1]
  match hs:b.sets,h2 with
  |[s],_ =>
   show ([[s]].flatMap rowsOf).Perm (s.map λx=>[x]);simp[rowsOf,←List.map_eq_flatMap]
 |order =>
  have nl:p.kind≠.legs:=by rw[hk];decide
  have gh:=v.heads nl;by_cases hh:b.how=.on
  · rw[hh];show ([b.sets].flatMap λg=>apartRows g []).Perm (apartRows b.sets []);simp
  · have e:=xD hp hk hh;unfold Card.rows at e;rw[hp] at e;dsimp only at e;rw[hk] at e;rw[e];obtain⟨A,B,e1,nA,nB,L_,_,hu,hf⟩:=zm v nl hh;rw[hk,Xv (by decide)] at e1;rw[e1];obtain⟨r1,r2⟩:=ya (k:=p.k) nA nB λx hx m=>L_ x m hx;refine (aaa r1 ((jG λs hs=>?_).filter _)).mpr λr=>(r2 r).trans (zK hk gh hp (v.good nl) hu hf r).symm;rw[Yw hs];exact (dm _).nodup
 |any =>
  have nl:p.kind≠.legs:=by rw[hk];decide
  have np:p.kind≠.place:=by rw[hk];decide
  have gh:=v.heads nl;show (bx ((jK .any b.how p.k b.sets).headD [])).Perm ((risingRows p.k (together b.sets)).filter (C.has b));refine (aaa (uO _) ((iW _ _ (dm _).nodup).filter _)).mpr λr=>?_;by_cases hh:b.how=.on
  · rw[hh];show r∈bx b.sets↔_;rw[YE,j4];have hlen:=v.on nl np hh;have NF:C.has b r=(C.isCombo p r&&fillsSets r b.sets):=by
     unfold Card.has;rw[hp,hh];show (C.isCombo p r&&if p.kind=.any then _ else _)=_;rw[Xw hk]
    rw[NF,rE hk];constructor
    · rintro⟨h1,h2⟩;obtain⟨l1,l2⟩:=ke h2;have Sh:∀x∈r,x∈together b.sets:=λx hx=>by
       obtain⟨s,hs,MB⟩:=l2 x hx;exact iP gh (v.good nl) hs x MB
      refine⟨iJ (fT (dm _) h1 Sh) (by rw[l1,hlen]),?_⟩;simp only[XB];refine⟨⟨by simp[l1,hlen],(jZ r).mpr h1,?_⟩,h2⟩;rw[X1];intro x hx;simpa using i9 (v.good nl) x (Sh x hx)
    · rintro⟨h1,h2⟩;simp only[XB] at h2;exact⟨(jZ r).mp h2.1.2.1,h2.2⟩
  · obtain⟨A,B,e1,nA,nB,L_,hA,hu,hf⟩:=zm v nl hh;rw[hk,Xw rfl] at e1;obtain⟨q,e2⟩:=lr (B:=B) (A:=A) (P:=[]) (j:=p.k) (rest:=[]) (λx hx m=>L_ x m (by simpa using hx)) hA;rw[YU,Yq,Yq] at e2;rw[e1,e2];show r∈bx (A.map (λa=>[a])++List.replicate (p.k - A.length) B)↔_;rw[j4,Dk hk gh hp (v.good nl) hu hf r];constructor
    · rintro⟨h1,h2⟩;obtain⟨a1,a2,a3⟩:=(la nA L_ h1.nodup).mp h2;exact⟨h1,a1,by omega,a3⟩
    · rintro⟨h1,a1,a2,a3⟩;exact⟨h1,(la nA L_ h1.nodup).mpr ⟨a1,by omega,a3⟩⟩
theorem jD:∀(g:aae),(rowsOf g).length=product (g.map List.length)
 |[]=>rfl
 |s::g=>by
  have fold:∀(l:aaf) (a:Nat),l.foldl (λa b=>a*b) a=a*product l:=by
   intro l
   induction l with
   |nil=>intro a;simp[product]
   |cons x l ih=>intro a;unfold product;rw[Y0,Y0,ih,ih (1*x)];simp[Nat.mul_assoc]
  unfold rowsOf;rw[fG,XN];show _=(g.map List.length).foldl (λa b=>a*b) (1*s.length);rw[fold,Nat.one_mul,←jD g];simp only[Xu];rw[sum_map_const]
theorem uc (v:y_ C b p):C.manyOf b=countM p.kind b.how p.k b.sets:=by
 unfold countM;rw[(zA v).length_eq];unfold Card.manyOf;rw[v.pool];by_cases h:p.kind=.legs
 · rw[Xw h,←jD];unfold Card.rows;rw[v.pool];dsimp only;rw[h]
 · rw[Xv h]
end
abbrev W:=aaf
def isLet (c:Nat):Bool:=decide (97<=c)&&decide (c<=122)
def bX (c:Nat):Bool:=decide (48<=c)&&decide (c<=57)
def t7 (c:Nat):Bool:=isLet c||bX c||c==32||c==10||c==44||c==47
def sg (c:Nat):Nat:=if t7 c=true then c else 63
def tx (w:Bytes):W:=w.map λc=>sg c.toNat
def cd (s:String):W:=s.toList.map Char.toNat
theorem uI {c d:Nat}(h:t7 d=true):sg c=d↔c=d:=by
 unfold sg;by_cases e:t7 c=true
 · rw[Xw e]
 · rw[Xv e];constructor
   · intro q;subst q;exact absurd h (by decide)
   · rintro rfl;exact absurd h e
theorem qA (c:Nat):isLet (sg c)=isLet c:=by
 unfold sg;by_cases e:t7 c=true
 · rw[Xw e]
 · rw[Xv e];have:isLet c=false:=by
    cases h:isLet c with
    |false=>rfl
    |true=>exact absurd (by unfold t7;rw[h];simp) e
   rw[this];decide
theorem pV (c:Nat):bX (sg c)=bX c:=by
 unfold sg;by_cases e:t7 c=true
 · rw[Xw e]
 · rw[Xv e];have:bX c=false:=by
    cases h:bX c with
    |false=>rfl
    |true=>exact absurd (by unfold t7;rw[h];simp) e
   rw[this];decide
theorem z_ {c:Nat}(h:bX c=true):sg c=c:=by
 unfold sg t7;rw[h];simp
theorem ig (w:Bytes):(tx w).length=w.length:=by unfold tx;rw[Xu]
theorem rD (v w:Bytes):tx (v++w)=tx v++tx w:=by unfold tx;rw[XQ]
theorem AM:tx []=[]:=rfl
theorem ud (c:UInt8)(w:Bytes):tx (c::w)=sg c.toNat::tx w:=rfl
theorem jt {a b:UInt8}(h:a.toNat=b.toNat):a=b:=UInt8.toNat_inj.mp h
theorem rK {v:Bytes}:∀{w:Bytes},(∀c∈v,t7 c.toNat=true)->(tx w=v.map UInt8.toNat↔w=v):=by
 induction v with
 |nil =>
  intro w _;cases w with
  |nil=>simp[tx]
  |cons=>simp[tx]
 |cons d v ih =>
  intro w h;cases w with
  |nil=>simp[tx]
  |cons c w =>
   have h1:=h d (by simp);have h2:=ih (w:=w) λc hc=>h c (by simp[hc]);rw[ud,XN,List.cons.injEq,List.cons.injEq,uI h1,h2];exact and_congr_left' ⟨jt,λe=>e ▸ rfl⟩
def plainT (s:String):Bool:=s.toList.all λc=>t7 c.toNat&&decide (c.toNat < 256)
theorem u_ {s:String}(h:plainT s=true):(ascii s).map UInt8.toNat=cd s:=by
 unfold ascii cd;rw[XY];refine Yo λc hc=>?_;have:=(X1.mp h) c hc;rw[XB] at this;have lt:c.toNat < 256:=XR this.2;show (UInt8.ofNat c.toNat).toNat=c.toNat;rw[UInt8.toNat_ofNat'];exact Nat.mod_eq_of_lt lt
theorem bh {s:String}(w:Bytes)(h:plainT s=true):tx w=cd s↔w=ascii s:=by
 rw[←u_ h];refine rK λc hc=>?_;unfold ascii at hc;obtain⟨d,hd,rfl⟩:=X4.mp hc;have:=(X1.mp h) d hd;rw[XB] at this;have lt:d.toNat < 256:=XR this.2;rw[UInt8.toNat_ofNat',Nat.mod_eq_of_lt lt];exact this.1
def d_ (w:W):Bool:=decide (1<=w.length)&&decide (w.length<=12)&&isLet (w.headD 0)&&w.all λc=>isLet c||bX c
theorem j7 (w:Bytes):d_ (tx w)=isName w:=by
 unfold d_ isName;rw[ig];have e1:((tx w).all λc=>isLet c||bX c)=w.all λc=>isSmall c||isDigit c:=by
  unfold tx;rw[ZE];congr 1;funext c;show (isLet (sg c.toNat)||bX (sg c.toNat))=_;rw[qA,pV];rfl
 rw[e1];cases w with
 |nil=>rfl
 |cons c r =>
  have e2:isLet ((tx (c::r)).headD 0)=(((c::r).head?.map isSmall).getD false):=by
   show isLet (sg c.toNat)=isSmall c;rw[qA];rfl
  rw[e2];unfold NAME;generalize decide (1<=(c::r).length)=a;generalize decide ((c::r).length<=12)=b;generalize ((c::r).head?.map isSmall).getD false=d;generalize ((c::r).all λc=>isSmall c||isDigit c)=f;cases a <;> cases b <;> cases d <;> cases f <;> rfl
def wW (w:W):Nat:=w.foldl (λn c=>10*n+(c - 48)) 0
def ay (w:W):Int :=
 if 7 < w.length∨w=[]∨w.all bX=false then -1 else if w.headD 0=48/\w≠[48] then -1 else (wW w:Int)
theorem zg:∀(w:Bytes) (n m:Nat),m<=n->m*10 ^ w.length<=w.foldl (λ(n:Nat) (c:UInt8)=>10*n+(c.toNat - 48)) n
 |[],n,m,h=>by simpa using h
 |c::w,n,m,h=>by
  have:=zg w (10*n+(c.toNat - 48)) (10*m) (by omega);rw[Y0,XG,Zz];have e:m*(10 ^ w.length*10)=10*m*10 ^ w.length:=by
   rw[ZM (10 ^ w.length) 10,←Nat.mul_assoc,ZM m 10]
  omega
theorem lN {w:Bytes}{n:Nat}(h:numberOf w=some n)(hl:7 < w.length):10000000<=n:=by
 unfold numberOf at h;split at h
 · cases h
 · rename_i hc;have Ox:¬(w.isEmpty=true)/\¬(w.all isDigit=false)/\¬(w.head?=some 48/\w≠[48]):=⟨λz=>hc (.inl z),λz=>hc (.inr (.inl z)),λz=>hc (.inr (.inr z))⟩;injection h with h;subst h
   match w,hl with
   |c::r,hl =>
    have hd:isDigit c=true:=by
     have:(c::r).all isDigit=true:=by simpa using Ox.2.1
     rw[ZI,XB] at this;exact this.1
    have c0:c≠48:=λe=>Ox.2.2 ⟨by rw[e];rfl,λq=>by rw[q] at hl;simp at hl⟩;unfold isDigit at hd;rw[XB,Y1,Y1] at hd;have h1:48<=c.toNat:=hd.1;have h2:c.toNat≠48:=λe=>c0 (jt e);have:=zg r (10*0+(c.toNat - 48)) 1 (by omega);rw[Y0];have p:10 ^ 7<=10 ^ r.length:=Zx (by decide) (by simp at hl;omega);have p7:(10:Nat) ^ 7=10000000:=by decide
    omega
theorem yD:∀(w:Bytes) (n:Nat),w.all isDigit=true->(tx w).foldl (λn c=>10*n+(c - 48)) n=w.foldl (λ(n:Nat) (c:UInt8)=>10*n+(c.toNat - 48)) n
 |[],_,_=>rfl
 |c::w,n,h=>by
  rw[ZI,XB] at h;have:sg c.toNat=c.toNat:=z_ h.1;rw[ud,Y0,Y0,this];exact yD w _ h.2
theorem xQ (w:Bytes):(tx w).all bX=w.all isDigit:=by
 unfold tx;rw[ZE];congr 1;funext c;exact pV c.toNat
theorem A2 (w:Bytes):ay (tx w)=if 7 < w.length then -1 else match numberOf w with
  |none=>-1
  |some n=>(n:Int):=by
 unfold ay numberOf;rw[ig,xQ];by_cases h7:7 < w.length
 · rw[Xw h7,Xw (.inl h7)]
 · rw[Xv h7];by_cases c1:w=[]
   · subst c1;rfl
   · have e1:¬tx w=[]:=λz=>c1 (by
      have:=YB List.length z;rw[ig] at this;exact Zk.mp this)
     have Px:¬w.isEmpty=true:=λz=>c1 (Y7.mp z);by_cases c2:w.all isDigit=false
     · rw[Xw (.inr (.inr c2)),Xw (.inr (.inl c2))]
     · rw[Xv (λz=>z.elim h7 λz=>z.elim e1 c2)];have N6:w.all isDigit=true:=by simpa using c2
       have k:((tx w).headD 0=48/\tx w≠[48])↔(w.head?=some 48/\w≠[48]):=by
        have a:tx w=[48]↔w=[48]:=rK (v:=[48]) (w:=w) (by decide)
        match w,c1 with
        |c::r,_ =>
         have b:(tx (c::r)).headD 0=48↔(c::r).head?=some 48:=by
          show sg c.toNat=48↔some c=some 48;rw[uI (by decide)];constructor
          · intro e;rw[jt (show c.toNat=(48:UInt8).toNat from e)]
          · intro e;injection e with e;rw[e];rfl
         rw[b];exact and_congr_right λ_=>not_congr a
       by_cases c3:w.head?=some 48/\w≠[48]
       · rw[Xw (k.mpr c3),Xw (.inr (.inr c3))]
       · rw[Xv (λz=>c3 (k.mp z)),Xv (λz=>z.elim Px λz=>z.elim c2 c3)];show ((wW (tx w):Nat):Int)=_;unfold wW;rw[yD w 0 N6]
theorem e_ {w:Bytes}{lo hi:Nat}(hh:hi < 10000000):((lo:Int)<=ay (tx w)/\ay (tx w)<=(hi:Int))↔∃n,numberOf w=some n/\lo<=n/\n<=hi/\ay (tx w)=(n:Int):=by
 rw[A2];by_cases h7:7 < w.length
 · rw[Xw h7];constructor
   · rintro⟨a,_⟩;omega
   · rintro⟨n,e,_,b,_⟩;have:=lN e h7;omega
 · rw[Xv h7];cases e:numberOf w with
   |none =>
    constructor
    · rintro⟨a,_⟩;have a':(lo:Int)<=-1:=a;omega
    · rintro⟨n,e,_⟩;cases e
   |some n =>
    constructor
    · rintro⟨a,b⟩;have a':(lo:Int)<=n:=a;have b':(n:Int)<=hi:=b;exact⟨n,rfl,by omega,by omega,rfl⟩
    · rintro⟨m,e,a,b,_⟩;injection e with e;subst e;show (lo:Int)<=n/\(n:Int)<=hi;omega
theorem dW {w:Bytes}{m:Nat}(hm:m < 10000000):ay (tx w)=(m:Int)↔numberOf w=some m:=by
 constructor
 · intro e;obtain⟨n,h1,h2,h3,_⟩:=(e_ (w:=w) (lo:=m) (hi:=m) hm).mp ⟨by omega,by omega⟩;have:n=m:=by omega
   subst this;exact h1
 · intro e;obtain⟨a,b⟩:=(e_ (w:=w) (lo:=m) (hi:=m) hm).mpr ⟨m,e,XD _,XD _,by
    rw[A2];by_cases h7:7 < w.length
    · have:=lN e h7;omega
    · rw[Xv h7,e]⟩
   omega
def aV (c:Nat):W->W->List W
 |w,[]=>[w]
 |w,x::r=>if x=c then w::aV c [] r else aV c (w++[x]) r
theorem iu {c:UInt8}(hc:t7 c.toNat=true):∀(l w:Bytes),aV c.toNat (tx w) (tx l)=(splitOn c w l).map tx
 |[],w=>rfl
 |x::r,w=>by
  rw[ud];unfold aV splitOn;by_cases e:x=c
  · rw[Xw ((uI hc).mpr (by rw[e])),Xw e,XN];have:=iu hc r [];rw[AM] at this;rw[this]
  · rw[Xv (λz=>e (jt ((uI hc).mp z))),Xv e];have:=iu hc r (w++[x]);rw[rD] at this;exact this
def Placed:Nat->List Word->Prop
 |_,[]=>True
 |p,w::r=>w.at_=p/\Placed (p+w.w.length+1) r
theorem words_of:∀(l w:Bytes) (p q:Nat),w.length<=p->badByte w.isEmpty q l=none->(wordsFrom p w l).map (·.w)=splitOn 32 w l/\Placed (p - w.length) (wordsFrom p w l)
 |[],w,p,q,hl,h=>by
  unfold badByte at h;by_cases e:w.isEmpty=true
  · rw[Xw e] at h;cases h
  · unfold wordsFrom;rw[Xv e];exact⟨rfl,rfl,trivial⟩
 |c::r,w,p,q,hl,h=>by
  unfold badByte at h;by_cases c1:c < 32∨126 < c
  · rw[Xw c1] at h;cases h
  · rw[Xv c1] at h;unfold wordsFrom splitOn;by_cases c2:c=32
    · rw[Xw c2] at h;by_cases e:w.isEmpty=true
      · rw[Xw e] at h;cases h
      · rw[Xv e] at h;by_cases e2:r.isEmpty=true
        · rw[Xw e2] at h;cases h
        · rw[Xv e2] at h;obtain⟨a,b⟩:=words_of r [] (p+1) (q+1) (X2 _) h;rw[Xw c2,Xw c2,XN,a];refine⟨rfl,rfl,?_⟩;have:p - w.length+w.length+1=p+1 - ([]:Bytes).length:=by simp;omega
          show Placed (p - w.length+w.length+1) _;rw[this];exact b
    · rw[Xv c2] at h;have e:(w++[c]).isEmpty=false:=by simp
      rw[←e] at h;obtain⟨a,b⟩:=words_of r (w++[c]) (p+1) (q+1) (by simp;omega) h;rw[Xv c2,Xv c2,a];refine⟨rfl,?_⟩;have:p - w.length=p+1 - (w++[c]).length:=by rw[XT,YI];omega
      rw[this];exact b
def A_ (w:Bytes):Prop:=w≠[]/\∀c∈w,32 < c/\c<=126
theorem xW:∀(l w:Bytes) (q:Nat),(∀v∈splitOn 32 w l,A_ v)->(∀c∈w,32 < c/\c<=126)->badByte w.isEmpty q l=none
 |[],w,q,h,_=>by
  have:=h w (by simp[splitOn]);unfold badByte;rw[Xv (λz=>this.1 (Y7.mp z))]
 |c::r,w,q,h,hw=>by
  unfold splitOn at h;unfold badByte;by_cases c2:c=32
  · rw[Xw c2] at h;have pw:=h w (by simp);have e:¬w.isEmpty=true:=λz=>pw.1 (Y7.mp z);rw[Xv (by rw[c2];decide),Xw c2,Xv e];have hr:¬r.isEmpty=true:=λz=>by
     have:r=[]:=Y7.mp z;subst this;have:=h [] (by simp[splitOn]);exact this.1 rfl
    rw[Xv hr];exact xW r [] (q+1) (λv hv=>h v (by simp[hv])) (by simp)
  · rw[Xv c2] at h;have hc:32 < c/\c<=126:=by
     have first:∀(l w:Bytes),∃v∈splitOn 32 w l,∃t,v=w++t:=λl=>by
      induction l with
      |nil=>exact λw=>⟨w,by simp[splitOn],[],by simp⟩
      |cons d l ih =>
       intro w;unfold splitOn;by_cases e:d=32
       · rw[Xw e];exact⟨w,by simp,[],by simp⟩
       · rw[Xv e];obtain⟨v,hv,t,rfl⟩:=ih (w++[d]);exact⟨_,hv,d::t,by simp⟩
     obtain⟨v,hv,t,e⟩:=first r (w++[c])
     exact (h v hv).2 c (by rw[e];simp)
    have n1:¬(c < 32∨126 < c):=by
     rintro (z|z)
     · exact absurd (Nat.lt_trans (show c.toNat < 32 from z) (show 32 < c.toNat from hc.1)) (YQ _)
     · exact absurd (Yb (show 126 < c.toNat from z) (show c.toNat<=126 from hc.2)) (YQ _)
    rw[Xv n1,Xv c2];have e:(w++[c]).isEmpty=false:=by simp
    rw[←e];exact xW r (w++[c]) (q+1) h λd hd=>by
     rcases Yk.mp hd with z|z
     · exact hw d z
     · have:d=c:=by simpa using z
       exact this ▸ hc
theorem aE {ε α β:Type}{x:Except ε α}{f:α->Except ε β}{y:β}:(x >>= f)=.ok y↔∃a,x=.ok a/\f a=.ok y:=by
 cases x with
 |error e=>exact⟨λh=>(nomatch h),λ⟨_,h,_⟩=>(nomatch h)⟩
 |ok a=>exact⟨λh=>⟨a,rfl,h⟩,λ⟨_,h,k⟩=>by cases h;exact k⟩
theorem oJ {e:Nat}{l:List Word}{x:Word×List Word}:next e l=.ok x↔l=x.1::x.2:=by
 cases l with
 |nil=>exact⟨λh=>(nomatch h),λh=>(nomatch h)⟩
 |cons w r =>
  constructor
  · intro h;injection h with h;rw[←h]
  · intro h;injection h with h1 h2;subst h1;subst h2;rfl
theorem cX {e:Nat}{s:String}{l r:List Word}:must e s l=.ok r↔∃w,l=w::r/\w.w=ascii s:=by
 unfold must;rw[aE];constructor
 · rintro⟨x,h,k⟩;have h:=oJ.mp h;split at k
   · rename_i c;injection k with k;exact⟨x.1,by rw[h,k],c⟩
   · cases k
 · rintro⟨w,rfl,c⟩;exact⟨(w,r),rfl,by rw[Xw c];rfl⟩
theorem bw {e lo hi:Nat}{l:List Word}{x:(Nat×Nat)×List Word}:number e lo hi l=.ok x↔∃w,l=w::x.2/\numberOf w.w=some x.1.1/\lo<=x.1.1/\x.1.1<=hi/\x.1.2=w.at_:=by
 unfold number;rw[aE];constructor
 · rintro⟨y,h,k⟩;have h:=oJ.mp h;cases c:numberOf y.1.w with
   |none=>rw[c] at k;cases k
   |some n =>
    rw[c] at k;dsimp only at k;split at k
    · cases k
    · rename_i b;injection k with k;subst k;exact⟨y.1,h,c,by dsimp only;omega,by dsimp only;omega,rfl⟩
 · rintro⟨w,rfl,c,h1,h2,h3⟩;refine⟨(w,x.2),rfl,?_⟩;dsimp only;rw[c];dsimp only;rw[Xv (by omega)];show Except.ok ((x.1.1,w.at_),x.2)=Except.ok x;rw[←h3]
theorem dJ {b:Bool}{k p:Nat}{u:Unit}:holds b k p=.ok u↔b=true:=by
 unfold holds;by_cases c:b=true
 · rw[Xw c];exact⟨λ_=>c,λ_=>rfl⟩
 · rw[Xv c];exact⟨λh=>(nomatch h),λh=>absurd h c⟩
theorem jX {l:List Word}{u:Unit}:closed l=.ok u↔l=[]:=by
 cases l with
 |nil=>exact⟨λ_=>rfl,λ_=>rfl⟩
 |cons=>exact⟨λh=>(nomatch h),λh=>(nomatch h)⟩
theorem iR {e:Nat}{had:List Bytes}{l:List Word}{x:Bytes×List Word}:newName e had l=.ok x↔∃w,l=w::x.2/\isName w.w=true/\had.contains w.w=false/\x.1=w.w:=by
 unfold newName;rw[aE];constructor
 · rintro⟨y,h,k⟩;have h:=oJ.mp h;split at k
   · cases k
   · rename_i c1;split at k
     · cases k
     · rename_i c2;injection k with k;subst k;exact⟨y.1,h,by simpa using c1,by simpa using c2,rfl⟩
 · rintro⟨w,rfl,c1,c2,c3⟩;refine⟨(w,x.2),rfl,?_⟩;dsimp only;rw[Xv (by rw[c1];decide),Xv (by rw[c2];decide),←c3];rfl
theorem l_ {α:Type}{e:Nat}{t:List (α×String)}{l:List Word}{x:(α×Nat)×List Word} :
  oneOf e t l=.ok x↔∃w y,l=w::x.2/\(t.find? λ(y:α×String)=>ascii y.2==w.w)=some y/\x.1=(y.1,w.at_):=by
 unfold oneOf;rw[aE];constructor
 · rintro⟨y,h,k⟩;have h:=oJ.mp h;cases c:(t.find? λ(z:α×String)=>ascii z.2==y.1.w) with
   |none=>rw[c] at k;cases k
   |some z =>
    rw[c] at k;injection k with k;subst k;exact⟨y.1,z,h,c,rfl⟩
 · rintro⟨w,y,rfl,c,h3⟩;refine⟨(w,x.2),rfl,?_⟩;dsimp only;rw[c];show Except.ok ((y.1,w.at_),x.2)=Except.ok x;rw[←h3]
def dg (runners:Nat):List W->aaf->aaf->Option (aaf)
 |[],_,ss=>some ss
 |c::a::b::r,fs,ss =>
  if c=cd "couple"/\1<=ay a/\ay a < ay b/\ay b<=(runners:Int)/\¬(ay a).toNat∈ss/\¬(ay b).toNat∈fs/\¬(ay b).toNat∈ss
  then dg runners r (fs++[(ay a).toNat]) (ss++[(ay b).toNat]) else none
 |_,_,_=>none
def dC (runners:Nat)(ss:aaf):aaf:=((List.range runners).map λi=>i+1).filter λn=>!ss.contains n
def bC (ws:List W):Option (aaf) :=
 match ws with
 |_::n::r=>if r.length % 3=0/\r.length<=24/\2<=ay n/\ay n<=24 then (dg (ay n).toNat r [] []).map (dC (ay n).toNat) else none
 |_=>none
structure BH (had:List (Nat×Nat))(fs ss:aaf):Prop where
 f:∀x,(∃y,(x,y)∈had)↔x∈fs
 s:∀y,(∃x,(x,y)∈had)↔y∈ss
 lt:∀x y,(x,y)∈had->x < y
theorem fB {c x:Nat×Nat}:∀{l:List (Nat×Nat)},x∈putB c l↔x=c∨x∈l
 |[]=>by simp[putB]
 |y::l=>by
  unfold putB;by_cases h:c.2 < y.2
  · rw[Xw h];simp
  · rw[Xv h,Xy,fB (l:=l),Xy];constructor
    · rintro (h|h|h) <;> simp[h]
    · rintro (h|h|h) <;> simp[h]
theorem BH.put {had:List (Nat×Nat)}{fs ss:aaf}(h:BH had fs ss){a b:Nat}(lt:a < b):BH (putB (a,b) had) (fs++[a]) (ss++[b]) where
 f:=λx=>by
  rw[Yk,←h.f x];constructor
  · rintro⟨y,hy⟩;rcases fB.mp hy with e|e
    · injection e with e1 e2;subst e1;exact .inr (by simp)
    · exact .inl ⟨y,e⟩
  · rintro (⟨y,hy⟩|e)
    · exact⟨y,fB.mpr (.inr hy)⟩
    · have:x=a:=by simpa using e
      subst this;exact⟨b,fB.mpr (.inl rfl)⟩
 s:=λy=>by
  rw[Yk,←h.s y];constructor
  · rintro⟨x,hx⟩;rcases fB.mp hx with e|e
    · injection e with e1 e2;subst e2;exact .inr (by simp)
    · exact .inl ⟨x,e⟩
  · rintro (⟨x,hx⟩|e)
    · exact⟨x,fB.mpr (.inr hx)⟩
    · have:y=b:=by simpa using e
      subst this;exact⟨a,fB.mpr (.inl rfl)⟩
 lt:=λx y Uc=>by
  rcases fB.mp Uc with e|e
  · injection e with e1 e2;subst e1;subst e2;exact lt
  · exact h.lt x y e
theorem BH.JM {had:List (Nat×Nat)}{fs ss:aaf}(h:BH had fs ss)(a:Nat):(had.any λx=>x.2==a)=true↔a∈ss:=by
 rw[Y8,←h.s a];constructor
 · rintro⟨⟨x,y⟩,hx,e⟩;have:y=a:=by simpa using e
   subst this;exact⟨x,hx⟩
 · rintro⟨x,hx⟩;exact⟨(x,a),hx,by simp⟩
theorem BH.Jp {had:List (Nat×Nat)}{fs ss:aaf}(h:BH had fs ss)(b:Nat):(had.any λx=>x.1==b||x.2==b)=true↔b∈fs∨b∈ss:=by
 rw[Y8,←h.s b,←h.f b];constructor
 · rintro⟨⟨x,y⟩,hx,e⟩;have:x=b∨y=b:=by simpa using e
   rcases this with rfl|rfl
   · exact .inl ⟨y,hx⟩
   · exact .inr ⟨x,hx⟩
 · rintro (⟨y,hx⟩|⟨x,hx⟩)
   · exact⟨(b,y),hx,by simp⟩
   · exact⟨(x,b),hx,by simp⟩
def ng (l:List Word):List W:=l.map λw=>tx w.w
theorem nM {e runners k:Nat}{had LP:List (Nat×Nat)}{l:List Word}:l≠[]->(couplesIn e runners (k+1) had l=.ok LP ↔
  ∃c a b r na nb,l=c::a::b::r/\c.w=ascii "couple"/\numberOf a.w=some na/\1<=na/\na<=runners/\(had.any λx=>x.2==na)=false /\
   numberOf b.w=some nb/\1<=nb/\nb<=runners/\na < nb/\(had.any λx=>x.1==nb||x.2==nb)=false/\couplesIn e runners k (putB (na,nb) had) r=.ok LP):=by
 intro hl;have he:¬l.isEmpty=true:=λz=>hl (Y7.mp z);have step:couplesIn e runners (k+1) had l=(do
  let m ←must e "couple" l
  let a ←number e 1 runners m
  let _ ←holds (!(had.any λ(x:Nat×Nat)=>x.2==a.1.1)) 4 a.1.2
  let b ←number e 1 runners a.2
  let _ ←holds (decide (a.1.1 < b.1.1)&&!(had.any λ(x:Nat×Nat)=>x.1==b.1.1||x.2==b.1.1)) 4 b.1.2
  couplesIn e runners k (putB (a.1.1,b.1.1) had) b.2):=Xv he
 rw[step,aE];constructor
 · rintro⟨m,hm,h0⟩;obtain⟨c,Ud,hc⟩:=cX.mp hm;obtain⟨a,ha,h1⟩:=aE.mp h0;obtain⟨wa,Ma,a1,a2,a3,a4⟩:=bw.mp ha;obtain⟨_,g1,h2⟩:=aE.mp h1;have g1:=dJ.mp g1;obtain⟨b,hb,h3⟩:=aE.mp h2;obtain⟨wb,Oy,b1,b2,b3,b4⟩:=bw.mp hb;obtain⟨_,g2,h4⟩:=aE.mp h3;have g2:=dJ.mp g2;rw[XB,Y1] at g2;exact⟨c,wa,wb,b.2,a.1.1,b.1.1,by rw[Ud,Ma,Oy],hc,a1,a2,a3,by simpa using g1,b1,b2,b3,g2.1,by simpa using g2.2,h4⟩
 · rintro⟨c,a,b,r,na,nb,rfl,hc,a1,a2,a3,a4,b1,b2,b3,b4,b5,h⟩;refine⟨_,cX.mpr ⟨c,rfl,hc⟩,?_⟩;refine aE.mpr ⟨((na,a.at_),b::r),bw.mpr ⟨a,rfl,a1,a2,a3,rfl⟩,?_⟩;refine aE.mpr ⟨(),dJ.mpr (by rw[a4];rfl),?_⟩;refine aE.mpr ⟨((nb,b.at_),r),bw.mpr ⟨b,rfl,b1,b2,b3,rfl⟩,?_⟩;exact aE.mpr ⟨(),dJ.mpr (by rw[b5,X_ b4];rfl),h⟩
theorem fF {e runners:Nat}(hr:runners<=24):∀(k:Nat) (had:List (Nat×Nat)) (fs ss:aaf) (l:List Word),BH had fs ss ->
  (∀LP,couplesIn e runners k had l=.ok LP->l.length<=3*k/\∃Mb Mc,dg runners (ng l) fs ss=some Mc/\BH LP Mb Mc) /\
  (∀Mc,l.length<=3*k->dg runners (ng l) fs ss=some Mc->∃LP,couplesIn e runners k had l=.ok LP)
 |0,had,fs,ss,l,hd=>by
  cases l with
  |nil=>exact⟨λLP h=>by injection h with h;subst h;exact⟨XD _,fs,ss,rfl,hd⟩,λ_ _ _=>⟨had,rfl⟩⟩
  |cons w r =>
   constructor
   · intro LP h;have h:(if w.w=ascii "couple" then Except.error ⟨6,w.at_⟩ else Except.error ⟨3,w.at_⟩:Except Fault (List (Nat×Nat)))=.ok LP:=h;by_cases c:w.w=ascii "couple"
     · rw[Xw c] at h;cases h
     · rw[Xv c] at h;cases h
   · intro _ h;simp at h
 |k+1,had,fs,ss,[],hd=>⟨λLP h=>by
   have h:Except.ok had=Except.ok LP:=h;injection h with h;subst h;exact⟨X2 _,fs,ss,rfl,hd⟩,λ_ _ _=>⟨had,rfl⟩⟩
 |k+1,had,fs,ss,w::l,hd=>by
  constructor
  · intro LP h;obtain⟨c,a,b,r,na,nb,el,hc,a1,a2,a3,a4,b1,b2,b3,b4,b5,h⟩:=(nM (by simp)).mp h;have hd2:=hd.put b4;obtain⟨hl,Mb,Mc,h1,h2⟩:=(fF hr k _ _ _ r hd2).1 LP h;rw[el];refine⟨by simp only[XG];omega,Mb,Mc,?_,h2⟩;show dg runners (tx c.w::tx a.w::tx b.w::ng r) fs ss=_;have ea:ay (tx a.w)=(na:Int):=(dW (by omega)).mpr a1;have eb:ay (tx b.w)=(nb:Int):=(dW (by omega)).mpr b1;unfold dg;rw[ea,eb,Yg,Yg];have n1:¬na∈ss:=λz=>by rw[(hd.JM na).mpr z] at a4;cases a4
    have n2:¬(nb∈fs∨nb∈ss):=λz=>by rw[(hd.Jp nb).mpr z] at b5;cases b5
    rw[Xw ⟨(bh _ (by decide)).mpr hc,by omega,by omega,by omega,n1,λz=>n2 (.inl z),λz=>n2 (.inr z)⟩];exact h1
  · intro Mc hl h
    match l,hl,h with
    |[],_,h=>cases h
    |[_],_,h=>cases h
    |a::b::r,hl,h =>
     have h:dg runners (tx w.w::tx a.w::tx b.w::ng r) fs ss=some Mc:=h;unfold dg at h;split at h
     · rename_i q;obtain⟨q1,q2,q3,q4,q5,q6,q7⟩:=q;obtain⟨na,a1,a2,a3,a4⟩:=(e_ (w:=a.w) (lo:=1) (hi:=24) (by decide)).mp ⟨q2,by omega⟩;obtain⟨nb,b1,b2,b3,b4⟩:=(e_ (w:=b.w) (lo:=1) (hi:=24) (by decide)).mp ⟨by omega,by omega⟩;rw[a4,b4,Yg,Yg] at h;rw[a4,Yg] at q5;rw[b4,Yg] at q6 q7;have lt:na < nb:=by omega
       obtain⟨LP,h'⟩:=(fF hr k _ _ _ r (hd.put lt)).2 Mc (by simp only[XG] at hl;omega) h;refine⟨LP,(nM (by simp)).mpr ⟨w,a,b,r,na,nb,rfl,(bh _ (by decide)).mp q1,a1,a2,by omega,?_,b1,b2,by omega,lt,?_,h'⟩⟩
       · cases c:(had.any λx=>x.2==na) with
         |false=>rfl
         |true=>exact absurd ((hd.JM na).mp c) q5
       · cases c:(had.any λx=>x.1==nb||x.2==nb) with
         |false=>rfl
         |true=>exact absurd ((hd.Jp nb).mp c) λz=>z.elim q6 q7
     · cases h
theorem vc:∀{runners:Nat} (l:List W) (fs ss Mc:aaf),dg runners l fs ss=some Mc->l.length % 3=0
 |_,[],_,_,_,_=>rfl
 |_,[_],_,_,_,h=>by cases h
 |_,[_,_],_,_,_,h=>by cases h
 |runners,c::a::b::r,fs,ss,Mc,h=>by
  unfold dg at h;split at h
  · have:=vc r _ _ _ h;simp only[XG];omega
  · cases h
theorem vQ {n:Nat}{had:List (Nat×Nat)}{fs ss:aaf}(hd:BH had fs ss):Race.heads ⟨n,had⟩=dC n ss:=by
 unfold Race.heads dC;refine List.filter_congr λx _=>?_;unfold Race.head;cases c:had.find? (λc=>c.2==x) with
 |none =>
  have:¬x∈ss:=λz=>by
   obtain⟨y,hy⟩:=(hd.s x).mpr z;have:=List.find?_eq_none.mp c (y,x) hy;simp at this
  simp[this]
 |some z =>
  obtain⟨a,b⟩:=z;have h1:=List.mem_of_find?_eq_some c;have h2:=List.find?_some c;have h2:b=x:=by simpa using h2
  subst h2;have:=hd.lt a b h1;have hb:b∈ss:=(hd.s b).mp ⟨a,h1⟩;have e1:(a==b)=false:=by
   rw[X3];omega
  simp[hb,e1]
theorem vz {e:Nat}{w:Word}{l:List Word}:(∀r,raceIn e l=.ok r->bC (ng (w::l))=some r.heads)/\(∀hs,bC (ng (w::l))=some hs->∃r,raceIn e l=.ok r/\r.heads=hs):=by
 have nil:BH [] [] []:=⟨by simp,by simp,by simp⟩;constructor
 · intro r h;unfold raceIn at h;obtain⟨n,hn,h0⟩:=aE.mp h;obtain⟨wn,Ue,a1,a2,a3,a4⟩:=bw.mp hn;obtain⟨c,hc,h1⟩:=aE.mp h0;injection h1 with h1;subst h1;rw[Ue];have a3:n.1.1<=24:=a3;obtain⟨hl,Mb,Mc,h1,h2⟩:=(fF a3 8 [] [] [] n.2 nil).1 c hc;have en:ay (tx wn.w)=(n.1.1:Int):=(dW (by omega)).mpr a1;show bC (tx w.w::tx wn.w::ng n.2)=_;unfold bC;dsimp only;rw[en,Yg,h1];have:=vc _ _ _ _ h1;have len:(ng n.2).length=n.2.length:=Xu ..;rw[Xw ⟨this,by omega,by omega,by omega⟩,vQ h2];rfl
 · intro hs h
   match l,h with
   |wn::l,h =>
    have h:bC (tx w.w::tx wn.w::ng l)=some hs:=h;unfold bC at h;dsimp only at h;split at h
    · rename_i q;obtain⟨q1,q2,q3,q4⟩:=q;obtain⟨n,a1,a2,a3,a4⟩:=(e_ (w:=wn.w) (lo:=2) (hi:=24) (by decide)).mp ⟨q3,q4⟩;rw[a4,Yg] at h;cases c:dg n (ng l) [] [] with
      |none=>rw[c] at h;cases h
      |some ss =>
       rw[c] at h;injection h with h;have len:(ng l).length=l.length:=Xu ..;obtain⟨had,hh⟩:=(fF (e:=e) (runners:=n) a3 8 [] [] [] l nil).2 ss (by omega) c;obtain⟨_,Mb,Mc,h1,h2⟩:=(fF (e:=e) (runners:=n) a3 8 [] [] [] l nil).1 had hh;rw[c] at h1;injection h1 with h1;subst h1;refine⟨⟨n,had⟩,?_,by rw[vQ h2];exact h⟩;unfold raceIn;refine aE.mpr ⟨((n,wn.at_),l),bw.mpr ⟨wn,rfl,a1,a2,a3,rfl⟩,?_⟩;exact aE.mpr ⟨had,hh,rfl⟩
    · cases h
theorem qc {n:Nat}(hn:n<=24)(ss:aaf):cP (dC n ss) where
 rise:=by
  refine List.Pairwise.filter _ (List.Pairwise.map _ (λa b (h:a < b)=>?_) List.pairwise_lt_range);show a+1 < b+1;omega
 lo:=λx hx=>by
  obtain⟨h,_⟩:=YE.mp hx;obtain⟨i,_,rfl⟩:=X4.mp h;omega
 hi:=λx hx=>by
  obtain⟨h,_⟩:=YE.mp hx;obtain⟨i,hi,rfl⟩:=X4.mp h;have:=Zi.mp hi;omega
theorem AA {ws:List W}{hs:aaf}(h:bC ws=some hs):cP hs:=by
 unfold bC at h;split at h
 · rename_i w0 n r;split at h
   · rename_i q;cases c:dg (ay n).toNat r [] [] with
     |none=>rw[c] at h;cases h
     |some ss =>
      rw[c] at h;injection h with h;subst h;exact qc (by omega) _
   · cases h
 · cases h
structure aK where
 name:W
 kind:Kind
 fields:aae
 unit:Nat
def kindS:Kind->String
 |.place=>"place"
 |.order=>"order"
 |.any=>"any"
 |.legs=>"legs"
def dE (w:W):Option Kind :=
 if w=cd "place" then some .place else if w=cd "order" then some .order else if w=cd "any" then some .any else if w=cd "legs" then some .legs else none
def fw (kind:Kind)(k rc:Nat)(races:aae):aae :=
 match kind with
 |.legs=>(races.drop (rc - 1)).take k
 |.place=>[races.getD (rc - 1) []]
 |_=>List.replicate k (races.getD (rc - 1) [])
def dD (races:aae)(kind:Kind)(p nm k fr rc tk t br b le m un u no z:W):Prop :=
 p=cd "pool"/\fr=cd "from"/\tk=cd "take"/\br=cd "break"/\le=cd "least"/\un=cd "unit"/\no=cd "none"/\d_ nm=true /\
 (0<=ay t/\ay t<=400)/\(1<=ay b/\ay b<=1000)/\(1<=ay u/\ay u<=10000)/\(ay m=0∨(ay u<=ay m/\ay m<=2*ay u)) /\
 ((z=cd "fewer"/\kind≠.place)∨z=cd "refund"∨z=cd "carry")/\((leastK kind:Int)<=ay k/\ay k<=(mostK kind:Int))/\(1<=ay rc/\ay rc<=(races.length:Int)) /\
 ((kind=.legs/\ay rc+ay k - 1<=(races.length:Int))∨(kind≠.legs/\ay k<=((races.getD (ay rc - 1).toNat []).length:Int)))
instance (races:aae)(kind:Kind)(p nm k fr rc tk t br b le m un u no z:W):Decidable (dD races kind p nm k fr rc tk t br b le m un u no z):=by
 unfold dD;infer_instance
def eX (ws:List W)(races:aae):Option aK :=
 match ws with
 |[p,nm,kd,k,fr,rc,tk,t,br,b,le,m,un,u,no,z] =>
  match dE kd with
  |none=>none
  |some kind=>if dD races kind p nm k fr rc tk t br b le m un u no z then some ⟨nm,kind,fw kind (ay k).toNat (ay rc).toNat races,(ay u).toNat⟩ else none
 |_=>none
def fieldsOf (C:Card)(p:Pool):aae:=if p.kind=.legs then C.sets p else List.replicate p.places (C.headsOf p.race)
def aA (C:Card)(p:Pool):aK:=⟨tx p.name,p.kind,fieldsOf C p,p.unit⟩
def rh (C:Card):aae:=C.races.map Race.heads
structure dX (C:Card)(p:Pool):Prop where
 name:isName p.name=true
 IK:leastK p.kind<=p.k
 Ge:p.k<=mostK p.kind
 El:1<=p.race
 K5:p.race<=C.races.length
 legs:p.kind=.legs->p.race+p.k<=C.races.length+1
 vY:p.kind≠.legs->p.k<=(C.headsOf p.race).length
 unit:1<=p.unit
 Li:p.unit<=10000
theorem oT {w:Bytes}{y:Kind×String}:(KINDS.find? λ(x:Kind×String)=>ascii x.2==w)=some y↔dE (tx w)=some y.1/\y.2=kindS y.1:=by
 have a1:=bh (s:="place") w (by decide);have a2:=bh (s:="order") w (by decide);have a3:=bh (s:="any") w (by decide);have a4:=bh (s:="legs") w (by decide);unfold dE KINDS;obtain⟨yk,ys⟩:=y;simp only[Y9,List.find?_nil];by_cases c1:w=ascii "place"
 · have:(ascii "place"==w)=true:=by rw[c1];simp
   rw[this,Xw (a1.mpr c1)];constructor
   · intro h;injection h with h;injection h with h1 h2;subst h1;subst h2;exact⟨rfl,rfl⟩
   · rintro⟨h1,h2⟩;injection h1 with h1;have h1:Kind.place=yk:=h1;subst h1;have h2:ys="place":=h2;subst h2;rfl
 · have e1:(ascii "place"==w)=false:=by rw[X3];exact λz=>c1 z.symm
   rw[e1,Xv (λz=>c1 (a1.mp z))];by_cases c2:w=ascii "order"
   · have:(ascii "order"==w)=true:=by rw[c2];simp
     rw[this,Xw (a2.mpr c2)];constructor
     · intro h;injection h with h;injection h with h1 h2;subst h1;subst h2;exact⟨rfl,rfl⟩
     · rintro⟨h1,h2⟩;injection h1 with h1;have h1:Kind.order=yk:=h1;subst h1;have h2:ys="order":=h2;subst h2;rfl
   · have e2:(ascii "order"==w)=false:=by rw[X3];exact λz=>c2 z.symm
     rw[e2,Xv (λz=>c2 (a2.mp z))];by_cases c3:w=ascii "any"
     · have:(ascii "any"==w)=true:=by rw[c3];simp
       rw[this,Xw (a3.mpr c3)];constructor
       · intro h;injection h with h;injection h with h1 h2;subst h1;subst h2;exact⟨rfl,rfl⟩
       · rintro⟨h1,h2⟩;injection h1 with h1;have h1:Kind.any=yk:=h1;subst h1;have h2:ys="any":=h2;subst h2;rfl
     · have e3:(ascii "any"==w)=false:=by rw[X3];exact λz=>c3 z.symm
       rw[e3,Xv (λz=>c3 (a3.mp z))];by_cases c4:w=ascii "legs"
       · have:(ascii "legs"==w)=true:=by rw[c4];simp
         rw[this,Xw (a4.mpr c4)];constructor
         · intro h;injection h with h;injection h with h1 h2;subst h1;subst h2;exact⟨rfl,rfl⟩
         · rintro⟨h1,h2⟩;injection h1 with h1;have h1:Kind.legs=yk:=h1;subst h1;have h2:ys="legs":=h2;subst h2;rfl
       · have e4:(ascii "legs"==w)=false:=by rw[X3];exact λz=>c4 z.symm
         rw[e4,Xv (λz=>c4 (a4.mp z))];exact⟨λh=>(nomatch h),λh=>(nomatch h.1)⟩
theorem oS {w:Bytes}{kind:Kind}:(∃y,((if kind=.place then NONES.take 2 else NONES).find? λ(x:None_×String)=>ascii x.2==w)=some y) ↔
  ((tx w=cd "fewer"/\kind≠.place)∨tx w=cd "refund"∨tx w=cd "carry"):=by
 have a1:=bh (s:="fewer") w (by decide);have a2:=bh (s:="refund") w (by decide);have a3:=bh (s:="carry") w (by decide);rw[a1,a2,a3,←ZH,List.find?_isSome];constructor
 · rintro⟨x,hx,e⟩;have e:ascii x.2=w:=by simpa using e
   by_cases c:kind=.place
   · rw[Xw c] at hx;have hx:x=(.refund,"refund")∨x=(.carry,"carry"):=by simpa [NONES] using hx
     rcases hx with rfl|rfl
     · exact .inr (.inl e.symm)
     · exact .inr (.inr e.symm)
   · rw[Xv c] at hx;have hx:x=(.refund,"refund")∨x=(.carry,"carry")∨x=(.fewer,"fewer"):=by simpa [NONES] using hx
     rcases hx with rfl|rfl|rfl
     · exact .inr (.inl e.symm)
     · exact .inr (.inr e.symm)
     · exact .inl ⟨e.symm,c⟩
 · rintro (⟨e,c⟩|e|e)
   · exact⟨(.fewer,"fewer"),by rw[Xv c];simp[NONES],by simp[e]⟩
   · refine⟨(.refund,"refund"),?_,by simp[e]⟩;split <;> simp[NONES]
   · refine⟨(.carry,"carry"),?_,by simp[e]⟩;split <;> simp[NONES]
theorem jR (C:Card)(r:Nat)(_:1<=r):C.headsOf r=(rh C).getD (r - 1) []:=by
 unfold Card.headsOf rh;rw[Yd,Xz]
theorem rN (C:Card)(p:Pool)(hk:p.kind=.legs)(h1:1<=p.race)(h2:p.race+p.k<=C.races.length+1):C.sets p=((rh C).drop (p.race - 1)).take p.k:=by
 unfold Card.sets Pool.legs;rw[Xw hk];have len:(rh C).length=C.races.length:=Xu ..
 apply ZR
 intro i;rw[Xz,List.getElem?_take,List.getElem?_drop];by_cases c:i < p.k
 · rw[Ze c,Xw c];show some (C.headsOf (p.race+i))=_;rw[jR C _ (by omega),Yd];have e:p.race+i - 1=p.race - 1+i:=by omega
   rw[e];have lt:p.race - 1+i < (rh C).length:=by omega
   rw[XE lt];rfl
 · rw[Xv c,Yy (by simp;omega)];rfl
theorem Ad {C:Card}{p:Pool}(h:dX C p):fieldsOf C p=fw p.kind p.k p.race (rh C):=by
 unfold fieldsOf fw;cases hk:p.kind with
 |legs=>rw[Xw rfl];exact rN C p hk h.El (h.legs hk)
 |place =>
  rw[Xv (by decide)];unfold Pool.places;rw[Xw hk,jR C _ h.El];rfl
 |order =>
  rw[Xv (by decide)];unfold Pool.places;rw[Xv (by rw[hk];decide),jR C _ h.El]
 |any =>
  rw[Xv (by decide)];unfold Pool.places;rw[Xv (by rw[hk];decide),jR C _ h.El]
theorem Bz {e:Nat}{C:Card}{w:Word}{l:List Word}{p:Pool}(hC:C.races.length<=16)(hw:w.w=ascii "pool")(h:poolIn e C l=.ok p) :
  dX C p/\(C.pools.map λ(p:Pool)=>p.name).contains p.name=false/\eX (ng (w::l)) (rh C)=some (aA C p):=by
 unfold poolIn at h;obtain⟨n,x1,h1⟩:=aE.mp h;obtain⟨wn,e1,Si,Ug,Qv⟩:=iR.mp x1;obtain⟨kd,x2,h2⟩:=aE.mp h1;obtain⟨wk,yk,e2,kf,kx⟩:=l_.mp x2;obtain⟨k,x3,h3⟩:=aE.mp h2;obtain⟨N7,e3,k1,k2,k3,k4⟩:=bw.mp x3;obtain⟨l4,x4,h4⟩:=aE.mp h3;obtain⟨Qw,e4,f1⟩:=cX.mp x4;obtain⟨r,x5,h5⟩:=aE.mp h4;obtain⟨wr,e5,r1,r2,r3,r4⟩:=bw.mp x5;obtain⟨_,x6,h6⟩:=aE.mp h5;have y6:=dJ.mp x6;obtain⟨_,x7,h7⟩:=aE.mp h6;have y7:=dJ.mp x7;obtain⟨l8,x8,h8⟩:=aE.mp h7;obtain⟨Qx,e8,f8⟩:=cX.mp x8;obtain⟨t,x9,h9⟩:=aE.mp h8;obtain⟨wt,e9,t1,t2,t3,t4⟩:=bw.mp x9;obtain⟨Uh,Ui,Qy⟩:=aE.mp h9;obtain⟨Qz,Uj,Uk⟩:=cX.mp Ui;obtain⟨b,Ul,QA⟩:=aE.mp Qy;obtain⟨wb,Um,b1,b2,b3,b4⟩:=bw.mp Ul;obtain⟨Uo,Up,Uq⟩:=aE.mp QA;obtain⟨QB,MS,Ur⟩:=cX.mp Up;obtain⟨m,Us,Ut⟩:=aE.mp Uq;obtain⟨wm,Oz,m1,m2,m3,m4⟩:=bw.mp Us;obtain⟨Uu,Uv,Uw⟩:=aE.mp Ut;obtain⟨QC,Ux,Uy⟩:=cX.mp Uv;obtain⟨u,Uz,UA⟩:=aE.mp Uw;obtain⟨wu,UB,u1,u2,u3,u4⟩:=bw.mp Uz;obtain⟨_,UC,Ng⟩:=aE.mp UA;have Sj:=dJ.mp UC;obtain⟨l17,UD,UE⟩:=aE.mp Ng;obtain⟨QD,UG,UH⟩:=cX.mp UD;obtain⟨z,UI,UJ⟩:=aE.mp UE;obtain⟨wz,yz,UK,z1,z2⟩:=l_.mp UI;obtain⟨_,UL,OA⟩:=aE.mp UJ;have UM:=jX.mp UL;injection OA with OA;have kk:kd.1.1=yk.1:=by rw[kx]
 obtain⟨km,_⟩:=oT.mp kf;rw[←kk] at km;have UN:mostK kd.1.1<=6:=by cases kd.1.1 <;> decide
 have ek:ay (tx N7.w)=(k.1.1:Int):=(dW (by omega)).mpr k1;have er:ay (tx wr.w)=(r.1.1:Int):=(dW (by omega)).mpr r1;have et:ay (tx wt.w)=(t.1.1:Int):=(dW (by omega)).mpr t1;have eb:ay (tx wb.w)=(b.1.1:Int):=(dW (by omega)).mpr b1;have em:ay (tx wm.w)=(m.1.1:Int):=(dW (by omega)).mpr m1;have eu:ay (tx wu.w)=(u.1.1:Int):=(dW (by omega)).mpr u1;have Mi:(rh C).length=C.races.length:=Xu ..;have d6:kd.1.1=.legs->r.1.1+k.1.1<=C.races.length+1:=λq=>by
  rw[q] at y6;simpa using y6
 have d7:kd.1.1≠.legs->k.1.1<=(C.headsOf r.1.1).length:=λq=>by
  have q':(kd.1.1==Kind.legs)=false:=by rw[X3];exact q
  rw[q',Bool.false_or] at y7;unfold Card.headsOf;cases c:C.races[r.1.1 - 1]? with
  |none=>rw[c] at y7;cases y7
  |some x =>
   rw[c] at y7;simpa using y7
 have ok:dX C p:=by
  subst OA;exact⟨by rw[Qv];exact Si,k2,k3,r2,r3,d6,d7,u2,u3⟩
 refine⟨ok,by subst OA;show List.contains _ n.1=false;rw[Qv];exact Ug,?_⟩;have hl:ng (w::l)=[tx w.w,tx wn.w,tx wk.w,tx N7.w,tx Qw.w,tx wr.w,tx Qx.w,tx wt.w,tx Qz.w,tx wb.w,tx QB.w,tx wm.w,tx QC.w,tx wu.w,tx QD.w,tx wz.w]:=by
  rw[e1,e2,e3,e4,e5,e8,e9,Uj,Um,MS,Oz,Ux,UB,UG,UK,UM];rfl
 have hf:=Ad ok;rw[hl];show (match dE (tx wk.w) with
  |none=>none
  |some kind=>_)=_
 rw[km];dsimp only;rw[Xw ?_,ek,er,eu,Yg,Yg,Yg]
 · unfold aA;rw[hf];subst OA;dsimp only;rw[Qv]
 · refine⟨(bh _ (by decide)).mpr hw,(bh _ (by decide)).mpr f1,(bh _ (by decide)).mpr f8,(bh _ (by decide)).mpr Uk,(bh _ (by decide)).mpr Ur,(bh _ (by decide)).mpr Uy,(bh _ (by decide)).mpr UH,
    by rw[j7];exact Si,by rw[et];omega,by rw[eb];omega,by rw[eu];omega,?_,?_,by rw[ek];omega,by rw[er,Mi];omega,?_⟩
   · rw[em,eu];rw[Yv] at Sj;rcases Sj with q|q
     · left;have:m.1.1=0:=by simpa using q
       omega
     · right;unfold inside at q;rw[XB,Y1,Y1] at q;omega
   · exact oS.mp ⟨yz,z1⟩
   · rw[er,ek,Mi];by_cases q:kd.1.1=.legs
     · left;exact⟨q,by have:=d6 q;omega⟩
     · right;refine⟨q,?_⟩;have:=d7 q;rw[jR C _ r2] at this;have e:((r.1.1:Int) - 1).toNat=r.1.1 - 1:=by omega
       rw[e];omega
theorem bW {l:List Word}{a:W}{r:List W}(h:ng l=a::r):∃w m,l=w::m/\a=tx w.w/\ng m=r:=by
 cases l with
 |nil=>cases h
 |cons w m=>exact⟨w,m,rfl,(List.cons.inj h).1.symm,(List.cons.inj h).2⟩
theorem Eg {l:List Word}(h:ng l=[]):l=[]:=by
 cases l with
 |nil=>rfl
 |cons w m=>cases h
theorem BN {e:Nat}{C:Card}{w:Word}{l:List Word}{q:aK}(hC:C.races.length<=16)(h:eX (ng (w::l)) (rh C)=some q)(hn:(C.pools.map λ(p:Pool)=>tx p.name).contains q.name=false)
  (ok:∀p∈C.pools,isName p.name=true) :
  ∃p,poolIn e C l=.ok p:=by
 unfold eX at h;split at h
 · rename_i p nm kd k fr rc tk t br b le m un u no z hl;have hl:tx w.w::ng l=_:=hl;injection hl with hw0 hl;obtain⟨wn,l1,rfl,rfl,g1⟩:=bW hl;obtain⟨wk,l2,rfl,rfl,g2⟩:=bW g1;obtain⟨N7,l3,rfl,rfl,g3⟩:=bW g2;obtain⟨Qw,l4,rfl,rfl,g4⟩:=bW g3;obtain⟨wr,l5,rfl,rfl,g5⟩:=bW g4;obtain⟨Qx,l6,rfl,rfl,g6⟩:=bW g5;obtain⟨wt,l7,rfl,rfl,g7⟩:=bW g6;obtain⟨Qz,l8,rfl,rfl,g8⟩:=bW g7;obtain⟨wb,l9,rfl,rfl,g9⟩:=bW g8;obtain⟨QB,Uh,rfl,rfl,UO⟩:=bW g9;obtain⟨wm,l11,rfl,rfl,UP⟩:=bW UO;obtain⟨QC,Uo,rfl,rfl,UQ⟩:=bW UP;obtain⟨wu,l13,rfl,rfl,UR⟩:=bW UQ;obtain⟨QD,Uu,rfl,rfl,US⟩:=bW UR;obtain⟨wz,UT,rfl,rfl,UU⟩:=bW US;have UW:UT=[]:=Eg UU;subst UW;cases km:dE (tx wk.w) with
   |none=>rw[km] at h;cases h
   |some kind =>
    rw[km] at h;dsimp only at h;split at h
    · rename_i cs;injection h with h;obtain⟨c1,c2,c3,c4,c5,c6,c7,c8,c9,Py,Pz,NG,N8,Nh,NH,MG⟩:=cs;have UN:mostK kind<=6:=by cases kind <;> decide
      have Mi:(rh C).length=C.races.length:=Xu ..;obtain⟨nt,t1,t2,t3,t4⟩:=(e_ (w:=wt.w) (lo:=0) (hi:=400) (by decide)).mp c9;obtain⟨nb,b1,b2,b3,b4⟩:=(e_ (w:=wb.w) (lo:=1) (hi:=1000) (by decide)).mp Py;obtain⟨nu,u1,u2,u3,u4⟩:=(e_ (w:=wu.w) (lo:=1) (hi:=10000) (by decide)).mp Pz;obtain⟨nk,k1,k2,k3,k4⟩:=(e_ (w:=N7.w) (lo:=leastK kind) (hi:=mostK kind) (by omega)).mp Nh;obtain⟨nr,r1,r2,r3,r4⟩:=(e_ (w:=wr.w) (lo:=1) (hi:=(rh C).length) (by omega)).mp NH;rw[u4] at NG;obtain⟨OB,m1,m2,m3,m4⟩:=(e_ (w:=wm.w) (lo:=0) (hi:=20000) (by decide)).mp (by
       rcases NG with z|⟨z1,z2⟩
       · rw[z];omega
       · omega)
      rw[m4] at NG;rw[r4,k4,Mi] at MG;obtain⟨yz,hz⟩:=oS.mpr N8;have UX:(KINDS.find? λ(x:Kind×String)=>ascii x.2==wk.w)=some (kind,kindS kind):=oT.mpr ⟨km,rfl⟩;have UY:(C.pools.map λ(p:Pool)=>p.name).contains wn.w=false:=by
       subst h;cases c:(C.pools.map λ(p:Pool)=>p.name).contains wn.w with
       |false=>rfl
       |true =>
        exfalso;have c:wn.w∈C.pools.map λ(p:Pool)=>p.name:=by simpa using c
        obtain⟨p0,OC,ep⟩:=X4.mp c;have:tx wn.w∈C.pools.map λ(p:Pool)=>tx p.name:=X4.mpr ⟨p0,OC,by rw[ep]⟩;have MR:¬tx wn.w∈C.pools.map λ(p:Pool)=>tx p.name:=by simpa using hn
        exact MR this
      refine⟨⟨wn.w,kind,nk,nr,yz.1,nt,nb,OB,nu⟩,?_⟩;unfold poolIn;refine aE.mpr ⟨(wn.w,_),iR.mpr ⟨wn,rfl,by rw[←j7];exact c8,UY,rfl⟩,?_⟩;refine aE.mpr ⟨((kind,wk.at_),_),l_.mpr ⟨wk,_,rfl,UX,rfl⟩,?_⟩;refine aE.mpr ⟨((nk,N7.at_),_),bw.mpr ⟨N7,rfl,k1,k2,k3,rfl⟩,?_⟩;refine aE.mpr ⟨_,cX.mpr ⟨Qw,rfl,(bh _ (by decide)).mp c2⟩,?_⟩;refine aE.mpr ⟨((nr,wr.at_),_),bw.mpr ⟨wr,rfl,r1,r2,Mi ▸ r3,rfl⟩,?_⟩;refine aE.mpr ⟨(),dJ.mpr ?_,?_⟩
      · show (kind != Kind.legs||decide (nr+nk<=C.races.length+1))=true;rcases MG with ⟨z1,z2⟩|⟨z1,z2⟩
        · rw[Yv];right;exact X_ (by omega)
        · rw[Yv];left;simpa using z1
      refine aE.mpr ⟨(),dJ.mpr ?_,?_⟩
      · show (kind==Kind.legs||((C.races[nr - 1]?).map λ(x:Race)=>decide (nk<=x.heads.length)).getD false)=true;rw[Yv];rcases MG with ⟨z1,z2⟩|⟨z1,z2⟩
        · left;rw[z1];rfl
        · right;have lt:nr - 1 < C.races.length:=by omega
          rw[XE lt];show decide _=true;refine X_ ?_;have e:((nr:Int) - 1).toNat=nr - 1:=by omega
          rw[e] at z2;unfold rh at z2;rw[Yd,Xz,XE lt] at z2;have z2:(nk:Int)<=((C.races[nr - 1]).heads.length:Int):=z2;omega
      refine aE.mpr ⟨_,cX.mpr ⟨Qx,rfl,(bh _ (by decide)).mp c3⟩,?_⟩;refine aE.mpr ⟨((nt,wt.at_),_),bw.mpr ⟨wt,rfl,t1,t2,t3,rfl⟩,?_⟩;refine aE.mpr ⟨_,cX.mpr ⟨Qz,rfl,(bh _ (by decide)).mp c4⟩,?_⟩;refine aE.mpr ⟨((nb,wb.at_),_),bw.mpr ⟨wb,rfl,b1,b2,b3,rfl⟩,?_⟩;refine aE.mpr ⟨_,cX.mpr ⟨QB,rfl,(bh _ (by decide)).mp c5⟩,?_⟩;refine aE.mpr ⟨((OB,wm.at_),_),bw.mpr ⟨wm,rfl,m1,m2,m3,rfl⟩,?_⟩;refine aE.mpr ⟨_,cX.mpr ⟨QC,rfl,(bh _ (by decide)).mp c6⟩,?_⟩;refine aE.mpr ⟨((nu,wu.at_),_),bw.mpr ⟨wu,rfl,u1,u2,u3,rfl⟩,?_⟩;refine aE.mpr ⟨(),dJ.mpr ?_,?_⟩
      · show (OB==0||inside nu (2*nu) OB)=true;rw[Yv];rcases NG with z|⟨z1,z2⟩
        · left;have:OB=0:=by omega
          rw[this];rfl
        · right;unfold inside;rw[XB,Y1,Y1];omega
      refine aE.mpr ⟨_,cX.mpr ⟨QD,rfl,(bh _ (by decide)).mp c7⟩,?_⟩;refine aE.mpr ⟨((yz.1,wz.at_),[]),l_.mpr ⟨wz,yz,rfl,hz,rfl⟩,?_⟩;exact aE.mpr ⟨(),jX.mpr rfl,rfl⟩
    · cases h
 · cases h
def iG (ws:List W):Bool:=ws.length==2&&ws.getD 0 []==cd "day"&&d_ (ws.getD 1 [])
def b6 (races:aae):List aK->List (List W)->Option (List aK)
 |acc,[]=>some acc
 |acc,ws::ls=>match eX ws races with
  |none=>none
  |some p=>if (acc.map (·.name)).contains p.name=true then none else b6 races (acc++[p]) ls
def iN (lines:List (List W))(races:aae):Option (List aK):=if 64 < lines.length then none else b6 races [] lines
def aQ (ws:List W):Bool:=ws.headD []==cd "race"
def eU:aae->List (List W)->Option (List aK)
 |acc,[]=>if acc=[] then none else some []
 |acc,ws::ls=>if aQ ws=true then (if 16<=acc.length then none else match bC ws with
  |none=>none
  |some h=>eU (acc++[h]) ls) else if acc=[] then none else iN (ws::ls) acc
def qx (t:W):List (List W):=(aV 10 [] t.dropLast).map (aV 32 [])
def dH (t:W):Option (List aK) :=
 if t.getLast?=some 10 then match qx t with
  |[]=>none
  |d::ls=>if iG d=true then eU [] ls else none
 else none
theorem ph:∀(ls:List (List W)) (acc:aae),acc.length<=16 ->
  eU acc ls=if 1<=acc.length+(ls.takeWhile aQ).length/\acc.length+(ls.takeWhile aQ).length<=16/\¬none∈(ls.takeWhile aQ).map bC then iN (ls.dropWhile aQ) (acc++((ls.takeWhile aQ).map bC).filterMap id) else none
 |[],acc,h=>by
  show (if acc=[] then none else some [])=_;by_cases c:acc=[]
  · subst c;rfl
  · rw[Xv c,Xw]
    · rfl
    · have:0 < acc.length:=Yz.mpr c;exact⟨by simp;omega,by simpa using h,by simp⟩
 |ws::ls,acc,h=>by
  show (if aQ ws=true then _ else _)=_;by_cases c:aQ ws=true
  · rw[Xw c,ZF,Z6,Xw c,Xw c];by_cases c2:16<=acc.length
    · rw[Xw c2,Xv];rintro⟨_,z,_⟩;rw[XG] at z;omega
    · rw[Xv c2];cases hr:bC ws with
      |none =>
       dsimp only;rw[Xv];rintro⟨_,_,z⟩;exact z (by rw[XN,hr];simp)
      |some hs =>
       dsimp only;rw[ph ls (acc++[hs]) (by rw[XT,YI];omega)];have e1:(acc++[hs]).length=acc.length+1:=by simp
       rw[e1,XN,hr,Z5,XG,YY];have k:(1<=acc.length+1+(ls.takeWhile aQ).length/\acc.length+1+(ls.takeWhile aQ).length<=16/\¬none∈(ls.takeWhile aQ).map bC) ↔
         (1<=acc.length+((ls.takeWhile aQ).length+1)/\acc.length+((ls.takeWhile aQ).length+1)<=16/\¬none∈some hs::(ls.takeWhile aQ).map bC):=by
        have:(¬none∈some hs::(ls.takeWhile aQ).map bC)↔¬none∈(ls.takeWhile aQ).map bC:=by simp
        rw[this];constructor
        · rintro⟨a,b,d⟩;exact⟨by omega,by omega,d⟩
        · rintro⟨a,b,d⟩;exact⟨by omega,by omega,d⟩
       by_cases q:(1<=acc.length+1+(ls.takeWhile aQ).length/\acc.length+1+(ls.takeWhile aQ).length<=16/\¬none∈(ls.takeWhile aQ).map bC)
       · rw[Xw q,Xw (k.mp q)];rfl
       · rw[Xv q,Xv (λz=>q (k.mpr z))]
  · rw[Xv c,ZF,Z6,Xv c,Xv c];by_cases d:acc=[]
    · subst d;rfl
    · rw[Xv d,Xw]
      · simp
      · have:0 < acc.length:=Yz.mpr d;exact⟨by simp;omega,by simpa using h,by simp⟩
def jm (w:W):Prop:=w≠[]/\∀c∈w,(isLet c||bX c)=true
theorem yc {v:Bytes}(h:jm (tx v)):A_ v:=by
 refine⟨λe=>h.1 (by rw[e];rfl),λc hc=>?_⟩;have:=h.2 (sg c.toNat) (X4.mpr ⟨c,hc,rfl⟩);rw[qA,pV] at this;unfold isLet bX at this;simp only[Yv,XB,XC] at this;constructor
 · show 32 < c.toNat;omega
 · show c.toNat<=126;omega
theorem kb {w:W}(h:d_ w=true):jm w:=by
 unfold d_ at h;simp only[XB,XC] at h;refine⟨λe=>?_,λc hc=>(X1.mp h.2) c hc⟩;rw[e] at h;simp at h
theorem eT {w:W}(h:0<=ay w):jm w:=by
 unfold ay at h;split at h
 · omega
 · rename_i q;have q1:¬w=[]:=λz=>q (.inr (.inl z));have q2:¬w.all bX=false:=λz=>q (.inr (.inr z));refine⟨q1,λc hc=>?_⟩;have q2:w.all bX=true:=by simpa using q2
   rw[(X1.mp q2) c hc,Bool.or_true]
def CZ (w:W):Bool:=!w.isEmpty&&w.all λc=>isLet c||bX c
theorem Ff {w:W}(h:CZ w=true):jm w:=by
 unfold CZ at h;rw[XB] at h;exact⟨λe=>by rw[e] at h;simp at h,λc hc=>(X1.mp h.2) c hc⟩
theorem bN {w:W}{s:String}(e:w=cd s)(h:CZ (cd s)=true):jm w:=e ▸ Ff h
theorem Cg {ws:List W}(h:iG ws=true):∀w∈ws,jm w:=by
 unfold iG at h;simp only[XB,Yl] at h
 match ws,h with
 |[a,b],h =>
  intro w hw;rcases Xy.mp hw with rfl|hw
  · exact bN h.1.2 (by decide)
  · have:w=b:=by simpa using hw
    subst this;exact kb h.2
theorem qX:∀{n:Nat} (l:List W) (fs ss Mc:aaf),dg n l fs ss=some Mc->∀w∈l,jm w
 |_,[],_,_,_,_=>by simp
 |_,[_],_,_,_,h=>by cases h
 |_,[_,_],_,_,_,h=>by cases h
 |n,c::a::b::r,fs,ss,Mc,h=>by
  unfold dg at h;split at h
  · rename_i q;intro w hw;rcases Xy.mp hw with rfl|hw
    · exact bN q.1 (by decide)
    · rcases Xy.mp hw with rfl|hw
      · exact eT (by omega)
      · rcases Xy.mp hw with rfl|hw
        · exact eT (by omega)
        · exact qX r _ _ _ h w hw
  · cases h
theorem zI {ws:List W}{hs:aaf}(h0:aQ ws=true)(h:bC ws=some hs):∀w∈ws,jm w:=by
 unfold bC at h;split at h
 · rename_i w0 n r;split at h
   · rename_i q;cases c:dg (ay n).toNat r [] [] with
     |none=>rw[c] at h;cases h
     |some ss =>
      intro w hw;rcases Xy.mp hw with rfl|hw
      · unfold aQ at h0;exact bN (Yl.mp h0) (by decide)
      · rcases Xy.mp hw with rfl|hw
        · exact eT (by omega)
        · exact qX r _ _ _ c w hw
   · cases h
 · cases h
theorem zC {w:W}{k:Kind}(h:dE w=some k):jm w:=by
 unfold dE at h;split at h
 · rename_i e;exact bN e (by decide)
 · split at h
   · rename_i e;exact bN e (by decide)
   · split at h
     · rename_i e;exact bN e (by decide)
     · split at h
       · rename_i e;exact bN e (by decide)
       · cases h
theorem rf {ws:List W}{races:aae}{q:aK}(h:eX ws races=some q):(∀w∈ws,jm w)/\ws.headD []=cd "pool":=by
 unfold eX at h;split at h
 · rename_i p nm kd k fr rc tk t br b le m un u no z;cases km:dE kd with
   |none=>rw[km] at h;cases h
   |some kind =>
    rw[km] at h;dsimp only at h;split at h
    · rename_i cs;obtain⟨c1,c2,c3,c4,c5,c6,c7,c8,c9,Py,Pz,NG,N8,Nh,NH,MG⟩:=cs;have hm:0<=ay m:=by omega
      have gz:jm z:=by
       rcases N8 with ⟨e,_⟩|e|e
       · exact bN e (by decide)
       · exact bN e (by decide)
       · exact bN e (by decide)
      refine⟨λw hw=>?_,c1⟩;simp only[Xy,Zh,or_false] at hw;rcases hw with rfl|rfl|rfl|rfl|rfl|rfl|rfl|rfl|rfl|rfl|rfl|rfl|rfl|rfl|rfl|rfl
      · exact bN c1 (by decide)
      · exact kb c8
      · exact zC km
      · exact eT (by omega)
      · exact bN c2 (by decide)
      · exact eT (by omega)
      · exact bN c3 (by decide)
      · exact eT (by omega)
      · exact bN c4 (by decide)
      · exact eT (by omega)
      · exact bN c5 (by decide)
      · exact eT hm
      · exact bN c6 (by decide)
      · exact eT (by omega)
      · exact bN c7 (by decide)
      · exact gz
    · cases h
 · cases h
def lw (l:Bytes):List W:=aV 32 [] (tx l)
theorem BX (l:Bytes):lw l=(splitOn 32 [] l).map tx:=iu (c:=32) (by decide) l []
theorem lD {l:Bytes}(h:∀w∈lw l,jm w):badByte true 0 l=none:=by
 refine xW l [] 0 (λv hv=>yc (h (tx v) ?_)) (by simp);rw[BX];exact X4.mpr ⟨v,hv,rfl⟩
theorem qg {l:Bytes}(p:Nat)(h:badByte true 0 l=none):ng (wordsFrom p [] l)=lw l:=by
 obtain⟨a,_⟩:=words_of l [] p 0 (X2 _) h;rw[BX,←a,XY];rfl
def bP:Nat->Option Card->List Bytes->Except Fault (Option Card)
 |_,h,[]=>.ok h
 |p,h,l::ls=>match badByte true 0 l with
  |some i=>.error ⟨2,p+i⟩
  |none=>match lineIn h ⟨wordsFrom p [] l,p+l.length⟩ with
   |.error e=>.error e
   |.ok t=>bP (p+l.length+1) t ls
def dM (ls:List Bytes):Bytes:=ls.flatMap λl=>l++[10]
theorem oR {r:Bytes}:∀{l:Bytes},¬10∈l->upTo (l++10::r)=some (l,r)
 |[],_=>by simp[upTo]
 |c::l,h=>by
  have hc:¬c=10:=λe=>h (by simp[e]);show (if c=10 then some ([],l++10::r) else (upTo (l++10::r)).map λ(x:Bytes×Bytes)=>(c::x.1,x.2))=_;rw[Xv hc,oR λm=>h (by simp[m])];rfl
theorem kj:∀{b l r:Bytes},upTo b=some (l,r)->b=l++10::r/\¬10∈l
 |[],_,_,h=>by cases h
 |c::b,l,r,h=>by
  have h:(if c=10 then some ([],b) else (upTo b).map λ(x:Bytes×Bytes)=>(c::x.1,x.2))=some (l,r):=h;by_cases e:c=10
  · rw[Xw e] at h;injection h with h;injection h with h1 h2;subst h1;subst h2;subst e;exact⟨rfl,by simp⟩
  · rw[Xv e] at h;cases q:upTo b with
    |none=>rw[q] at h;cases h
    |some x =>
     rw[q] at h;injection h with h;injection h with h1 h2;obtain⟨a1,a2⟩:=kj (b:=b) (l:=x.1) (r:=x.2) q;subst h1;subst h2;exact⟨by rw[ZD,←a1],λm=>by
      rcases Xy.mp m with z|z
      · exact e z.symm
      · exact a2 z⟩
theorem rm:∀{b:Bytes},upTo b=none->¬10∈b
 |[],_=>by simp
 |c::b,h=>by
  have h:(if c=10 then some ([],b) else (upTo b).map λ(x:Bytes×Bytes)=>(c::x.1,x.2))=none:=h;by_cases e:c=10
  · rw[Xw e] at h;cases h
  · rw[Xv e] at h;cases q:upTo b with
    |none =>
     have:=rm q;intro m;rcases Xy.mp m with z|z
     · exact e z.symm
     · exact this z
    |some x=>rw[q] at h;cases h
theorem pP:∀(ls:List Bytes) (k p:Nat) (h:Option Card),(∀l∈ls,¬10∈l)->(dM ls).length < k->linesIn lineIn k p h (dM ls)=bP p h ls
 |[],0,_,_,_,hk=>by simp at hk
 |[],k+1,p,h,_,_=>rfl
 |l::ls,0,_,_,_,hk=>by simp at hk
 |l::ls,k+1,p,h,hn,hk=>by
  have e:dM (l::ls)=l++10::dM ls:=by
   unfold dM;rw[ZQ,YY];rfl
  rw[e] at hk ⊢;have ne:¬(l++10::dM ls).isEmpty=true:=by simp
  show (if (l++10::dM ls).isEmpty=true then Except.ok h else match upTo (l++10::dM ls) with
   |none=>_
   |some (l,r)=>_)=_
  rw[Xv ne,oR (hn l (by simp))];dsimp only;unfold bP;cases hb:badByte true 0 l with
  |some i=>rfl
  |none =>
   dsimp only;cases hl:lineIn h ⟨wordsFrom p [] l,p+l.length⟩ with
   |error e=>rfl
   |ok t =>
    dsimp only;exact pP ls k (p+l.length+1) t (λm hm=>hn m (by simp[hm])) (by simp only[XT,XG] at hk;omega)
theorem pJ:∀(k p:Nat) (h h':Option Card) (b:Bytes),b.length < k->linesIn lineIn k p h b=.ok h'->b=[]∨b.getLast?=some 10
 |0,_,_,_,_,hk,_=>by omega
 |k+1,p,h,h',b,hk,q=>by
  by_cases e:b=[]
  · exact .inl e
  · right;have ne:¬b.isEmpty=true:=λz=>e (Y7.mp z);rw[linesIn,Xv ne] at q;cases hu:upTo b with
    |none=>rw[hu] at q;cases q
    |some x =>
     obtain⟨l,r⟩:=x;rw[hu] at q;dsimp only at q;obtain⟨hb,_⟩:=kj hu;cases OD:badByte true 0 l with
     |some i=>rw[OD] at q;cases q
     |none =>
      rw[OD] at q;dsimp only at q;cases hl:lineIn h ⟨wordsFrom p [] l,p+l.length⟩ with
      |error e=>rw[hl] at q;cases q
      |ok t =>
       rw[hl] at q;dsimp only at q;have:=pJ k _ t h' r (by rw[hb] at hk;simp only[XT,XG] at hk;omega) q;rw[hb];rcases this with z|z
       · subst z;simp
       · rw[List.getLast?_append];cases r with
         |nil=>simp at z
         |cons c r =>
          rw[List.getLast?_cons_cons,z];rfl
theorem join_split:∀(b w:Bytes),dM (splitOn 10 w b)=w++b++[10]
 |[],w=>by
  show dM [w]=_;unfold dM;simp
 |c::b,w=>by
  show dM (if c=10 then w::splitOn 10 [] b else splitOn 10 (w++[c]) b)=_;by_cases e:c=10
  · rw[Xw e];have:=join_split b [];unfold dM at this ⊢;rw[ZQ,this,e];simp
  · rw[Xv e,join_split b (w++[c])];simp
theorem lA:∀(b w:Bytes),¬10∈w->∀l∈splitOn 10 w b,¬10∈l
 |[],w,hw,l,hl=>by
  have:l=w:=by simpa [splitOn] using hl
  exact this ▸ hw
 |c::b,w,hw,l,hl=>by
  have hl:l∈(if c=10 then w::splitOn 10 [] b else splitOn 10 (w++[c]) b):=hl;by_cases e:c=10
  · rw[Xw e] at hl;rcases Xy.mp hl with rfl|hl
    · exact hw
    · exact lA b [] (by simp) l hl
  · rw[Xv e] at hl;refine lA b (w++[c]) (λm=>?_) l hl;rcases Yk.mp m with z|z
    · exact hw z
    · exact e (by simpa using (XJ.mp z).symm)
structure cn (C:Card):Prop where
 vY:C.races.length<=16
 heads:∀r∈C.races,cP r.heads
 pools:∀p∈C.pools,dX C p
 np:C.pools.length<=64
theorem k_ (c:UInt8):∀(l w:Bytes),splitOn c w l≠[]
 |[],_=>by simp[splitOn]
 |x::l,w=>by
  unfold splitOn;by_cases e:x=c
  · rw[Xw e];simp
  · rw[Xv e];exact k_ c l _
theorem ji {l:Bytes}(p:Nat)(h:badByte true 0 l=none):∃w r,wordsFrom p [] l=w::r/\lw l=tx w.w::ng r:=by
 have e:=qg p h;cases hw:wordsFrom p [] l with
 |nil =>
  exfalso;rw[hw] at e;have e:[]=lw l:=e;rw[BX] at e;exact k_ 32 l [] (Z4.mp e.symm)
 |cons w r=>exact⟨w,r,rfl,by rw[←e,hw];rfl⟩
theorem sE {C D:Card}{p:Pool}(h:dX C p)(e:D.races=C.races):dX D p:=by
 have hh:D.headsOf=C.headsOf:=by
  funext r;unfold Card.headsOf;rw[e]
 exact⟨h.name,h.IK,h.Ge,h.El,by rw[e];exact h.K5,by rw[e];exact h.legs,by rw[hh];exact h.vY,h.unit,h.Li⟩
theorem pz:∀(ls:List Bytes) (p:Nat) (C:Card),cn C->C.races≠[]->(C.pools=[]->∀l∈ls.head?,aQ (lw l)=false) ->
  (∀C',bP p (some C) ls=.ok C'->∃D,C'=some D/\cn D/\D.races=C.races/\C.pools.length+ls.length<=64/\b6 (rh C) (C.pools.map (aA C)) (ls.map lw)=some (D.pools.map (aA D))) /\
  (∀e,bP p (some C) ls=.error e->64 < C.pools.length+ls.length∨b6 (rh C) (C.pools.map (aA C)) (ls.map lw)=none)
 |[],p,C,ok,_,_=>⟨λC' h=>by
   have h:Except.ok (some C)=Except.ok C':=h;injection h with h;subst h;exact⟨C,rfl,ok,rfl,ok.np,rfl⟩,λe h=>nomatch h⟩
 |l::ls,p,C,ok,hr,hf=>by
  have none_of:eX (lw l) (rh C)=none->b6 (rh C) (C.pools.map (aA C)) ((l::ls).map lw)=none:=λq=>by
   rw[XN];unfold b6;rw[q]
  cases hb:badByte true 0 l with
  |some i =>
   have q:eX (lw l) (rh C)=none:=by
    cases c:eX (lw l) (rh C) with
    |none=>rfl
    |some z =>
     have:=lD (rf c).1;rw[hb] at this;cases this
   have e0:bP p (some C) (l::ls)=.error ⟨2,p+i⟩:=by
    unfold bP;rw[hb]
   rw[e0];exact⟨λ_ h=>(nomatch h),λ_ _=>.inr (none_of q)⟩
  |none =>
   obtain⟨w,r,hw,Mo⟩:=ji p hb;have e0:bP p (some C) (l::ls)=match lineIn (some C) ⟨w::r,p+l.length⟩ with
     |.error e=>.error e
     |.ok t=>bP (p+l.length+1) t ls:=by
    conv=>lhs;unfold bP
    rw[hb,hw]
    all_goals rfl
   have nr:¬(w.w=ascii "race"/\C.pools=[]):=λ⟨z1,z2⟩=>by
    have:=hf z2 l (by simp);unfold aQ at this;rw[Mo] at this;have:(tx w.w==cd "race")=false:=this;rw[X3] at this;exact this ((bh _ (by decide)).mpr z1)
   have e1:lineIn (some C) ⟨w::r,p+l.length⟩=if w.w=ascii "pool"/\C.races≠[] then (if POOLS<=C.pools.length then .error ⟨6,w.at_⟩ else withPool (p+l.length) C r) else .error ⟨3,w.at_⟩:=by
    show (if w.w=ascii "race"/\C.pools=[] then _ else _)=_;rw[Xv nr]
   rw[e1] at e0;by_cases hp:w.w=ascii "pool"
   · rw[Xw ⟨hp,hr⟩] at e0;by_cases M0:POOLS<=C.pools.length
     · rw[Xw M0] at e0;rw[e0];have M0:64<=C.pools.length:=M0;exact⟨λ_ h=>(nomatch h),λ_ _=>.inl (by rw[XG];omega)⟩
     · rw[Xv M0] at e0;have M0:¬64<=C.pools.length:=M0;unfold withPool at e0;cases hi:poolIn (p+l.length) C r with
       |error e =>
        rw[hi] at e0;have e0:bP p (some C) (l::ls)=.error e:=e0;rw[e0];refine⟨λ_ h=>(nomatch h),λ_ _=>.inr ?_⟩;cases c:eX (lw l) (rh C) with
        |none=>exact none_of c
        |some q =>
         rw[XN];unfold b6;rw[c];dsimp only;cases d:((C.pools.map (aA C)).map (·.name)).contains q.name with
         |true=>rfl
         |false =>
          exfalso;rw[Mo] at c;have d':(C.pools.map λ(p:Pool)=>tx p.name).contains q.name=false:=by
           rw[XY] at d;exact d
          obtain⟨z,hz⟩:=BN (e:=p+l.length) ok.vY c d' (λp hp=>(ok.pools p hp).name);rw[hi] at hz;cases hz
       |ok q =>
        rw[hi] at e0;have e0:bP p (some C) (l::ls)=bP (p+l.length+1) (some {C with pools:=C.pools++[q]}) ls:=e0;obtain⟨UZ,hn,hm⟩:=Bz (w:=w) ok.vY hp hi;rw[e0];have QE:cn {C with pools:=C.pools++[q]}:=⟨ok.vY,ok.heads,λx hx=>by
          have hx:x∈C.pools++[q]:=hx;rcases Yk.mp hx with z|z
          · exact sE (ok.pools x z) rfl
          · have:x=q:=by simpa using z
            subst this;exact sE UZ rfl,by show (C.pools++[q]).length<=64;rw[XT,YI];omega⟩
        have ih:=pz ls (p+l.length+1) {C with pools:=C.pools++[q]} QE hr (λz=>by
         have z:C.pools++[q]=[]:=z;simp at z)
        have step:b6 (rh C) (C.pools.map (aA C)) ((l::ls).map lw)=b6 (rh C) ((C.pools++[q]).map (aA C)) (ls.map lw):=by
         rw[XN]
         conv=>lhs;unfold b6
         have PB:eX (lw l) (rh C)=some (aA C q):=by rw[Mo];exact hm
         rw[PB];dsimp only;have:((C.pools.map (aA C)).map (·.name)).contains (aA C q).name=false:=by
          rw[XY];cases d:(C.pools.map ((λ(x:aK)=>x.name) ∘ aA C)).contains (aA C q).name with
          |false=>rfl
          |true =>
           exfalso;have d:(aA C q).name∈C.pools.map ((λ(x:aK)=>x.name) ∘ aA C):=by simpa using d
           obtain⟨x,hx,ex⟩:=X4.mp d;have ex:tx x.name=tx q.name:=ex;have nx:=(ok.pools x hx).name;have:q.name=x.name:=by
            have key:∀c∈x.name,t7 c.toNat=true:=λc hc=>by
             have gx:=kb (by rw[j7];exact nx);have:=gx.2 (sg c.toNat) (X4.mpr ⟨c,hc,rfl⟩);rw[qA,pV] at this;unfold t7;rw[this];rfl
            have own:tx x.name=x.name.map UInt8.toNat:=(rK key).mpr rfl;exact (rK key).mp (by rw[←ex,own])
           have MR:¬q.name∈C.pools.map λ(p:Pool)=>p.name:=by simpa using hn
           exact MR (X4.mpr ⟨x,hx,this.symm⟩)
         rw[Xv (by rw[this];decide),XQ];rfl
        have len:(C.pools++[q]).length=C.pools.length+1:=by simp
        rw[step];constructor
        · intro C' h;obtain⟨D,h1,h2,h3,h4,h5⟩:=ih.1 C' h;refine⟨D,h1,h2,h3,?_,h5⟩;have h4:(C.pools++[q]).length+ls.length<=64:=h4;rw[XG];omega
        · intro e h;rcases ih.2 e h with z|z
          · left;have z:64 < (C.pools++[q]).length+ls.length:=z;rw[XG];omega
          · exact .inr z
   · rw[Xv (λz=>hp z.1)] at e0;rw[e0];refine⟨λ_ h=>(nomatch h),λ_ _=>.inr (none_of ?_)⟩;cases c:eX (lw l) (rh C) with
     |none=>rfl
     |some q =>
      exfalso;have:=(rf c).2;rw[Mo] at this;exact hp ((bh _ (by decide)).mp this)
theorem ql:∀(ls:List Bytes) (p:Nat) (C:Card),cn C->C.pools=[] ->
  (∀C',bP p (some C) ls=.ok C'->∃D,C'=some D/\((D.races=[]/\eU (rh C) (ls.map lw)=none)∨(D.races≠[]/\cn D/\eU (rh C) (ls.map lw)=some (D.pools.map (aA D))))) /\
  (∀e,bP p (some C) ls=.error e->eU (rh C) (ls.map lw)=none)
 |[],p,C,ok,hp=>⟨λC' h=>by
   have h:Except.ok (some C)=Except.ok C':=h;injection h with h;subst h;refine⟨C,rfl,?_⟩;by_cases c:C.races=[]
   · left;refine⟨c,?_⟩;show (if rh C=[] then none else some [])=none;rw[Xw (by unfold rh;rw[c];rfl)]
   · right;refine⟨c,ok,?_⟩;show (if rh C=[] then none else some [])=_;rw[Xv (λ(z:rh C=[])=>c (Z4.mp z)),hp];rfl,λe h=>nomatch h⟩
 |l::ls,p,C,ok,hp=>by
  have Mi:(rh C).length=C.races.length:=Xu ..;by_cases Ni:aQ (lw l)=true
  · have step:eU (rh C) ((l::ls).map lw)=if 16<=C.races.length then none else match bC (lw l) with
      |none=>none
      |some h=>eU (rh C++[h]) (ls.map lw):=by
     rw[XN];show (if aQ (lw l)=true then (if 16<=(rh C).length then none else _) else _)=_;rw[Xw Ni,Mi]
     all_goals rfl
    rw[step];cases hb:badByte true 0 l with
    |some i =>
     have q:bC (lw l)=none:=by
      cases c:bC (lw l) with
      |none=>rfl
      |some z =>
       have:=lD (zI Ni c);rw[hb] at this;cases this
     have e0:bP p (some C) (l::ls)=.error ⟨2,p+i⟩:=by
      unfold bP;rw[hb]
     rw[e0,q];refine⟨λ_ h=>(nomatch h),λ_ _=>?_⟩;split <;> rfl
    |none =>
     obtain⟨w,r,hw,Mo⟩:=ji p hb;have wr:w.w=ascii "race":=by
      unfold aQ at Ni;rw[Mo] at Ni;exact (bh _ (by decide)).mp (Yl.mp Ni)
     have e0:bP p (some C) (l::ls)=match lineIn (some C) ⟨w::r,p+l.length⟩ with
       |.error e=>.error e
       |.ok t=>bP (p+l.length+1) t ls:=by
      conv=>lhs;unfold bP
      rw[hb,hw]
      all_goals rfl
     have e1:lineIn (some C) ⟨w::r,p+l.length⟩=if RACES<=C.races.length then .error ⟨6,w.at_⟩ else withRace (p+l.length) C r:=by
      show (if w.w=ascii "race"/\C.pools=[] then _ else _)=_;rw[Xw ⟨wr,hp⟩]
     rw[e1] at e0;by_cases Ng:RACES<=C.races.length
     · rw[Xw Ng] at e0;rw[e0,Xw (show 16<=C.races.length from Ng)];exact⟨λ_ h=>(nomatch h),λ_ _=>rfl⟩
     · rw[Xv Ng] at e0;have Ng:¬16<=C.races.length:=Ng;rw[Xv Ng];unfold withRace at e0;cases hi:raceIn (p+l.length) r with
       |error e =>
        rw[hi] at e0;have e0:bP p (some C) (l::ls)=.error e:=e0;rw[e0];refine⟨λ_ h=>(nomatch h),λ_ _=>?_⟩;cases c:bC (lw l) with
        |none=>rfl
        |some hs =>
         exfalso;rw[Mo] at c;obtain⟨q,hq,_⟩:=(vz (e:=p+l.length) (w:=w) (l:=r)).2 hs c;rw[hi] at hq;cases hq
       |ok q =>
        rw[hi] at e0;have e0:bP p (some C) (l::ls)=bP (p+l.length+1) (some {C with races:=C.races++[q]}) ls:=e0;have hm:=(vz (e:=p+l.length) (w:=w) (l:=r)).1 q hi;have PB:bC (lw l)=some q.heads:=by rw[Mo];exact hm
        rw[e0,PB];dsimp only;have QE:cn {C with races:=C.races++[q]}:=⟨by show (C.races++[q]).length<=16;rw[XT,YI];omega,λx hx=>by
          have hx:x∈C.races++[q]:=hx;rcases Yk.mp hx with z|z
          · exact ok.heads x z
          · have:x=q:=by simpa using z
            subst this;exact AA PB,λx hx=>by
          have hx:x∈C.pools:=hx;rw[hp] at hx;simp at hx,ok.np⟩
        have ih:=ql ls (p+l.length+1) {C with races:=C.races++[q]} QE hp;have e2:rh {C with races:=C.races++[q]}=rh C++[q.heads]:=by
         unfold rh;rw[XQ];rfl
        rw[e2] at ih;exact ih
  · have QF:aQ (lw l)=false:=by simpa using Ni
    have step:eU (rh C) ((l::ls).map lw)=if rh C=[] then none else iN ((l::ls).map lw) (rh C):=by
     rw[XN];show (if aQ (lw l)=true then _ else _)=_;rw[Xv Ni]
    rw[step];by_cases hr:C.races=[]
    · rw[Xw (by unfold rh;rw[hr];rfl)];have e0:∃e,bP p (some C) (l::ls)=.error e:=by
       unfold bP;cases hb:badByte true 0 l with
       |some i=>exact⟨_,rfl⟩
       |none =>
        obtain⟨w,r,hw,Mo⟩:=ji p hb;dsimp only;rw[hw];have wr:¬w.w=ascii "race":=λz=>by
         apply Ni
         unfold aQ;rw[Mo];exact Yl.mpr ((bh _ (by decide)).mpr z)
        have e1:lineIn (some C) ⟨w::r,p+l.length⟩=.error ⟨3,w.at_⟩:=by
         show (if w.w=ascii "race"/\C.pools=[] then _ else if w.w=ascii "pool"/\C.races≠[] then _ else _)=_;rw[Xv (λz=>wr z.1),Xv (λz=>z.2 hr)]
        rw[e1];exact⟨_,rfl⟩
      obtain⟨e,e0⟩:=e0;rw[e0];exact⟨λ_ h=>(nomatch h),λ_ _=>rfl⟩
    · rw[Xv (λ(z:rh C=[])=>hr (Z4.mp z))];have ih:=pz (l::ls) p C ok hr (λ_ l' OE=>by
       have:l'=l:=by simpa using OE.symm
       subst this;exact QF)
      rw[hp] at ih;have len:((l::ls).map lw).length=(l::ls).length:=Xu ..;unfold iN;rw[len];constructor
      · intro C' h;obtain⟨D,h1,h2,h3,h4,h5⟩:=ih.1 C' h;refine⟨D,h1,.inr ⟨by rw[h3];exact hr,h2,?_⟩⟩;rw[Xv (by simp only[Y5] at h4;omega)];exact h5
      · intro e h;by_cases c:64 < (l::ls).length
        · rw[Xw c]
        · rw[Xv c];rcases ih.2 e h with z|z
          · simp only[Y5] at z;omega
          · exact z
theorem yN:∀(b:Bytes),(tx b).getLast?=some 10↔b.getLast?=some 10:=λb=>by
 unfold tx;rw[List.getLast?_map];cases b.getLast? with
 |none=>simp
 |some c =>
  show some (sg c.toNat)=some 10↔some c=some 10;constructor
  · intro h;injection h with h;rw[jt (show c.toNat=(10:UInt8).toNat from (uI (by decide)).mp h)]
  · intro h;injection h with h;rw[h];rfl
theorem ml (b:Bytes):(∀C,readCard b=.ok C->cn C/\C.races≠[]/\dH (tx b)=some (C.pools.map (aA C)))/\(∀e,readCard b=.error e->dH (tx b)=none):=by
 by_cases hl:b.getLast?=some 10
 · obtain⟨b',rfl⟩:∃b',b=b'++[10]:=by
    have ne:b≠[]:=λe=>by rw[e] at hl;simp at hl
    refine⟨b.dropLast,?_⟩;have:=List.dropLast_concat_getLast ne;rw[List.getLast?_eq_some_getLast ne] at hl;injection hl with hl;rw[hl] at this;exact this.symm
   have hj:dM (splitOn 10 [] b')=b'++[10]:=by rw[join_split];simp
   have OF:linesIn lineIn ((b'++[10]).length+1) 0 none (b'++[10])=bP 0 none (splitOn 10 [] b'):=by
    rw[←hj];exact pP _ _ _ _ (lA b' [] (by simp)) (ZX _)
   have U0:qx (tx (b'++[10]))=(splitOn 10 [] b').map lw:=by
    unfold qx;have e:(tx (b'++[10])).dropLast=tx b':=by
     rw[rD];show (tx b'++[sg 10]).dropLast=_;rw[List.dropLast_concat]
    have:=iu (c:=10) (by decide) b' [];rw[AM] at this;rw[e];show (aV (10:UInt8).toNat [] (tx b')).map _=_;rw[this,XY];rfl
   have hc:dH (tx (b'++[10]))=match (splitOn 10 [] b').map lw with
     |[]=>none
     |d::ls=>if iG d=true then eU [] ls else none:=by
    unfold dH;rw[Xw ((yN _).mpr hl),U0]
    all_goals rfl
   rw[hc];unfold readCard;rw[OF];cases hs:splitOn 10 [] b' with
   |nil=>exact absurd hs (k_ 10 b' [])
   |cons l ls =>
    rw[XN];dsimp only;have day:(iG (lw l)=false/\∃e,bP 0 none (l::ls)=.error e)∨(iG (lw l)=true/\∃n,bP 0 none (l::ls)=bP (0+l.length+1) (some {noCard with name:=n}) ls):=by
     cases hb:badByte true 0 l with
     |some i =>
      left;refine⟨?_,⟨2,0+i⟩,by unfold bP;rw[hb]⟩;cases c:iG (lw l) with
      |false=>rfl
      |true =>
       have:=lD (Cg c);rw[hb] at this;cases this
     |none =>
      obtain⟨w,r,hw,Mo⟩:=ji 0 hb;have e0:bP 0 none (l::ls)=match lineIn none ⟨w::r,0+l.length⟩ with
        |.error e=>.error e
        |.ok t=>bP (0+l.length+1) t ls:=by
       conv=>lhs;unfold bP
       rw[hb,hw]
       all_goals rfl
      have e1:lineIn none ⟨w::r,0+l.length⟩=if w.w=ascii "day" then dayIn (0+l.length) r else .error ⟨3,w.at_⟩:=rfl;rw[e1] at e0;by_cases hd:w.w=ascii "day"
      · rw[Xw hd] at e0;cases hi:dayIn (0+l.length) r with
        |error e =>
         left;rw[hi] at e0;refine⟨?_,e,e0⟩;cases c:iG (lw l) with
         |false=>rfl
         |true =>
          exfalso;unfold iG at c;rw[Mo] at c;simp only[XB,Yl] at c
          match r,c,hi with
          |[wn],c,hi =>
           have nm:isName wn.w=true:=by rw[←j7];exact c.2
           have:dayIn (0+l.length) [wn]=.ok (some {noCard with name:=wn.w}):=by
            unfold dayIn;refine aE.mpr ⟨(wn.w,[]),iR.mpr ⟨wn,rfl,nm,rfl,rfl⟩,?_⟩;exact aE.mpr ⟨(),jX.mpr rfl,rfl⟩
           rw[this] at hi;cases hi
          |[],c,_=>have:=c.1.1;simp[ng] at this
          |_::_::_,c,_=>have:=c.1.1;simp[ng] at this
        |ok t =>
         right;rw[hi] at e0;unfold dayIn at hi;obtain⟨n,x1,h1⟩:=aE.mp hi;obtain⟨wn,er,n1,n2,n3⟩:=iR.mp x1;obtain⟨_,x2,h2⟩:=aE.mp h1;have y2:=jX.mp x2;injection h2 with h2;subst h2;refine⟨?_,n.1,e0⟩;unfold iG;rw[Mo,er,y2];have a1:(tx w.w==cd "day")=true:=Yl.mpr ((bh _ (by decide)).mpr hd);show ((2==2)&&(tx w.w==cd "day")&&d_ (tx wn.w))=true;rw[a1,j7,n1];rfl
      · rw[Xv hd] at e0;left;refine⟨?_,_,e0⟩;cases c:iG (lw l) with
        |false=>rfl
        |true =>
         exfalso;unfold iG at c;rw[Mo] at c;simp only[XB,Yl] at c;exact hd ((bh _ (by decide)).mp c.1.2)
    rcases day with ⟨d,e,h⟩|⟨d,n,h⟩
    · rw[d,h];exact⟨λ_ q=>(nomatch q),λ_ _=>rfl⟩
    · rw[Xw d,h];have KJ:cn {noCard with name:=n}:=⟨X2 _,λr hr=>by
        have hr:r∈([]:List Race):=hr;simp at hr,λp hp=>by
        have hp:p∈([]:List Pool):=hp;simp at hp,X2 _⟩
      have ih:=ql ls (0+l.length+1) {noCard with name:=n} KJ rfl;have e2:rh {noCard with name:=n}=[]:=rfl;rw[e2] at ih;cases hf:bP (0+l.length+1) (some {noCard with name:=n}) ls with
      |error e =>
       dsimp only;exact⟨λ_ q=>(nomatch q),λ_ _=>ih.2 e hf⟩
      |ok C' =>
       obtain⟨D,rfl,q⟩:=ih.1 C' hf;dsimp only;rcases q with ⟨q1,q2⟩|⟨q1,q2,q3⟩
       · rw[Xw q1];exact⟨λ_ q=>(nomatch q),λ_ _=>q2⟩
       · rw[Xv q1];exact⟨λC q=>by injection q with q;subst q;exact⟨q2,q1,q3⟩,λ_ q=>nomatch q⟩
 · have hn:dH (tx b)=none:=by
    unfold dH;rw[Xv (λz=>hl ((yN b).mp z))]
   rw[hn];refine⟨λC h=>?_,λ_ _=>rfl⟩;exfalso;unfold readCard at h;cases q:linesIn lineIn (b.length+1) 0 none b with
   |error e=>rw[q] at h;cases h
   |ok h' =>
    rcases pJ _ _ _ _ _ (ZX _) q with z|z
    · subst z;have q':linesIn lineIn 1 0 none []=.ok h':=q;have q':(Except.ok none:Except Fault (Option Card))=.ok h':=q';injection q' with q';subst q';rw[q] at h;cases h
    · exact hl z
def Fits (fd acc:aaf)(p:W):Prop:=∃n:Nat,ay p=(n:Int)/\n∈fd/\∀x,acc.getLast?=some x->x < n
theorem B4 {fd acc:aaf}{p:W}:Fits fd acc p↔0<=ay p/\(ay p).toNat∈fd/\∀x∈acc.getLast?,x < (ay p).toNat:=by
 constructor
 · rintro⟨n,e,h1,h2⟩;have en:(ay p).toNat=n:=by omega
   rw[en];exact⟨by omega,h1,λx hx=>h2 x hx⟩
 · rintro⟨h0,h1,h2⟩;exact⟨_,by omega,h1,λx hx=>h2 x hx⟩
instance {fd acc:aaf}{p:W}:Decidable (Fits fd acc p):=decidable_of_iff _ B4.symm
def jk (fd:aaf):List W->aaf->Option (aaf)
 |[],acc=>some acc
 |p::r,acc=>if Fits fd acc p then jk fd r (acc++[(ay p).toNat]) else none
def setM (fd:aaf)(w:W):Option (aaf):=jk fd (aV 44 [] w) []
theorem k7 {x:Nat}{l:aaf}:risesN (x::l)=true↔(∀y,l.head?=some y->x < y)/\risesN l=true:=by
 cases l with
 |nil=>exact⟨λ_=>⟨λ_ z=>(by cases z),rfl⟩,λ_=>rfl⟩
 |cons y r =>
  show (decide (x < y)&&risesN (y::r))=true↔_;rw[XB,XC];exact⟨λ⟨a,b⟩=>⟨λz e=>by injection e with e;omega,b⟩,λ⟨a,b⟩=>⟨a y rfl,b⟩⟩
theorem mapM_some {α β:Type}{f:α->Option β}{x:α}{r:List α}{t:List β}:(x::r).mapM f=some t↔∃b s,f x=some b/\r.mapM f=some s/\t=b::s:=by
 rw[List.mapM_cons];cases h:f x with
 |none =>
  constructor
  · intro z;cases z
  · rintro⟨b,s,e,_⟩;cases e
 |some b =>
  cases h2:r.mapM f with
  |none =>
   constructor
   · intro z;rw[show ((some b:Option β) >>= λb=>(none:Option (List β)) >>= λs=>pure (b::s))=none from rfl] at z;cases z
   · rintro⟨b,s,_,e,_⟩;cases e
  |some s =>
   constructor
   · intro z;have z:some (b::s)=some t:=z;injection z with z;exact⟨b,s,rfl,rfl,z.symm⟩
   · rintro⟨b',s',e1,e2,rfl⟩;injection e1 with e1;injection e2 with e2;subst e1 e2;rfl
theorem iw {fd:aaf}(hf:∀x∈fd,x<=24):∀(ps:List Bytes) (acc s:aaf),jk fd (ps.map tx) acc=some s↔∃t,ps.mapM numberOf=some t/\s=acc++t/\(∀x y,acc.getLast?=some x->t.head?=some y->x < y)/\risesN t=true/\∀x∈t,x∈fd
 |[],acc,s=>by
  show some acc=some s↔_;constructor
  · intro e;injection e with e;exact⟨[],rfl,by simp[e],λ_ _ _ z=>(by cases z),rfl,λ_ z=>(by cases z)⟩
  · rintro⟨t,e,rfl,_⟩;have e:some []=some t:=e;injection e with e;subst e;simp
 |p::r,acc,s=>by
  show (if Fits fd acc (tx p) then jk fd (r.map tx) (acc++[(ay (tx p)).toNat]) else none)=some s↔_;constructor
  · intro h;split at h
    · rename_i hn;obtain⟨n,e1,e2,e3⟩:=hn;have QG:=hf n e2;have e4:=(dW (w:=p) (m:=n) (by omega)).mp e1;obtain⟨t,a1,a2,a3,a4,a5⟩:=(iw hf r _ s).mp h;have en:(ay (tx p)).toNat=n:=by omega
      rw[en] at a2 a3;refine⟨n::t,mapM_some.mpr ⟨n,t,e4,a1,rfl⟩,by rw[a2,YY];rfl,λx y hx hy=>?_,k7.mpr ⟨λy hy=>a3 n y (by rw[List.getLast?_append];rfl) hy,a4⟩,λx hx=>?_⟩
      · injection hy with hy;subst hy;exact e3 x hx
      · rcases Xy.mp hx with rfl|hx
        · exact e2
        · exact a5 x hx
    · cases h
  · rintro⟨t,a1,a2,a3,a4,a5⟩;obtain⟨n,t',e4,U1,rfl⟩:=mapM_some.mp a1;have e2:=a5 n (by simp);have QG:=hf n e2;have e1:=(dW (w:=p) (m:=n) (by omega)).mpr e4;rw[Xw ⟨n,e1,e2,λx hx=>a3 x n hx rfl⟩];have en:(ay (tx p)).toNat=n:=by omega
    rw[en];obtain⟨r1,r2⟩:=k7.mp a4;refine (iw hf r _ s).mpr ⟨t',U1,by rw[a2,YY];rfl,λx y hx hy=>?_,r2,λx hx=>a5 x (by simp[hx])⟩;rw[List.getLast?_append] at hx;have hx:some n=some x:=hx;injection hx with hx;subst hx;exact r1 y hy
theorem Km {fd t:aaf}(h:∀x∈t,x∈fd):t.all fd.contains=true:=by
 rw[X1];intro x hx;rw[YC];exact X_ (h x hx)
theorem Lp {fd t:aaf}(h:t.all fd.contains=true):∀x∈t,x∈fd:=λx hx=>by
 have:=(X1.mp h) x hx;rw[YC] at this;exact XR this
theorem Ag {e:Nat}{fd:aaf}:setIn e fd []=.error ⟨3,e⟩:=rfl
theorem pF {e:Nat}{fd:aaf}(hf:∀x∈fd,x<=24){w:Word}{r:List Word}:setIn e fd (w::r)=match setM fd (tx w.w) with
  |none=>.error ⟨4,w.at_⟩
  |some s=>.ok ((s,w.at_),r):=by
 have sp:aV 44 [] (tx w.w)=(splitOn 44 [] w.w).map tx:=iu (c:=44) (by decide) w.w [];show (match (splitOn 44 [] w.w).mapM numberOf with
 |none=>(Except.error ⟨4,w.at_⟩:Except Fault ((aaf×Nat)×List Word))
 |some s=>if risesN s=true/\s.all fd.contains=true then (pure ((s,w.at_),r):Except Fault _) else .error ⟨4,w.at_⟩)=_
 unfold setM;rw[sp];generalize splitOn 44 [] w.w=ps;cases h:jk fd (ps.map tx) [] with
 |some s =>
  obtain⟨t,a1,a2,_,a4,a5⟩:=(iw hf ps [] s).mp h;rw[Yq] at a2;subst a2;rw[a1];show (if risesN s=true/\s.all fd.contains=true then (pure ((s,w.at_),r):Except Fault _) else .error ⟨4,w.at_⟩)=_;rw[Xw ⟨a4,Km a5⟩];rfl
 |none =>
  cases h1:ps.mapM numberOf with
  |none=>rfl
  |some t =>
   show (if risesN t=true/\t.all fd.contains=true then (pure ((t,w.at_),r):Except Fault _) else .error ⟨4,w.at_⟩)=_;rw[Xv];rintro⟨b1,b2⟩;have:=(iw hf ps [] t).mpr ⟨t,h1,by simp,λ_ _ z=>(by cases z),b1,Lp b2⟩;rw[this] at h;cases h
theorem oO {fd:aaf}:∀(ps:List W) (acc s:aaf),jk fd ps acc=some s->ps≠[]∨acc≠[]->s≠[]
 |[],acc,s,h,hn=>by
  have h:some acc=some s:=h;injection h with h;subst h;simpa using hn
 |p::r,acc,s,h,_=>by
  have h:(if Fits fd acc p then jk fd r (acc++[(ay p).toNat]) else none)=some s:=h;split at h
  · exact oO r _ s h (.inr (by simp))
  · cases h
theorem vT {c:Nat}:∀(l w:W),aV c w l≠[]
 |[],w=>by show [w]≠[];simp
 |x::r,w=>by
  unfold aV;split
  · simp
  · exact vT r _
theorem Bn {l:aaf}(h:risesN l=true):cq l:=by
 induction l with
 |nil=>exact List.Pairwise.nil
 |cons x r ih =>
  obtain⟨h1,h2⟩:=k7.mp h;have ih:=ih h2;refine List.Pairwise.cons (λy hy=>?_) ih;cases r with
  |nil=>cases hy
  |cons z r =>
   have h1:=h1 z rfl;rcases Xy.mp hy with rfl|hy
   · exact h1
   · have:=(YN.mp ih).1 y hy;omega
theorem dv {e:Nat}{fd:aaf}(hf:∀x∈fd,x<=24){l:List Word}{x:(aaf×Nat)×List Word}(h:setIn e fd l=.ok x):bH fd x.1.1/\x.1.1≠[]/\∃w,l=w::x.2/\x.1.2=w.at_/\setM fd (tx w.w)=some x.1.1:=by
 cases l with
 |nil=>cases h
 |cons w r =>
  rw[pF hf] at h;cases hs:setM fd (tx w.w) with
  |none=>rw[hs] at h;cases h
  |some s =>
   rw[hs] at h;injection h with h;subst h;have sp:aV 44 [] (tx w.w)=(splitOn 44 [] w.w).map tx:=iu (c:=44) (by decide) w.w [];have PD:=hs;unfold setM at PD;have ne:s≠[]:=oO _ _ _ PD (.inl (vT _ _));rw[sp] at PD;obtain⟨t,_,a2,_,a4,a5⟩:=(iw hf _ _ s).mp PD;rw[Yq] at a2;subst a2;exact⟨⟨Bn a4,a5⟩,ne,w,rfl,rfl,hs⟩
theorem CC {e:Nat}{s:String}:must e s []=.error ⟨3,e⟩:=rfl
theorem su {e:Nat}{s:String}{w:Word}{r:List Word}:must e s (w::r)=if w.w=ascii s then .ok r else .error ⟨3,w.at_⟩:=rfl
abbrev Got:=Except Fault (aae×List Word)
def jq (e:Nat):aae->aae->List Word->Got
 |[],acc,l=>.ok (acc,l)
 |h::t,acc,l=>match (if 0 < acc.length then must e "/" l else .ok l) with
  |.error x=>.error x
  |.ok m=>match setIn e h m with
   |.error x=>.error x
   |.ok s=>jq e t (acc++[s.1.1]) s.2
def xi (e k:Nat)(heads:aaf)(l:List Word):Got:=match setIn e heads l with
 |.error x=>.error x
 |.ok s=>if k<=s.1.1.length then .ok ([s.1.1],s.2) else .error ⟨4,s.1.2⟩
def rk (e k:Nat)(heads sa:aaf)(m:List Word):Got:=match setIn e heads m with
 |.error x=>.error x
 |.ok b=>if (∀x∈b.1.1,¬x∈sa)/\k<=sa.length+b.1.1.length then .ok ([sa,b.1.1],b.2) else .error ⟨4,b.1.2⟩
def sG (e k:Nat)(heads sa:aaf)(p:Nat)(r:List Word):Got:=if sa.length < k then (match must e "with" r with
  |.error x=>.error x
  |.ok m=>rk e k heads sa m) else .error ⟨4,p⟩
def wx (e k:Nat)(heads:aaf)(l:List Word):Got:=match setIn e heads l with
 |.error x=>.error x
 |.ok a=>sG e k heads a.1.1 a.1.2 a.2
def jh (x:Got):Except Fault (aae):=match x with
 |.error t=>.error t
 |.ok y=>match y.2 with
  |[]=>.ok y.1
  |w::_=>.error ⟨3,w.at_⟩
theorem HC {e:Nat}{p:Pool}{heads:aaf}{l:List Word}:boxIn e p heads l=jh (xi e p.k heads l):=by
 unfold boxIn xi;cases h:setIn e heads l with
 |error x=>rfl
 |ok s =>
  by_cases hk:p.k<=s.1.1.length
  · show (holds (decide (p.k<=s.1.1.length)) 4 s.1.2 >>= λ_=>closed s.2 >>= λ_=>pure [s.1.1])=jh (if p.k<=s.1.1.length then .ok ([s.1.1],s.2) else .error ⟨4,s.1.2⟩);rw[Xw hk];unfold holds;rw[Xw (X_ hk)];show (closed s.2 >>= λ_=>pure [s.1.1])=jh (.ok ([s.1.1],s.2));unfold jh;show _=(match s.2 with
     |[]=>(Except.ok [s.1.1]:Except Fault _)
     |w::_=>.error ⟨3,w.at_⟩)
    cases s.2 <;> rfl
  · show (holds (decide (p.k<=s.1.1.length)) 4 s.1.2 >>= λ_=>closed s.2 >>= λ_=>pure [s.1.1])=jh (if p.k<=s.1.1.length then .ok ([s.1.1],s.2) else .error ⟨4,s.1.2⟩);rw[Xv hk];unfold holds;rw[Xv (by simpa using hk)];rfl
theorem Ej {a b:aaf}{k:Nat}:(!(b.any λ(x:Nat)=>a.contains x)&&decide (k<=a.length+b.length))=decide ((∀x∈b,¬x∈a)/\k<=a.length+b.length):=by
 rw[X9];simp
theorem Ia {e:Nat}{p:Pool}{heads:aaf}{l:List Word}:keyIn e p heads l=jh (wx e p.k heads l):=by
 unfold keyIn wx;cases h:setIn e heads l with
 |error x=>rfl
 |ok a =>
  show (holds (decide (a.1.1.length < p.k)) 4 a.1.2 >>= λ_=>must e "with" a.2 >>= λm=>setIn e heads m >>= λb=>holds (!(b.1.1.any λ(x:Nat)=>a.1.1.contains x)&&decide (p.k<=a.1.1.length+b.1.1.length)) 4 b.1.2 >>= λ_=>closed b.2 >>= λ_=>pure [a.1.1,b.1.1])
   = jh (if a.1.1.length < p.k then (match must e "with" a.2 with
    |.error x=>.error x
    |.ok m=>match setIn e heads m with
     |.error x=>.error x
     |.ok b=>if (∀x∈b.1.1,¬x∈a.1.1)/\p.k<=a.1.1.length+b.1.1.length then .ok ([a.1.1,b.1.1],b.2) else .error ⟨4,b.1.2⟩) else .error ⟨4,a.1.2⟩)
  by_cases hk:a.1.1.length < p.k
  · rw[Xw hk];unfold holds;rw[Xw (X_ hk)];cases hm:must e "with" a.2 with
    |error x=>rfl
    |ok m =>
     show (setIn e heads m >>= λb=>(if (!(b.1.1.any λ(x:Nat)=>a.1.1.contains x)&&decide (p.k<=a.1.1.length+b.1.1.length))=true then Except.ok () else .error ⟨4,b.1.2⟩) >>= λ_=>closed b.2 >>= λ_=>pure [a.1.1,b.1.1])=jh (match setIn e heads m with
      |.error x=>.error x
      |.ok b=>if (∀x∈b.1.1,¬x∈a.1.1)/\p.k<=a.1.1.length+b.1.1.length then .ok ([a.1.1,b.1.1],b.2) else .error ⟨4,b.1.2⟩)
     cases hb:setIn e heads m with
     |error x=>rfl
     |ok b =>
      show ((if (!(b.1.1.any λ(x:Nat)=>a.1.1.contains x)&&decide (p.k<=a.1.1.length+b.1.1.length))=true then Except.ok () else .error ⟨4,b.1.2⟩) >>= λ_=>closed b.2 >>= λ_=>pure [a.1.1,b.1.1])=jh (if (∀x∈b.1.1,¬x∈a.1.1)/\p.k<=a.1.1.length+b.1.1.length then .ok ([a.1.1,b.1.1],b.2) else .error ⟨4,b.1.2⟩);rw[Ej];by_cases hq:(∀x∈b.1.1,¬x∈a.1.1)/\p.k<=a.1.1.length+b.1.1.length
      · rw[Xw hq,Xw (X_ hq)];show (closed b.2 >>= λ_=>pure [a.1.1,b.1.1])=(match b.2 with
         |[]=>Except.ok [a.1.1,b.1.1]
         |w::_=>.error ⟨3,w.at_⟩)
        cases b.2 <;> rfl
      · rw[Xv hq,Xv (by rw[XC];exact hq)];rfl
  · rw[Xv hk];unfold holds;rw[Xv (by simpa using hk)];rfl
def lQ (acc:aae)(x:Except Fault (aae)):Except Fault (aae):=match x with
 |.error t=>.error t
 |.ok y=>.ok (acc++y)
theorem CD {e:Nat}:∀(fs acc:aae) (l:List Word),acc≠[]->fs≠[]->jh (jq e fs acc l)=lQ acc (must e "/" l >>= λm=>setsIn e fs m)
 |[],_,_,_,h=>absurd rfl h
 |h::t,acc,l,ha,_=>by
  have hl:0 < acc.length:=Yz.mpr ha;unfold jq;rw[Xw hl];cases hm:must e "/" l with
  |error x=>rfl
  |ok m =>
   show jh (match setIn e h m with
    |.error x=>.error x
    |.ok s=>jq e t (acc++[s.1.1]) s.2)=lQ acc (setsIn e (h::t) m)
   cases t with
   |nil =>
    show _=lQ acc (setIn e h m >>= λs=>closed s.2 >>= λ_=>pure [s.1.1]);cases hs:setIn e h m with
    |error x=>rfl
    |ok s =>
     show jh (.ok (acc++[s.1.1],s.2))=lQ acc (closed s.2 >>= λ_=>pure [s.1.1]);unfold jh;show (match s.2 with
      |[]=>(Except.ok (acc++[s.1.1]):Except Fault _)
      |w::_=>.error ⟨3,w.at_⟩)=_
     cases s.2 <;> rfl
   |cons h2 t2 =>
    show _=lQ acc (setIn e h m >>= λs=>must e "/" s.2 >>= λm=>setsIn e (h2::t2) m >>= λr=>pure (s.1.1::r));cases hs:setIn e h m with
    |error x=>rfl
    |ok s =>
     show jh (jq e (h2::t2) (acc++[s.1.1]) s.2)=lQ acc (must e "/" s.2 >>= λm=>setsIn e (h2::t2) m >>= λr=>pure (s.1.1::r));rw[CD (h2::t2) (acc++[s.1.1]) s.2 (by simp) (by simp)];cases must e "/" s.2 with
     |error x=>rfl
     |ok m2 =>
      show lQ _ (setsIn e (h2::t2) m2)=lQ acc (setsIn e (h2::t2) m2 >>= λr=>pure (s.1.1::r));cases setsIn e (h2::t2) m2 with
      |error x=>rfl
      |ok r =>
       show Except.ok (acc++[s.1.1]++r)=Except.ok (acc++(s.1.1::r));rw[YY];rfl
theorem IW {e:Nat}{fs:aae}{l:List Word}:setsIn e fs l=jh (jq e fs [] l):=by
 cases fs with
 |nil =>
  show (closed l).map (λ(_:Unit)=>[])=(match l with
   |[]=>Except.ok []
   |w::_=>.error ⟨3,w.at_⟩)
  cases l <;> rfl
 |cons h t =>
  show _=jh (match setIn e h l with
   |.error x=>.error x
   |.ok s=>jq e t ([]++[s.1.1]) s.2)
  cases t with
  |nil =>
   show (setIn e h l >>= λs=>closed s.2 >>= λ_=>pure [s.1.1])=_;cases hs:setIn e h l with
   |error x=>rfl
   |ok s =>
    show (closed s.2 >>= λ_=>pure [s.1.1])=(match s.2 with
     |[]=>Except.ok ([]++[s.1.1])
     |w::_=>.error ⟨3,w.at_⟩)
    cases s.2 <;> rfl
  |cons h2 t2 =>
   show (setIn e h l >>= λs=>must e "/" s.2 >>= λm=>setsIn e (h2::t2) m >>= λr=>pure (s.1.1::r))=_;cases hs:setIn e h l with
   |error x=>rfl
   |ok s =>
    show (must e "/" s.2 >>= λm=>setsIn e (h2::t2) m >>= λr=>pure (s.1.1::r))=jh (jq e (h2::t2) ([]++[s.1.1]) s.2);rw[CD (h2::t2) ([]++[s.1.1]) s.2 (by simp) (by simp)];cases must e "/" s.2 with
    |error x=>rfl
    |ok m2 =>
     show (setsIn e (h2::t2) m2 >>= λr=>pure (s.1.1::r))=lQ _ (setsIn e (h2::t2) m2);cases setsIn e (h2::t2) m2 with
     |error x=>rfl
     |ok r=>rfl
structure Du (p:aK):Prop where
 ne:p.fields≠[]
 len:p.fields.length<=24
 hi:∀fd∈p.fields,∀x∈fd,x<=24
 unit:1<=p.unit
 six:p.fields.length<=6
 D6:p.kind=.any->p.fields.length<=3
 lo:∀fd∈p.fields,∀x∈fd,1<=x
 Ky:p.kind=.order->p.fields.length<=4
 Kr:p.kind≠.legs->∀fd∈p.fields,fd≠[]
 rise:∀fd∈p.fields,cq fd
def fD (e:Nat)(p:aK)(how:Nat)(l:List Word):Got:=if how=0 then jq e p.fields [] l else if how=1 then xi e p.fields.length (p.fields.getD 0 []) l else wx e p.fields.length (p.fields.getD 0 []) l
def cR (p:aK):Bool:=p.kind==.order||p.kind==.any
def jn (p:aK)(w:Bytes):Option Nat:=if w=ascii "on" then some 0 else if w=ascii "box"/\cR p=true then some 1 else if w=ascii "key"/\cR p=true then some 2 else none
def dQ (ps:List aK)(w:W):Option Nat:=ps.findIdx? λp=>p.name==w
def ck (n:Nat):How:=if n=0 then .on else if n=1 then .box else .key
structure bO where
 pool:Nat
 how:Nat
 stake:Nat
 sets:aae
structure uC (p:aK)(how:Nat)(sets:aae):Prop where
 ok:Du p
 way:how=0∨cR p=true
 read:∃e l r,fD e p how l=.ok (sets,r)
def eQ (u:Nat)(w:W):Prop:=1<=ay w/\ay w<=1000000/\ay w % (u:Int)=0
instance {u:Nat}{w:W}:Decidable (eQ u w):=by unfold eQ;exact inferInstance
def G9 (i how stake hp sp:Nat)(p:aK)(sets:aae):Except Fault bO :=
 if countM p.kind (ck how) p.fields.length sets=0 then .error ⟨6,hp⟩ else if 2147483647 < stake*countM p.kind (ck how) p.fields.length sets then .error ⟨7,sp⟩ else .ok ⟨i,how,stake,sets⟩
def wZ (e i how stake hp sp:Nat)(p:aK)(x:Got):Except Fault bO:=match jh x with
 |.error t=>.error t
 |.ok sets=>G9 i how stake hp sp p sets
def IQ (e i:Nat)(p:aK)(stake sp:Nat):List Word->Except Fault bO
 |[]=>.error ⟨3,e⟩
 |hw::r=>match jn p hw.w with
  |none=>.error ⟨3,hw.at_⟩
  |some how=>wZ e i how stake hw.at_ sp p (fD e p how r)
def JC (e i:Nat)(p:aK):List Word->Except Fault bO
 |[]=>.error ⟨3,e⟩
 |sw::r=>if eQ p.unit (tx sw.w) then IQ e i p (ay (tx sw.w)).toNat sw.at_ r else .error ⟨4,sw.at_⟩
def AV (e i:Nat)(p:aK)(l:List Word):Except Fault bO:=match must e "for" l with
 |.error t=>.error t
 |.ok m=>JC e i p m
def I_ (e:Nat)(ps:List aK):List Word->Except Fault bO
 |[]=>.error ⟨3,e⟩
 |n::r=>match dQ ps (tx n.w) with
  |none=>.error ⟨5,n.at_⟩
  |some i=>match ps[i]? with
   |none=>.error ⟨5,n.at_⟩
   |some p=>AV e i p r
def AQ (e:Nat)(ps:List aK)(l:List Word):Except Fault bO:=match must e "bet" l with
 |.error t=>.error t
 |.ok m=>I_ e ps m
theorem wL {ps:List aK}{w:W}{i:Nat}(h:dQ ps w=some i):i < ps.length:=by
 unfold dQ at h;rw[ZL] at h;exact h.1
theorem vP {v:Bytes}(h:isName v=true):∀c∈v,t7 c.toNat=true:=λc hc=>by
 rw[←j7] at h;have h2:=kb h;have:sg c.toNat∈tx v:=X4.mpr ⟨c,hc,rfl⟩;have h3:=h2.2 _ this;rw[qA,pV] at h3;unfold t7;rw[h3];rfl
theorem EA {C:Card}(o:cn C)(v:Bytes):dQ (C.pools.map (aA C)) (tx v)=C.pools.findIdx? λp=>p.name==v:=by
 unfold dQ;rw[List.findIdx?_map];have:∀(l:List Pool),(∀p∈l,isName p.name=true)->List.findIdx? ((λp=>p.name==tx v) ∘ aA C) l=l.findIdx? λp=>p.name==v:=λl=>by
  induction l with
  |nil=>intro _;rfl
  |cons p r ih =>
   intro hn;rw[List.findIdx?_cons,List.findIdx?_cons,ih λq hq=>hn q (by simp[hq])];have e:((λp=>p.name==tx v) ∘ aA C) p=(p.name==v):=by
    show (tx p.name==tx v)=_;rw[X9,Yl,Yl];constructor
    · intro z;have:=(rK (v:=p.name) (w:=v) (vP (hn p (by simp)))).mp;have e2:tx p.name=p.name.map UInt8.toNat:=(rK (v:=p.name) (w:=p.name) (vP (hn p (by simp)))).mpr rfl;exact (this (by rw[←z,e2])).symm
    · intro z;rw[z]
   rw[e]
 exact this C.pools λp hp=>(o.pools p hp).name
theorem pH {C:Card}(o:cn C){r:Nat}(h1:1<=r)(h2:r<=C.races.length):cP (C.headsOf r):=by
 unfold Card.headsOf;rw[XE (by omega)];exact o.heads _ (Zl _)
theorem iD {p:Pool}(h:p.kind=.order∨p.kind=.any):p.places=p.k:=by
 unfold Pool.places;rw[Xv];rcases h with h|h <;> rw[h] <;> decide
theorem gU {C:Card}{p:Pool}(h:dX C p)(hk:p.kind≠.legs):fieldsOf C p=List.replicate p.places (C.headsOf p.race):=by
 unfold fieldsOf;rw[Xv hk]
theorem t9 {k:Kind}:mostK k<=6:=by cases k <;> decide
theorem k9 {C:Card}{p:Pool}(h:dX C p):1<=p.places:=by
 unfold Pool.places;split
 · exact XD _
 · have:=h.IK;have:1<=leastK p.kind:=by cases p.kind <;> decide
   omega
theorem Ai {C:Card}{p:Pool}(h:dX C p):p.places<=6:=by
 unfold Pool.places;split
 · decide
 · have:=h.Ge;have:=t9 (k:=p.kind);omega
theorem Lw {C:Card}(o:cn C){p:Pool}(h:dX C p):Du (aA C p):=by
 have hu:=h.unit;by_cases hk:p.kind=.legs
 · have e:(aA C p).fields=((rh C).drop (p.race - 1)).take p.k:=by
    show fieldsOf C p=_;unfold fieldsOf;rw[Xw hk];exact rN C p hk h.El (h.legs hk)
   have hl:=h.legs hk;have hr:=h.El;have QH:=h.IK;have hm:2<=p.k:=by rw[hk] at QH;exact QH
   have hn:(rh C).length=C.races.length:=by unfold rh;rw[Xu]
   have hlen:(aA C p).fields.length=p.k:=by
    rw[e,XU,Yn];omega
   have of:∀fd∈(aA C p).fields,cP fd:=λfd hf=>by
    rw[e] at hf;have:fd∈rh C:=Y4 (Zb hf);unfold rh at this;obtain⟨r,hr,rfl⟩:=X4.mp this;exact o.heads r hr
   refine⟨λz=>by rw[z] at hlen;simp at hlen;omega,by have:=h.Ge;have:=t9 (k:=p.kind);omega,λfd hf x hx=>?_,hu,by have:=h.Ge;have:=t9 (k:=p.kind);omega,λz=>(by have z:p.kind=.any:=z;rw[hk] at z;cases z),λfd hf x hx=>(of fd hf).lo x hx,λz=>(by have z:p.kind=.order:=z;rw[hk] at z;cases z),λz=>absurd hk z,λfd hf=>(of fd hf).rise⟩;exact (of fd hf).hi x hx
 · have e:(aA C p).fields=List.replicate p.places (C.headsOf p.race):=gU h hk;have p1:=k9 h;have p2:=Ai h;have of:∀fd∈(aA C p).fields,cP fd:=λfd hf=>by
    rw[e] at hf;rw[Yw hf];exact pH o h.El h.K5
   refine⟨λz=>by rw[z] at e;have:=YB List.length e;simp at this;omega,by rw[e,X5];omega,λfd hf x hx=>?_,hu,by rw[e,X5];omega,λz=>by
    have z:p.kind=.any:=z;rw[e,X5,iD (.inr z)];have:=h.Ge;rw[z] at this;exact this,λfd hf x hx=>(of fd hf).lo x hx,λz=>by
    have z:p.kind=.order:=z;rw[e,X5,iD (.inl z)];have:=h.Ge;rw[z] at this;exact this,λ_ fd hf z=>by
    rw[e] at hf;rw[Yw hf] at z;have f:=h.vY hk;rw[z] at f;have l:=h.IK;have:1<=leastK p.kind:=by cases p.kind <;> decide
    have f:p.k<=0:=f;omega,λfd hf=>(of fd hf).rise⟩
   exact (of fd hf).hi x hx
theorem oU {e:Nat}:∀(fs acc:aae) (l:List Word) (s:aae) (r:List Word),(∀fd∈fs,∀x∈fd,x<=24)->jq e fs acc l=.ok (s,r)->s.length=acc.length+fs.length/\(∀x∈s,x∈acc∨∃fd∈fs,bH fd x/\x≠[])/\(∀x∈acc,x∈s)/\∀fd∈fs,∃x∈s,bH fd x/\x≠[]
 |[],acc,l,s,r,_,h=>by
  have h:(Except.ok (acc,l):Got)=.ok (s,r):=h;injection h with h;injection h with h1 h2;subst h1;exact⟨rfl,λx hx=>.inl hx,λx hx=>hx,λfd hf=>by cases hf⟩
 |f::fs,acc,l,s,r,hf,h=>by
  have h:(match (if 0 < acc.length then must e "/" l else .ok l) with
   |.error x=>(Except.error x:Got)
   |.ok m=>match setIn e f m with
    |.error x=>.error x
    |.ok s=>jq e fs (acc++[s.1.1]) s.2)=.ok (s,r):=h
  cases hm:(if 0 < acc.length then must e "/" l else .ok l) with
  |error x=>rw[hm] at h;cases h
  |ok m =>
   rw[hm] at h;have h:(match setIn e f m with
    |.error x=>(Except.error x:Got)
    |.ok s=>jq e fs (acc++[s.1.1]) s.2)=.ok (s,r):=h
   have ef:=hf f (by simp);cases hs:setIn e f m with
   |error x=>rw[hs] at h;cases h
   |ok y =>
    rw[hs] at h;obtain⟨g,ne,_⟩:=dv ef hs;obtain⟨i1,i2,i3,i4⟩:=oU fs (acc++[y.1.1]) y.2 s r (λfd MH=>hf fd (by simp[MH])) h;refine⟨by rw[i1];simp;omega,λx hx=>?_,λx hx=>i3 x (by simp[hx]),λfd MH=>?_⟩
    · rcases i2 x hx with z|⟨fd,MH,z⟩
      · rcases Yk.mp z with z|z
        · exact .inl z
        · rw[XJ] at z;subst z;exact .inr ⟨f,by simp,g,ne⟩
      · exact .inr ⟨fd,by simp[MH],z⟩
    · rcases Xy.mp MH with rfl|MH
      · exact⟨y.1.1,i3 _ (by simp),g,ne⟩
      · exact i4 fd MH
theorem E_ {e:Nat}{heads:aaf}(M1:∀x∈heads,x<=24)(fs acc:aae)(l:List Word)(s:aae)(r:List Word)(hf:∀fd∈fs,fd=heads)(h:jq e fs acc l=.ok (s,r)):s.length=acc.length+fs.length/\∀x∈s,x∈acc∨bH heads x:=by
 obtain⟨h1,h2,_⟩:=oU fs acc l s r (λfd MH=>by rw[hf fd MH];exact M1) h;exact⟨h1,λx hx=>(h2 x hx).imp id λ⟨fd,MH,g,_⟩=>by rwa [hf fd MH] at g⟩
theorem yB {e k:Nat}{heads:aaf}(M1:∀x∈heads,x<=24){l r:List Word}{s:aae}(h:xi e k heads l=.ok (s,r)):∃t,s=[t]/\k<=t.length/\bH heads t:=by
 unfold xi at h;cases hs:setIn e heads l with
 |error x=>rw[hs] at h;cases h
 |ok y =>
  rw[hs] at h;have h:(if k<=y.1.1.length then (Except.ok ([y.1.1],y.2):Got) else .error ⟨4,y.1.2⟩)=.ok (s,r):=h;split at h
  · rename_i hk;injection h with h;injection h with h1 h2;exact⟨_,h1.symm,hk,(dv M1 hs).1⟩
  · cases h
theorem yG {e k:Nat}{heads:aaf}(M1:∀x∈heads,x<=24){l r:List Word}{s:aae}(h:wx e k heads l=.ok (s,r)):∃a b,s=[a,b]/\a.length < k/\(∀x∈b,¬x∈a)/\k<=a.length+b.length/\bH heads a/\bH heads b/\a≠[]:=by
 unfold wx at h;cases hs:setIn e heads l with
 |error x=>rw[hs] at h;cases h
 |ok y =>
  rw[hs] at h;have h:sG e k heads y.1.1 y.1.2 y.2=.ok (s,r):=h;unfold sG at h;split at h
  · rename_i hk;cases hm:must e "with" y.2 with
    |error x=>rw[hm] at h;cases h
    |ok m =>
     rw[hm] at h;have h:rk e k heads y.1.1 m=.ok (s,r):=h;unfold rk at h;cases hb:setIn e heads m with
     |error x=>rw[hb] at h;cases h
     |ok z =>
      rw[hb] at h;have h:(if (∀x∈z.1.1,¬x∈y.1.1)/\k<=y.1.1.length+z.1.1.length then (Except.ok ([y.1.1,z.1.1],z.2):Got) else .error ⟨4,z.1.2⟩)=.ok (s,r):=h;split at h
      · rename_i hq;injection h with h;injection h with h1 h2;exact⟨_,_,h1.symm,hk,hq.1,hq.2,(dv M1 hs).1,(dv M1 hb).1,(dv M1 hs).2.1⟩
      · cases h
  · cases h
theorem mn {s:aaf}(h:cq s)(M1:∀x∈s,x<=24):s.length<=25:=by
 have:=gZ (m:=List.range 25) h.nodup λx hx=>Zi.mpr (by have:=M1 x hx;omega);simpa using this
structure C4 (ss:aae):Prop where
 len:ss.length<=6
 good:∀s∈ss,cq s/\∀x∈s,x<=24
 lo:∀s∈ss,∀x∈s,1<=x
structure uD (kd:Kind)(gs:List (aae)):Prop where
 ne:gs≠[]
 vY:gs.length<=4096
 ok:∀g∈gs,C4 g
 any:kd=.any->∀g∈gs,g.length<=3
theorem tX {p:aK}(o:Du p):p.fields.getD 0 []∈p.fields:=by
 have hl:0 < p.fields.length:=Yz.mpr o.ne;have eg:p.fields.getD 0 []=p.fields[0]:=by rw[Yd,XE hl];rfl
 rw[eg];exact Zl hl
theorem uC.all {p:aK}{how:Nat}{sets:aae}(m:uC p how sets):(∀s∈sets,s≠[]/\∃fd∈p.fields,bH fd s)/\(how=0->sets.length=p.fields.length/\∀fd∈p.fields,fd≠[])/\(how=1->∃t,sets=[t]/\p.fields.length<=t.length)/\(how≠0->how≠1->∃a b,sets=[a,b]/\a.length < p.fields.length/\(∀x∈b,¬x∈a)/\p.fields.length<=a.length+b.length):=by
 obtain⟨e,l,r,hr⟩:=m.read;unfold fD at hr;by_cases h0:how=0
 · rw[Xw h0] at hr;obtain⟨h1,h2,_,h4⟩:=oU _ [] l sets r m.ok.hi hr;refine⟨λs hs=>?_,λ_=>⟨by simpa using h1,λfd hf z=>?_⟩,λz=>by omega,λz=>absurd h0 z⟩
   · obtain⟨fd,hf,g,ne⟩:=(h2 s hs).resolve_left (by simp);exact⟨ne,fd,hf,g⟩
   · obtain⟨s,_,g,ne⟩:=h4 fd hf;obtain⟨x,hx⟩:=List.exists_mem_of_ne_nil s ne;have:=g.sub x hx;rw[z] at this;cases this
 · rw[Xv h0] at hr;have f:=m.ok.hi _ (tX m.ok);by_cases h1:how=1
   · rw[Xw h1] at hr;obtain⟨t,rfl,h2,g⟩:=yB f hr;have pos:0 < p.fields.length:=Yz.mpr m.ok.ne;exact⟨λs hs=>by rw[XJ.mp hs];exact⟨λz=>by rw[z] at h2;have h2:p.fields.length<=0:=h2;omega,_,tX m.ok,g⟩,λz=>absurd z h0,λ_=>⟨t,rfl,h2⟩,λ_ z=>absurd h1 z⟩
   · rw[Xv h1] at hr;obtain⟨a,b,rfl,z2,z3,z4,g1,g2,g3⟩:=yG f hr;refine⟨λs hs=>?_,λz=>absurd z h0,λz=>absurd z h1,λ_ _=>⟨a,b,rfl,z2,z3,z4⟩⟩;rcases Xy.mp hs with e|e
     · rw[e];exact⟨g3,_,tX m.ok,g1⟩
     · rw[XJ.mp e];exact⟨λz=>by rw[z] at z4;simp at z4;omega,_,tX m.ok,g2⟩
theorem uC.good {p:aK}{how:Nat}{sets:aae}(m:uC p how sets):∀s∈sets,cq s/\(∀x∈s,x<=24)/\∀x∈s,1<=x:=λs hs=>by
 obtain⟨_,fd,hf,g⟩:=m.all.1 s hs;exact⟨g.rise,λx hx=>m.ok.hi fd hf x (g.sub x hx),λx hx=>m.ok.lo fd hf x (g.sub x hx)⟩
theorem sT {a:Nat}{B:aaf}:∀g:aae,(jr a B g).length<=g.length
 |[]=>XD _
 |s::g=>by
  have:=sT (a:=a) (B:=B) g;show ((if s==B then [[a]::g] else [])++(jr a B g).map λr=>s::r).length<=_;rw[XT,Xu,XG];split
  · show 1+_<=_;omega
  · show 0+_<=_;omega
theorem pG {α β:Type}{f:α->List β}{c:Nat}:∀{l:List α},(∀x∈l,(f x).length<=c)->(l.flatMap f).length<=l.length*c
 |[],_=>X2 _
 |x::l,h=>by
  rw[ZQ,XT,XG,Nat.succ_mul];have:=h x (by simp);have:=pG (l:=l) λy hy=>h y (by simp[hy]);omega
theorem mY {B:aaf}{k:Nat}:∀{A:aaf} {gs:List (aae)},(∀g∈gs,g.length=k)->(bD B A gs).length<=gs.length*k ^ A.length
 |[],gs,_=>by simp[bD]
 |a::A,gs,h=>by
  have ih:=mY (B:=B) (A:=A) (gs:=gs.flatMap (jr a B)) (k:=k) λg hg=>by
   obtain⟨g0,h0,hr⟩:=ZC.mp hg;rw[(oH hr).1,h g0 h0]
  have l1:(gs.flatMap (jr a B)).length<=gs.length*k:=pG λg hg=>by rw[←h g hg];exact sT g
  show (bD B A (gs.flatMap (jr a B))).length<=_;rw[XG,Zz,ZM (k ^ A.length) k,←Nat.mul_assoc];exact Yi ih (Nat.mul_le_mul_right _ l1)
theorem Dr {t:aaf}{k:Nat}(h6:k<=6)(g:cq t/\(∀x∈t,x<=24)/\∀x∈t,1<=x):C4 (List.replicate k t) :=
 ⟨by rw[X5];exact h6,λs hs=>by rw[Yw hs];exact⟨g.1,g.2.1⟩,λs hs=>by rw[Yw hs];exact g.2.2⟩
theorem uD.bD {kd:Kind}{A B:aaf}{k:Nat}(gA:cq A/\(∀x∈A,x<=24)/\∀x∈A,1<=x)(gB:cq B/\(∀x∈B,x<=24)/\∀x∈B,1<=x)(L_:∀x∈B,¬x∈A)(hA:A.length < k)(h4:k<=4)(h3:kd=.any->k<=3):uD kd (bD B A [List.replicate k B]):=by
 obtain⟨h1,h2⟩:=iS (B:=B) (k:=k) (A:=A) (had:=[]) (gs:=[List.replicate k B]) (λx hx m=>L_ x m (by simpa using hx)) (by simpa using gA.1.nodup) (by simp) (λg hg=>by
  rw[XJ] at hg;subst hg;exact⟨by simp,λs hs=>.inl (Yw hs),by simp⟩)
 obtain⟨q,e⟩:=lr (B:=B) (A:=A) (P:=[]) (j:=k) (rest:=[]) (λx hx m=>L_ x m (by simpa using hx)) (by omega);rw[YU,Yq,Yq] at e;rw[Yq] at h2;have len:=mY (B:=B) (A:=A) (k:=k) (gs:=[List.replicate k B]) (λg hg=>by rw[XJ.mp hg,X5]);have pw:k ^ A.length<=4 ^ 3:=Yi (Nat.pow_le_pow_left h4 _) (Zx (by decide) (by omega));have is:∀g∈Bw.bD B A [List.replicate k B],∀s∈g,cq s/\(∀x∈s,x<=24)/\∀x∈s,1<=x:=λg hg s hs=>by
  rcases (h2 g hg).are s hs with rfl|⟨a,ha,rfl⟩
  · exact gB
  · exact⟨by simp,λx hx=>by rw[XJ.mp hx];exact gA.2.1 a ha,λx hx=>by rw[XJ.mp hx];exact gA.2.2 a ha⟩
 refine⟨by rw[e];simp,by rw[YI,Nat.one_mul] at len;omega,λg hg=>⟨by rw[(h2 g hg).len];omega,λs hs=>⟨(is g hg s hs).1,(is g hg s hs).2.1⟩,λs hs=>(is g hg s hs).2.2⟩,λz g hg=>by rw[(h2 g hg).len];exact h3 z⟩
theorem uC.k4 {p:aK}{how:Nat}{sets:aae}(m:uC p how sets)(h0:how≠0):p.fields.length<=4:=by
 have w:=m.way.resolve_left h0;unfold cR at w;rw[Yv] at w;rcases w with w|w
 · exact m.ok.Ky (YZ w)
 · exact Nat.le_succ_of_le (m.ok.D6 (YZ w))
theorem uD.cut {kd:Kind}{gs:List (aae)}(o:uD kd gs):uD kd (gs.take 1) :=
 ⟨λz=>o.ne (by simpa using z),by have:=o.vY;rw[XU];omega,λg hg=>o.ok g (Zb hg),λz g hg=>o.any z g (Zb hg)⟩
theorem uC.IE {p:aK}{how:Nat}{sets:aae}(m:uC p how sets):uD p.kind (jK p.kind (ck how) p.fields.length sets):=by
 obtain⟨_,h0,h1,h2⟩:=m.all;have good:=m.good;have one:∀{ss:aae},C4 ss->(p.kind=.any->ss.length<=3)->uD p.kind [ss]:=λo h=>⟨by simp,by show 1<=4096;decide,λg hg=>by rw[XJ.mp hg];exact o,λz g hg=>by rw[XJ.mp hg];exact h z⟩;unfold ck;by_cases z0:how=0
 · rw[Xw z0];have hl:=(h0 z0).1;exact one ⟨by rw[hl];exact m.ok.six,λs hs=>⟨(good s hs).1,(good s hs).2.1⟩,λs hs=>(good s hs).2.2⟩ λz=>by rw[hl];exact m.ok.D6 z
 · rw[Xv z0];have k4:=m.k4 z0;by_cases z1:how=1
   · rw[Xw z1];obtain⟨t,rfl,_⟩:=h1 z1;exact one (Dr m.ok.six (good t (by simp))) λz=>by rw[X5];exact m.ok.D6 z
   · rw[Xv z1];obtain⟨a,b,rfl,q1,q2,q3⟩:=h2 z0 z1;have G:uD p.kind (Bw.bD b a [List.replicate p.fields.length b]):=uD.bD (good a (by simp)) (good b (by simp)) q2 q1 k4 m.ok.D6;show uD p.kind (if p.kind=.any then (Bw.bD b a [List.replicate p.fields.length b]).take 1 else Bw.bD b a [List.replicate p.fields.length b]);split
     · exact G.cut
     · exact G
theorem uC.Kr {p:aK}{how:Nat}{sets:aae}(m:uC p how sets):∀fd∈p.fields,fd≠[]:=by
 by_cases hk:p.kind=.legs
 · refine (m.all.2.1 (m.way.resolve_right λw=>?_)).2;unfold cR at w;rw[hk] at w;cases w
 · exact m.ok.Kr hk
theorem uC.LC {p:aK}{how:Nat}{sets:aae}(m:uC p how sets):∀g∈jK p.kind (ck how) p.fields.length sets,g≠[]/\∀s∈g,s≠[]:=by
 obtain⟨ha,h0,h1,h2⟩:=m.all;have pos:0 < p.fields.length:=Yz.mpr m.ok.ne;unfold ck;intro g hg;by_cases z0:how=0
 · rw[Xw z0] at hg;have e:g=sets:=XJ.mp hg;subst e;exact⟨λz=>by have:=(h0 z0).1;rw[z] at this;simp at this;omega,λs hs=>(ha s hs).1⟩
 · rw[Xv z0] at hg;by_cases z1:how=1
   · rw[Xw z1] at hg;obtain⟨t,rfl,_⟩:=h1 z1;have e:g=List.replicate p.fields.length t:=XJ.mp hg;subst e;exact⟨λz=>by have:=YB List.length z;rw[X5] at this;have:p.fields.length=0:=this;omega,λs hs=>by rw[Yw hs];exact (ha t (by simp)).1⟩
   · rw[Xv z1] at hg;obtain⟨a,b,rfl,q1,q2,q3⟩:=h2 z0 z1;have hg:g∈Bw.bD b a [List.replicate p.fields.length b]:=by
      have hg:g∈(if p.kind=.any then (Bw.bD b a [List.replicate p.fields.length b]).take 1 else Bw.bD b a [List.replicate p.fields.length b]):=hg;split at hg
      · exact Zb hg
      · exact hg
     have G:=(iS (B:=b) (k:=p.fields.length) (A:=a) (had:=[]) (gs:=[List.replicate p.fields.length b]) (λx hx m=>q2 x m (by simpa using hx)) (by simpa using (m.good a (by simp)).1.nodup) (by simp) (λg hg=>by
      rw[XJ] at hg;subst hg;exact⟨by simp,λs hs=>.inl (Yw hs),by simp⟩)).2 g hg
     refine⟨λz=>by have:=G.len;rw[z] at this;simp at this;omega,λs hs=>?_⟩;rcases G.are s hs with rfl|⟨x,_,rfl⟩
     · exact (ha s (by simp)).1
     · simp
theorem AS {h:Nat}:ck h=.box↔h=1:=by
 unfold ck;by_cases h0:h=0
 · rw[Xw h0];constructor
   · intro z;cases z
   · intro z;omega
 · rw[Xv h0];by_cases h1:h=1
   · rw[Xw h1];simp[h1]
   · rw[Xv h1];constructor
     · intro z;cases z
     · intro z;exact absurd z h1
theorem vU {h:Nat}:ck h=.on↔h=0:=by
 unfold ck;by_cases h0:h=0
 · rw[Xw h0];simp[h0]
 · rw[Xv h0];by_cases h1:h=1
   · rw[Xw h1];constructor
     · intro z;cases z
     · intro z;omega
   · rw[Xv h1];constructor
     · intro z;cases z
     · intro z;exact absurd z h0
theorem B3 {h:Nat}:ck h=.key↔h≠0/\h≠1:=by
 unfold ck;by_cases h0:h=0
 · rw[Xw h0];constructor
   · intro z;cases z
   · intro z;exact absurd h0 z.1
 · rw[Xv h0];by_cases h1:h=1
   · rw[Xw h1];constructor
     · intro z;cases z
     · intro z;exact absurd h1 z.2
   · rw[Xv h1];simp[h0,h1]
theorem j0 {C:Card}{p:Pool}:cR (aA C p)=true↔p.kind=.order∨p.kind=.any:=by
 show (p.kind==.order||p.kind==.any)=true↔_;cases p.kind <;> decide
theorem vS {α:Type}{n:Nat}{x d:α}(h:1<=n):(List.replicate n x).getD 0 d=x:=by
 cases n with
 |zero=>omega
 |succ n=>rfl
theorem BA {C:Card}(o:cn C){i:Nat}{p:Pool}(hi:C.pool i=p)(hP:dX C p){how stake e:Nat}{l r:List Word}{sets:aae}(way:how=0∨cR (aA C p)=true)(h:fD e (aA C p) how l=.ok (sets,r)):y_ C ⟨i,ck how,sets,stake⟩ p:=by
 have nm:p.kind≠.legs->fieldsOf C p=List.replicate p.places (C.headsOf p.race):=gU hP;have gh:=pH o hP.El hP.K5;unfold fD at h;have OG:p.kind=.place∨p.kind=.legs->how=0:=λz=>by
  rcases way with w|w
  · exact w
  · rw[j0] at w;rcases z with z|z <;> rcases w with w|w <;> rw[z] at w <;> cases w
 have OH:how≠0->(aA C p).fields.getD 0 []=C.headsOf p.race/\(aA C p).fields.length=p.k:=λhn=>by
  have w:p.kind=.order∨p.kind=.any:=by
   rcases way with w|w
   · exact absurd w hn
   · exact j0.mp w
  have hl:p.kind≠.legs:=by rcases w with w|w <;> rw[w] <;> decide
  have e:(aA C p).fields=List.replicate p.places (C.headsOf p.race):=nm hl;rw[e,X5];exact⟨vS (k9 hP),iD w⟩
 have NI:how=0->p.kind≠.legs->sets.length=p.places/\∀s∈sets,bH (C.headsOf p.race) s:=λhz hl=>by
  rw[Xw hz] at h;have e:(aA C p).fields=List.replicate p.places (C.headsOf p.race):=nm hl;rw[e] at h;obtain⟨h1,h2⟩:=E_ gh.hi _ [] l sets r (λfd hf=>Yw hf) h;rw[X5] at h1;exact⟨by simpa using h1,λs hs=>(h2 s hs).resolve_left (by simp)⟩
 have Nj:how=1->∃t,sets=[t]/\p.k<=t.length/\bH (C.headsOf p.race) t:=λhz=>by
  obtain⟨f1,f2⟩:=OH (by omega);rw[Xv (by omega),Xw hz,f1,f2] at h;exact yB gh.hi h
 have keyOk:how≠0->how≠1->∃a b,sets=[a,b]/\a.length < p.k/\(∀x∈b,¬x∈a)/\p.k<=a.length+b.length/\bH (C.headsOf p.race) a/\bH (C.headsOf p.race) b:=λh0 h1=>by
  obtain⟨f1,f2⟩:=OH h0;rw[Xv h0,Xv h1,f1,f2] at h;obtain⟨a,b,z1,z2,z3,z4,z5,z6,_⟩:=yG gh.hi h;exact⟨a,b,z1,z2,z3,z4,z5,z6⟩
 refine⟨hi,λ_=>gh,λh1 h2=>?_,λh1 s hs=>?_,λh1=>?_,λh1=>vU.mpr (OG (.inr h1)),λh1 h2 h3=>?_,λh1=>?_,λh1=>?_⟩
 · refine⟨?_,hP.Ge⟩;have:=hP.IK;have e2:leastK p.kind=2:=by
    cases hk:p.kind with
    |place=>exact absurd hk h2
    |order=>rfl
    |any=>rfl
    |legs=>exact absurd hk h1
   omega
 · by_cases z0:how=0
   · exact (NI z0 h1).2 s hs
   · by_cases z1:how=1
     · obtain⟨t,e,_,g⟩:=Nj z1;have hs:s∈sets:=hs;rw[e,XJ] at hs;subst hs;exact g
     · obtain⟨a,b,e,_,_,_,g1,g2⟩:=keyOk z0 z1;have hs:s∈sets:=hs;rw[e] at hs;rcases Xy.mp hs with rfl|hs
       · exact g1
       · rw[XJ] at hs;subst hs;exact g2
 · have z0:=OG (.inl h1);refine⟨vU.mpr z0,?_⟩;have:=(NI z0 (by rw[h1];decide)).1;rw[show p.places=1 by unfold Pool.places;rw[Xw h1]] at this;exact this
 · have z0:=vU.mp h3;have:=(NI z0 h1).1;rw[show p.places=p.k by unfold Pool.places;rw[Xv h2]] at this;exact this
 · obtain⟨t,e,hk,_⟩:=Nj (AS.mp h1);exact⟨t,e,hk⟩
 · obtain⟨z0,z1⟩:=B3.mp h1;obtain⟨a,b,e,h2,h3,h4,_⟩:=keyOk z0 z1;exact⟨a,b,e,h2,h3,h4⟩
theorem zd {C:Card}(o:cn C){i:Nat}{p:Pool}(hi:C.pool i=p)(hP:dX C p){how stake e:Nat}{l r:List Word}{sets:aae}(way:how=0∨cR (aA C p)=true)(h:fD e (aA C p) how l=.ok (sets,r)) :
  countM p.kind (ck how) (aA C p).fields.length sets=C.manyOf ⟨i,ck how,sets,stake⟩:=by
 rw[uc (BA o hi hP way h)];show _=countM p.kind (ck how) p.k sets;by_cases h0:how=0
 · rw[vU.mpr h0];rfl
 · have w:p.kind=.order∨p.kind=.any:=by
    rcases way with w|w
    · exact absurd w h0
    · exact j0.mp w
   have hl:p.kind≠.legs:=by rcases w with w|w <;> rw[w] <;> decide
   have e:(aA C p).fields=List.replicate p.places (C.headsOf p.race):=gU hP hl;rw[e,X5,iD w]
def qM (h:How):Nat:=match h with
 |.on=>0
 |.box=>1
 |.key=>2
theorem EM {h:Nat}(h2:h<=2):qM (ck h)=h:=by
 have:h=0∨h=1∨h=2:=by omega
 rcases this with rfl|rfl|rfl <;> rfl
def uz (x:Except Fault Bet):Except Fault bO:=match x with
 |.error t=>.error t
 |.ok b=>.ok ⟨b.pool,qM b.how,b.stake,b.sets⟩
def jj (C:Card)(hp sp:Nat)(b:Bet):Except Fault Bet:=holds (decide (0 < C.manyOf b)) 6 hp >>= λ_=>holds (decide (b.stake*C.manyOf b<=COST)) 7 sp >>= λ_=>pure b
theorem Ec {C:Card}{i how stake hp sp:Nat}{p:Pool}{sets:aae}(h2:how<=2)(hm:countM p.kind (ck how) (aA C p).fields.length sets=C.manyOf ⟨i,ck how,sets,stake⟩) :
  G9 i how stake hp sp (aA C p) sets=uz (jj C hp sp ⟨i,ck how,sets,stake⟩):=by
 have hm:countM (aA C p).kind (ck how) (aA C p).fields.length sets=C.manyOf ⟨i,ck how,sets,stake⟩:=hm;unfold G9 jj;rw[hm];generalize C.manyOf ⟨i,ck how,sets,stake⟩=m;by_cases h0:m=0
 · rw[Xw h0];unfold holds;rw[Xv (by simp[h0])];rfl
 · rw[Xv h0];unfold holds;rw[Xw (show decide (0 < m)=true from X_ (by omega))];by_cases h1:2147483647 < stake*m
   · rw[Xw h1];show _=uz ((if decide (stake*m<=COST)=true then Except.ok () else .error ⟨7,sp⟩) >>= λ_=>pure _);rw[Xv (by rw[XC];unfold COST;omega)];rfl
   · rw[Xv h1];show _=uz ((if decide (stake*m<=COST)=true then Except.ok () else .error ⟨7,sp⟩) >>= λ_=>pure _);rw[Xw (by rw[XC];unfold COST;omega)];show _=Except.ok (⟨i,qM (ck how),stake,sets⟩:bO);rw[EM h2]
def qY (C:Card)(e i:Nat)(p:Pool)(stake sp:Nat)(l:List Word):Except Fault Bet:=next e l >>= λw =>
 if w.1.w=ascii "on" then (setsIn e (if p.kind=.legs then C.sets p else List.replicate p.places (C.headsOf p.race)) w.2).map (λ(q:aae)=>(⟨i,.on,q,stake⟩:Bet)) >>= λb=>jj C w.1.at_ sp b
 else if w.1.w=ascii "box"/\(p.kind==.order||p.kind==.any)=true then (boxIn e p (C.headsOf p.race) w.2).map (λ(q:aae)=>(⟨i,.box,q,stake⟩:Bet)) >>= λb=>jj C w.1.at_ sp b
 else if w.1.w=ascii "key"/\(p.kind==.order||p.kind==.any)=true then (keyIn e p (C.headsOf p.race) w.2).map (λ(q:aae)=>(⟨i,.key,q,stake⟩:Bet)) >>= λb=>jj C w.1.at_ sp b
 else (.error ⟨3,w.1.at_⟩:Except Fault Bet) >>= λb=>jj C w.1.at_ sp b
theorem qC {C:Card}(o:cn C){i:Nat}{p:Pool}(hi:C.pool i=p)(hP:dX C p){e how stake hp sp:Nat}(h2:how<=2)(way:how=0∨cR (aA C p)=true){r:List Word}{x:Except Fault (aae)}(hx:x=jh (fD e (aA C p) how r)) :
  wZ e i how stake hp sp (aA C p) (fD e (aA C p) how r)=uz ((x.map λ(q:aae)=>(⟨i,ck how,q,stake⟩:Bet)) >>= λb=>jj C hp sp b):=by
 subst hx;unfold wZ;cases hs:fD e (aA C p) how r with
 |error t=>rfl
 |ok y =>
  obtain⟨sets,r'⟩:=y;cases r' with
  |nil =>
   show G9 i how stake hp sp (aA C p) sets=uz (jj C hp sp ⟨i,ck how,sets,stake⟩);exact Ec h2 (zd o hi hP way hs)
  |cons w r'=>rfl
theorem BG {C:Card}(o:cn C){i:Nat}{p:Pool}(hi:C.pool i=p)(hP:dX C p){e stake sp:Nat}{l:List Word}:IQ e i (aA C p) stake sp l=uz (qY C e i p stake sp l):=by
 cases l with
 |nil=>rfl
 |cons w r =>
  show (match jn (aA C p) w.w with
   |none=>(Except.error ⟨3,w.at_⟩:Except Fault bO)
   |some how=>wZ e i how stake w.at_ sp (aA C p) (fD e (aA C p) how r))=uz (if w.w=ascii "on" then (setsIn e (if p.kind=.legs then C.sets p else List.replicate p.places (C.headsOf p.race)) r).map (λ(q:aae)=>(⟨i,.on,q,stake⟩:Bet)) >>= λb=>jj C w.at_ sp b
   else if w.w=ascii "box"/\cR (aA C p)=true then (boxIn e p (C.headsOf p.race) r).map (λ(q:aae)=>(⟨i,.box,q,stake⟩:Bet)) >>= λb=>jj C w.at_ sp b
   else if w.w=ascii "key"/\cR (aA C p)=true then (keyIn e p (C.headsOf p.race) r).map (λ(q:aae)=>(⟨i,.key,q,stake⟩:Bet)) >>= λb=>jj C w.at_ sp b
   else (.error ⟨3,w.at_⟩:Except Fault Bet) >>= λb=>jj C w.at_ sp b)
  have fld:cR (aA C p)=true->(aA C p).fields.getD 0 []=C.headsOf p.race/\(aA C p).fields.length=p.k:=λhw=>by
   have w:=j0.mp hw;have hl:p.kind≠.legs:=by rcases w with w|w <;> rw[w] <;> decide
   have e:(aA C p).fields=List.replicate p.places (C.headsOf p.race):=gU hP hl;rw[e,X5];exact⟨vS (k9 hP),iD w⟩
  unfold jn;by_cases c0:w.w=ascii "on"
  · rw[Xw c0,Xw c0];refine qC o hi hP (by decide) (.inl rfl) ?_;rw[IW];rfl
  · rw[Xv c0,Xv c0];by_cases c1:w.w=ascii "box"/\cR (aA C p)=true
    · rw[Xw c1,Xw c1];refine qC (how:=1) o hi hP (by decide) (.inr c1.2) ?_;obtain⟨f1,f2⟩:=fld c1.2;rw[HC];unfold fD;rw[Xv (by decide),Xw rfl,f1,f2]
    · rw[Xv c1,Xv c1];by_cases c2:w.w=ascii "key"/\cR (aA C p)=true
      · rw[Xw c2,Xw c2];refine qC (how:=2) o hi hP (by decide) (.inr c2.2) ?_;obtain⟨f1,f2⟩:=fld c2.2;rw[Ia];unfold fD;rw[Xv (by decide),Xv (by decide),f1,f2]
      · rw[Xv c2,Xv c2];rfl
def tail3 (C:Card)(e i:Nat)(p:Pool)(l:List Word):Except Fault Bet:=must e "for" l >>= λm=>number e 1 STAKE m >>= λs=>holds (s.1.1 % p.unit==0) 4 s.1.2 >>= λ_=>qY C e i p s.1.1 s.1.2 s.2
theorem Af {u:Nat}(hu:1<=u){v:Bytes}:eQ u (tx v)↔∃n,numberOf v=some n/\1<=n/\n<=1000000/\n % u=0/\(ay (tx v)).toNat=n:=by
 unfold eQ;constructor
 · rintro⟨h1,h2,h3⟩;obtain⟨n,e,a,b,c⟩:=(e_ (w:=v) (lo:=1) (hi:=1000000) (by decide)).mp ⟨h1,h2⟩;refine⟨n,e,a,b,?_,by omega⟩;rw[c] at h3;have:((n % u:Nat):Int)=0:=by rw[Int.natCast_emod];exact h3
   omega
 · rintro⟨n,e,a,b,c,d⟩;obtain⟨h1,h2⟩:=(e_ (w:=v) (lo:=1) (hi:=1000000) (by decide)).mpr ⟨n,e,a,b,by rw[(dW (w:=v) (m:=n) (by omega)).mpr e]⟩;refine⟨h1,h2,?_⟩;rw[(dW (w:=v) (m:=n) (by omega)).mpr e,←Int.natCast_emod,c];rfl
theorem AF {C:Card}(o:cn C){i:Nat}{p:Pool}(hi:C.pool i=p)(hP:dX C p){e:Nat}{l:List Word}:AV e i (aA C p) l=uz (tail3 C e i p l):=by
 unfold AV tail3;cases hm:must e "for" l with
 |error t=>rfl
 |ok m =>
  show JC e i (aA C p) m=uz (number e 1 STAKE m >>= λs=>holds (s.1.1 % p.unit==0) 4 s.1.2 >>= λ_=>qY C e i p s.1.1 s.1.2 s.2);cases m with
  |nil=>rfl
  |cons w r =>
   show (if eQ p.unit (tx w.w) then IQ e i (aA C p) (ay (tx w.w)).toNat w.at_ r else .error ⟨4,w.at_⟩)=uz ((match numberOf w.w with
    |none=>.error ⟨4,w.at_⟩
    |some n=>if n < 1∨STAKE < n then .error ⟨4,w.at_⟩ else pure ((n,w.at_),r)) >>= λs=>holds (s.1.1 % p.unit==0) 4 s.1.2 >>= λ_=>qY C e i p s.1.1 s.1.2 s.2)
   have key:=Af hP.unit (v:=w.w);cases hn:numberOf w.w with
   |none =>
    rw[Xv (λz=>by obtain⟨n,e,_⟩:=key.mp z;rw[hn] at e;cases e)];rfl
   |some n =>
    show _=uz ((if n < 1∨STAKE < n then .error ⟨4,w.at_⟩ else pure ((n,w.at_),r)) >>= λs=>holds (s.1.1 % p.unit==0) 4 s.1.2 >>= λ_=>qY C e i p s.1.1 s.1.2 s.2);by_cases c:n < 1∨STAKE < n
    · rw[Xw c,Xv (λz=>by
       obtain⟨n',e,a,b,_⟩:=key.mp z;rw[hn] at e;injection e with e;unfold STAKE at c;omega)]
      rfl
    · rw[Xv c];show _=uz (holds (n % p.unit==0) 4 w.at_ >>= λ_=>qY C e i p n w.at_ r);unfold holds;by_cases d:n % p.unit=0
      · have hs:eQ p.unit (tx w.w):=key.mpr ⟨n,hn,by omega,by unfold STAKE at c;omega,d,by
         rw[(dW (w:=w.w) (m:=n) (by unfold STAKE at c;omega)).mpr hn];rfl⟩
        rw[Xw hs,Xw (by rw[d];rfl)];have en:(ay (tx w.w)).toNat=n:=by rw[(dW (w:=w.w) (m:=n) (by unfold STAKE at c;omega)).mpr hn];rfl
        rw[en];exact BG o hi hP
      · rw[Xv (λz=>by
         obtain⟨n',e,_,_,h,_⟩:=key.mp z;rw[hn] at e;injection e with e;subst e;exact d h),Xv (by simpa using d)]
        rfl
theorem CG {C:Card}(o:cn C){e:Nat}{l:List Word}:AQ e (C.pools.map (aA C)) l=uz (C.betIn ⟨l,e⟩):=by
 have eb:C.betIn ⟨l,e⟩=(must e "bet" l >>= λm=>next e m >>= λn=>match C.pools.findIdx? λ(p:Pool)=>p.name==n.1.w with
  |none=>.error ⟨5,n.1.at_⟩
  |some i=>tail3 C e i (C.pool i) n.2):=rfl
 rw[eb];unfold AQ;cases hm:must e "bet" l with
 |error t=>rfl
 |ok m =>
  show I_ e (C.pools.map (aA C)) m=uz (next e m >>= λn=>match C.pools.findIdx? λ(p:Pool)=>p.name==n.1.w with
   |none=>.error ⟨5,n.1.at_⟩
   |some i=>tail3 C e i (C.pool i) n.2)
  cases m with
  |nil=>rfl
  |cons n r =>
   show (match dQ (C.pools.map (aA C)) (tx n.w) with
    |none=>(Except.error ⟨5,n.at_⟩:Except Fault bO)
    |some i=>match (C.pools.map (aA C))[i]? with
     |none=>.error ⟨5,n.at_⟩
     |some p=>AV e i p r)=uz (match C.pools.findIdx? λ(p:Pool)=>p.name==n.w with
    |none=>.error ⟨5,n.at_⟩
    |some i=>tail3 C e i (C.pool i) r)
   rw[EA o];cases hf:C.pools.findIdx? λ(p:Pool)=>p.name==n.w with
   |none=>rfl
   |some i =>
    have LN:i < C.pools.length:=by
     rw[ZL] at hf;exact hf.1
    have hg:(C.pools.map (aA C))[i]?=some (aA C C.pools[i]):=by rw[Xz,XE LN];rfl
    have hp:C.pool i=C.pools[i]:=by unfold Card.pool;rw[XE LN];rfl
    show (match (C.pools.map (aA C))[i]? with
     |none=>(Except.error ⟨5,n.at_⟩:Except Fault bO)
     |some p=>AV e i p r)=uz (tail3 C e i (C.pool i) r)
    rw[hg];show AV e i (aA C C.pools[i]) r=_;rw[AF o hp (o.pools _ (Zl LN)),hp]
def dw (ps:List aK)(b:Bytes):Except Fault bO:=match upTo b with
 |none=>.error ⟨1,b.length⟩
 |some (l,r)=>match badByte true 0 l with
  |some i=>.error ⟨2,i⟩
  |none=>match AQ l.length ps (wordsFrom 0 [] l) with
   |.error t=>.error t
   |.ok x=>if r=[] then .ok x else .error ⟨8,l.length+1⟩
def F8 (ps:List aK)(l r:Bytes):Except Fault bO:=match badByte true 0 l with
  |some i=>.error ⟨2,i⟩
  |none=>match AQ l.length ps (wordsFrom 0 [] l) with
   |.error t=>.error t
   |.ok x=>if r=[] then .ok x else .error ⟨8,l.length+1⟩
theorem yb {ps:List aK}{b:Bytes}(h:upTo b=none):dw ps b=.error ⟨1,b.length⟩:=by
 unfold dw;rw[h]
theorem wA {ps:List aK}{b l r:Bytes}(h:upTo b=some (l,r)):dw ps b=F8 ps l r:=by
 unfold dw;rw[h];rfl
def fM (t b:Bytes):Except (List Int) bO:=if 65536 < t.length∨4096 < b.length then .error [-2] else match dH (tx t) with
 |none=>.error [-8]
 |some ps=>match dw ps b with
  |.error f=>.error [-6,(f.kind:Nat),(f.place:Nat)]
  |.ok y=>.ok y
theorem Ek {C:Card}(o:cn C)(b:Bytes):dw (C.pools.map (aA C)) b=uz (C.readBet b):=by
 unfold dw Card.readBet;cases upTo b with
 |none=>rfl
 |some x =>
  obtain⟨l,r⟩:=x;show (match badByte true 0 l with
   |some i=>(Except.error ⟨2,i⟩:Except Fault bO)
   |none=>match AQ l.length (C.pools.map (aA C)) (wordsFrom 0 [] l) with
    |.error t=>.error t
    |.ok x=>if r=[] then .ok x else .error ⟨8,l.length+1⟩)=uz (match badByte true 0 l with
   |some i=>.error ⟨2,i⟩
   |none=>match C.betIn ⟨wordsFrom 0 [] l,l.length⟩ with
    |.error e=>.error e
    |.ok x=>if r.isEmpty=true then .ok x else .error ⟨8,l.length+1⟩)
  cases badByte true 0 l with
  |some i=>rfl
  |none =>
   show (match AQ l.length (C.pools.map (aA C)) (wordsFrom 0 [] l) with
    |.error t=>(Except.error t:Except Fault bO)
    |.ok x=>if r=[] then .ok x else .error ⟨8,l.length+1⟩)=uz (match C.betIn ⟨wordsFrom 0 [] l,l.length⟩ with
    |.error e=>.error e
    |.ok x=>if r.isEmpty=true then .ok x else .error ⟨8,l.length+1⟩)
   rw[CG o];cases C.betIn ⟨wordsFrom 0 [] l,l.length⟩ with
   |error t=>rfl
   |ok x =>
    cases r with
    |nil=>rfl
    |cons c r=>rfl
theorem Cj (t:Bytes)(ps:List aK)(h:dH (tx t)=some ps):∀p∈ps,Du p:=by
 cases hc:readCard t with
 |error e=>rw[(ml t).2 e hc] at h;cases h
 |ok C =>
  obtain⟨o,_,h2⟩:=(ml t).1 C hc;rw[h2] at h;injection h with h;subst h;intro p hp;obtain⟨q,hq,rfl⟩:=X4.mp hp;exact Lw o (o.pools q hq)
def GG (a:Ans):List Int:=a.code::a.nums
theorem DC (h:How):ck (qM h)=h:=by cases h <;> rfl
theorem EG (t b:Bytes):(∃z:Int,fM t b=.error [z]/\∀G,ToteBetCalls.ofBet t b G=says z)∨(∃k p:Int,fM t b=.error [-6,k,p]/\∀G,ToteBetCalls.ofBet t b G=says (-6)) ∨
  ∃(C:Card) (x:Bet),cn C/\dH (tx t)=some (C.pools.map (aA C))/\fM t b=.ok ⟨x.pool,qM x.how,x.stake,x.sets⟩/\∀G,ToteBetCalls.ofBet t b G=G C x:=by
 by_cases hb:4096 < b.length
 · left;refine⟨-2,?_,λG=>Xw (show ToteBetCalls.LOOKED < b.length from hb)⟩;unfold fM;exact Xw (.inr hb)
 have eO:∀G,ToteBetCalls.ofBet t b G=ofCard t λC=>match C.readBet b with
  |.error _=>says (-6)
  |.ok x=>G C x:=λG=>Xv (show ¬ToteBetCalls.LOOKED < b.length from hb)
 by_cases ht:65536 < t.length
 · left;refine⟨-2,?_,λG=>(eO G).trans (Xw (show TEXT < t.length from ht))⟩;unfold fM;exact Xw (.inl ht)
 have eL:fM t b=match dH (tx t) with
  |none=>.error [-8]
  |some ps=>match dw ps b with
   |.error f=>.error [-6,(f.kind:Nat),(f.place:Nat)]
   |.ok y=>.ok y:=by
  unfold fM;exact Xv (by omega)
 have eC:∀G,ToteBetCalls.ofBet t b G=match readCard t with
  |.error _=>says (-8)
  |.ok C=>match C.readBet b with
   |.error _=>says (-6)
   |.ok x=>G C x:=λG=>(eO G).trans (Xv (show ¬TEXT < t.length from ht))
 cases hc:readCard t with
 |error e =>
  left;refine⟨-8,?_,λG=>?_⟩
  · rw[eL,(ml t).2 e hc]
  · rw[eC,hc]
 |ok C =>
  right;obtain⟨o,_,h2⟩:=(ml t).1 C hc;have eR:fM t b=match dw (C.pools.map (aA C)) b with
   |.error f=>.error [-6,(f.kind:Nat),(f.place:Nat)]
   |.ok y=>.ok y:=by rw[eL,h2]
  rw[Ek o] at eR;cases hr:C.readBet b with
  |error e =>
   left;rw[hr] at eR;exact⟨(e.kind:Nat),(e.place:Nat),eR,λG=>by rw[eC,hc];show (match C.readBet b with|.error _=>_|.ok x=>_)=_;rw[hr]⟩
  |ok x =>
   right;rw[hr] at eR;exact⟨C,x,o,h2,eR,λG=>by rw[eC,hc];show (match C.readBet b with|.error _=>_|.ok x=>_)=_;rw[hr]⟩
def Rs (t b:Bytes)(g:bO->aK->List Int)(zs:List Int):Prop :=
 (∃xs,fM t b=.error xs/\zs=xs.take 1)∨∃y ps p,fM t b=.ok y/\dH (tx t)=some ps/\ps[y.pool]?=some p/\uC p y.how y.sets/\zs=g y p
theorem Cf {t b:Bytes}{g:bO->aK->List Int}{G:Card->Bet->Ans}{zs:List Int}(h:Rs t b g zs)
  (hg:∀(C:Card) (x:Bet),cn C->∀p∈C.pools,C.pool x.pool=p->uC (aA C p) (qM x.how) x.sets->g ⟨x.pool,qM x.how,x.stake,x.sets⟩ (aA C p)=GG (G C x)):zs=GG (ToteBetCalls.ofBet t b G):=by
 rcases EG t b with ⟨z,h1,h2⟩|⟨k,p,h1,h2⟩|⟨C,x,o,h0,h1,h2⟩
 · rw[h2];rcases h with ⟨xs,e,rfl⟩|⟨y,ps,p,e,_⟩
   · rw[h1] at e;cases e;rfl
   · rw[h1] at e;cases e
 · rw[h2];rcases h with ⟨xs,e,rfl⟩|⟨y,ps,p,e,_⟩
   · rw[h1] at e;cases e;rfl
   · rw[h1] at e;cases e
 · rw[h2];rcases h with ⟨xs,e,rfl⟩|⟨y,ps,p,e,e1,e2,m,rfl⟩
   · rw[h1] at e;cases e
   · rw[h1] at e;cases e;rw[h0] at e1;cases e1;rw[Xz] at e2;obtain⟨q,hq,rfl⟩:=X6.mp e2;exact hg C x o q (X0 hq) (by unfold Card.pool;rw[hq];rfl) m
def Bh (y:bO)(p:aK):List Int:=[0,(y.stake:Int)*(countM p.kind (ck y.how) p.fields.length y.sets:Nat)]
theorem D1 {C:Card}{x:Bet}(o:cn C){p:Pool}(hp:p∈C.pools)(hi:C.pool x.pool=p)(m:uC (aA C p) (qM x.how) x.sets):countM (aA C p).kind (ck (qM x.how)) (aA C p).fields.length x.sets=C.manyOf x:=by
 obtain⟨e,l,r,hr⟩:=m.read;have z:=zd (stake:=x.stake) o hi (o.pools p hp) m.way hr;refine z.trans ?_;rw[DC]
theorem Ck {t b:Bytes}{zs:List Int}(h:Rs t b Bh zs):zs=GG (ToteBetCalls.answer (.cost t b)):=by
 refine Cf h λC x o p hp hi m=>?_;show [0,(x.stake:Int)*((countM (aA C p).kind (ck (qM x.how)) (aA C p).fields.length x.sets:Nat):Int)]=_;rw[D1 o hp hi m,←Int.natCast_mul];rfl
theorem qZ (x:Nat):∀(ss:aae) (b:Nat) (s:aaf),bitsOf x b (ss++[s])=bitsOf x b ss++(if s.contains x=true then [b*2 ^ ss.length] else [])
 |[],b,s=>by
  show (if s.contains x=true then [b] else [])++[]=[]++(if s.contains x=true then [b*2 ^ 0] else []);simp
 |t::ss,b,s=>by
  show (if t.contains x=true then [b] else [])++bitsOf x (2*b) (ss++[s])=((if t.contains x=true then [b] else [])++bitsOf x (2*b) ss)++_;rw[qZ x ss (2*b) s,YY];have e:2*b*2 ^ ss.length=b*2 ^ (t::ss).length:=by
   rw[XG,Zz,ZM 2 b,Nat.mul_assoc,ZM 2]
  rw[e]
theorem vA (x:Nat):∀(ss:aae) (b:Nat),∀c∈bitsOf x b ss,∃p,p < ss.length/\c=b*2 ^ p
 |[],b,c,h=>by cases h
 |t::ss,b,c,h=>by
  have h:c∈(if t.contains x=true then [b] else [])++bitsOf x (2*b) ss:=h;rcases Yk.mp h with h|h
  · split at h
    · rw[XJ] at h;exact⟨0,by simp,by simp[h]⟩
    · cases h
  · obtain⟨p,h1,h2⟩:=vA x ss (2*b) c h;exact⟨p+1,by simp;omega,by rw[h2,Zz,ZM 2 b,Nat.mul_assoc,ZM 2]⟩
theorem pR (x:Nat):∀(ss:aae) (b:Nat),(bitsOf x b ss).length<=ss.length
 |[],b=>XD _
 |t::ss,b=>by
  show ((if t.contains x=true then [b] else [])++bitsOf x (2*b) ss).length<=_;rw[XT,XG];have:=pR x ss (2*b);split
  · simp;omega
  · simp;omega
theorem Dq {m p:Nat}:(m &&& 2 ^ p≠0)↔bF m (2 ^ p)=true:=by
 unfold bF;have e:(m / 2 ^ p % 2==1)=m.testBit p:=by
  rw[Nat.testBit_eq_decide_div_mod_eq,X9,Yl,XC]
 rw[e];constructor
 · intro h;cases ht:m.testBit p with
   |true=>rfl
   |false =>
    refine absurd (Nat.eq_of_testBit_eq λi=>?_) h;rw[Nat.testBit_and,Nat.testBit_two_pow,Nat.zero_testBit];by_cases c:p=i
    · subst c;rw[ht];rfl
    · rw[Yj c,Bool.and_false]
 · intro h z;have:=YB (λn=>Nat.testBit n p) z;simp only[Nat.testBit_and,Nat.testBit_two_pow,Nat.zero_testBit,h] at this;simp at this
theorem GL {m b:Nat}(h:bF m b=true)(hb:0 < b):b<=m:=by
 unfold bF at h;rw[Yl] at h;by_cases z:b<=m
 · exact z
 · rw[Nat.div_eq_of_lt (by omega)] at h;cases h
theorem AZ:∀(ss:aae) (m:Nat),1<=m->m < 2 ^ ss.length->sel m ss≠[]
 |[],m,h1,h2=>by simp at h2;omega
 |s::ss,m,h1,h2=>by
  rw[qz];by_cases h:m % 2=1
  · rw[Xw h];simp
  · rw[Xv h];have:=AZ ss (m / 2) (by omega) (by rw[XG,Zz] at h2;omega);simpa using this
def pB (x:Nat)(z:Nat):Bool:=decide (1<=z)&&decide (z < x)
theorem EO {x:Nat}(hx:1<=x):(λz=>pB x z||z==x)=pB (x+1):=by
 funext z;unfold pB;rw[X9];simp;omega
theorem JP (x:Nat):pB x x=false:=by unfold pB;simp
theorem He:pB 1=λ_=>false:=by
 funext z;unfold pB;rw[Bool.eq_false_iff];simp;omega
theorem Hr:pB 25=lq:=by
 funext z;unfold pB lq;rw[X9];simp;omega
def cF (ss:aae)(x m:Nat):Nat:=dj (sel m ss) (pB x)
theorem qv (ss:aae)(x:Nat):cF ss x 0=1:=by
 unfold cF;rw[vG];rfl
theorem D8 {ss:aae}{m:Nat}(h1:1<=m)(h2:m < 2 ^ ss.length):cF ss 1 m=0:=by
 unfold cF;rw[He];have:=AZ ss m h1 h2;cases hs:sel m ss with
 |nil=>exact absurd hs this
 |cons s r =>
  unfold dj;have e:s.filter (λ_=>false)=[]:=by
   rw[List.filter_eq_nil_iff];intro _ _ z;cases z
  rw[e];rfl
theorem Bl {ss:aae}(nd:∀s∈ss,s.Nodup){x m:Nat}(hx:1<=x):cF ss (x+1) m=cF ss x m+(((bitsOf x 1 ss).filter (bF m)).map λb=>cF ss x (m - b)).sum:=by
 unfold cF;rw[←EO hx];exact zQ x m ss (pB x) nd (JP x)
theorem CM {ss:aae}:cF ss 25 (2 ^ ss.length - 1)=dj ss lq:=by
 unfold cF;rw[uV,Hr]
def js (ss:aae)(x f i:Nat):aaf:=(List.range (f+1)).map λm=>if f - i < m then cF ss (x+1) m else cF ss x m
def tab (ss:aae)(x f:Nat):aaf:=(List.range (f+1)).map λm=>cF ss x m
theorem Bd (ss:aae)(x f:Nat):js ss x f 0=tab ss x f:=by
 unfold js tab;refine Yo λm hm=>?_;have:=Zi.mp hm;rw[Xv (by omega)]
theorem Be (ss:aae)(x f:Nat):js ss x f f=tab ss (x+1) f:=by
 unfold js tab;refine Yo λm hm=>?_;by_cases h:m=0
 · subst h;rw[Xv (by omega),qv,qv]
 · rw[Xw (by omega)]
theorem tw {ss:aae}{x f i m:Nat}(h:m<=f):(js ss x f i)[m]?=some (if f - i < m then cF ss (x+1) m else cF ss x m):=by
 unfold js;rw[Xz,Ze (by omega)];rfl
theorem AI {ss:aae}{x f m:Nat}(h:m<=f):(tab ss x f)[m]?=some (cF ss x m):=by
 unfold tab;rw[Xz,Ze (by omega)];rfl
theorem BB {ss:aae}{x f i:Nat}(hi:i < f):(js ss x f i).set (f - i) (cF ss (x+1) (f - i))=js ss x f (i+1):=by
 refine ZR λm=>?_;rw[List.getElem?_set];have hl:(js ss x f i).length=f+1:=by unfold js;rw[Xu,ZN]
 by_cases hm:m<=f
 · rw[tw (i:=i+1) hm];by_cases e:f - i=m
   · rw[Xw e,Xw (by omega),Xw (by omega),e]
   · rw[Xv e,tw hm];congr 1;by_cases h2:f - i < m
     · rw[Xw h2,Xw (by omega)]
     · rw[Xv h2,Xv (by omega)]
 · have U2:(js ss x f (i+1)).length=f+1:=by unfold js;rw[Xu,ZN]
   rw[Xv (by omega),Yy (by omega),Yy (by omega)]
theorem zL {ss:aae}:[1]++List.replicate (2 ^ ss.length - 1) 0=tab ss 1 (2 ^ ss.length - 1):=by
 have hp:0 < 2 ^ ss.length:=Nat.pow_pos (by decide);refine ZR λm=>?_;by_cases hm:m<=2 ^ ss.length - 1
 · rw[AI hm];cases m with
   |zero=>rw[qv];rfl
   |succ m =>
    rw[D8 (by omega) (by omega)];show (List.replicate (2 ^ ss.length - 1) 0)[m]?=some 0;rw[List.getElem?_replicate,Xw (by omega)]
 · unfold tab;rw[Yy (by simp;omega),Yy (by simp;omega)]
def iE (g:aae)(s:aaf):Bool:=(s.zip g).all λz=>z.2.contains z.1
def kW (g:aae)(s:aaf):Nat:=if iE g s=true then product ((g.drop s.length).map List.length) else 0
def gm (s t:aaf):aaf:=t.filter λx=>!s.contains x
def uw (g:aae)(s:aaf):Nat:=if iE g s=true/\s.Nodup then dj ((g.drop s.length).map (gm s)) lq else 0
def pre (R:aae)(s:aaf):Nat:=R.countP λr=>s.isPrefixOf r
theorem j5 {α:Type}{p q:Prop} [Decidable p] [Decidable q] {a b:α}(h:p↔q):(if p then a else b)=if q then a else b:=by
 by_cases z:p
 · rw[Xw z,Xw (h.mp z)]
 · rw[Xv z,Xv λy=>z (h.mpr y)]
theorem mq (R:aae):pre R []=R.length:=by
 unfold pre;rw[List.countP_eq_length];intro r _;simp
theorem Bx {x y:Nat}{s:aaf}(R:aae):pre (R.map λr=>y::r) (x::s)=if (y==x)=true then pre R s else 0:=by
 unfold pre;rw[List.countP_map];by_cases e:y=x
 · rw[Xw (by simpa using e)];congr 1;funext r;simp[e]
 · rw[Xv (by simpa using e),List.countP_eq_zero];intro r _;have:¬x=y:=λz=>e z.symm;simp[this]
theorem vt {x:Nat}{s t:aaf}(nd:t.Nodup)(f:Nat->aae):pre (t.flatMap λy=>(f y).map λr=>y::r) (x::s)=if t.contains x=true then pre (f x) s else 0:=by
 have e:pre (t.flatMap λy=>(f y).map λr=>y::r) (x::s)=(t.map λy=>if (y==x)=true then pre (f x) s else 0).sum:=by
  unfold pre;rw[List.countP_flatMap];refine YB List.sum (Yo λy _=>?_);show pre ((f y).map λr=>y::r) (x::s)=_;rw[Bx];by_cases z:y=x
  · subst z;rfl
  · rw[Xv (by simpa using z),Xv (by simpa using z)]
 rw[e,nS,kZ nd];split <;> simp
theorem uW:∀(g:aae) (s:aaf),(∀t∈g,t.Nodup)->s.length<=g.length->kW g s=pre (rowsOf g) s
 |g,[],_,_=>by
  rw[mq,jD];unfold kW iE;simp
 |[],x::s,_,h=>by simp at h
 |t::g,x::s,nd,h=>by
  have ih:=uW g s (λu hu=>nd u (by simp[hu])) (by simpa using h);unfold rowsOf;rw[vt (nd t (by simp)) λ_=>rowsOf g,←ih];unfold kW iE;simp only[List.zip_cons_cons,ZI,XG,List.drop_succ_cons,XB];by_cases c:t.contains x=true
  · rw[Xw c];by_cases d:((s.zip g).all λz=>z.2.contains z.1)=true
    · rw[Xw d,Xw ⟨c,d⟩]
    · rw[Xv d,Xv λz=>d z.2]
  · rw[Xv c,Xv λz=>c z.1]
theorem vi:∀(g:aae) (s had:aaf),(∀t∈g,t.Nodup)->s.length<=g.length->pre (apartRows g had) s=if iE g s=true/\s.Nodup/\∀x∈s,¬x∈had then dj (g.drop s.length) (λz=>!had.contains z&&!s.contains z) else 0
 |g,[],had,_,_=>by
  rw[mq,rV,Xw ⟨by simp[iE],by simp,by simp⟩];simp
 |[],x::s,_,_,h=>by simp at h
 |t::g,x::s,had,nd,h=>by
  have ih:=vi g s (x::had) (λu hu=>nd u (by simp[hu])) (by simpa using h);unfold apartRows;rw[vt ((nd t (by simp)).filter _) λy=>apartRows g (y::had),ih];have ep:(λz=>!(x::had).contains z&&!s.contains z)=λz=>!had.contains z&&!(x::s).contains z:=by
   funext z;simp only[List.contains_cons];cases (z==x) <;> cases had.contains z <;> cases s.contains z <;> rfl
  rw[ep];have eC:(iE (t::g) (x::s)=true/\(x::s).Nodup/\∀y∈x::s,¬y∈had)↔(t.filter λy=>!had.contains y).contains x=true/\(iE g s=true/\s.Nodup/\∀y∈s,¬y∈x::had):=by
   have ei:iE (t::g) (x::s)=true↔x∈t/\iE g s=true:=by unfold iE;simp
   rw[ei,YG,Z1,YC,XC,YE];simp only[Xy,not_or,Ym,YC,Yc];constructor
   · rintro⟨⟨a,b⟩,⟨n,c⟩,d,e⟩;exact⟨⟨a,d⟩,b,c,λy hy=>⟨λz=>n (z ▸ hy),e y hy⟩⟩
   · rintro⟨⟨a,d⟩,b,c,e⟩;exact⟨⟨a,b⟩,⟨λm=>(e x m).1 rfl,c⟩,d,λy hy=>(e y hy).2⟩
  rw[j5 eC];by_cases c:(t.filter λy=>!had.contains y).contains x=true
  · rw[Xw c];exact j5 ⟨λz=>⟨c,z⟩,λz=>z.2⟩
  · rw[Xv c,Xv λz=>c z.1]
theorem uH {s:aaf}:∀(ss:aae) (p:Nat->Bool),dj (ss.map (gm s)) p=dj ss λz=>p z&&!s.contains z
 |[],_=>rfl
 |t::ss,p=>by
  rw[XN];unfold dj gm;rw[List.filter_filter];refine YB List.sum (Yo λy _=>?_);have:=uH (s:=s) ss λz=>p z&&z != y;unfold gm at this;rw[this];congr 1;funext z;dsimp only;cases p z <;> cases s.contains z <;> cases (z != y) <;> rfl
theorem EJ {g:aae}{s:aaf}(o:C4 g)(h:s.length<=g.length):uw g s=pre (apartRows g []) s:=by
 rw[vi g s [] (λt ht=>(o.good t ht).1.nodup) h];unfold uw;rw[j5 (p:=iE g s=true/\s.Nodup) (q:=iE g s=true/\s.Nodup/\∀x∈s,¬x∈[]) ⟨λ⟨a,b⟩=>⟨a,b,by simp⟩,λ⟨a,b,_⟩=>⟨a,b⟩⟩,uH];congr 1;refine gy _ λt ht y hy=>?_;have m:=Y4 ht;have:=(o.good t m).2 y hy;have:=o.lo t m y hy;unfold lq;simp[*]
theorem Ac {gs:List (aae)}{s:aaf}(o:uD .order gs)(h:∀g∈gs,s.length<=g.length):(gs.map λg=>uw g s).sum=pre (sH .order gs) s:=by
 show _=pre (gs.flatMap λg=>apartRows g []) s;unfold pre;rw[List.countP_flatMap];exact YB List.sum (Yo λg hg=>EJ (o.ok g hg) (h g hg))
theorem Cp {kd:Kind}{gs:List (aae)}{s:aaf}(h1:kd≠.order)(h2:kd≠.any)(o:uD kd gs)(h:∀g∈gs,s.length<=g.length):(gs.map λg=>kW g s).sum=pre (sH kd gs) s:=by
 have e:sH kd gs=gs.flatMap rowsOf:=by
  cases kd with
  |order=>exact absurd rfl h1
  |any=>exact absurd rfl h2
  |place=>rfl
  |legs=>rfl
 rw[e];unfold pre;rw[List.countP_flatMap];exact YB List.sum (Yo λg hg=>uW g s (λt ht=>((o.ok g hg).good t ht).1.nodup) (h g hg))
def kN (a:Nat)(B:aaf)(g:aae)(j:Nat):List (aae):=((List.range j).filter λi=>g.getD i []==B).map λi=>g.take i++[[a]]++g.drop (i+1)
theorem xA (a:Nat)(B:aaf)(g:aae)(j:Nat):kN a B g (j+1)=kN a B g j++if (g.getD j []==B)=true then [g.take j++[[a]]++g.drop (j+1)] else []:=by
 unfold kN;rw[List.range_succ,Zo,XQ];congr 1;by_cases h:(g.getD j []==B)=true
 · rw[Xw h,YH,Xw h];rfl
 · rw[Xv h,YH,Xv h];rfl
theorem rH (a:Nat)(B:aaf):∀g:aae,kN a B g g.length=jr a B g
 |[]=>rfl
 |s::g=>by
  have ih:=rH a B g;unfold kN at ih ⊢;unfold jr;rw[XG,List.range_succ_eq_map,←ih,XY];have e:((List.range g.length).map Nat.succ).filter (λi=>(s::g).getD i []==B)=((List.range g.length).filter λi=>g.getD i []==B).map Nat.succ:=by
   rw[List.filter_map];rfl
  by_cases h:(s==B)=true
  · rw[List.filter_cons_of_pos (by simpa using h),Xw h,e,XN,XY];rfl
  · rw[List.filter_cons_of_neg (by simpa using h),Xv h,e,XY];rfl
theorem xN {B A:aaf}{a:Nat}{gs:List (aae)}:bD B (A++[a]) gs=(bD B A gs).flatMap (jr a B):=by
 unfold bD;rw[List.foldl_append];rfl
theorem yu {B:aaf}{k:Nat}:∀{A:aaf} {gs:List (aae)},(∀g∈gs,g.length=k)->∀g∈bD B A gs,g.length=k
 |[],_,h=>h
 |a::A,gs,h=>yu (A:=A) (gs:=gs.flatMap (jr a B)) λg hg=>by
  obtain⟨g0,h0,hr⟩:=ZC.mp hg;rw[(oH hr).1,h g0 h0]
theorem zS {a:Nat}{B:aaf}{g:aae}{j:Nat}:(kN a B g j).length<=j:=by
 unfold kN;rw[Xu];exact Yi (ZV ..) (by rw[ZN];exact XD _)
end Bw
end
section
set_option Elab.async false
set_option linter.all false
set_option maxRecDepth 100000
namespace L2
open PySem PySem.Spec PyProof.Rows
abbrev Key:=Sum Int Str
def pb:Key->Value->Bool
 |.inl k,v=>Value.isInt k v
 |.inr x,v=>Value.isStrOf x v
def Jw (w:World):Key->Int
 |.inl k=>hashInt k
 |.inr x=>hashStr w x
theorem b9:∀{k:Key} {v:Value},pb k v=true->(∃i t,k=Sum.inl i/\v=Value.int i t)∨(∃x t,k=Sum.inr x/\v=Value.str x t)
 |.inl i,v,h=>by
  obtain⟨t,e⟩:=Value.isInt_shape (k:=i) (v:=v) h;exact .inl ⟨i,t,rfl,e⟩
 |.inr x,v,h=>by
  obtain⟨t,e⟩:=Value.isStrOf_shape (x:=x) (v:=v) h;exact .inr ⟨x,t,rfl,e⟩
theorem zV (i:Int)(t:Tok):pb (.inl i) (.int i t)=true:=by simp[pb,Value.isInt]
theorem r_ (x:Str)(t:Tok):pb (.inr x) (.str x t)=true:=by simp[pb,Value.isStrOf]
theorem HU (a b:Int):decide ((Sum.inl a:Key)=Sum.inl b)=(a==b):=by
 by_cases e:a=b
 · subst e;simp
 · have h:¬(Sum.inl a:Key)=Sum.inl b:=λq=>e (Sum.inl.inj q);rw[Yj h];exact (X3.mpr e).symm
theorem GO (a b:Str):decide ((Sum.inr a:Key)=Sum.inr b)=decide (a=b):=by
 by_cases e:a=b
 · subst e;simp
 · have h:¬(Sum.inr a:Key)=Sum.inr b:=λq=>e (Sum.inr.inj q);rw[Yj h,Yj e]
theorem G0 (a:Int)(b:Str):decide ((Sum.inl a:Key)=Sum.inr b)=false:=Yj (λq=>nomatch q)
theorem Gh (a:Str)(b:Int):decide ((Sum.inr a:Key)=Sum.inl b)=false:=Yj (λq=>nomatch q)
def cz (prog:Program)(w:World):PySem.KeyKind prog w Key where
 is:=pb
 hash:=Jw w
 inj:=λv a b ha hb=>by
  rcases b9 ha with ⟨i,t,rfl,rfl⟩|⟨x,t,rfl,rfl⟩
  · rcases b9 hb with ⟨j,u,rfl,e⟩|⟨y,u,rfl,e⟩
    · injection e with e1 _;rw[e1]
    · exact nomatch e
  · rcases b9 hb with ⟨j,u,rfl,e⟩|⟨y,u,rfl,e⟩
    · exact nomatch e
    · injection e with e1 _;rw[e1]
 byValue:=λk v h=>by
  rcases b9 h with ⟨i,t,rfl,rfl⟩|⟨x,t,rfl,rfl⟩ <;> rfl
 pyHash:=λhv h=>by
  rcases b9 hv with ⟨i,t,rfl,rfl⟩|⟨x,t,rfl,rfl⟩
  · exact wpAny_pyHash_int h
  · exact wpAny_pyHash_str h
 eqBool:=λhu hv h=>by
  rcases b9 hu with ⟨i,t,rfl,rfl⟩|⟨x,t,rfl,rfl⟩
  · rcases b9 hv with ⟨j,u,rfl,rfl⟩|⟨y,u,rfl,rfl⟩
    · rw[HU] at h;exact wpAny_eqBool_int h
    · rw[G0] at h;exact SeqAt.EqAt.int_str i t y u _ _ _ _ h
  · rcases b9 hv with ⟨j,u,rfl,rfl⟩|⟨y,u,rfl,rfl⟩
    · rw[Gh] at h;exact SeqAt.EqAt.str_int x t j u _ _ _ _ h
    · rw[GO] at h;exact wpAny_eqBool_str h
 «strs»:=λk x t v h=>by
  rcases b9 h with ⟨i,u,rfl,e⟩|⟨y,u,rfl,e⟩
  · exact nomatch e
  · injection e with e1 _;subst e1;cases v <;> rfl
theorem vg (prog:Program)(w:World)(i:Int)(t:Tok):(cz prog w).is (.inl i) (.int i t)=true:=zV i t
theorem u9 (prog:Program)(w:World)(x:Str)(t:Tok):(cz prog w).is (.inr x) (.str x t)=true:=r_ x t
inductive V where
 |cj|bl (b:Bool)|int (i:Int)|str (x:Str)|v9 (b:Array UInt8)|flt (b:UInt64)|ref (a:Addr)|ty (n:String)
 deriving DecidableEq
def RelV:V->Value->Prop
 |.cj,u=>u=Value.none
 |.bl b,u=>u=Value.bool b
 |.int i,u=>∃t,u=Value.int i t
 |.str x,u=>∃t,u=Value.str x t
 |.v9 b,u=>∃t,u=Value.bytes b t
 |.flt b,u=>∃t,u=Value.float b t
 |.ref a,u=>u=Value.ref a
 |.ty n,u=>u=Value.type n
abbrev Vals:List V->aak->Prop:=Paired RelV
theorem Vals.length {xs:List V}{us:aak}(r:Vals xs us):xs.length=us.length:=Paired.length r
theorem Vals.get:∀{xs:List V} {us:aak} {i:Nat} {x:V},Vals xs us->xs[i]?=some x->∃u,us[i]?=some u/\RelV x u
 |_,_,_,_,.nil,e=>by simp at e
 |_,_,0,_,.cons r _,e=>by simp at e;subst e;exact⟨_,rfl,r⟩
 |_,_,i+1,x,.cons _ t,e=>by
  obtain⟨u,h1,h2⟩:=Vals.get (i:=i) (x:=x) t (by simpa using e);exact⟨u,by simpa using h1,h2⟩
theorem Vals.set {x:V}{u:Value}(r:RelV x u):∀{xs:List V} {us:aak} (i:Nat),Vals xs us->Vals (xs.set i x) (us.set i u)
 |_,_,_,.nil=>.nil
 |_,_,0,.cons _ t=>.cons r t
 |_,_,i+1,.cons q t=>.cons q (Vals.set r i t)
theorem Vals.append:∀{xs ys:List V} {us ws:aak},Vals xs us->Vals ys ws->Vals (xs++ys) (us++ws)
 |_,_,_,_,.nil,s=>s
 |_,_,_,_,.cons r t,s=>.cons r (Vals.append t s)
theorem Vals.take:∀{xs:List V} {us:aak} (n:Nat),Vals xs us->Vals (xs.take n) (us.take n)
 |_,_,0,_=>.nil
 |_,_,_+1,.nil=>.nil
 |_,_,n+1,.cons r t=>.cons r (Vals.take n t)
theorem Vals.drop:∀{xs:List V} {us:aak} (n:Nat),Vals xs us->Vals (xs.drop n) (us.drop n)
 |_,_,0,r=>r
 |_,_,_+1,.nil=>.nil
 |_,_,n+1,.cons _ t=>Vals.drop n t
def iT:Option V->Option Value->Prop
 |some v,some u=>RelV v u
 |none,none=>True
 |_,_=>False
def KV {κ:Type}:List (κ×V)->List (κ×Value)->Prop:=Paired λ(p:κ×V) (q:κ×Value)=>p.1=q.1/\RelV p.2 q.2
def kV:Key->V
 |.inl i=>.int i
 |.inr x=>.str x
inductive HO where
 |lst (xs:List V)
 |tup (xs:List V)
 |dK (LD:List (Key×V))|dT (LD:List (List Key×V))
 |set (S:Int->Bool) (n:Nat)
 |ins (C dx:Addr) (fs:List (Str×V))
 |own (x:Addr)
 |xd (fs:List (Str×V))
 |met (f x:Addr)
 |rng (lo hi:Int)
 |frz (o:Obj) (u:HO)
 |tbl (ps:Array Value)
 |ext (φ:Heap->Prop)
abbrev Hp:=Addr->Option HO
def upd (H:Hp)(a:Addr)(o:HO):Hp:=λb=>if b=a then some o else H b
theorem ae {H:Hp}{a:Addr}{o:HO}:upd H a o a=some o:=by unfold upd;rw[Xw rfl]
theorem aq {H:Hp}{a b:Addr}{o:HO}(h:b≠a):upd H a o b=H b:=by unfold upd;rw[Xv h]
theorem cI {H:Hp}{a:Addr}{o u:HO}:upd (upd H a o) a u=upd H a u:=by
 funext b;unfold upd;split <;> rfl
theorem dG {H:Hp}{a b:Addr}{o u:HO}(h:H a=some o)(h':H b=some u)(d:o≠u):a≠b:=by
 intro e;subst e;rw[h] at h';exact d (X8 h')
theorem ao {H:Hp}{a b:Addr}{o:HO}(h:H a=some o)(h':H b=none):a≠b:=by
 intro e;subst e;rw[h] at h';cases h'
section
variable (P:Program)(w:World)
def bK (H:Hp) (h:Heap) (a:Addr):HO->Prop
 |.lst xs=>xs.length<=sizeLine/\∃(LF:aak) (n:Nat),Vals xs LF/\h.get? a=some {cls:=.type "list",data:=.seq LF.toArray n}
 |.tup xs=>xs.length<=sizeLine/\∃LF:aak,Vals xs LF/\IsTup h a LF.toArray
 |.dK LD=>LD.length<=sizeLine/\(a==sysModules)=false/\∃vs,KV LD vs/\h.DictOf (cz P w) a vs
 |.dT LD=>LD.length<=sizeLine/\(a==sysModules)=false/\∃xs:List (List Key×Addr×Value),
   Paired (λ(p:List Key×V) (q:List Key×Addr×Value)=>p.1=q.1/\H q.2.1=some (.tup (p.1.map kV))/\RelV p.2 q.2.2) LD xs /\
   ∃o es ep,h.get? a=some o/\o.ExactDict/\o.data=.dict es ep/\es.toList=xs.map (entryOfKey (tupleKind (cz P w)))/\(xs.map (·.1)).Nodup
 |.set S n=>h.SetOf (intKind P w) a S n
 |.ins C dx fs=>H dx=some (.own a)/\fs.length<=1000/\dx≠a/\h.get? a=some (PySem.W.instObj C dx) /\
   ∃mA,h.Ns1 dx mA/\(∀f,iT (fs.lookup f) (mA f))/\PySem.Within mA (fs.map (·.1))
 |.own _=>∃o,h.get? a=some o
 |.xd fs=>∃mA,h.Ns1 a mA/\∀f,iT (fs.lookup f) (mA f)
 |.rng lo hi=>∃t u v,h.get? a=some {cls:=.type "range",data:=.fields #[.int lo t,.int hi u,.int 1 v]}
 |.frz o u=>h.get? a=some o/\bK H h a u
 |.tbl ps=>h.get? a=some {cls:=.none,data:=.fields ps}
 |.met f x=>h.get? a=some (PySem.W.methodObj (.ref f) (.ref x))
 |.ext φ=>φ h/\(∃o,h.get? a=some o)/\∀h1 h2:Heap,φ h1->(∀o,h1.get? a=some o->h2.get? a=some o)->φ h2
def iq (H:Hp)(h:Heap):Prop:=∀a o,H a=some o->bK P w H h a o
end
section
variable {P:Program}{w:World}{H H':Hp}{h h':Heap}{a:Addr}{o:HO}
theorem bK.lt (x:bK P w H h a o):a < h.objs.size:=by
 cases o with
 |lst xs=>obtain⟨_,_,_,_,e⟩:=x;exact XH e
 |tup xs=>obtain⟨_,_,_,p⟩:=x;exact p.lt
 |dK LD=>obtain⟨_,_,_,_,o,_,_,e,_⟩:=x;exact XH e
 |dT LD=>obtain⟨_,_,_,_,o,_,_,e,_⟩:=x;exact XH e
 |set S n=>obtain⟨o,_,_,_,e,_⟩:=x;exact XH e
 |ins C dx fs=>obtain⟨_,_,_,e,_⟩:=x;exact XH e
 |own y=>obtain⟨_,e⟩:=x;exact XH e
 |xd fs=>obtain⟨_,⟨_,_,_,e,_⟩,_⟩:=x;exact XH e
 |rng lo hi=>obtain⟨_,_,_,e⟩:=x;exact XH e
 |frz ob u=>obtain⟨e,_⟩:=x;exact XH e
 |tbl ps=>exact XH (show h.get? a=some _ from x)
 |met f y=>exact XH (show h.get? a=some _ from x)
 |ext φ=>obtain⟨_,⟨_,e⟩,_⟩:=x;exact XH e
theorem Paired.d9 {α β:Type}{F G:α->β->Prop}:∀{l₁:List α} {l₂:List β},Paired F l₁ l₂->(∀a b,F a b->G a b)->Paired G l₁ l₂
 |_,_,.nil,_=>.nil
 |_,_,.cons r t,f=>.cons (f _ _ r) (Paired.d9 t f)
theorem bK.kK (x:bK P w H h a o)(k:∀b u,(b=a∨H b=some (.own a))->h.get? b=some u->h'.get? b=some u)
  (ho:∀b,H b=some (.own a)->H' b=some (.own a))(ht:∀b xs,H b=some (.tup xs)->H' b=some (.tup xs)):bK P w H' h' a o:=by
 induction o with
 |lst xs=>obtain⟨z,LF,n,r,e⟩:=x;exact⟨z,LF,n,r,k _ _ (.inl rfl) e⟩
 |tup xs=>obtain⟨z,LF,r,ob,e,c⟩:=x;exact⟨z,LF,r,ob,k _ _ (.inl rfl) e,c⟩
 |dK LD=>obtain⟨z,y,vs,r,ob,es,ep,e,c⟩:=x;exact⟨z,y,vs,r,ob,es,ep,k _ _ (.inl rfl) e,c⟩
 |dT LD =>
  obtain⟨z,y,xs,r,ob,es,ep,e,c⟩:=x;exact⟨z,y,xs,Paired.d9 r λp q z=>⟨z.1,ht _ _ z.2.1,z.2.2⟩,ob,es,ep,k _ _ (.inl rfl) e,c⟩
 |set S n=>obtain⟨ob,es,ep,t,e,c⟩:=x;exact⟨ob,es,ep,t,k _ _ (.inl rfl) e,c⟩
 |ins C dx fs =>
  obtain⟨d,z,ne,e,mA,⟨od,es,ep,e2,c⟩,r⟩:=x;exact⟨ho _ d,z,ne,k _ _ (.inl rfl) e,mA,⟨od,es,ep,k _ _ (.inr d) e2,c⟩,r⟩
 |own y=>obtain⟨ob,e⟩:=x;exact⟨ob,k _ _ (.inl rfl) e⟩
 |xd fs=>obtain⟨mA,⟨od,es,ep,e,c⟩,r⟩:=x;exact⟨mA,⟨od,es,ep,k _ _ (.inl rfl) e,c⟩,r⟩
 |rng lo hi=>obtain⟨t,u,v,e⟩:=x;exact⟨t,u,v,k _ _ (.inl rfl) e⟩
 |frz ob u ih=>obtain⟨e,q⟩:=x;exact⟨k _ _ (.inl rfl) e,ih q⟩
 |tbl ps =>
  have e:h.get? a=some {cls:=.none,data:=.fields ps}:=x;show h'.get? a=some {cls:=.none,data:=.fields ps};exact k a _ (.inl rfl) e
 |met f y =>
  have e:h.get? a=some (PySem.W.methodObj (.ref f) (.ref y)):=x;show h'.get? a=some (PySem.W.methodObj (.ref f) (.ref y));exact k a _ (.inl rfl) e
 |ext φ=>obtain⟨p,⟨o,e⟩,st⟩:=x;exact⟨st _ _ p λo q=>k _ _ (.inl rfl) q,⟨o,k _ _ (.inl rfl) e⟩,st⟩
theorem iq.lt (x:iq P w H h)(e:H a=some o):a < h.objs.size:=(x a o e).lt
theorem iq.fresh (x:iq P w H h)(e:h.objs.size<=a):H a=none:=by
 cases q:H a with
 |none=>rfl
 |some u=>exact absurd (Yb (x.lt q) e) (YQ _)
theorem iq.kept (x:iq P w H h)(k:∀b u,h.get? b=some u->h'.get? b=some u):iq P w H h':=λa o e =>
 (x a o e).kK (λb u _ q=>k b u q) (λ_ q=>q) λ_ _ q=>q
theorem iq.laid (x:iq P w H h)(k:∀b u,h.get? b=some u->h'.get? b=some u)(hp:h.objs.size<=a)(new:bK P w (upd H a o) h' a o):iq P w (upd H a o) h':=λb u e=>by
 have hn:=x.fresh hp;by_cases hb:b=a
 · subst hb;rw[ae] at e;cases e;exact new
 · rw[aq hb] at e;exact (x b u e).kK (λc v _ q=>k c v q) (λc q=>by rw[aq (ao q hn)];exact q) λc xs q=>by rw[aq (ao q hn)];exact q
end
def Rd (H:Hp)(a:Addr)(u:HO):Prop:=H a=some u∨∃o,H a=some (.frz o u)
theorem Rd.ok {P:Program}{w:World}{H:Hp}{h:Heap}{a:Addr}{u:HO}(r:Rd H a u)(x:iq P w H h):bK P w H h a u:=by
 rcases r with r|⟨o,r⟩
 · exact x a u r
 · obtain⟨_,q⟩:=x a _ r;exact q
def JG:Option HO->Prop
 |some (.lst _)=>True
 |some (.dK _)=>True
 |some (.dT _)=>True
 |some (.set _ _)=>True
 |some (.ins _ _ _)=>True
 |some (.ext _)=>True
 |_=>False
section
variable {P:Program}{w:World}{H:Hp}{h h':Heap}{x e:Addr}{o':HO}
theorem iq.write (ok:iq P w H h) (mu:JG (H x)) (he:e=x∨H e=some (.own x)) (k:∀b u,b≠e->h.get? b=some u->h'.get? b=some u) (N9:∃u,h'.get? e=some u)
  (new:bK P w (upd H x o') h' x o'):iq P w (upd H x o') h':=λb u q=>by
 have OI:∀c y,H c=some (.own y)->c≠x:=λc y r z=>by subst z;rw[r] at mu;exact mu
 have QI:∀c xs,H c=some (.tup xs)->c≠x:=λc xs r z=>by subst z;rw[r] at mu;exact mu
 by_cases hb:b=x
 · subst hb;rw[ae] at q;cases q;exact new
 · rw[aq hb] at q;by_cases NJ:b=e
   · have q':H b=some (.own x):=by
      rcases he with z|z
      · exact absurd (NJ.trans z) hb
      · rw[NJ];exact z
     rw[q] at q';cases q';obtain⟨v,hv⟩:=N9;exact⟨v,by rw[NJ];exact hv⟩
   · refine (ok b u q).kK (λc v hc r=>k c v ?_ r) (λc r=>by rw[aq (OI c b r)];exact r) λc xs r=>by rw[aq (QI c xs r)];exact r
     rcases hc with rfl|hc
     · exact NJ
     · rintro rfl;rcases he with z|z
       · exact OI c b hc z
       · rw[hc] at z;cases z;exact hb rfl
end
structure Un (fs ex:List Addr)(H H':Hp)(h h':Heap):Prop where
 keep:∀b o,h.get? b=some o->H b=none->b∉fs->b∉ex->h'.get? b=some o
 slot:∀b o,h.get? b=some o->H b=none->b∈fs->b∉ex->∃sl,h'.get? b=some {o with slots:=sl}
 free:∀b o,h.get? b=some o->H b=none->b∉ex->H' b=none
 there:∀b o,h.get? b=some o->b∉ex->∃o',h'.get? b=some o'
 oa:∀b xs,H b=some (.tup xs)->H' b=some (.tup xs)
 mX:∀b o u,H b=some (.frz o u)->H' b=some (.frz o u)
 og:∀b ps,H b=some (.tbl ps)->∃more,H' b=some (.tbl (ps++more))
section
variable {fs Mb ex ex':List Addr}{H H1 H2:Hp}{h h1 h2 h':Heap}{a x e:Addr}{o:HO}
theorem Un.any (u:Un fs ex H H1 h h1) {b:Addr} {ob:Obj} (q:h.get? b=some ob) (n:H b=none) (hx:b∉ex):∃sl,h1.get? b=some {ob with slots:=sl}:=by
 by_cases hb:b∈fs
 · exact u.slot b ob q n hb hx
 · exact⟨ob.slots,u.keep b ob q n hb hx⟩
theorem Un.kept (k:∀b u,h.get? b=some u->h'.get? b=some u):Un fs ex H H h h' :=
 ⟨λb ob q _ _ _=>k b ob q,λb ob q _ _ _=>⟨ob.slots,k b ob q⟩,λ_ _ _ n _=>n,λb ob q _=>⟨ob,k b ob q⟩,λ_ _ q=>q,λ_ _ _ q=>q,λ_ ps q=>⟨#[],by rw[q];simp⟩⟩
theorem Un.refl:Un fs ex H H h h:=Un.kept λ_ _ q=>q
theorem Un.laid (k:∀b u,h.get? b=some u->h'.get? b=some u)(hp:h.objs.size<=a)(hn:H a=none):Un fs ex H (upd H a o) h h' where
 keep:=λb u q _ _ _=>k b u q
 slot:=λb u q _ _ _=>⟨u.slots,k b u q⟩
 free:=λb u q n _=>by rw[aq (X7 (Yb (XH q) hp))];exact n
 there:=λb u q _=>⟨u,k b u q⟩
 oa:=λb xs q=>by rw[aq (ao q hn)];exact q
 mX:=λb u xs q=>by rw[aq (ao q hn)];exact q
 og:=λb ps q=>⟨#[],by rw[aq (ao q hn),q];simp⟩
theorem Un.write (mu:JG (H x))(he:e=x∨H e=some (.own x))(k:∀b u,b≠e->h.get? b=some u->h'.get? b=some u)(N9:∃u,h'.get? e=some u):Un fs ex H (upd H x o) h h':=by
 have hx:∀b,H b=none->b≠x:=λb n z=>by subst z;rw[n] at mu;exact mu
 have hb:∀b,H b=none->b≠e:=λb n z=>by
  subst z;rcases he with r|r
  · exact hx b n r
  · rw[n] at r;cases r
 have hm:∀b u,H b=some u->¬JG (some u)->b≠x:=λb u q nm z=>by subst z;rw[q] at mu;exact nm mu
 refine⟨λb u q n _ _=>k b u (hb b n) q,λb u q n _ _=>⟨u.slots,k b u (hb b n) q⟩,λb u q n _=>by rw[aq (hx b n)];exact n,λb u q _=>?_,
  λb xs q=>by rw[aq (hm b _ q λz=>z)];exact q,λb u xs q=>by rw[aq (hm b _ q λz=>z)];exact q,λb ps q=>⟨#[],by rw[aq (hm b _ q λz=>z),q];simp⟩⟩
 by_cases NJ:b=e
 · subst NJ;exact N9
 · exact⟨u,k b u NJ q⟩
end
def J3 (h:Heap)(H:Hp):List Addr:=(List.range h.objs.size).filter λa=>(H a).isSome
def ux (h:Heap)(H:Hp):Heap:=PySem.W.hideAll h (J3 h H)
theorem zZ (h:Heap)(H:Hp):(ux h H).objs.size=h.objs.size:=PySem.W.hideAll_size _ _
theorem Bf {h:Heap}{H:Hp}{b:Addr}{o:Obj}(e:h.get? b=some o)(n:H b=none):(ux h H).get? b=some o :=
 PySem.W.hideAll_get _ e λhm=>by
  have q:(H b).isSome=true:=(YE.mp hm).2;rw[n] at q;simp at q
theorem DB {h:Heap}{H:Hp}{b:Addr}{o:Obj}(e:(ux h H).get? b=some o):h.get? b=some o/\H b=none:=by
 have e':h.get? b=some o:=PySem.W.of_hideAll (J3 h H) e;refine⟨e',?_⟩;cases q:H b with
 |none=>rfl
 |some x =>
  have hm:b∈J3 h H:=YE.mpr ⟨Zi.mpr (XH e'),by simp[q]⟩;have z:(ux h H).get? b=none:=PySem.W.hideAll_none (J3 h H) hm;rw[z] at e;cases e
structure Mod (K:aag)(mg:aai)(base:Heap):Prop where
 Fm:K.In base
 glob:base.Ns mainGlobals mg
 blt:∃mb,base.Ns builtinsNs mb/\∀x:Str,x≠"__name__"->mb x=bootBuiltins x
 nolimit:base.NoLimit
structure Cx where
 prog:Program
 w:World
 K:aag
 mg:Str->Option Value
 base:Heap
 A:Around
 N:List Str
 kM:Shared
 Ih:Hp
 env:Env
 outer:List Env
 stack:List Env
 ex:List Addr
 fn:Str->Bool
 calm:Bool
 pn:aaj
 xe:Value->Shared->Prop
def vZ (l:List Env):List Addr:=l.filterMap (·.frame)
abbrev Cx.fs (X:Cx):List Addr:=vZ X.outer
def Ie (sc:Scope)(x:Str):Prop:=sc.names.lookup x=some .local∨sc.names.lookup x=some .cell∨sc.names.lookup x=some .free
def Loc (sc:Scope)(x:Str):Prop:=sc.names.lookup x=some .local∨sc.names.lookup x=some .cell
def Look (env:Env)(h:Heap)(m:aai)(x:Str)(u:Value):Prop :=
 (env.kindOf x=some .local/\m x=some u)∨((env.kindOf x=some .cell∨env.kindOf x=some .free)/\∃c,env.cells.lookup x=some c/\h.IsCell c (some u))
structure Cx.Ok (X:Cx):Prop where
 mod:Mod X.K X.mg X.base
 kind:X.env.scope.kind=.function
 glob:X.env.globals=mainGlobals
 blt:X.env.builtins=builtinsNs
 above:X.kM.heap.objs.size<=X.env.locals
 inj:∀x y c,X.env.cells.lookup x=some c->X.env.cells.lookup y=some c->x=y
 has:∀x,(X.env.kindOf x=some .cell∨X.env.kindOf x=some .free)->∃c,X.env.cells.lookup x=some c
 Ii:∀x c,X.fn x=true->X.env.cells.lookup x=some c->X.kM.heap.objs.size<=c
 hd:X.calm=true->X.A.handled=none
 frames:X.A.frames=some X.stack
 Fz:X.stack=X.outer∨(X.stack=X.env::X.outer/\X.env.frame=some X.env.locals)
 IA:∀b∈X.ex,b≠X.env.locals/\∀x c,X.env.cells.lookup x=some c->c≠b
 bs:∀b o,X.base.get? b=some o->X.kM.heap.get? b=some o/\X.Ih b=none
 C7:X.base.objs.size<=X.kM.heap.objs.size
 Ax:∀b o,X.base.get? b=some o->b∉X.ex
 zu:∀b∈X.ex,b∉X.fs
 lX:X.kM.heap.FunFrames X.base X.outer
 FG:∀b∈X.fs,X.Ih b=none
structure Inv (X:Cx)(pins:aaj)(σ:List (Option V))(H:Hp)(s:Shared):Prop where
 ok:X.Ok
 os:s.os=X.kM.os
 bare:AllBare s.gens
 base:Un X.fs X.ex X.Ih H X.kM.heap s.heap
 loc:∃m,s.heap.Ns X.env.locals m/\∀(i:Nat) (x:Str) (v:V),X.N[i]?=some x->σ[i]?=some (some v)->Ie X.env.scope x->∃u,RelV v u/\Look X.env s.heap m x u
 cell:∀x c,X.env.cells.lookup x=some c->∃v,s.heap.IsCell c v
 free:H X.env.locals=none
 gp:∀x c,X.env.cells.lookup x=some c->H c=none
 pin:∀p∈X.pn++pins,s.heap.get? p.1=some p.2/\H p.1=none/\p.1≠X.env.locals/\p.1∉X.fs/\∀v,p.2.data≠.cell v
 bu:iq X.prog X.w H s.heap
 len:σ.length=X.N.length
section
variable {X:Cx}{pins:aaj}{σ:List (Option V)}{H H':Hp}{s:Shared}{h':Heap}
theorem Cx.Ok.KH (ok:X.Ok) {b:Addr} {o:Obj} (e:X.base.get? b=some o):b∉X.fs:=λhb=>by
 have:=(ok.lX.mem hb).1;rw[e] at this;cases this
theorem Inv.bs (I:Inv X pins σ H s):∀b o,X.base.get? b=some o->s.heap.get? b=some o/\H b=none:=λb o e =>
 ⟨I.base.keep b o (I.ok.bs b o e).1 (I.ok.bs b o e).2 (I.ok.KH e) (I.ok.Ax b o e),I.base.free b o (I.ok.bs b o e).1 (I.ok.bs b o e).2 (I.ok.Ax b o e)⟩
theorem Inv.bk (I:Inv X pins σ H s):∀b o,X.base.get? b=some o->s.heap.get? b=some o:=λb o e=>(I.bs b o e).1
theorem Inv.mod (I:Inv X pins σ H s):Mod X.K X.mg X.base:=I.ok.mod
theorem Inv.mV (I:Inv X pins σ H s):X.K.In s.heap:=I.ok.mod.Fm.keeps I.bk
theorem Inv.lt (I:Inv X pins σ H s):X.env.locals < s.heap.objs.size:=let ⟨_,hn,_⟩:=I.loc;hn.lt
theorem Inv.sz (I:Inv X pins σ H s):X.kM.heap.objs.size<=s.heap.objs.size:=Yi I.ok.above (Nat.le_of_lt I.lt)
theorem Inv.KU (I:Inv X pins σ H s){a:Addr}(h:s.heap.objs.size<=a):a∉X.fs:=λhb=>by
 obtain⟨_,o,ho,_⟩:=I.ok.lX.mem hb;exact absurd (Yb (XH ho) (Yi I.sz h)) (YQ _)
theorem Inv.Fu (I:Inv X pins σ H s):∀x c,X.env.cells.lookup x=some c->c≠X.env.locals:=λx c e z=>by
 obtain⟨v,o,ho,hd⟩:=I.cell x c e;obtain⟨m,⟨o',es,ep,L1,Md,_⟩,_⟩:=I.loc;rw[z,L1] at ho;cases ho;rw[Md] at hd;cases hd
theorem Inv.lX (I:Inv X pins σ H s):s.heap.FunFrames X.base X.outer:=by
 have all:∀(l:List Env),(∀b∈vZ l,b∈X.fs)->X.kM.heap.FunFrames X.base l->s.heap.FunFrames X.base l:=by
  intro l
  induction l with
  |nil=>intro _ _;trivial
  |cons env r ih =>
   intro hs hl;obtain⟨hk,⟨L,o,hf,hn,ho,hd⟩,hr⟩:=hl;have hL:L∈X.fs:=hs L (by unfold vZ;rw[Z5,hf];exact Yh);obtain⟨sl,e⟩:=I.base.slot L o ho (I.ok.FG L hL) hL λz=>I.ok.zu L z hL;exact⟨hk,⟨L,_,hf,hn,e,hd⟩,ih (λb hb=>hs b (by unfold vZ;rw[Z5,hf];exact XO _ hb)) hr⟩
 exact all X.outer (λ_ hb=>hb) I.ok.lX
theorem Inv.stack (I:Inv X pins σ H s):s.heap.FunFrames X.base X.stack:=by
 rcases I.ok.Fz with e|⟨e,hf⟩
 · rw[e];exact I.lX
 · rw[e];obtain⟨m,hn,_⟩:=I.loc;refine .cons (by rw[I.ok.kind];decide) hf hn ?_ I.lX;exact Heap.get?_none_of_le (Yi I.ok.C7 I.ok.above)
theorem Inv.wR (I:Inv X pins σ H s):∀b∈vZ X.stack,b∈X.env.locals::X.fs:=λb hb=>by
 rcases I.ok.Fz with e|⟨e,hf⟩
 · rw[e] at hb;exact XO _ hb
 · rw[e] at hb;unfold vZ at hb;rw[Z5,hf] at hb;exact hb
theorem Inv.tT (I:Inv X pins σ H s):∀b∈vZ X.stack,H b=none:=λb hb=>by
 rcases Xy.mp (I.wR b hb) with e|hb
 · rw[e];exact I.free
 · obtain⟨_,o,ho,_⟩:=I.ok.lX.mem hb;exact I.base.free b o ho (I.ok.FG b hb) λz=>I.ok.zu b z hb
theorem wX {h:Heap}{b:Addr}(z:h.objs.size<=b):h.get? b=none:=by
 cases e:h.get? b with
 |none=>rfl
 |some o=>exact absurd (Yb (XH e) z) (YQ _)
theorem Inv.FE {g':Array GenState}{t':Nat}{d':Drawn}{ch:List Addr}(I:Inv X pins σ H s)
  (L3:∀b∈ch,(b∈X.ex∨X.kM.heap.get? b=none)/\b≠X.env.locals/\(∀x c,X.env.cells.lookup x=some c->c≠b)/\∀p∈X.pn++pins,p.1≠b)
  (keep:∀b o,b≠X.env.locals->b∉X.fs->b∉ch->s.heap.get? b=some o->H b=none->h'.get? b=some o)
  (slot:∀b o,b≠X.env.locals->b∈X.fs->b∉ch->s.heap.get? b=some o->H b=none->∃sl,h'.get? b=some {o with slots:=sl})(free:∀b o,b∉ch->s.heap.get? b=some o->H b=none->H' b=none)
  (there:∀b o,b∉ch->s.heap.get? b=some o->∃o',h'.get? b=some o')
  (oa:∀b xs,H b=some (.tup xs)->H' b=some (.tup xs))(mX:∀b o u,H b=some (.frz o u)->H' b=some (.frz o u))(og:∀b ps,H b=some (.tbl ps)->∃more,H' b=some (.tbl (ps++more)))
  (ns:∀m,s.heap.Ns X.env.locals m->h'.Ns X.env.locals m)(bu:iq X.prog X.w H' h')(hg:AllBare g') :
  Inv X pins σ H' {s with heap:=h',gens:=g',drawn:=d',toks:=t'}:=by
 have Sk:∀b o,X.kM.heap.get? b=some o->b≠X.env.locals:=λb o e=>X7 (Yb (XH e) I.ok.above);have PF:∀b o,X.kM.heap.get? b=some o->b∉X.ex->b∉ch:=λb o e hx hb=>by
  rcases (L3 b hb).1 with z|z
  · exact hx z
  · rw[z] at e;cases e
 have cellK:∀x c,X.env.cells.lookup x=some c->∀v,s.heap.IsCell c v->h'.IsCell c v:=λx c e v ⟨o,ho,hd⟩=>by
  have OJ:c∉ch:=λz=>(L3 c z).2.2.1 x c e rfl;by_cases hc:c∈X.fs
  · obtain⟨sl,q⟩:=slot c o (I.Fu x c e) hc OJ ho (I.gp x c e);exact⟨_,q,hd⟩
  · exact⟨o,keep c o (I.Fu x c e) hc OJ ho (I.gp x c e),hd⟩
 refine⟨I.ok,I.os,hg,⟨λb o e n hb hx=>?_,λb o e n hb hx=>?_,λb o e n hx=>?_,λb o e hx=>?_,λb xs e=>oa b xs (I.base.oa b xs e),λb o xs e=>mX b o xs (I.base.mX b o xs e),λb ps e=>?_⟩,?_,λx c e=>?_,?_,λx c e=>?_,λp hp=>?_,bu,I.len⟩
 · exact keep b o (Sk b o e) hb (PF b o e hx) (I.base.keep b o e n hb hx) (I.base.free b o e n hx)
 · obtain⟨sl,e1⟩:=I.base.slot b o e n hb hx;obtain⟨U3,e2⟩:=slot b _ (Sk b o e) hb (PF b o e hx) e1 (I.base.free b o e n hx);exact⟨U3,e2⟩
 · obtain⟨o',e1⟩:=I.base.there b o e hx;exact free b o' (PF b o e hx) e1 (I.base.free b o e n hx)
 · obtain⟨o',e1⟩:=I.base.there b o e hx;exact there b o' (PF b o e hx) e1
 · obtain⟨m1,e1⟩:=I.base.og b ps e;obtain⟨m2,e2⟩:=og b _ e1;exact⟨m1++m2,by rw[e2,Array.append_assoc]⟩
 · obtain⟨m,hn,hl⟩:=I.loc;refine⟨m,ns m hn,λi x v e1 e2 e3=>?_⟩;obtain⟨u,r,l⟩:=hl i x v e1 e2 e3;refine⟨u,r,?_⟩;rcases l with l|⟨k,c,e,z⟩
   · exact .inl l
   · exact .inr ⟨k,c,e,cellK x c e _ z⟩
 · obtain⟨v,z⟩:=I.cell x c e;exact⟨v,cellK x c e v z⟩
 · obtain⟨m,⟨o,_,_,ho,_⟩,_⟩:=I.loc;exact free _ o (λz=>(L3 _ z).2.1 rfl) ho I.free
 · obtain⟨v,o,ho,hd⟩:=I.cell x c e;exact free c o (λz=>(L3 c z).2.2.1 x c e rfl) ho (I.gp x c e)
 · obtain⟨e,n,ne,nf,d⟩:=I.pin p hp;have OJ:p.1∉ch:=λz=>(L3 p.1 z).2.2.2 p hp rfl;exact⟨keep p.1 p.2 ne nf OJ e n,free p.1 p.2 OJ e n,ne,nf,d⟩
theorem Inv.step {g':Array GenState}{t':Nat}{d':Drawn}{ch:List Addr}(I:Inv X pins σ H s)
  (L3:∀b∈ch,(b∈X.ex∨X.kM.heap.objs.size<=b)/\b≠X.env.locals/\(∀x c,X.env.cells.lookup x=some c->c≠b)/\∀p∈X.pn++pins,p.1≠b)
  (keep:∀b o,b≠X.env.locals->b∉X.fs->b∉ch->s.heap.get? b=some o->H b=none->h'.get? b=some o)
  (slot:∀b o,b≠X.env.locals->b∈X.fs->b∉ch->s.heap.get? b=some o->H b=none->∃sl,h'.get? b=some {o with slots:=sl})(free:∀b o,b∉ch->s.heap.get? b=some o->H b=none->H' b=none)
  (there:∀b o,b∉ch->s.heap.get? b=some o->∃o',h'.get? b=some o')
  (oa:∀b xs,H b=some (.tup xs)->H' b=some (.tup xs))(mX:∀b o u,H b=some (.frz o u)->H' b=some (.frz o u))(og:∀b ps,H b=some (.tbl ps)->∃more,H' b=some (.tbl (ps++more)))
  (ns:∀m,s.heap.Ns X.env.locals m->h'.Ns X.env.locals m)(bu:iq X.prog X.w H' h')(hg:AllBare g') :
  Inv X pins σ H' {s with heap:=h',gens:=g',drawn:=d',toks:=t'}:=I.FE (λb hb=>⟨(L3 b hb).1.imp id λz=>wX z,(L3 b hb).2⟩) keep slot free there oa mX og ns bu hg
theorem Inv.un {t':Nat}(I:Inv X pins σ H s)(u:Un X.fs [] H H' s.heap h')(bu:iq X.prog X.w H' h'):Inv X pins σ H' {s with heap:=h',toks:=t'}:=by
 obtain⟨m,⟨o,es,ep,ho,r⟩,_⟩:=id I.loc;obtain⟨sl,hL⟩:=u.any ho I.free (by simp);exact I.step (g':=s.gens) (d':=s.drawn) (ch:=[]) (λ_ z=>nomatch z) (λb o _ hb _ e n=>u.keep b o e n hb (by simp)) (λb o _ hb _ e n=>u.slot b o e n hb (by simp)) (λb o _ e n=>u.free b o e n (by simp)) (λb o _ e=>u.there b o e (by simp)) u.oa u.mX u.og (λm' hm=>by
  obtain⟨o',QJ,QK,L1,r'⟩:=hm;rw[ho] at L1;cases L1;exact⟨_,QJ,QK,hL,r'⟩) bu I.bare
theorem Inv.F7 {g':Array GenState}{t':Nat}{d':Drawn}{ch:List Addr}(I:Inv X pins σ H s)(u:Un (vZ X.stack) ch H H' s.heap h')(bu:iq X.prog X.w H' h')(hg:AllBare g')
  (L3:∀b∈ch,(b∈X.ex∨X.kM.heap.get? b=none)/\b≠X.env.locals/\(∀x c,X.env.cells.lookup x=some c->c≠b)/\∀p∈X.pn++pins,p.1≠b) :
  Inv X pins σ H' {s with heap:=h',gens:=g',drawn:=d',toks:=t'}:=by
 obtain⟨m,⟨o,es,ep,ho,r⟩,_⟩:=id I.loc;obtain⟨sl,hL⟩:=u.any ho I.free λz=>(L3 _ z).2.1 rfl;exact I.FE (ch:=ch) L3 (λb o hL hb hc e n=>u.keep b o e n (λz=>(Xy.mp (I.wR b z)).elim hL hb) hc) (λb o _ _ hc e n=>u.any e n hc) (λb o hc e n=>u.free b o e n hc) (λb o hc e=>u.there b o e hc) u.oa u.mX u.og (λm' hm=>by
  obtain⟨o',QJ,QK,L1,r'⟩:=hm;rw[ho] at L1;cases L1;exact⟨_,QJ,QK,hL,r'⟩) bu hg
theorem Inv.call {g':Array GenState}{t':Nat}{d':Drawn}{ch:List Addr}(I:Inv X pins σ H s)(u:Un (vZ X.stack) ch H H' s.heap h')(bu:iq X.prog X.w H' h')(hg:AllBare g')
  (L3:∀b∈ch,(b∈X.ex∨X.kM.heap.objs.size<=b)/\b≠X.env.locals/\(∀x c,X.env.cells.lookup x=some c->c≠b)/\∀p∈X.pn++pins,p.1≠b) :
  Inv X pins σ H' {s with heap:=h',gens:=g',drawn:=d',toks:=t'}:=I.F7 u bu hg (λb hb=>⟨(L3 b hb).1.imp id λz=>wX z,(L3 b hb).2⟩)
theorem Inv.turned {t':Nat}{it:Addr}(I:Inv X pins σ H s)(k:∀b o,b≠it->s.heap.get? b=some o->h'.get? b=some o)(hn:H it=none)(hL:it≠X.env.locals)
  (h1:it∈X.ex∨X.kM.heap.objs.size<=it)(h2:∀x c,X.env.cells.lookup x=some c->c≠it)(h3:∀p∈X.pn++pins,p.1≠it):Inv X pins σ H {s with heap:=h',toks:=t'}:=by
 have Nk:∀b u,H b=some u->b≠it:=λb u e z=>by rw[z,hn] at e;cases e
 refine I.step (g':=s.gens) (d':=s.drawn) (ch:=[it]) (λb hb=>?_) (λb o _ _ hc e _=>k b o (λz=>hc (by simp[z])) e) (λb o _ _ hc e _=>⟨o.slots,k b o (λz=>hc (by simp[z])) e⟩) (λ_ _ _ _ n=>n)
  (λb o hc e=>⟨o,k b o (λz=>hc (by simp[z])) e⟩) (λ_ _ e=>e) (λ_ _ _ e=>e) (λb ps e=>⟨#[],by rw[e];simp⟩) (λm hm=>?_) (λb u e=>?_) I.bare
 · have e:b=it:=by simpa using hb
   subst e;exact⟨h1,hL,h2,h3⟩
 · obtain⟨o,es,ep,ho,r⟩:=hm;exact⟨o,es,ep,k _ o (Z8 hL) ho,r⟩
 · refine (I.bu b u e).kK (λc v hc q=>k c v ?_ q) (λ_ q=>q) λ_ _ q=>q;rcases hc with z|z
   · rw[z];exact Nk b u e
   · exact Nk c _ z
theorem Inv.tok (I:Inv X pins σ H s)(t:Nat):Inv X pins σ H {s with toks:=t}:=I.un (h':=s.heap) (t':=t) Un.refl I.bu
theorem Inv.kept {t':Nat}(I:Inv X pins σ H s)(k:∀b u,s.heap.get? b=some u->h'.get? b=some u):Inv X pins σ H {s with heap:=h',toks:=t'}:=I.un (Un.kept k) (I.bu.kept k)
theorem Inv.laid {a:Addr}{o:HO}{t':Nat}(I:Inv X pins σ H s)(k:∀b u,s.heap.get? b=some u->h'.get? b=some u)(hp:s.heap.objs.size<=a)(new:bK X.prog X.w (upd H a o) h' a o) :
  Inv X pins σ (upd H a o) {s with heap:=h',toks:=t'}:=I.un (Un.laid k hp (I.bu.fresh hp)) (I.bu.laid k hp new)
theorem Inv.write {x e:Addr}{o:HO}{t':Nat}(I:Inv X pins σ H s)(mu:JG (H x))(he:e=x∨H e=some (.own x))(k:∀b u,b≠e->s.heap.get? b=some u->h'.get? b=some u)(N9:∃u,h'.get? e=some u)
  (new:bK X.prog X.w (upd H x o) h' x o):Inv X pins σ (upd H x o) {s with heap:=h',toks:=t'}:=I.un (Un.write mu he k N9) (I.bu.write mu he k N9 new)
theorem Inv.weak {σ':List (Option V)}(I:Inv X pins σ H s)(hl:σ'.length=σ.length)(w:∀(i:Nat) v,σ'[i]?=some (some v)->σ[i]?=some (some v)):Inv X pins σ' H s :=
 ⟨I.ok,I.os,I.bare,I.base,let ⟨m,hn,OE⟩:=I.loc;⟨m,hn,λi x v e1 e2 e3=>OE i x v e1 (w i v e2) e3⟩,I.cell,I.free,I.gp,I.pin,I.bu,hl.trans I.len⟩
theorem Inv.mI {pins':aaj}(I:Inv X pins σ H s)(h:∀p∈pins',s.heap.get? p.1=some p.2/\H p.1=none/\p.1≠X.env.locals/\p.1∉X.fs/\∀v,p.2.data≠.cell v):Inv X pins' σ H s :=
 ⟨I.ok,I.os,I.bare,I.base,I.loc,I.cell,I.free,I.gp,λp hp=>(Yk.mp hp).elim (λz=>I.pin p (List.mem_append_left _ z)) (h p),I.bu,I.len⟩
theorem qG {N:List Str}(hN:N.Nodup){i j:Nat}{x:Str}(a:N[i]?=some x)(b:N[j]?=some x):i=j:=by
 obtain⟨h1,e1⟩:=XI.mp a;obtain⟨h2,e2⟩:=XI.mp b;exact (List.getElem_inj hN).mp (e1.trans e2.symm)
theorem rq {M:Model}{A:Around}{E:aah}{i:Nat}{x:Str}{v:V}{u:Value}{Q:Unit->Shared->Prop}(I:Inv X pins σ H s)(hN:X.N.Nodup)(hi:X.N[i]?=some x)(hx:Loc X.env.scope x)(r:RelV v u)
  (h:∀s',Inv X pins (σ.set i (some v)) H s'->(∃a,Heap.SameBut a s.heap s'.heap/\(a=X.env.locals∨X.env.cells.lookup x=some a))->Q () s')(hf:X.fn x=true∨X.env.scope.names.lookup x=some .local:=by first|exact .inl rfl|exact .inr rfl|assumption):wpAny M A (storeName X.env x u) Q E s:=by
 obtain⟨m,hn,hl⟩:=id I.loc;have QL:(X.env.scope.kind==.class||(X.env.scope.kind==.module&&X.env.locals != X.env.globals))=false:=by rw[I.ok.kind];rfl
 have hiσ:i < σ.length:=by rw[I.len];exact (XI.mp hi).1
 have Fu:=I.Fu;have tracked:∀{a:Addr} {h':Heap},(∃o,s.heap.get? a=some o/\H a=none)->Heap.SameBut a s.heap h'->iq X.prog X.w H h':=λ{a h'} ha hs b ob e=>by
  obtain⟨_,_,L4⟩:=ha;refine (I.bu b ob e).kK (λc w' hc q=>(hs.2 c ?_).trans q) (λ_ q=>q) λ_ _ q=>q;rintro rfl;rcases hc with rfl|hc
  · rw[L4] at e;cases e
  · rw[L4] at hc;cases hc
 rcases hx with hk|hk
 · refine wpAny_storeName_local hk hn (λh' MR hs=>?_) QL;obtain⟨oL,_,_,U4,_⟩:=id hn;refine h _ ⟨I.ok,I.os,I.bare,⟨λb o e n hb hx=>?_,λb o e n hb hx=>?_,I.base.free,λb o e hx=>?_,I.base.oa,I.base.mX,I.base.og⟩,⟨_,MR,λj y v' e1 e2 e3=>?_⟩,λy c e=>?_,I.free,I.gp,λp hp=>?_,tracked ⟨oL,U4,I.free⟩ hs,by simpa using I.len⟩ ⟨_,hs,.inl rfl⟩
   · exact (hs.2 b (X7 (Yb (XH e) I.ok.above))).trans (I.base.keep b o e n hb hx)
   · obtain⟨sl,e1⟩:=I.base.slot b o e n hb hx;exact⟨sl,(hs.2 b (X7 (Yb (XH e) I.ok.above))).trans e1⟩
   · obtain⟨o',e1⟩:=I.base.there b o e hx;exact⟨o',(hs.2 b (X7 (Yb (XH e) I.ok.above))).trans e1⟩
   · by_cases hj:j=i
     · subst hj;rw[hi] at e1;cases e1;rw[ZP hiσ] at e2;cases e2;exact⟨u,r,.inl ⟨hk,by simp⟩⟩
     · rw[List.getElem?_set_ne (Z8 hj)] at e2;obtain⟨u',r',q⟩:=hl j y v' e1 e2 e3;refine⟨u',r',?_⟩;rcases q with ⟨k,e⟩|⟨k,c,e,z⟩
       · refine .inl ⟨k,?_⟩;have:y≠x:=λe=>hj (qG hN e1 (e ▸ hi));simp[this,e]
       · exact .inr ⟨k,c,e,z.sameBut hs (Fu y c e)⟩
   · obtain⟨w',z⟩:=I.cell y c e;exact⟨w',z.sameBut hs (Fu y c e)⟩
   · obtain⟨e,n,ne,nf,d⟩:=I.pin p hp;exact⟨(hs.2 p.1 ne).trans e,n,ne,nf,d⟩
 · have QM:X.fn x=true:=by
    rcases hf with z|z
    · exact z
    · rw[z] at hk;cases hk
   obtain⟨c,hc⟩:=I.ok.has x (.inl hk);obtain⟨w',z⟩:=I.cell x c hc;refine wpAny_storeName_cell I.ok.kind hk hc z (λh' Ox hs=>?_);obtain⟨oc,Sm,QN⟩:=id z;refine h {s with heap:=h'} ⟨I.ok,I.os,I.bare,⟨λb o e n hb hx=>?_,λb o e n hb hx=>?_,I.base.free,λb o e hx=>?_,I.base.oa,I.base.mX,I.base.og⟩,⟨m,hn.sameBut hs (Z8 (Fu x c hc)),λj y v' e1 e2 e3=>?_⟩,λy c' e=>?_,I.free,I.gp,λp hp=>?_,tracked ⟨oc,Sm,I.gp x c hc⟩ hs,by simpa using I.len⟩ ⟨c,hs,.inr hc⟩
   · exact (hs.2 b (X7 (Yb (XH e) (I.ok.Ii x c QM hc)))).trans (I.base.keep b o e n hb hx)
   · obtain⟨sl,e1⟩:=I.base.slot b o e n hb hx;exact⟨sl,(hs.2 b (X7 (Yb (XH e) (I.ok.Ii x c QM hc)))).trans e1⟩
   · obtain⟨o',e1⟩:=I.base.there b o e hx;exact⟨o',(hs.2 b (X7 (Yb (XH e) (I.ok.Ii x c QM hc)))).trans e1⟩
   · by_cases hj:j=i
     · subst hj;rw[hi] at e1;cases e1;rw[ZP hiσ] at e2;cases e2;exact⟨u,r,.inr ⟨.inl hk,c,hc,Ox⟩⟩
     · rw[List.getElem?_set_ne (Z8 hj)] at e2;obtain⟨u',r',q⟩:=hl j y v' e1 e2 e3;refine⟨u',r',?_⟩;rcases q with q|⟨k,c',e,z'⟩
       · exact .inl q
       · refine .inr ⟨k,c',e,z'.sameBut hs ?_⟩;rintro rfl;exact hj (qG hN e1 (I.ok.inj _ _ _ e hc ▸ hi))
   · by_cases QO:c'=c
     · subst QO;exact⟨_,Ox⟩
     · obtain⟨w2,z2⟩:=I.cell y c' e;exact⟨w2,z2.sameBut hs QO⟩
   · obtain⟨e,n,ne,nf,d⟩:=I.pin p hp;refine⟨(hs.2 p.1 ?_).trans e,n,ne,nf,d⟩;intro q;rw[q,Sm] at e;have q':oc=p.2:=X8 e;exact d w' (by rw[←q'];exact QN)
theorem mH {M:Model}{A:Around}{E:aah}{i:Nat}{x:Str}{v:V}{u:Value}{Q:Unit->Shared->Prop}(I:Inv X pins σ H s)(hN:X.N.Nodup)(hi:X.N[i]?=some x)(hx:Loc X.env.scope x)(r:RelV v u)
  (h:∀s',Inv X pins (σ.set i (some v)) H s'->Q () s')(hf:X.fn x=true∨X.env.scope.names.lookup x=some .local:=by first|exact .inl rfl|exact .inr rfl|assumption):wpAny M A (storeName X.env x u) Q E s :=
 rq I hN hi hx r (λs' I' _=>h s' I') hf
theorem Inv.FU {s':Shared}{ch:List Addr}(I:Inv X pins σ H s)(ho:s'.os=s.os)(u:Un (vZ X.stack) ch H H' s.heap s'.heap)(bu:iq X.prog X.w H' s'.heap)(hg:AllBare s'.gens)
  (L3:∀b∈ch,(b∈X.ex∨X.kM.heap.get? b=none)/\b≠X.env.locals/\(∀x c,X.env.cells.lookup x=some c->c≠b)/\∀p∈X.pn++pins,p.1≠b):Inv X pins σ H' s':=by
 obtain⟨h',g',d',t',o'⟩:=s';have e:o'=s.os:=ho;subst e;exact I.F7 (g':=g') (t':=t') (d':=d') u bu hg L3
theorem Inv.Fs {s':Shared}{ch:List Addr}(I:Inv X pins σ H s)(ho:s'.os=s.os)(u:Un (vZ X.stack) ch H H' s.heap s'.heap)(bu:iq X.prog X.w H' s'.heap)(hg:AllBare s'.gens)
  (L3:∀b∈ch,(b∈X.ex∨X.kM.heap.objs.size<=b)/\b≠X.env.locals/\(∀x c,X.env.cells.lookup x=some c->c≠b)/\∀p∈X.pn++pins,p.1≠b):Inv X pins σ H' s':=I.FU ho u bu hg (λb hb=>⟨(L3 b hb).1.imp id λz=>wX z,(L3 b hb).2⟩)
end
abbrev XK:=Value->Option Addr->Hp->Prop
abbrev St:=List (Option V)
abbrev VK:=V->Hp->Prop
abbrev TE:=St->Hp->VK->Prop
abbrev TT:=St->Hp->(Bool->Hp->Prop)->Prop
abbrev TA:=St->Hp->(List V->Hp->Prop)->Prop
structure Ends where
 nx:St->Hp->Prop
 rt:VK
 bk:St->Hp->Prop:=λ_ _=>False
 ct:St->Hp->Prop:=λ_ _=>False
abbrev TS:=Ends->St->Hp->Prop
def EP (X:Cx)(pins:aaj)(σ:St)(Q:VK)(u:Value)(s':Shared):Prop:=∃v H',Inv X pins σ H' s'/\RelV v u/\Q v H'
def TP (X:Cx)(pins:aaj)(σ:St)(Q:Bool->Hp->Prop)(b:Bool)(s':Shared):Prop:=∃H',Inv X pins σ H' s'/\Q b H'
def AP (X:Cx)(pins:aaj)(σ:St)(Q:List V->Hp->Prop)(us:aak)(s':Shared):Prop:=∃vs H',Inv X pins σ H' s'/\Vals vs us/\Q vs H'
def SP (X:Cx)(pins:aaj)(D:Ends)(f:Flow)(s':Shared):Prop :=
 match f with
 |.next=>∃σ' H',Inv X pins σ' H' s'/\D.nx σ' H'
 |.brk=>∃σ' H',Inv X pins σ' H' s'/\D.bk σ' H'
 |.cont=>∃σ' H',Inv X pins σ' H' s'/\D.ct σ' H'
 |.ret u=>∃v σ' H',Inv X pins σ' H' s'/\RelV v u/\D.rt v H'
def PE (X:Cx)(e:Expr)(t:TE):Prop :=
 ∀(pins:aaj) (s:Shared) (σ:St) (H:Hp) (Q:VK),Inv X pins σ H s->t σ H Q->wpAny (model X.prog X.w) X.A (eval e X.env) (EP X pins σ Q) X.xe s
def PT (X:Cx)(e:Expr)(t:TT):Prop :=
 ∀(pins:aaj) (s:Shared) (σ:St) (H:Hp) (Q:Bool->Hp->Prop),Inv X pins σ H s->t σ H Q->wpAny (model X.prog X.w) X.A (isTrue e X.env (eval e X.env)) (TP X pins σ Q) X.xe s
def PW (X:Cx)(e:Expr)(t:TT):Prop :=
 ∀(whole:Sem Value) (pins:aaj) (s:Shared) (σ:St) (H:Hp) (Q:Bool->Hp->Prop),Inv X pins σ H s->t σ H Q->wpAny (model X.prog X.w) X.A (isTrue e X.env whole) (TP X pins σ Q) X.xe s
theorem PW.pt {X:Cx}{e:Expr}{t:TT}(h:PW X e t):PT X e t:=h _
def PA (X:Cx)(es:List Expr)(t:TA):Prop :=
 ∀(pos:Pos) (pins:aaj) (s:Shared) (σ:St) (H:Hp) (Q:List V->Hp->Prop),Inv X pins σ H s->t σ H Q->wpAny (model X.prog X.w) X.A (spliced (backTo pos (starEach es X.env))) (AP X pins σ Q) X.xe s
def PS (X:Cx)(st:Stmt)(t:TS):Prop :=
 ∀(pins:aaj) (s:Shared) (σ:St) (H:Hp) (D:Ends),Inv X pins σ H s->t D σ H->wpAny (model X.prog X.w) X.A (exec st X.env) (SP X pins D) X.xe s
def qP (X:Cx)(st:List Stmt)(t:TS):Prop :=
 ∀(pins:aaj) (s:Shared) (σ:St) (H:Hp) (D:Ends),Inv X pins σ H s->t D σ H->wpAny (model X.prog X.w) X.A (execs st X.env) (SP X pins D) X.xe s
def Kl (X:Cx)(st:Stmt)(t:TS):Prop :=
 ∀(s:Shared) (σ:St) (H:Hp) (D:Ends),Inv X [] σ H s->t D σ H->wpAny (model X.prog X.w) X.A (exec st X.env) (SP X [] D) X.xe s
def BJ (X:Cx)(st:List Stmt)(t:TS):Prop :=
 ∀(s:Shared) (σ:St) (H:Hp) (D:Ends),Inv X [] σ H s->t D σ H->wpAny (model X.prog X.w) X.A (execs st X.env) (SP X [] D) X.xe s
theorem bB {α:Type}{t:Sem α}{Q Q':α->Shared->Prop}{M:Model}{A:Around}{E:aah}{s:Shared}(h:wpAny M A t Q E s)(hQ:∀a s,Q a s->Q' a s):wpAny M A t Q' E s:=YM h hQ λ_ _ x=>x
section
variable {X:Cx}
def cJ (i:Nat):TE:=λσ H Q=>∃v,σ[i]?=some (some v)/\Q v H
def tC (v:V):TE:=λ_ H Q=>Q v H
theorem Gb {i:Nat}{x:Str}{pos:Pos}(hN:X.N[i]?=some x)(hv:Ie X.env.scope x)(hd:(x==("__debug__":Str))=false:=by decide)(Mg:(x==("__classdict__":Str))=false:=by decide):PE X (.Name x pos) (cJ i):=by
 intro pins s σ H Q I h;obtain⟨v,e,h⟩:=h;obtain⟨m,hn,hl⟩:=I.loc;obtain⟨u,r,l⟩:=hl i x v hN e hv;have fin:EP X pins σ Q u s:=⟨v,H,I,r,h⟩;rcases l with ⟨hk,hm⟩|⟨hk,c,hc,Mp⟩
 · exact wpAny_Name (wpAny_loadName_local I.ok.kind hk hn hm fin) hd
 · rcases hk with hk|hk
   · exact wpAny_Name (wpAny_loadName_cell I.ok.kind hk hc Mp fin) hd
   · exact wpAny_Name (wpAny_loadName_free I.ok.kind hk hc Mp fin Mg) hd
theorem ax {i j pos}:PE X (.Constant (.int i) j pos) (tC (.int i)):=λ_ _ _ H _ I h=>wpAny_Constant_int ⟨.int i,H,I.tok _,⟨_,rfl⟩,h⟩
theorem mG {b j pos}:PE X (.Constant (.bool b) j pos) (tC (.bl b)):=λ_ _ _ H _ I h=>Constant_bool ⟨.bl b,H,I,rfl,h⟩
theorem cA {j pos}:PE X (.Constant .none j pos) (tC .cj):=λ_ _ _ H _ I h=>Constant_none ⟨.cj,H,I,rfl,h⟩
theorem bq {x j pos}:PE X (.Constant (.str x) j pos) (tC (.str x)):=λ_ _ _ H _ I h=>Calls.Constant_str ⟨.str x,H,I.tok _,⟨_,rfl⟩,h⟩
def Gl (X:Cx)(x:Str):Prop:=X.env.kindOf x=some .globalImplicit
theorem mC {E:aah}{pins:aaj}{s:Shared}{σ:St}{H:Hp}{x:Str}{u:Value}{pos:Pos}{Q:aah}(I:Inv X pins σ H s)(hg:Gl X x)(hm:X.mg x=some u)(h:Q u s)
  (hd:(x==("__debug__":Str))=false:=by decide):wpAny (model X.prog X.w) X.A (eval (.Name x pos) X.env) Q E s :=
 Calls.Name_function_global I.ok.kind hg (Calls.loadGlobal_global (by rw[I.ok.glob];exact I.mod.glob.keeps I.bk) hm h) hd
theorem lK {E:aah}{pins:aaj}{s:Shared}{σ:St}{H:Hp}{x:Str}{u:Value}{pos:Pos}{Q:aah}(I:Inv X pins σ H s)(hg:Gl X x)(hm:X.mg x=none)(hv:bootBuiltins x=some u)(h:Q u s)
  (hn:x≠"__name__":=by decide)(hd:(x==("__debug__":Str))=false:=by decide):wpAny (model X.prog X.w) X.A (eval (.Name x pos) X.env) Q E s:=by
 obtain⟨mb,h1,h2⟩:=I.mod.blt;exact Calls.Name_function_global I.ok.kind hg (Calls.loadGlobal_builtin (by rw[I.ok.glob];exact I.mod.glob.keeps I.bk) hm (by rw[I.ok.blt];exact h1.keeps I.bk) ((h2 x hn).trans hv) h) hd
theorem Fg {x:Str}{v:V}{u:Value}{pos:Pos}(hg:Gl X x)(hm:X.mg x=some u)(r:RelV v u)(hd:(x==("__debug__":Str))=false:=by decide):PE X (.Name x pos) (tC v) :=
 λ_ _ _ H _ I h=>mC I hg hm ⟨v,H,I,r,h⟩ hd
variable {a b:Expr}{ta tb:TE}{pos:Pos}
def PC (X:Cx) (op:CmpOp) (a b:Expr) (t:TE):Prop :=
 ∀(pins:aaj) (s:Shared) (σ:St) (H:Hp) (Q:VK),Inv X pins σ H s->t σ H Q ->
  wpAny (model X.prog X.w) X.A (eval a X.env) (λv s₁=>wpAny (model X.prog X.w) X.A (eval b X.env) (λu s₂=>wpAny (model X.prog X.w) X.A (compareOp op v u) (EP X pins σ Q) X.xe s₂) X.xe s₁) X.xe s
def tB (t:TE):TT:=λσ H Q=>t σ H λx H1=>∃c,x=.bl c/\Q c H1
theorem Hc {op:CmpOp}{t:TE}(h:PC X op a b t)(h1:behindInMarks op b=false:=by first|exact MI _ (by decide) (by decide)|rfl):PE X (.Compare a [op] [b] pos) t:=λpins s σ H Q I hw=>wpAny_Compare1 (h pins s σ H Q I hw) h1
theorem pS {op:CmpOp}{t:TE}(h:PC X op a b t)(h1:behindInMarks op b=false:=by first|exact MI _ (by decide) (by decide)|rfl):PT X (.Compare a [op] [b] pos) (tB t):=by
 intro pins s σ H Q I hw;refine wpAny_isTrue_Compare1 (bB (h pins s σ H _ I hw) λv s1 h1=>bB h1 λu s2 h2=>bB h2 λc s3 ⟨x,H1,I1,r1,q1⟩=>?_) h1;obtain⟨d,rfl,q⟩:=q1;cases r1;exact YJ ⟨H1,I1,q⟩
theorem hX {e:Expr}{t:TE}(h:PE X e t)(he:∀whole,isTrue e X.env whole=(do let v ←whole;standAt e.pos;holding [v] (truthy v)):=by intro _;rfl):PT X e (tB t):=by
 intro pins s σ H Q I hw;refine isTrue_plain (bB (h pins s σ H _ I hw) λv s1 ⟨x,H1,I1,r1,q1⟩=>?_) (he _);obtain⟨d,rfl,q⟩:=q1;cases r1;exact YJ ⟨H1,I1,q⟩
variable {tA PH:TT}{rest:List Expr}
def Jz (t u:TT):TT:=λσ H Q=>t σ H λc H1=>if c=true then u σ H1 Q else Q false H1
def Le (t u:TT):TT:=λσ H Q=>t σ H λc H1=>if c=true then Q true H1 else u σ H1 Q
def Ju (t:TT):TT:=λσ H Q=>t σ H λc H1=>Q (!c) H1
theorem ox (ha:PT X a tA):PW X (.BoolOp .And [a] pos) tA:=by
 intro wh pins s σ H Q I h;refine isTrue_and (bB (ha pins s σ H Q I h) λc s1 e=>?_);cases c with
 |true=>exact isTrue_and_nil e
 |false=>exact e
theorem cS (ha:PT X a tA):PW X (.BoolOp .Or [a] pos) tA:=by
 intro wh pins s σ H Q I h;refine isTrue_or (bB (ha pins s σ H Q I h) λc s1 e=>?_);cases c with
 |false=>exact isTrue_or_nil e
 |true=>exact e
theorem tE (ha:PT X a tA)(hb:PW X (.BoolOp .And (b::rest) pos) PH):PW X (.BoolOp .And (a::b::rest) pos) (Jz tA PH):=by
 intro wh pins s σ H Q I h;refine isTrue_and (bB (ha pins s σ H _ I h) λc s1 ⟨H1,I1,q1⟩=>?_);cases c with
 |true=>exact hb wh pins s1 σ H1 Q I1 q1
 |false=>exact⟨H1,I1,q1⟩
theorem eG (ha:PT X a tA)(hb:PW X (.BoolOp .Or (b::rest) pos) PH):PW X (.BoolOp .Or (a::b::rest) pos) (Le tA PH):=by
 intro wh pins s σ H Q I h;refine isTrue_or (bB (ha pins s σ H _ I h) λc s1 ⟨H1,I1,q1⟩=>?_);cases c with
 |true=>exact⟨H1,I1,q1⟩
 |false=>exact hb wh pins s1 σ H1 Q I1 q1
theorem cC (ha:PT X a tA):PT X (.UnaryOp .Not a pos) (Ju tA):=by
 intro pins s σ H Q I h;exact isTrue_not (ha pins s σ H (λc H1=>Q (!c) H1) I h)
def FY (ta tb:TE):TE:=λσ H Q=>ta σ H λx H1=>∃c,x=.bl c/\if c=true then tb σ H1 Q else Q (.bl false) H1
def Jl (ta tb:TE):TE:=λσ H Q=>ta σ H λx H1=>∃c,x=.bl c/\if c=true then Q (.bl true) H1 else tb σ H1 Q
theorem xc {op}{t:TE}(h:PE X a t):PE X (.BoolOp op [a] pos) t:=λpins s σ H Q I hw=>BoolOp_one (h pins s σ H Q I hw)
theorem w_ (ha:PE X a ta)(hb:PE X (.BoolOp .And (b::rest) pos) tb):PE X (.BoolOp .And (a::b::rest) pos) (FY ta tb):=by
 intro pins s σ H Q I h;refine BoolOp_and (bB (ha pins s σ H _ I h) λv s1 ⟨x,H1,I1,r1,q1⟩=>?_);obtain⟨c,rfl,q1⟩:=q1;cases r1;refine YJ ?_;cases c with
 |true=>exact hb pins s1 σ H1 Q I1 q1
 |false=>exact⟨.bl false,H1,I1,rfl,q1⟩
theorem Jc (ha:PE X a ta)(hb:PE X (.BoolOp .Or (b::rest) pos) tb):PE X (.BoolOp .Or (a::b::rest) pos) (Jl ta tb):=by
 intro pins s σ H Q I h;refine BoolOp_or (bB (ha pins s σ H _ I h) λv s1 ⟨x,H1,I1,r1,q1⟩=>?_);obtain⟨c,rfl,q1⟩:=q1;cases r1;refine YJ ?_;cases c with
 |false=>exact hb pins s1 σ H1 Q I1 q1
 |true=>exact⟨.bl true,H1,I1,rfl,q1⟩
def Ll (t:TT)(ta tb:TE):TE:=λσ H Q=>t σ H λc H1=>if c=true then ta σ H1 Q else tb σ H1 Q
theorem Bs {c:Expr}(hc:PT X c tA)(ha:PE X a ta)(hb:PE X b tb):PE X (.IfExp c a b pos) (Ll tA ta tb):=by
 intro pins s σ H Q I h;refine wpAny_IfExp (bB (hc pins s σ H _ I h) λd s1 ⟨H1,I1,q1⟩=>?_);cases d with
 |true=>exact ha pins s1 σ H1 Q I1 q1
 |false=>exact hb pins s1 σ H1 Q I1 q1
end
def aP (K:aag)(H:Hp)(a:Addr)(xs:List V):Prop :=
 Rd H a (.lst xs) ∨
  ∃(o:Obj) (LF:Array Value) (n:Nat),K.lookup a=some o/\o.cls=.type "list"/\o.dict=none/\o.data=.seq LF n/\LF.size<=sizeLine/\Vals xs LF.toList
def b7 (K:aag)(H:Hp)(a:Addr)(xs:List V):Prop :=
 Rd H a (.tup xs) ∨
  ∃(o:Obj) (LF:Array Value) (n:Nat),K.lookup a=some o/\o.cls=.type "tuple"/\o.data=.seq LF n/\LF.size<=sizeLine/\Vals xs LF.toList
def Ba:Value->Option V
 |.none=>some .cj
 |.bool b=>some (.bl b)
 |.int i _=>some (.int i)
 |.str x _=>some (.str x)
 |.bytes b _=>some (.v9 b)
 |.float b _=>some (.flt b)
 |.ref a=>some (.ref a)
 |.type n=>some (.ty n)
 |_=>none
theorem RelV.abs {x:V}{u:Value}(r:RelV x u):Ba u=some x:=by
 cases x with
 |cj=>cases r;rfl
 |bl _=>cases r;rfl
 |int _=>obtain⟨t,rfl⟩:=r;rfl
 |str _=>obtain⟨t,rfl⟩:=r;rfl
 |v9 _=>obtain⟨t,rfl⟩:=r;rfl
 |flt _=>obtain⟨t,rfl⟩:=r;rfl
 |ref _=>cases r;rfl
 |ty _=>cases r;rfl
theorem RelV.inj {x y:V}{u:Value}(r:RelV x u)(q:RelV y u):x=y:=X8 (r.abs.symm.trans q.abs)
theorem Vals.inj:∀{xs ys:List V} {us:aak},Vals xs us->Vals ys us->xs=ys
 |_,_,_,.nil,.nil=>rfl
 |_,_,_,.cons r t,.cons r' t'=>by rw[r.inj r',Vals.inj t t']
section
variable {X:Cx}{pins:aaj}{σ:St}{H:Hp}{s:Shared}{a:Addr}{xs ys:List V}
theorem aP.of {K:aag} (h:H a=some (.lst xs)):aP K H a xs:=.inl (.inl h)
theorem b7.of {K:aag}(h:H a=some (.tup xs)):b7 K H a xs:=.inl (.inl h)
theorem Inv.list (I:Inv X pins σ H s)(h:aP X.K H a xs):∃LF:aak,Vals xs LF/\PlainL s.heap a LF.toArray/\xs.length<=sizeLine:=by
 rcases h with h|⟨o,LF,n,hk,hc,hd,hs,hz,r⟩
 · obtain⟨z,LF,n,r,e⟩:=h.ok I.bu;exact⟨LF,r,⟨_,n,e,rfl,rfl,rfl⟩,z⟩
 · refine⟨LF.toList,r,⟨o,n,I.mV a o hk,hc,hd,by simpa using hs⟩,?_⟩;have e:=r.length;simp only[Zf] at e;omega
theorem Inv.tuple (I:Inv X pins σ H s)(h:b7 X.K H a xs):∃LF:aak,Vals xs LF/\IsTup s.heap a LF.toArray/\xs.length<=sizeLine:=by
 rcases h with h|⟨o,LF,n,hk,hc,hs,hz,r⟩
 · obtain⟨z,LF,r,p⟩:=h.ok I.bu;exact⟨LF,r,p,z⟩
 · refine⟨LF.toList,r,⟨o,I.mV a o hk,hc,n,by simpa using hs⟩,?_⟩;have e:=r.length;simp only[Zf] at e;omega
theorem Inv.pE (I:Inv X pins σ H s)(h:aP X.K H a xs)(h':aP X.K H a ys):xs=ys:=by
 obtain⟨LF,r,⟨o,n,e,_,_,d⟩,_⟩:=I.list h;obtain⟨its',r',⟨o',n',e',_,_,d'⟩,_⟩:=I.list h';rw[e] at e';cases e';rw[d] at d';injection d' with d1 _;have:LF=its':=by simpa using YB Array.toList d1
 subst this;exact r.inj r'
theorem Inv.rY (I:Inv X pins σ H s)(h:b7 X.K H a xs)(h':b7 X.K H a ys):xs=ys:=by
 obtain⟨LF,r,⟨o,e,_,n,d⟩,_⟩:=I.tuple h;obtain⟨its',r',⟨o',e',_,n',d'⟩,_⟩:=I.tuple h';rw[e] at e';cases e';rw[d] at d';injection d' with d1 _;have:LF=its':=by simpa using YB Array.toList d1
 subst this;exact r.inj r'
end
abbrev Cx.iF (X:Cx)(E:aah):Cx:={X with xe:=E}
abbrev Cx.G4 (X:Cx):Cx:=X.iF λ_ _=>False
theorem Cx.Ok.iF {X:Cx}(ok:X.Ok)(E:aah):(X.iF E).Ok :=
 ⟨ok.mod,ok.kind,ok.glob,ok.blt,ok.above,ok.inj,ok.has,ok.Ii,ok.hd,ok.frames,ok.Fz,ok.IA,ok.bs,ok.C7,ok.Ax,ok.zu,ok.lX,ok.FG⟩
theorem Cx.Ok.di {X:Cx}{E:aah}(ok:(X.iF E).Ok):X.Ok :=
 ⟨ok.mod,ok.kind,ok.glob,ok.blt,ok.above,ok.inj,ok.has,ok.Ii,ok.hd,ok.frames,ok.Fz,ok.IA,ok.bs,ok.C7,ok.Ax,ok.zu,ok.lX,ok.FG⟩
section
variable {X:Cx}{pins:aaj}{σ:St}{H:Hp}{s:Shared}{E:aah}
theorem Inv.iF (I:Inv X pins σ H s) (E:aah):Inv (X.iF E) pins σ H s:=⟨I.ok.iF E,I.os,I.bare,I.base,I.loc,I.cell,I.free,I.gp,I.pin,I.bu,I.len⟩
theorem Inv.di (I:Inv (X.iF E) pins σ H s):Inv X pins σ H s:=⟨I.ok.di,I.os,I.bare,I.base,I.loc,I.cell,I.free,I.gp,I.pin,I.bu,I.len⟩
theorem SP.di {D:Ends}{f:Flow}{s':Shared}(h:SP (X.iF E) pins D f s'):SP X pins D f s':=by
 cases f with
 |next=>obtain⟨σ',H',I,q⟩:=h;exact⟨σ',H',I.di,q⟩
 |brk=>obtain⟨σ',H',I,q⟩:=h;exact⟨σ',H',I.di,q⟩
 |cont=>obtain⟨σ',H',I,q⟩:=h;exact⟨σ',H',I.di,q⟩
 |ret u=>obtain⟨v,σ',H',I,r,q⟩:=h;exact⟨v,σ',H',I.di,r,q⟩
theorem qP.G4 {st:List Stmt}{t:TS}(h:qP X.G4 st t):qP X st t:=λpins s σ H D I hw =>
 YM (h pins s σ H D (I.iF _) hw) (λ_ _ q=>q.di) λ_ _ z=>False.elim z
end
section
variable {X:Cx}{st:Stmt}{rest:List Stmt}{t u:TS}{e:Expr}{te:TE}{pos:Pos}
def JE:TS:=λD σ H=>D.nx σ H
def HB (t u:TS):TS:=λD σ H=>t {D with nx:=u D} σ H
theorem aC:qP X [] JE:=λ_ _ σ H _ I h=>Zs ⟨σ,H,I,h⟩
theorem af (h1:PS X st t)(h2:qP X rest u):qP X (st::rest) (HB t u):=by
 intro pins s σ H D I h;refine wpAny_execs_cons (bB (h1 pins s σ H {D with nx:=u D} I h) λf s1 q=>?_);cases f with
 |next =>
  obtain⟨σ',H',I',q⟩:=q;exact h2 pins s1 σ' H' D I' q
 |ret v=>exact q
 |brk=>exact q
 |cont=>exact q
theorem ak (h1:PS X st t):qP X [st] t:=by
 intro pins s σ H D I h;refine wpAny_execs_cons (bB (h1 pins s σ H D I h) λf s1 q=>?_);cases f with
 |next=>exact Zs q
 |ret v=>exact q
 |brk=>exact q
 |cont=>exact q
theorem Inv.quiet {pins:aaj}{σ:St}{H:Hp}{s:Shared}(I:Inv X pins σ H s):interactive X.env=false:=by simp[interactive,I.ok.kind]
def Ik (te:TE):TS:=λD σ H=>te σ H λ_ H1=>D.nx σ H1
theorem dP (he:PE X e te)(hs:swapsWith e none pos.line X.env=pure false:=by rfl):PS X (.Expr e pos) (Ik te):=by
 intro pins s σ H D I h;exact wpAny_Expr_any (bB (he pins s σ H _ I h) λv s1 ⟨x,H1,I1,r1,q1⟩=>⟨σ,H1,I1,q1⟩) I.quiet hs
def Ey (te:TE):TS:=λD σ H=>te σ H D.rt
theorem az (he:PE X e te):PS X (.Return (some e) pos) (Ey te):=by
 intro pins s σ H D I h;exact wpAny_Return_some (bB (he pins s σ H _ I h) λv s1 ⟨x,H1,I1,r1,q1⟩=>⟨x,σ,H1,I1,r1,q1⟩)
def ID (c:TT)(t u:TS):TS:=λD σ H=>c σ H λb H1=>if b=true then t D σ H1 else u D σ H1
theorem aO {c:Expr}{a b:List Stmt}{tc:TT}(hc:PT X c tc)(ha:qP X a t)(hb:qP X b u):PS X (.If c a b pos) (ID tc t u):=by
 intro pins s σ H D I h;refine wpAny_If (bB (hc pins s σ H _ I h) λd s1 ⟨H1,I1,q1⟩=>?_);cases d with
 |true=>exact ha pins s1 σ H1 D I1 q1
 |false=>exact hb pins s1 σ H1 D I1 q1
end
abbrev TG:=V->St->Hp->(St->Hp->Prop)->Prop
abbrev Hs:=List V->St->Hp->(St->Hp->Prop)->Prop
def PG (X:Cx)(target:Expr)(t:TG):Prop :=
 ∀(pins:aaj) (s:Shared) (σ:St) (H:Hp) (v:V) (u:Value) (Q:St->Hp->Prop),Inv X pins σ H s->RelV v u->t v σ H Q ->
  wpAny (model X.prog X.w) X.A (assign target X.env u) (λ_ s'=>∃σ' H',Inv X pins σ' H' s'/\Q σ' H') X.xe s
def JW (X:Cx)(ts:List Expr)(t:Hs):Prop :=
 ∀(pins:aaj) (s:Shared) (σ:St) (H:Hp) (vs:List V) (us:aak) (Q:St->Hp->Prop),Inv X pins σ H s->Vals vs us->t vs σ H Q ->
  wpAny (model X.prog X.w) X.A (assignInOrder ((assignEach ts X.env).map (·.2)) us) (λ_ s'=>∃σ' H',Inv X pins σ' H' s'/\Q σ' H') X.xe s
abbrev HF:=V->V->V->Hp->(Hp->Prop)->Prop
def IH (X:Cx)(t:HF):Prop :=
 ∀(pins:aaj) (s:Shared) (σ:St) (H:Hp) (o i v:V) (ov iv u:Value) (Q:Hp->Prop),Inv X pins σ H s->RelV o ov->RelV i iv->RelV v u->t o i v H Q ->
  wpAny (model X.prog X.w) X.A (setItem ov iv u) (λ_ s'=>∃H',Inv X pins σ H' s'/\Q H') X.xe s
abbrev Ig:=V->V->Hp->VK->Prop
def KA (X:Cx)(op:Operator)(t:Ig):Prop :=
 ∀(pins:aaj) (s:Shared) (σ:St) (H:Hp) (x y:V) (v u:Value) (Q:VK),Inv X pins σ H s->RelV x v->RelV y u->t x y H Q ->
  wpAny (model X.prog X.w) X.A (inplaceOp op v u) (EP X pins σ Q) X.xe s
section
variable {X:Cx}{pos:Pos}
def fL (i:Nat):TG:=λv σ H Q=>Q (σ.set i (some v)) H
theorem tJ {i:Nat}{x:Str}(hN:X.N.Nodup)(hi:X.N[i]?=some x)(hx:Loc X.env.scope x)(hf:X.fn x=true∨X.env.scope.names.lookup x=some .local:=by first|exact .inl rfl|exact .inr rfl|assumption):PG X (.Name x pos) (fL i):=by
 intro pins s σ H v u Q I r h;exact wpAny_assign_Name (mH I hN hi hx r (λs' I'=>⟨_,H,I',h⟩) hf)
def DF:Hs:=λvs σ H Q=>vs=[]/\Q σ H
def qB (t:TG)(u:Hs):Hs:=λvs σ H Q=>∃v r,vs=v::r/\t v σ H λσ' H'=>u r σ' H' Q
theorem iK:JW X [] DF:=by
 intro pins s σ H vs us Q I r h;obtain⟨e,h⟩:=h;subst e;cases r;exact assignInOrder_nil ⟨σ,H,I,h⟩
theorem b_ {e:Expr}{es:List Expr}{t:TG}{u:Hs}(h1:PG X e t)(h2:JW X es u)
  (hs:(assignEach (e::es) X.env).map (·.2)=assign e X.env::(assignEach es X.env).map (·.2):=by rfl):JW X (e::es) (qB t u):=by
 intro pins s σ H vs us Q I r h;obtain⟨v,vr,e1,h⟩:=h;subst e1;cases r with
 |cons r rr =>
  rw[hs];refine assignInOrder_cons (bB (h1 pins s σ H _ _ _ I r h) λ_ s1 ⟨σ1,H1,I1,q1⟩=>?_);exact h2 pins s1 σ1 H1 _ _ Q I1 rr q1
def DK (K:aag)(n:Nat)(t:Hs):TG:=λv σ H Q=>∃a xs,v=.ref a/\b7 K H a xs/\xs.length=n/\t xs σ H Q
theorem lH {es:List Expr}{k:Nat}{t:Hs}{n:Nat}(hc:X.calm=true)(h:JW X es t)
  (hn:(assignEach es X.env).length=n:=by rfl)(Mj:(assignEach es X.env).findIdx? (·.1)=none:=by rfl):PG X (.Tuple es k pos) (DK X.K n t):=by
 intro pins s σ H v u Q I r hw;obtain⟨a,xs,e1,hq,hl,hw⟩:=hw;subst e1;cases r;obtain⟨LF,rv,ht,hz⟩:=I.tuple hq;refine assign_Tuple_tuple (I.ok.hd hc) ht (by simp[hn,←hl,rv.length]) Mj λh' hx=>?_;have I1:Inv X pins σ H {s with heap:=h'}:=I.kept (t':=s.toks) λb o e=>hx b o (X7 (XH e)) e;exact h pins _ σ H xs _ Q I1 (by simpa using rv) hw
def zY (te:TE)(g:TG):TS:=λD σ H=>te σ H λx H1=>g x σ H1 D.nx
theorem Bq {tg e:Expr}{te:TE}{g:TG}(he:PE X e te)(hg:PG X tg g)(hs:swapsWithSole [tg] e pos.line X.env=pure false:=by rfl)(hw:swappedStores [tg] e X.env=pure none:=by rfl)
  (h1:(assignEach [tg] X.env).map (·.2)=[assign tg X.env]:=by rfl):PS X (.Assign [tg] e pos) (zY te g):=by
 intro pins s σ H D I h;refine wpAny_Assign_stores (bB (he pins s σ H _ I h) λv s1 ⟨x,H1,I1,r1,q1⟩=>?_) hs hw;rw[h1];exact bB (hg pins s1 σ H1 x v _ I1 r1 q1) λ_ s2 q=>q
theorem oQ {i:Nat}{x:Str}{e:Expr}{te:TE}{pos':Pos}(hN:X.N.Nodup)(hi:X.N[i]?=some x)(hx:Loc X.env.scope x)(he:PE X e te)(hs:swapsWith e (some (.Name x pos')) pos.line X.env=pure false:=by rfl)(hf:X.fn x=true∨X.env.scope.names.lookup x=some .local:=by first|exact .inl rfl|exact .inr rfl|assumption) :
  PS X (.Assign [.Name x pos'] e pos) (zY te (fL i)):=by
 intro pins s σ H D I h;refine wpAny_Assign_Name (bB (he pins s σ H _ I h) λv s1 ⟨y,H1,I1,r1,q1⟩=>?_) hs;exact mH I1 hN hi hx r1 (λs2 I2=>⟨_,H1,I2,q1⟩) hf
def K1 (i:Nat)(te:TE)(ti:Ig):TS:=λD σ H=>∃x,σ[i]?=some (some x)/\te σ H λy H1=>ti x y H1 λz H2=>D.nx (σ.set i (some z)) H2
theorem Bm {i:Nat}{x:Str}{e:Expr}{te:TE}{op:Operator}{ti:Ig}{pos':Pos}(hN:X.N.Nodup)(hi:X.N[i]?=some x)(hx:Loc X.env.scope x)(he:PE X e te)(ho:KA X op ti)(hf:X.fn x=true∨X.env.scope.names.lookup x=some .local:=by first|exact .inl rfl|exact .inr rfl|assumption) :
  PS X (.AugAssign (.Name x pos') op e pos) (K1 i te ti):=by
 intro pins s σ H D I h;obtain⟨v,e1,h⟩:=h;obtain⟨m,hn,hl⟩:=I.loc;have U5:Ie X.env.scope x:=by rcases hx with k|k;exact .inl k;exact .inr (.inl k)
 obtain⟨u,r,l⟩:=hl i x v hi e1 U5;refine wpAny_AugAssign_Name ?_;have go:wpAny (model X.prog X.w) X.A (eval e X.env) (λw s₂=>wpAny (model X.prog X.w) X.A (inplaceOp op u w) (λr s₃=>wpAny (model X.prog X.w) X.A (storeName X.env x r) (λ_=>SP X pins D .next) X.xe s₃) X.xe s₂) X.xe s:=by
  refine bB (he pins s σ H _ I h) λw s1 ⟨y,H1,I1,r1,q1⟩=>?_;refine bB (ho pins s1 σ H1 v y u w _ I1 r r1 q1) λz s2 ⟨zv,H2,I2,r2,q2⟩=>?_;exact mH I2 hN hi hx r2 (λs3 I3=>⟨_,H2,I3,q2⟩) hf
 rcases l with ⟨hk,hm⟩|⟨hk,c,hc,Mp⟩
 · exact wpAny_loadName_local I.ok.kind hk hn hm go
 · rcases hk with hk|hk
   · exact wpAny_loadName_cell I.ok.kind hk hc Mp go
   · rcases hx with k|k
     · have:X.env.scope.names.lookup x=some .free:=hk;rw[k] at this;cases this
     · have:X.env.scope.names.lookup x=some .free:=hk;rw[k] at this;cases this
def JU (to ti te:TE)(M3:V->V->Hp->VK->Prop)(PJ:Ig)(M4:HF):TS:=λD σ H=>to σ H λo H1=>ti σ H1 λi H2=>M3 o i H2 λx H3=>te σ H3 λy H4=>PJ x y H4 λz H5=>M4 o i z H5 λH6=>D.nx σ H6
def Iv (X:Cx)(t:V->V->Hp->VK->Prop):Prop :=
 ∀(pins:aaj) (s:Shared) (σ:St) (H:Hp) (o i:V) (ov iv:Value) (Q:VK),Inv X pins σ H s->RelV o ov->RelV i iv->t o i H Q ->
  wpAny (model X.prog X.w) X.A (getItem ov iv) (EP X pins σ Q) X.xe s
theorem D9 {o i e:Expr}{to ti te:TE}{M3:V->V->Hp->VK->Prop}{PJ:Ig}{M4:HF}{op:Operator}{LW:Pos}(ho:PE X o to)(hi:PE X i ti)(hg:Iv X M3)(he:PE X e te)(hp:KA X op PJ)(hs:IH X M4)
  (ha:∀ov iv new,augStore i ov iv new=(do holding [new,ov,iv] (setItem ov iv new);release [new,ov,iv] [];pure .next):=by intros;rfl):PS X (.AugAssign (.Subscript o i LW) op e pos) (JU to ti te M3 PJ M4):=by
 intro pins s σ H D I h;refine wpAny_AugAssign_SubscriptAny (bB (ho pins s σ H _ I h) λov s1 ⟨x1,H1,I1,r1,q1⟩=>?_) ha;refine bB (hi pins s1 σ H1 _ I1 q1) λiv s2 ⟨x2,H2,I2,r2,q2⟩=>?_;refine bB (hg pins s2 σ H2 x1 x2 ov iv _ I2 r1 r2 q2) λold s3 ⟨x3,H3,I3,r3,q3⟩=>?_;refine bB (he pins s3 σ H3 _ I3 q3) λv s4 ⟨x4,H4,I4,r4,q4⟩=>?_;refine bB (hp pins s4 σ H4 x3 x4 old v _ I4 r3 r4 q4) λnew s5 ⟨x5,H5,I5,r5,q5⟩=>?_;exact bB (hs pins s5 σ H5 x1 x2 x5 ov iv new _ I5 r1 r2 r5 q5) λ_ s6 ⟨H6,I6,q6⟩=>⟨σ,H6,I6,q6⟩
def Ln (f:Int->Int->Int):Ig:=λx y H Q=>∃i j,x=.int i/\y=.int j/\Q (.int (f i j)) H
theorem AH:KA X .Add (Ln λi j=>i+j):=by
 intro pins s σ H x y v u Q I r1 r2 h;obtain⟨i,j,e1,e2,q⟩:=h;subst e1;subst e2;obtain⟨t,rfl⟩:=r1;obtain⟨t',rfl⟩:=r2;exact iadd_int ⟨.int _,H,I.tok _,⟨_,rfl⟩,q⟩
end
section
variable {X:Cx}{pos:Pos}
def wg (c:TT) (tb:TS):TS:=λD σ H=>∃W:Nat->St->Hp->Prop,(∃m,W m σ H)/\∀m σ H,W m σ H ->
 c σ H λb H1=>if b=true then ∃N:St->Hp->Prop,(∀σ' H',N σ' H'->∃m',m' < m/\W m' σ' H')/\tb {D with nx:=N,ct:=N,bk:=D.nx} σ H1 else D.nx σ H1
theorem Bo {c:Expr}{body:List Stmt}{tc:TT}{tb:TS}(hp:PassesOwn (model X.prog X.w) X.A X.env X.xe)(hc:PT X c tc)(hb:qP X body tb):PS X (.While c body [] pos) (wg tc tb):=by
 intro pins s σ H D I h;obtain⟨W,⟨m0,w0⟩,turn⟩:=h;refine wpAny_While (codeAny_whileLoop (λn s'=>∃σ' H',Inv X pins σ' H' s'/\W n σ' H') ?_ m0 ⟨σ,H,I,w0⟩);rintro n s1 ⟨σ1,H1,I1,w1⟩;refine YO hp (bB (hc pins s1 σ1 H1 _ I1 (turn n σ1 H1 w1)) λb s2 ⟨H2,I2,q2⟩=>?_);cases b with
 |true =>
  obtain⟨N,hN,q2⟩:=q2;rw[Xw rfl];refine YO hp (bB (hb pins s2 σ1 H2 _ I2 q2) λf s3 q3=>?_);cases f with
  |next =>
   obtain⟨σ3,H3,I3,n3⟩:=q3;obtain⟨m',hm,w3⟩:=hN σ3 H3 n3;exact⟨m',hm,σ3,H3,I3,w3⟩
  |cont =>
   obtain⟨σ3,H3,I3,n3⟩:=q3;obtain⟨m',hm,w3⟩:=hN σ3 H3 n3;exact⟨m',hm,σ3,H3,I3,w3⟩
  |brk=>exact q3
  |ret v=>exact q3
 |false =>
  rw[Xv XW];exact Zs ⟨σ1,H2,I2,q2⟩
end
structure It where
 go:Nat->Hp->Prop
 v_:Nat->Hp->V->Hp->Prop
 stop:Nat->Hp->Prop
def mP (X:Cx)(pins:aaj)(H:Hp)(b:Addr):Prop :=
 H b=none/\b≠X.env.locals/\b∉X.fs/\(b∈X.ex∨X.kM.heap.objs.size<=b)/\(∀x c,X.env.cells.lookup x=some c->c≠b)/\∀p∈X.pn++pins,p.1≠b
theorem Inv.wG {X:Cx}{pins:aaj}{σ:St}{H H':Hp}{s:Shared}{b:Addr}(I:Inv X pins σ H s)(hb:s.heap.objs.size<=b)(hn:H' b=none):mP X pins H' b:=by
 refine⟨hn,Nat.ne_of_gt (Yb I.lt hb),I.KU hb,.inr (Yi I.sz hb),λx c e z=>?_,λp hp z=>?_⟩
 · obtain⟨v,q⟩:=I.cell x c e;exact absurd (Yb q.lt (by rw[z];exact hb)) (YQ _)
 · exact absurd (Yb (XH (I.pin p hp).1) (by rw[z];exact hb)) (YQ _)
structure Turn (P:Program)(w:World)(K:aag)(tg:Expr)(J:It)(fp:List Addr)(it:Addr)(tn:Nat->Heap->Prop):Prop where
 mem:it∈fp
 obj:∀i h,tn i h->∀b∈fp,∃o,h.get? b=some o/\∀v,o.data≠.cell v
 keep:∀i h h',tn i h->(∀b∈fp,∀o,h.get? b=some o->h'.get? b=some o)->tn i h'
 item:∀(X:Cx),X.prog=P->X.w=w->X.K=K->X.calm=true->∀(i:Nat) (pins:aaj) (s:Shared) (σ:St) (H:Hp) (E:aah),Inv X pins σ H s->(∀b∈fp,mP X pins H b)->tn i s.heap->J.go i H ->
  wpAny (model P w) X.A (pyNext (.ref it)) (λr s1=>∃u,r=some u /\
   wpAny (model P w) X.A (letOwnedTupleGo tg (.ref it) u) (λ_ s2=>∃x H',Inv X pins σ H' s2/\RelV x u/\J.v_ i H x H'/\tn (i+1) s2.heap/\∀b∈fp,H' b=none) E s1) E s
 done:∀(X:Cx),X.prog=P->X.w=w->X.K=K->X.calm=true->∀(i:Nat) (pins:aaj) (s:Shared) (σ:St) (H:Hp) (E:aah),Inv X pins σ H s->(∀b∈fp,mP X pins H b)->tn i s.heap->J.stop i H ->
  wpAny (model P w) X.A (pyNext (.ref it)) (λr s1=>r=none/\Inv X pins σ H s1) E s
 self:∀(A:Around) (i:Nat) (s:Shared) (Q:aah) (E:aah),tn i s.heap->Q (.ref it) s->wpAny (model P w) A (pyIter (.ref it)) Q E s
abbrev TI:=St->Hp->(It->Hp->Prop)->Prop
def Kw (X:Cx)(pins:aaj)(σ:St)(tg:Expr)(R:It->Hp->Prop)(PK:Value)(s2:Shared):Prop :=
 ∃(it:Addr) (fp:List Addr) (tn:Nat->Heap->Prop) (J:It) (H':Hp),PK=.ref it/\Inv X pins σ H' s2/\Turn X.prog X.w X.K tg J fp it tn/\tn 0 s2.heap/\(∀b∈fp,mP X pins H' b)/\R J H'
def PI (X:Cx)(tg iter:Expr)(wi:TI):Prop :=
 ∀(pins:aaj) (s:Shared) (σ:St) (H:Hp) (R:It->Hp->Prop),Inv X pins σ H s->wi σ H R ->
  wpAny (model X.prog X.w) X.A (eval iter X.env) (λv s1=>wpAny (model X.prog X.w) X.A (pyIter v) (Kw X pins σ tg R) X.xe s1) X.xe s
theorem vN {M:Model}{A:Around}{E:aah}{s:Shared}{tg:Expr}{it:Addr}{u:Value}{o:Obj}{n:String}{vs:Array Value}{Q:Unit->Shared->Prop}(ho:s.heap.get? it=some o)(hc:o.cls=.type n)(hd:o.data=.fields vs)
  (hn:["enumerate","zip","dict_itemiterator","dict_reverseitemiterator","odict_iterator","itertools.zip_longest","itertools.pairwise"].contains n=false)(hQ:Q () s):wpAny M A (letOwnedTupleGo tg (.ref it) u) Q E s:=by
 unfold letOwnedTupleGo;cases tg <;> first
  |exact XA hQ
  |(cases u <;> first
    |exact XA hQ
    |(refine Xs (wpAny_load ho ?_)
      rw[hc,hd];show wpAny M A (if (["enumerate","zip","dict_itemiterator","dict_reverseitemiterator","odict_iterator","itertools.zip_longest","itertools.pairwise"].contains n&&vs[0]?==some (rawInt _))=true then _ else _) Q E s;rw[Xv (by intro h;rw[hn,Bool.false_and] at h;cases h)];exact XA hQ))
def By (K:aag)(a:Addr):It :=
 ⟨λi H=>∃xs x,aP K H a xs/\xs[i]?=some x,λi H x H'=>H'=H/\∀xs,aP K H a xs->xs[i]?=some x,λi H=>∃xs,aP K H a xs/\xs.length<=i⟩
def JD (K:aag)(a:Addr):It :=
 ⟨λi H=>∃xs x,b7 K H a xs/\xs[i]?=some x,λi H x H'=>H'=H/\∀xs,b7 K H a xs->xs[i]?=some x,λi H=>∃xs,b7 K H a xs/\xs.length<=i⟩
def AB (lo:Int)(n:Nat):It:=⟨λi _=>i < n,λi H x H'=>H'=H/\x=.int (lo+i),λi _=>n<=i⟩
theorem zz {P:Program}{w:World}{K:aag}{tg:Expr}(a it:Addr):Turn P w K tg (By K a) [it] it (λi h=>h.IsListIter it a i) where
 mem:=by simp
 obj:=λi h st b hb=>by
  have e:b=it:=by simpa using hb
  subst e;obtain⟨o,e,c,d⟩:=st;exact⟨o,e,λv z=>by rw[d] at z;cases z⟩
 keep:=λi h h' st k=>st.at λo e=>k it (by simp) o e
 item:=by
  intro X hP hw hK hc i pins s σ H E I hf st hg;subst hP hw hK;obtain⟨xs,x,hq,hx⟩:=hg;obtain⟨LF,rv,p,hz⟩:=I.list hq;obtain⟨u,hu,ru⟩:=rv.get hx;obtain⟨f0,f1,f2,f3,f4,f5⟩:=hf it (by simp);refine wpAny_pyNext_list_item st p.isList (x:=u) (by simpa using hu) λh' Mq sb=>?_;have I1:Inv X pins σ H {s with heap:=h'}:=I.turned (t':=s.toks) (λb o hb e=>(sb.2 b hb).trans e) f0 f1 f3 f4 f5;obtain⟨o,e,c,d⟩:=id Mq;exact⟨u,rfl,vN (s:={s with heap:=h'}) e c d (by decide) ⟨x,H,I1,ru,⟨rfl,λys hy=>by rw[I.pE hy hq];exact hx⟩,Mq,λb hb=>(hf b hb).1⟩⟩
 done:=by
  intro X hP hw hK hc i pins s σ H E I hf st hg;subst hP hw hK;obtain⟨xs,hq,hx⟩:=hg;obtain⟨LF,rv,p,hz⟩:=I.list hq;obtain⟨f0,f1,f2,f3,f4,f5⟩:=hf it (by simp);have hl:=rv.length;exact wpAny_pyNext_list_end (I.ok.hd hc) st p.isList (by simp;omega) λh' eb=>⟨rfl,I.turned (t':=s.toks) (λb o hb e=>eb b o hb e) f0 f1 f3 f4 f5⟩
 self:=λ_ _ _ _ _ st h=>wpAny_pyIter_listiter st h
theorem xE {P:Program}{w:World}{K:aag}{tg:Expr}(a it:Addr):Turn P w K tg (JD K a) [it] it (λi h=>h.IsTupleIter it a i) where
 mem:=by simp
 obj:=λi h st b hb=>by
  have e:b=it:=by simpa using hb
  subst e;obtain⟨o,e,c,d⟩:=st;exact⟨o,e,λv z=>by rw[d] at z;cases z⟩
 keep:=λi h h' st k=>st.at λo e=>k it (by simp) o e
 item:=by
  intro X hP hw hK hc i pins s σ H E I hf st hg;subst hP hw hK;obtain⟨xs,x,hq,hx⟩:=hg;obtain⟨LF,rv,p,hz⟩:=I.tuple hq;obtain⟨u,hu,ru⟩:=rv.get hx;obtain⟨f0,f1,f2,f3,f4,f5⟩:=hf it (by simp);refine wpAny_pyNext_tuple_item st (show s.heap.IsTuple a LF.toArray from p) (x:=u) (by simpa using hu) λh' Mq sb=>?_;have I1:Inv X pins σ H {s with heap:=h'}:=I.turned (t':=s.toks) (λb o hb e=>(sb.2 b hb).trans e) f0 f1 f3 f4 f5;obtain⟨o,e,c,d⟩:=id Mq;exact⟨u,rfl,vN (s:={s with heap:=h'}) e c d (by decide) ⟨x,H,I1,ru,⟨rfl,λys hy=>by rw[I.rY hy hq];exact hx⟩,Mq,λb hb=>(hf b hb).1⟩⟩
 done:=by
  intro X hP hw hK hc i pins s σ H E I hf st hg;subst hP hw hK;obtain⟨xs,hq,hx⟩:=hg;obtain⟨LF,rv,p,hz⟩:=I.tuple hq;obtain⟨f0,f1,f2,f3,f4,f5⟩:=hf it (by simp);have hl:=rv.length;exact wpAny_pyNext_tuple_end (I.ok.hd hc) st (show s.heap.IsTuple a LF.toArray from p) (by simp;omega) λh' eb=>⟨rfl,I.turned (t':=s.toks) (λb o hb e=>eb b o hb e) f0 f1 f3 f4 f5⟩
 self:=λ_ _ _ _ _ st h=>wpAny_pyIter_tupleiter st h
theorem wB {P:Program}{w:World}{K:aag}{tg:Expr}(it:Addr)(lo:Int)(n:Nat):Turn P w K tg (AB lo n) [it] it (λi h=>IsRangeIter h it (lo+(i:Nat)*1) ((n:Int) - (i:Nat)) 1) where
 mem:=by simp
 obj:=λi h st b hb=>by
  have e:b=it:=by simpa using hb
  subst e;exact⟨_,st,λv z=>by
   have z':Data.fields _=Data.cell v:=z;cases z'⟩
 keep:=λi h h' st k=>k it (by simp) _ st
 item:=by
  intro X hP hw hK hc i pins s σ H E I hf st hg;subst hP hw hK;obtain⟨f0,f1,f2,f3,f4,f5⟩:=hf it (by simp);have W:=Walks.range (prog:=X.prog) (w:=X.w) (I.ok.hd hc) it lo 1 n;refine W.item i s _ _ hg st λv h' tk hv Mq kk=>?_;obtain⟨t,rfl⟩:=hv;have I1:Inv X pins σ H {s with heap:=h',toks:=tk}:=I.turned (λb o hb e=>kk b o (by simpa using hb) e) f0 f1 f3 f4 f5;refine⟨_,rfl,vN (s:={s with heap:=h',toks:=tk}) (n:="range_iterator") Mq rfl rfl (by decide) ⟨.int (lo+i),H,I1,⟨t,?_⟩,⟨rfl,rfl⟩,Mq,λb hb=>(hf b hb).1⟩⟩;rw[Int.mul_one]
 done:=by
  intro X hP hw hK hc i pins s σ H E I hf st hg;subst hP hw hK;obtain⟨f0,f1,f2,f3,f4,f5⟩:=hf it (by simp);exact wpAny_pyNext_range_end (I.ok.hd hc) st (by have:n<=i:=hg;omega) λh' eb=>⟨rfl,I.turned (t':=s.toks) (λb o hb e=>eb b o hb e) f0 f1 f3 f4 f5⟩
 self:=λ_ _ _ _ _ st h=>wpAny_pyIter_rangeiter st h
section
variable {X:Cx}{tg:Expr}
def Fl (K:aag) (tl:TE):TI:=λσ H R=>tl σ H λx H1=>∃a,x=.ref a/\(∃xs,aP K H1 a xs)/\R (By K a) H1
def K4 (K:aag)(tl:TE):TI:=λσ H R=>tl σ H λx H1=>∃a,x=.ref a/\(∃xs,b7 K H1 a xs)/\R (JD K a) H1
theorem bJ {l:Expr}{tl:TE}(hl:PE X l tl):PI X tg l (Fl X.K tl):=by
 intro pins s σ H R I h;refine bB (hl pins s σ H _ I h) λv s1 ⟨x,H1,I1,r1,q1⟩=>?_;obtain⟨a,e,⟨xs,hq⟩,q⟩:=q1;subst e;cases r1;obtain⟨LF,rv,p,hz⟩:=I1.list hq;refine wpAny_pyIter_list p.isList ?_;refine⟨s1.heap.objs.size,[s1.heap.objs.size],_,_,H1,rfl,I1.kept (t':=s1.toks) λb o e=>Xx _ e,zz a _,⟨_,XM _ rfl,rfl,rfl⟩,λb hb=>?_,q⟩;have e:b=s1.heap.objs.size:=by simpa using hb
 subst e;exact I1.wG (XD _) (I1.bu.fresh (XD _))
theorem Gp {l:Expr}{tl:TE}(hl:PE X l tl):PI X tg l (K4 X.K tl):=by
 intro pins s σ H R I h;refine bB (hl pins s σ H _ I h) λv s1 ⟨x,H1,I1,r1,q1⟩=>?_;obtain⟨a,e,⟨xs,hq⟩,q⟩:=q1;subst e;cases r1;obtain⟨LF,rv,p,hz⟩:=I1.tuple hq;refine wpAny_pyIter_tuple (show s1.heap.IsTuple a LF.toArray from p) ?_;refine⟨s1.heap.objs.size,[s1.heap.objs.size],_,_,H1,rfl,I1.kept (t':=s1.toks) λb o e=>Xx _ e,xE a _,⟨_,XM _ rfl,rfl,rfl⟩,λb hb=>?_,q⟩;have e:b=s1.heap.objs.size:=by simpa using hb
 subst e;exact I1.wG (XD _) (I1.bu.fresh (XD _))
theorem vn {pins:aaj}{σ:St}{H:Hp}{s:Shared}{R:It->Hp->Prop}{E:aah}{lo hi:Int}{t u v:Tok}{tk:Nat}(I:Inv X pins σ H s)(h1:-(2 ^ 62)<=lo)(h2:lo < 2 ^ 62)(h3:-(2 ^ 62)<=hi)(h4:hi < 2 ^ 62)
  (q:R (AB lo (hi - lo).toNat) H):wpAny (model X.prog X.w) X.A (pyIter (.ref s.heap.objs.size)) (Kw X pins σ tg R) E {s with heap:=s.heap.push {cls:=.type "range",data:=.fields #[.int lo t,.int hi u,.int 1 v]},toks:=tk}:=by
 refine wpAny_pyIter_range (IsRange.new ..) (small_one h1 h2 h3 h4) ?_;have I1:Inv X pins σ H {s with heap:=s.heap.push {cls:=.type "range",data:=.fields #[.int lo t,.int hi u,.int 1 v]},toks:=tk}:=I.kept λb o e=>Xx _ e;refine⟨(s.heap.push {cls:=.type "range",data:=.fields #[.int lo t,.int hi u,.int 1 v]}).objs.size,[(s.heap.push {cls:=.type "range",data:=.fields #[.int lo t,.int hi u,.int 1 v]}).objs.size],_,_,H,rfl,
  I1.kept (t':=tk) λb o e=>Xx _ e,wB _ lo (hi - lo).toNat,?_,λb hb=>?_,q⟩
 · have e1:lo+((0:Nat):Int)*1=lo:=by simp
   have e2:(((hi - lo).toNat:Nat):Int) - ((0:Nat):Int)=Builtin.Range.rangeSize lo hi 1:=by rw[rangeSize_one];split <;> omega
   show IsRangeIter _ _ (lo+((0:Nat):Int)*1) ((((hi - lo).toNat:Nat):Int) - ((0:Nat):Int)) 1;rw[e1,e2];exact XM _ rfl
 · have e:b=(s.heap.push {cls:=.type "range",data:=.fields #[.int lo t,.int hi u,.int 1 v]}).objs.size:=by simpa using hb
   subst e;exact I1.wG (XD _) (I1.bu.fresh (XD _))
def Cw (ta:TA):TI:=λσ H R=>ta σ H λvs H1=>∃j:Int,vs=[.int j]/\-(2 ^ 62)<=j/\j < 2 ^ 62/\R (AB 0 j.toNat) H1
def FQ (ta:TA):TI:=λσ H R=>ta σ H λvs H1=>∃i j:Int,vs=[.int i,.int j]/\(-(2 ^ 62)<=i/\i < 2 ^ 62/\-(2 ^ 62)<=j/\j < 2 ^ 62)/\R (AB i (j - i).toNat) H1
theorem gf {a:Expr}{ta:TA}{p pos:Pos}(hg:Gl X "range")(hm:X.mg "range"=none)(ha:PA X [a] ta)(hs:starEach [a] X.env=[(false,eval a X.env)]:=by rfl):PI X tg (.Call (.Name "range" p) [a] [] pos) (Cw ta):=by
 intro pins s σ H R I h;refine Call_ (lK I hg hm boot_range (YW (bB (ha pos pins s σ H _ I h) λus s1 ⟨vs,H1,I1,r1,q1⟩=>?_) hs rfl));obtain⟨j,e,q1,q2,q⟩:=q1;subst e;cases r1 with
 |cons r rr =>
  cases rr;obtain⟨t,rfl⟩:=r;exact call_range_1 (vn I1 (by omega) (by omega) q1 q2 (by simpa using q))
theorem rO {a b:Expr}{ta:TA}{p pos:Pos}(hg:Gl X "range")(hm:X.mg "range"=none)(ha:PA X [a,b] ta)(hs:starEach [a,b] X.env=[(false,eval a X.env),(false,eval b X.env)]:=by rfl)(NK:starEach [b] X.env=[(false,eval b X.env)]:=by rfl) :
  PI X tg (.Call (.Name "range" p) [a,b] [] pos) (FQ ta):=by
 intro pins s σ H R I h;refine Call_ (lK I hg hm boot_range (YW (bB (ha pos pins s σ H _ I h) λus s1 ⟨vs,H1,I1,r1,q1⟩=>?_) (by rw[hs,NK]) (by rw[NK];rfl)));obtain⟨i,j,e,⟨q1,q2,q3,q4⟩,q⟩:=q1;subst e;cases r1 with
 |cons r rr =>
  cases rr with
  |cons r' rr =>
   cases rr;obtain⟨t,rfl⟩:=r;obtain⟨t',rfl⟩:=r';exact call_range_2 (vn I1 q1 q2 q3 q4 q)
def Gw (wi:TI)(g:TG)(tb:TS):TS:=λD σ H=>wi σ H λJ H1=>∃W:Nat->Nat->St->Hp->Prop,(∃m,W 0 m σ H1)/\∀i m σ H,W i m σ H ->
 (J.stop i H/\D.nx σ H)∨(J.go i H/\∃N:St->Hp->Prop,(∀σ' H',N σ' H'->∃m',m' < m/\W (i+1) m' σ' H')/\∀x H',J.v_ i H x H'->g x σ H' λσ2 H2=>tb {D with nx:=N,ct:=N,bk:=D.nx} σ2 H2)
def nG (fp:List Addr)(h:Heap):aaj:=fp.filterMap λb=>(h.get? b).map λo=>(b,o)
theorem gG {fp:List Addr}{h:Heap}{b:Addr}{o:Obj}(hb:b∈fp)(e:h.get? b=some o):(b,o)∈nG fp h:=List.mem_filterMap.mpr ⟨b,hb,by rw[e];rfl⟩
theorem zO {fp:List Addr}{h:Heap}{p:Addr×Obj}(hp:p∈nG fp h):p.1∈fp/\h.get? p.1=some p.2:=by
 obtain⟨b,hb,e⟩:=List.mem_filterMap.mp hp;cases q:h.get? b with
 |none=>rw[q] at e;cases e
 |some o =>
  rw[q] at e;have e':(b,o)=p:=X8 e;subst e';exact⟨hb,q⟩
theorem Inv.pinned {pins:aaj}{σ:St}{H:Hp}{s:Shared}{fp:List Addr}(I:Inv X pins σ H s)(hf:∀b∈fp,mP X pins H b)(ho:∀b∈fp,∃o,s.heap.get? b=some o/\∀v,o.data≠.cell v):Inv X (pins++nG fp s.heap) σ H s :=
 I.mI λp hp=>(Yk.mp hp).elim (λz=>I.pin p (Yt _ z)) λz=>by
  obtain⟨hb,e⟩:=zO z;obtain⟨f0,f1,f2,_⟩:=hf p.1 hb;obtain⟨o,e',d⟩:=ho p.1 hb;rw[e] at e';cases e';exact⟨e,f0,f1,f2,d⟩
theorem Inv.ik {pins pl:aaj}{σ:St}{H:Hp}{s:Shared}(I:Inv X (pins++pl) σ H s):Inv X pins σ H s:=I.mI λp hp=>I.pin p (Yt _ (List.mem_append_left _ hp))
theorem df {iter:Expr}{body:List Stmt}{wi:TI}{g:TG}{tb:TS}{pos:Pos}(hp:PassesOwn (model X.prog X.w) X.A X.env X.xe)(hc:X.calm=true)(hi:PI X tg iter wi)(hg:PG X tg g)(hb:qP X body tb)
  (hs:∀x,foldedSetIterable iter X.env x=pure x:=by intro _;rfl):PS X (.For tg iter body [] pos) (Gw wi g tb):=by
 intro pins s σ H D I h;refine wpAny_For (bB (hi pins s σ H _ I h) λv s1 h1=>bB h1 λPK s2 h2=>?_) hs;obtain⟨it,fp,tn,J,H2,e,I2,T,N_,f2,W,⟨m0,w0⟩,turn⟩:=h2;subst e;have LZ:∀{H':Hp},(∀b∈fp,H' b=none)->∀b∈fp,mP X pins H' b:=λhn b hb=>⟨hn b hb,(f2 b hb).2⟩;refine codeAny_forLoop_any (λn s'=>∃i σ' H',Inv X pins σ' H' s'/\tn i s'.heap/\(∀b∈fp,H' b=none)/\W i n σ' H') ?_ m0 ⟨0,σ,H2,I2,N_,λb hb=>(f2 b hb).1,w0⟩;rintro n s3 ⟨i,σ3,H3,I3,NL,OK,w3⟩;rcases turn i n σ3 H3 w3 with ⟨stop,qn⟩|⟨go,N,hN,step⟩
 · refine YO hp (bB (T.done X rfl rfl rfl hc i pins s3 σ3 H3 X.xe I3 (LZ OK) NL stop) λr s4 ⟨hr,I4⟩=>?_);subst hr;exact Zs ⟨σ3,H3,I4,qn⟩
 · refine YO hp (bB (T.item X rfl rfl rfl hc i pins s3 σ3 H3 X.xe I3 (LZ OK) NL go) λr s4 ⟨u,hr,h4⟩=>?_);subst hr;refine YO hp (bB h4 λ_ s5 ⟨x,H5,I5,r5,y5,MT,QP⟩=>?_);have QQ:=I5.pinned (LZ QP) (T.obj _ _ MT);refine YO hp (bB (hg _ s5 σ3 H5 x u _ QQ r5 (step x H5 y5)) λ_ s6 ⟨σ6,H6,I6,q6⟩=>?_);refine YO hp (bB (hb _ s6 σ6 H6 _ I6 q6) λf s7 q7=>?_);have again:∀{σ7:St} {H7:Hp},Inv X (pins++nG fp s5.heap) σ7 H7 s7->N σ7 H7->∃m,m < n/\∃i σ' H',Inv X pins σ' H' s7/\tn i s7.heap/\(∀b∈fp,H' b=none)/\W i m σ' H':=λ{σ7 H7} I7 n7=>by
    obtain⟨m',hm,w7⟩:=hN σ7 H7 n7;refine⟨m',hm,i+1,σ7,H7,I7.ik,T.keep _ _ _ MT λb hb o e=>(I7.pin (b,o) (Yt _ (Yt _ (gG hb e)))).1,λb hb=>?_,w7⟩;obtain⟨o,e,d⟩:=T.obj _ _ MT b hb;exact (I7.pin (b,o) (Yt _ (Yt _ (gG hb e)))).2.1
   cases f with
   |next=>obtain⟨σ7,H7,I7,n7⟩:=q7;exact again I7 n7
   |cont=>obtain⟨σ7,H7,I7,n7⟩:=q7;exact again I7 n7
   |brk=>obtain⟨σ7,H7,I7,q7⟩:=q7;exact⟨σ7,H7,I7.ik,q7⟩
   |ret v=>obtain⟨x7,σ7,H7,I7,r7,q7⟩:=q7;exact⟨x7,σ7,H7,I7.ik,r7,q7⟩
end
theorem dq {K:aag}{a:Addr}{xs:List V}{g:TG}{tb:TS}{D:Ends}{σ:St}{H:Hp}(Pv:Nat->St->Hp->Prop)(h0:Pv 0 σ H)(hl:∀i σ H,i<=xs.length->Pv i σ H->aP K H a xs)
  (hs:∀i x σ H,xs[i]?=some x->Pv i σ H->g x σ H λσ2 H2=>tb {D with nx:=Pv (i+1),ct:=Pv (i+1),bk:=D.nx} σ2 H2)(hd:∀σ H,Pv xs.length σ H->D.nx σ H) :
  ∃W:Nat->Nat->St->Hp->Prop,(∃m,W 0 m σ H)/\∀i m σ H,W i m σ H ->
   ((By K a).stop i H/\D.nx σ H)∨((By K a).go i H/\∃N:St->Hp->Prop,(∀σ' H',N σ' H'->∃m',m' < m/\W (i+1) m' σ' H')/\∀x H',(By K a).v_ i H x H'->g x σ H' λσ2 H2=>tb {D with nx:=N,ct:=N,bk:=D.nx} σ2 H2):=by
 refine⟨λi m σ H=>m=xs.length - i/\i<=xs.length/\Pv i σ H,⟨xs.length,by simp,X2 _,h0⟩,?_⟩;rintro i m σ H ⟨rfl,hi,p⟩;have q:=hl i σ H hi p;by_cases LJ:i < xs.length
 · refine .inr ⟨⟨xs,xs[i],q,by simp[LJ]⟩,Pv (i+1),λσ' H' p'=>⟨xs.length - (i+1),by omega,rfl,LJ,p'⟩,λx H' y=>?_⟩;obtain⟨e,y⟩:=y;subst e;exact hs i x σ _ (y xs q) p
 · have e:i=xs.length:=by omega
   subst e;exact .inl ⟨⟨xs,q,XD _⟩,hd σ H p⟩
theorem m9 {lo:Int}{n:Nat}{g:TG}{tb:TS}{D:Ends}{σ:St}{H:Hp}(Pv:Nat->St->Hp->Prop)(h0:Pv 0 σ H)
  (hs:∀i σ H,i < n->Pv i σ H->g (.int (lo+i)) σ H λσ2 H2=>tb {D with nx:=Pv (i+1),ct:=Pv (i+1),bk:=D.nx} σ2 H2)(hd:∀σ H,Pv n σ H->D.nx σ H) :
  ∃W:Nat->Nat->St->Hp->Prop,(∃m,W 0 m σ H)/\∀i m σ H,W i m σ H ->
   ((AB lo n).stop i H/\D.nx σ H)∨((AB lo n).go i H/\∃N:St->Hp->Prop,(∀σ' H',N σ' H'->∃m',m' < m/\W (i+1) m' σ' H')/\∀x H',(AB lo n).v_ i H x H'->g x σ H' λσ2 H2=>tb {D with nx:=N,ct:=N,bk:=D.nx} σ2 H2):=by
 refine⟨λi m σ H=>m=n - i/\i<=n/\Pv i σ H,⟨n,by simp,X2 _,h0⟩,?_⟩;rintro i m σ H ⟨rfl,hi,p⟩;by_cases LJ:i < n
 · refine .inr ⟨LJ,Pv (i+1),λσ' H' p'=>⟨n - (i+1),by omega,rfl,LJ,p'⟩,λx H' y=>?_⟩;obtain⟨e,y⟩:=y;subst e y;exact hs i σ _ LJ p
 · have e:i=n:=by omega
   subst e;exact .inl ⟨XD _,hd σ H p⟩
abbrev R2:=V->V->Hp->VK->Prop
def jT (X:Cx)(f:Value->Value->Sem Value)(r:R2):Prop :=
 ∀(pins:aaj) (s:Shared) (σ:St) (H:Hp) (x y:V) (v u:Value) (Q:VK),Inv X pins σ H s->RelV x v->RelV y u->r x y H Q ->
  wpAny (model X.prog X.w) X.A (f v u) (EP X pins σ Q) X.xe s
def KN (X:Cx)(f:Value->Sem Value)(r:V->Hp->VK->Prop):Prop :=
 ∀(pins:aaj) (s:Shared) (σ:St) (H:Hp) (x:V) (v:Value) (Q:VK),Inv X pins σ H s->RelV x v->r x H Q ->
  wpAny (model X.prog X.w) X.A (f v) (EP X pins σ Q) X.xe s
def ie (X:Cx)(f:Value)(r:List V->Hp->VK->Prop):Prop :=
 ∀(pins:aaj) (s:Shared) (σ:St) (H:Hp) (xs:List V) (us:aak) (Q:VK),Inv X pins σ H s->Vals xs us->r xs H Q ->
  wpAny (model X.prog X.w) X.A (call f us) (EP X pins σ Q) X.xe s
def kJ (r:R2)(ta tb:TE):TE:=λσ H Q=>ta σ H λx H1=>tb σ H1 λy H2=>r x y H2 Q
def K9 (r:V->Hp->VK->Prop)(ta:TE):TE:=λσ H Q=>ta σ H λx H1=>r x H1 Q
def rI (C:Int->Int->Prop)(g:Int->Int->V):R2:=λx y H Q=>∃i j,x=.int i/\y=.int j/\C i j/\Q (g i j) H
def qK (g:Int->Int->V):R2:=λx y H Q=>∃i j,x=.int i/\y=.int j/\Q (g i j) H
def rU (g:Int->V):V->Hp->VK->Prop:=λx H Q=>∃i,x=.int i/\Q (g i) H
section
variable {X:Cx}{a b c:Expr}{ta tb tc:TE}{pos:Pos}
theorem Hg (ha:PE X a ta) (hb:PE X b tb) {pins:aaj} {s:Shared} {σ:St} {H:Hp} {R:V->V->Hp->Prop} (I:Inv X pins σ H s)
  (h:ta σ H λx H1=>tb σ H1 λy H2=>R x y H2) {Q:aah} {f:Value->Value->Sem Value}
  (hf:∀v u s2 x y H2,Inv X pins σ H2 s2->RelV x v->RelV y u->R x y H2->wpAny (model X.prog X.w) X.A (f v u) Q X.xe s2) :
  wpAny (model X.prog X.w) X.A (eval a X.env) (λv s₁=>wpAny (model X.prog X.w) X.A (eval b X.env) (λu s₂=>wpAny (model X.prog X.w) X.A (f v u) Q X.xe s₂) X.xe s₁) X.xe s:=by
 refine bB (ha pins s σ H _ I h) λv s1 ⟨x,H1,I1,r1,q1⟩=>?_;refine bB (hb pins s1 σ H1 _ I1 q1) λu s2 ⟨y,H2,I2,r2,q2⟩=>?_;exact hf v u s2 x y H2 I2 r1 r2 q2
theorem bG {op:Operator}{r:R2}(ho:jT X (binaryOp op) r)(ha:PE X a ta)(hb:PE X b tb):PE X (.BinOp a op b pos) (kJ r ta tb):=by
 intro pins s σ H Q I h;exact wpAny_BinOp (Hg ha hb I h λv u s2 x y H2 I2 rx ry q=>ho pins s2 σ H2 x y v u Q I2 rx ry q)
theorem vW {op:UnaryOp}{r:V->Hp->VK->Prop}(ho:KN X (unaryOp op) r)(ha:PE X a ta):PE X (.UnaryOp op a pos) (K9 r ta):=by
 intro pins s σ H Q I h;exact UnaryOp_ (bB (ha pins s σ H _ I h) λv s1 ⟨x,H1,I1,r1,q1⟩=>ho pins s1 σ H1 x v Q I1 r1 q1)
theorem JQ {f:Value->Value->Sem Value}{C:Int->Int->Prop}{g:Int->Int->Int}
  (rule:∀(i j:Int) (t u:Tok) (s:Shared) (Q:aah) (E:aah),C i j->Q (.int (g i j) s.toks) {s with toks:=s.toks+1}->wpAny (model X.prog X.w) X.A (f (.int i t) (.int j u)) Q E s) :
  jT X f (rI C λi j=>.int (g i j)):=by
 intro pins s σ H x y v u Q I rx ry h;obtain⟨i,j,rfl,rfl,hc,q⟩:=h;obtain⟨t,rfl⟩:=rx;obtain⟨t',rfl⟩:=ry;exact rule i j t t' s _ _ hc ⟨.int (g i j),H,I.tok _,⟨_,rfl⟩,q⟩
theorem GP {f:Value->Value->Sem Value}{g:Int->Int->Int}
  (rule:∀(i j:Int) (t u:Tok) (s:Shared) (Q:aah) (E:aah),Q (.int (g i j) s.toks) {s with toks:=s.toks+1}->wpAny (model X.prog X.w) X.A (f (.int i t) (.int j u)) Q E s) :
  jT X f (qK λi j=>.int (g i j)):=by
 intro pins s σ H x y v u Q I rx ry h;obtain⟨i,j,rfl,rfl,q⟩:=h;obtain⟨t,rfl⟩:=rx;obtain⟨t',rfl⟩:=ry;exact rule i j t t' s _ _ ⟨.int (g i j),H,I.tok _,⟨_,rfl⟩,q⟩
theorem HJ {f:Value->Value->Sem Value}{g:Int->Int->Bool}
  (rule:∀(i j:Int) (t u:Tok) (s:Shared) (Q:aah) (E:aah),Q (.bool (g i j)) s->wpAny (model X.prog X.w) X.A (f (.int i t) (.int j u)) Q E s) :
  jT X f (qK λi j=>.bl (g i j)):=by
 intro pins s σ H x y v u Q I rx ry h;obtain⟨i,j,rfl,rfl,q⟩:=h;obtain⟨t,rfl⟩:=rx;obtain⟨t',rfl⟩:=ry;exact rule i j t t' s _ _ ⟨.bl (g i j),H,I,rfl,q⟩
def KY (i j:Int):Prop:=0 < j/\j < 1073741824
def Ei (i j:Int):Prop:=0<=j/\j<=1000000/\i.natAbs < 2 ^ 64
def zo (i j:Int):Prop:=(-(2 ^ 64) < i/\i < 2 ^ 64)∨(-(2 ^ 64) < j/\j < 2 ^ 64)
theorem zo.ok {i j:Int}(h:zo i j):IntMulOk i j:=by
 rcases h with ⟨h1,h2⟩|⟨h1,h2⟩
 · exact .of_left (intBits_le_64 h1 h2)
 · exact .of_right (intBits_le_64 h1 h2)
theorem eK:jT X (binaryOp .Add) (qK λi j=>.int (i+j)):=GP λ_ _ _ _ _ _ _ q=>add_int q
theorem fJ:jT X (binaryOp .Sub) (qK λi j=>.int (i - j)):=GP λ_ _ _ _ _ _ _ q=>sub_int q
theorem xg:jT X (binaryOp .Mult) (rI zo λi j=>.int (i*j)):=JQ λ_ _ _ _ _ _ _ hc q=>mul_int q hc.ok
theorem Dh:jT X (binaryOp .FloorDiv) (rI KY λi j=>.int (i / j)):=JQ λi j _ _ _ _ _ hc q=>by
 have h1:(0:Int) < j:=hc.1;have h2:j < 1073741824:=hc.2;exact floordiv_int (by omega) (by rw[Int.fdiv_eq_ediv_of_nonneg i (by omega)];exact q) (.inl (PyProof.noPylong_small (by omega)))
theorem Ib:jT X (binaryOp .Mod) (rI (λ_ j=>0 < j) λi j=>.int (i % j)):=JQ λi j _ _ _ _ _ hc q=>by
 have h1:(0:Int) < j:=hc;exact mod_int' (by omega) (by rw[Int.fmod_eq_emod_of_nonneg i (by omega)];exact q)
theorem B0:jT X (binaryOp .LShift) (rI Ei λi j=>.int (i*2 ^ j.toNat)):=JQ λ_ _ _ _ _ _ _ hc q=>lshift_int_small hc.1 hc.2.1 hc.2.2 q
theorem Gk:jT X (binaryOp .BitAnd) (qK λi j=>.int (Builtin.bitAnd i j)):=GP λ_ _ _ _ _ _ _ q=>and_int q
theorem DM:jT X (inplaceOp .Mult) (rI zo λi j=>.int (i*j)):=JQ λ_ _ _ _ _ _ _ hc q=>imul_int q hc.ok
theorem Ls {f:Value->Sem Value}{g:Int->Int}
  (rule:∀(i:Int) (t:Tok) (s:Shared) (Q:aah) (E:aah),Q (.int (g i) s.toks) {s with toks:=s.toks+1}->wpAny (model X.prog X.w) X.A (f (.int i t)) Q E s) :
  KN X f (rU λi=>.int (g i)):=by
 intro pins s σ H x v Q I rx h;obtain⟨i,rfl,q⟩:=h;obtain⟨t,rfl⟩:=rx;exact rule i t s _ _ ⟨.int (g i),H,I.tok _,⟨_,rfl⟩,q⟩
theorem qt:KN X (unaryOp .USub) (rU λi=>.int (-i)):=Ls λ_ _ _ _ _ q=>neg_int q
end
def Ex:V->V->Bool
 |.cj,.cj=>true|.cj,.int _=>true|.int _,.cj=>true|.cj,.bl _=>true|.bl _,.cj=>true|.cj,.str _=>true|.str _,.cj=>true
 |.int _,.int _=>true|.bl _,.bl _=>true|.str _,.str _=>true|.v9 _,.v9 _=>true
 |.int _,.str _=>true|.str _,.int _=>true|.bl _,.str _=>true|.str _,.bl _=>true
 |_,_=>false
def JX:R2:=λx y H Q=>Ex x y=true/\Q (.bl (decide (x=y))) H
def Lf:R2:=λx y H Q=>Ex x y=true/\Q (.bl (!decide (x=y))) H
theorem aZ {i j:Int}:decide (V.int i=V.int j)=(i==j):=by
 rw[X9];simp
theorem BD {i j:Bool}:decide (V.bl i=V.bl j)=(i==j):=by
 rw[X9];simp
theorem yi {i j:Str}:decide (V.str i=V.str j)=(i==j):=by
 rw[X9];simp
theorem ze {i j:Array UInt8}:decide (V.v9 i=V.v9 j)=(i.toList==j.toList):=by
 rw[X9];cases i;cases j;simp
section
variable {X:Cx}{a b c:Expr}{ta tb tc:TE}{pos:Pos}
theorem bt {pins:aaj} {σ:St} {H:Hp} {s:Shared} {Q:VK} {k k':Bool} (I:Inv X pins σ H s) (q:Q (.bl k) H) (e:k=k'):EP X pins σ Q (.bool k') s:=by
 subst e;exact⟨.bl k,H,I,rfl,q⟩
theorem cp:jT X (compareOp .Eq) JX:=by
 intro pins s σ H x y v u Q I rx ry h;obtain⟨hs,q⟩:=h;cases x with
 |cj =>
  cases rx;cases y with
  |cj=>cases ry;exact PySem.EqNone.eq_none_none (bt I q (by simp))
  |bl j=>cases ry;exact PySem.EqNone.eq_none_bool (bt I q (by simp))
  |int j=>obtain⟨t',rfl⟩:=ry;exact PySem.EqNone.eq_none_int (bt I q (by simp))
  |str j=>obtain⟨t',rfl⟩:=ry;exact PySem.EqNone.eq_none_str (bt I q (by simp))
  |_=>exact absurd (show false=true from hs) XW
 |bl i =>
  cases rx;cases y with
  |cj=>cases ry;exact PySem.EqNone.eq_bool_none (bt I q (by simp))
  |bl j=>cases ry;exact eq_bool (bt I q BD)
  |str j=>obtain⟨t',rfl⟩:=ry;exact PySem.EqMixed.eq_bool_str (bt I q (by simp))
  |_=>exact absurd (show false=true from hs) XW
 |int i =>
  obtain⟨t,rfl⟩:=rx;cases y with
  |cj=>cases ry;exact PySem.EqNone.eq_int_none (bt I q (by simp))
  |int j=>obtain⟨t',rfl⟩:=ry;exact eq_int (bt I q aZ)
  |str j=>obtain⟨t',rfl⟩:=ry;exact PySem.EqMixed.eq_int_str (bt I q (by simp))
  |_=>exact absurd (show false=true from hs) XW
 |str i =>
  obtain⟨t,rfl⟩:=rx;cases y with
  |cj=>cases ry;exact PySem.EqNone.eq_str_none (bt I q (by simp))
  |bl j=>cases ry;exact PySem.EqMixed.eq_str_bool (bt I q (by simp))
  |int j=>obtain⟨t',rfl⟩:=ry;exact PySem.EqMixed.eq_str_int (bt I q (by simp))
  |str j=>obtain⟨t',rfl⟩:=ry;exact eq_str (bt I q yi)
  |_=>exact absurd (show false=true from hs) XW
 |v9 i =>
  obtain⟨t,rfl⟩:=rx;cases y with
  |v9 j=>obtain⟨t',rfl⟩:=ry;exact PySem.W.eq_bytes (bt I q ze)
  |_=>exact absurd (show false=true from hs) XW
 |_=>cases y <;> exact absurd (show false=true from hs) XW
theorem oZ:jT X (compareOp .NotEq) Lf:=by
 intro pins s σ H x y v u Q I rx ry h;obtain⟨hs,q⟩:=h;cases x with
 |cj =>
  cases rx;cases y with
  |cj=>cases ry;exact PySem.EqNone.ne_none_none (bt I q (by simp))
  |bl j=>cases ry;exact PySem.EqNone.ne_none_bool (bt I q (by simp))
  |int j=>obtain⟨t',rfl⟩:=ry;exact PySem.EqNone.ne_none_int (bt I q (by simp))
  |str j=>obtain⟨t',rfl⟩:=ry;exact PySem.EqNone.ne_none_str (bt I q (by simp))
  |_=>exact absurd (show false=true from hs) XW
 |bl i =>
  cases rx;cases y with
  |cj=>cases ry;exact PySem.EqNone.ne_bool_none (bt I q (by simp))
  |bl j=>cases ry;exact ne_bool (bt I q (YB not BD))
  |str j=>obtain⟨t',rfl⟩:=ry;exact PySem.EqMixed.ne_bool_str (bt I q (by simp))
  |_=>exact absurd (show false=true from hs) XW
 |int i =>
  obtain⟨t,rfl⟩:=rx;cases y with
  |cj=>cases ry;exact PySem.EqNone.ne_int_none (bt I q (by simp))
  |int j=>obtain⟨t',rfl⟩:=ry;exact ne_int (bt I q (YB not aZ))
  |str j=>obtain⟨t',rfl⟩:=ry;exact PySem.EqMixed.ne_int_str (bt I q (by simp))
  |_=>exact absurd (show false=true from hs) XW
 |str i =>
  obtain⟨t,rfl⟩:=rx;cases y with
  |cj=>cases ry;exact PySem.EqNone.ne_str_none (bt I q (by simp))
  |bl j=>cases ry;exact PySem.EqMixed.ne_str_bool (bt I q (by simp))
  |int j=>obtain⟨t',rfl⟩:=ry;exact PySem.EqMixed.ne_str_int (bt I q (by simp))
  |str j=>obtain⟨t',rfl⟩:=ry;exact ne_str (bt I q (YB not yi))
  |_=>exact absurd (show false=true from hs) XW
 |v9 i =>
  obtain⟨t,rfl⟩:=rx;cases y with
  |v9 j=>obtain⟨t',rfl⟩:=ry;exact PySem.W.ne_bytes (bt I q (YB not ze))
  |_=>exact absurd (show false=true from hs) XW
 |_=>cases y <;> exact absurd (show false=true from hs) XW
theorem nZ:jT X (compareOp .Lt) (qK λi j=>.bl (decide (i < j))):=HJ λ_ _ _ _ _ _ _ q=>lt_int q
theorem cf:jT X (compareOp .LtE) (qK λi j=>.bl (decide (i<=j))):=HJ λ_ _ _ _ _ _ _ q=>le_int q
theorem kX:jT X (compareOp .Gt) (qK λi j=>.bl (decide (j < i))):=HJ λ_ _ _ _ _ _ _ q=>gt_int q
theorem tu:jT X (compareOp .Is) (λx y H Q=>y=.cj/\Q (.bl (decide (x=.cj))) H):=by
 intro pins s σ H x y v u Q I rx ry h;obtain⟨rfl,q⟩:=h;cases ry;refine is_none_gen (bt I q ?_);cases x <;> first
  |(cases rx;rfl)
  |(obtain⟨t,rfl⟩:=rx;rfl)
theorem aJ (b:Expr){op:CmpOp}(h:op≠.In:=by decide)(h2:op≠.NotIn:=by decide):behindInMarks op b=false:=by
 have e1:(op==CmpOp.In)=false:=by cases op <;> first|rfl|exact absurd rfl h
 have e2:(op==CmpOp.NotIn)=false:=by cases op <;> first|rfl|exact absurd rfl h2
 cases b <;> simp[behindInMarks,e1,e2]
theorem fu {op:CmpOp}{r:R2}(ho:jT X (compareOp op) r)(ha:PE X a ta)(hb:PE X b tb)(hm:behindInMarks op b=false):PE X (.Compare a [op] [b] pos) (kJ r ta tb):=by
 intro pins s σ H Q I h;exact wpAny_Compare1 (Hg ha hb I h λv u s2 x y H2 I2 rx ry q=>ho pins s2 σ H2 x y v u Q I2 rx ry q) hm
def o4 (t:TE):TT:=λσ H Q=>t σ H λx H'=>∃k,x=.bl k/\Q k H'
theorem aB {op:CmpOp}{r:R2}(ho:jT X (compareOp op) r)(ha:PE X a ta)(hb:PE X b tb)(hm:behindInMarks op b=false):PT X (.Compare a [op] [b] pos) (o4 (kJ r ta tb)):=by
 intro pins s σ H Q I h;refine wpAny_isTrue_Compare1 (bB (ha pins s σ H _ I h) λv s1 ⟨x,H1,I1,r1,q1⟩=>bB (hb pins s1 σ H1 _ I1 q1) λu s2 ⟨y,H2,I2,r2,q2⟩ =>
  bB (ho pins s2 σ H2 x y v u _ I2 r1 r2 q2) λc s3 ⟨z,H3,I3,r3,k,e,q3⟩=>?_) hm
 subst e;cases r3;exact YJ ⟨H3,I3,q3⟩
def xX (r r':R2)(ta tb tc:TE):TE:=λσ H Q=>ta σ H λx H1=>tb σ H1 λy H2=>r x y H2 λz H3=>∃k,z=.bl k /\
 (if k=true then tc σ H3 λw' H4=>r' y w' H4 Q else Q (.bl false) H3)
theorem cD {op QR:CmpOp}{r r':R2}(ho:jT X (compareOp op) r)(L1:jT X (compareOp QR) r')(ha:PE X a ta)(hb:PE X b tb)(hc:PE X c tc)
  (hm:lastMarks [op,QR] [b,c]=false:=by with_unfolding_all rfl):PT X (.Compare a [op,QR] [b,c] pos) (o4 (xX r r' ta tb tc)):=by
 intro pins s σ H Q I h;refine isTrue_chain (bB (ha pins s σ H _ I h) λv s1 ⟨x,H1,I1,r1,q1⟩=>test_link (bB (hb pins s1 σ H1 _ I1 q1) λu s2 ⟨y,H2,I2,r2,q2⟩ =>
  bB (ho pins s2 σ H2 x y v u _ I2 r1 r2 q2) λd s3 ⟨z,H3,I3,r3,k,e,q3⟩=>?_)) hm
 subst e;cases r3;refine YJ ?_;cases k with
 |false =>
  obtain⟨k',e',q'⟩:=q3;cases e';exact ite_ff ⟨H3,I3,q'⟩
 |true =>
  refine ite_tt (test_last (bB (hc pins s3 σ H3 _ I3 q3) λw' s4 ⟨z',H4,I4,r4,q4⟩=>bB (L1 pins s4 σ H4 y z' u w' _ I4 r2 r4 q4) λd' s5 ⟨z2,H5,I5,r5,k2,e2,q5⟩=>?_));subst e2;cases r5;exact YJ ⟨H5,I5,q5⟩
theorem lG:(sizeLine:Nat) < 2 ^ 63:=by rw[XZ];decide
theorem vals1 {x:V}{us:aak}(r:Vals [x] us):∃u,us=[u]/\RelV x u:=by
 cases r with
 |cons r1 r2=>cases r2;exact⟨_,rfl,r1⟩
theorem vals2 {x y:V}{us:aak}(r:Vals [x,y] us):∃u w',us=[u,w']/\RelV x u/\RelV y w':=by
 cases r with
 |cons r1 r2 =>
  cases r2 with
  |cons r3 r4=>cases r4;exact⟨_,_,rfl,r1,r3⟩
end
structure wU (h:Heap)(x dx C:Addr)(mA:aai):Prop where
 obj:h.get? x=some (PySem.W.instObj C dx)
 ns:h.Ns1 dx mA
 ne:dx≠x
theorem Aj {h:Heap}{dx:Addr}{mA:aai}(n:h.Ns1 dx mA):∃od,h.get? dx=some od/\∀name,PySem.W.lookIn name od=some (mA name):=by
 obtain⟨o,es,ep,ho,hd,hk,_,hm⟩:=n;refine⟨o,ho,λname=>?_⟩;have e:=hm name;unfold nsFind findBy at e;rw[←Array.find?_toList] at e;unfold PySem.W.lookIn;rw[hd];dsimp only;split
 · rename_i y q;rw[q] at e;exact YB some e
 · rename_i q;rw[q] at e;have a:es.toList.any (·.refKey)=false:=by
    rw[List.any_eq_false];intro y hy;obtain⟨z,t,QS⟩:=hk y (Array.mem_toList_iff.mp hy);simp[DictEntry.refKey,QS]
   have a':¬es.toList.any (·.refKey)=true:=by rw[a];exact XW
   rw[Xv a'];exact YB some e
theorem wU.look {h:Heap}{x dx C:Addr}{mA:aai}(I:wU h x dx C mA):∃od,PySem.W.InstAt h x (PySem.W.instObj C dx) C (some od)/\∀name,PySem.W.lookIn name od=some (mA name) :=
 let ⟨od,ho,hl⟩:=Aj I.ns
 ⟨od,⟨I.obj,rfl,rfl,ho⟩,hl⟩
section
variable {prog:Program}{w:World}{A:Around}{E:aah}{s:Shared}{K:aag}{x dx C f:Addr}{mA:aai}{name:Str}{v:Value}
theorem get_map {expr:Bool} {Q:aah} (X:K.In s.heap) (I:wU s.heap x dx C mA) (hg:PySem.W.plainGet K C name=true) (hh:PySem.W.hasDictIn K C=true)
  (ha:PySem.W.findIn K (.ref C) name=some none) (hv:mA name=some v) (PL:PySem.W.handedIn v=true) (h:Q v {s with toks:=s.toks+1}) :
  wpAny (model prog w) A (getAttr (.ref x) name expr) Q E s:=by
 obtain⟨od,J,hl⟩:=I.look;exact PySem.W.get_value X J (PySem.W.plainGet_of hg).1 (PySem.W.findObj_own hh ha rfl (by rw[hl,hv])) PL h
theorem A6 {pl:Sem Bool}{Q:Value×aak->Shared->Prop}(X:K.In s.heap)(I:wU s.heap x dx C mA)(hg:PySem.W.plainGet K C name=true)
  (hf:PySem.W.findIn K (.ref C) name=some (some (.ref f)))(ht:PySem.W.isFn K (.ref f)=true)(hv:mA name=none)(h:Q (.ref f,[.ref x]) s) :
  wpAny (model prog w) A (getMethod (.ref x) name pl) Q E s:=by
 obtain⟨od,J,hl⟩:=I.look;exact PySem.W.method_fn X J (PySem.W.plainGet_of hg).1 (PySem.W.plainGet_of hg).2 hf (Yl.mp ht) (by show (PySem.W.lookIn name od).map (·.isSome)=some false;rw[hl,hv];rfl) h
theorem DU {ns:List Str}{Q:Unit->Shared->Prop}(X:K.In s.heap)(I:wU s.heap x dx C mA)
  (hs:PySem.W.findIn K (.ref C) "__setattr__"=some (some (.builtin "object.__setattr__")))(hp:PySem.W.plainOver K C=true)(ht:PySem.W.takerIn K C name=some none)(hh:PySem.W.hasDictIn K C=true)
  (hw:PySem.Within mA ns)(hsz:ns.length<=sizeLine)
  (h:∀h',wU h' x dx C (λy=>if y=name then some v else mA y)->Heap.SameBut dx s.heap h'->Q () {s with heap:=h',toks:=s.toks+2}) :
  wpAny (model prog w) A (setAttr (.ref x) name v) Q E s:=by
 obtain⟨od,J,hl⟩:=I.look;refine PySem.W.set_plain X J hs (PySem.W.osa_open (s:={s with toks:=s.toks+1}) (r:=none) X J hp ht λb=>?_);obtain⟨cd,hc,Md⟩:=PySem.W.any_some hh;have hx:s.heap.get? x=some ⟨.ref C,some dx,.plain,#[]⟩:=I.obj;refine Xs (XA (Xs (Xs (wpAny_loadPart hx (Xs (PySem.W.Looks.here (s:={s with toks:=s.toks+1}) (PySem.W.looks_clsIn X hc) ?_))))));rw[Md];refine XA (a:=some dx) (Xs (XA (Xs ?_)));refine wpAny_nsSet1 (s:={s with toks:=s.toks+1}) I.ns λh' So NK=>?_;obtain⟨oD,U6,U7,QT,QU,U8⟩:=So.count (PySem.Within.cons name v hw);refine Xs (wpAny_lookBehind QT (by rw[QU];exact pastItsLine_dict (Yi U8 (by rw[XG];omega))) ?_);exact XA (h _ ⟨(NK.2 _ (Z8 I.ne)).trans I.obj,So,I.ne⟩ NK)
theorem CV {R:Result->Shared->Prop}{vs:aak}{kw:List (Str×Value)}(X:K.In s.heap)(hm:PySem.W.makesIn K C=true)
  (hi:PySem.W.findIn K (.ref C) "__init__"=some (some (.ref f)))(hf:PySem.W.typeIn K (.ref f)=some (.type "function"))
  (h:codeAny (model prog w) (A.under (.builtin "type.__call__" ⟨.ref C::vs,kw⟩)) (.call (.ref f) ⟨.ref (s.heap.objs.size+1)::vs,kw⟩) (PySem.W.InitBack (s.heap.objs.size+1) R)
   {s with heap:=(s.heap.push PySem.W.emptyDict).push (PySem.W.instObj C s.heap.objs.size)}) :
  codeAny (model prog w) A (.call (.ref C) ⟨vs,kw⟩) R s:=by
 obtain⟨hh,g,d,t,os⟩:=s;exact PySem.W.make_core (PySem.W.makes_of X hm) (PySem.W.looks_findIn X hi) (λself=>PySem.W.bind_fn X self hf) (.inl rfl) h
end
def ej (f:Str)(v:V):List (Str×V)->List (Str×V)
 |[]=>[(f,v)]
 |(g,x)::r=>if g=f then (g,v)::r else (g,x)::ej f v r
theorem jz (f g:Str)(v:V):∀fs:List (Str×V),(ej f v fs).lookup g=if g=f then some v else fs.lookup g
 |[]=>by
  show List.lookup g [(f,v)]=_;by_cases h:g=f
  · have hb:(g==f)=true:=Yl.mpr h;simp only[List.lookup,hb,Xw h]
  · have hb:(g==f)=false:=X3.mpr h;simp only[List.lookup,hb,Xv h]
 |(k,x)::r=>by
  have ih:=jz f g v r;rw[show ej f v ((k,x)::r)=(if k=f then (k,v)::r else (k,x)::ej f v r) from rfl];by_cases hk:k=f
  · rw[Xw hk];by_cases h:g=k
    · have hb:(g==k)=true:=Yl.mpr h;simp only[List.lookup,hb,Xw (h.trans hk)]
    · have hb:(g==k)=false:=X3.mpr h;simp only[List.lookup,hb,Xv (λe:g=f=>h (e.trans hk.symm))]
  · rw[Xv hk];by_cases h:g=k
    · have hb:(g==k)=true:=Yl.mpr h;simp only[List.lookup,hb,Xv (λe:g=f=>hk (h.symm.trans e))]
    · have hb:(g==k)=false:=X3.mpr h;simp only[List.lookup,hb];exact ih
theorem ni (f:Str)(v:V):∀fs:List (Str×V),f∈(ej f v fs).map (·.1)/\∀g,g∈fs.map (·.1)->g∈(ej f v fs).map (·.1)
 |[]=>⟨by simp[ej],λg h=>by simp at h⟩
 |(k,x)::r=>by
  obtain⟨i1,i2⟩:=ni f v r;rw[show ej f v ((k,x)::r)=(if k=f then (k,v)::r else (k,x)::ej f v r) from rfl];by_cases hk:k=f
  · rw[Xw hk];subst hk;exact⟨by simp,λg h=>by simpa using h⟩
  · rw[Xv hk];refine⟨?_,λg h=>?_⟩
    · rw[XN];exact XO _ i1
    · rw[XN] at h ⊢;rcases Xy.mp h with e|e
      · exact Xy.mpr (.inl e)
      · exact XO _ (i2 g e)
theorem nO (f:Str)(v:V):∀fs:List (Str×V),(ej f v fs).length<=fs.length+1
 |[]=>by simp[ej]
 |(k,x)::r=>by
  have ih:=nO f v r;rw[show ej f v ((k,x)::r)=(if k=f then (k,v)::r else (k,x)::ej f v r) from rfl];by_cases hk:k=f
  · rw[Xw hk,XG,XG];omega
  · rw[Xv hk,XG,XG];omega
theorem iT.some_of {v:V}{o:Option Value}(r:iT (some v) o):∃u,o=some u/\RelV v u:=by
 cases o with
 |none=>exact (show False from r).elim
 |some u=>exact⟨u,rfl,r⟩
theorem iT.none_of {o:Option Value}(r:iT none o):o=none:=by
 cases o with
 |none=>rfl
 |some u=>exact (show False from r).elim
theorem rP {v:V}{u:Value}(r:RelV v u):PySem.W.handedIn u=true:=by
 cases v with
 |cj=>cases (show u=Value.none from r);rfl
 |bl b=>cases (show u=Value.bool b from r);rfl
 |int i=>obtain⟨t,e⟩:=(show ∃t,u=Value.int i t from r);cases e;rfl
 |str x=>obtain⟨t,e⟩:=(show ∃t,u=Value.str x t from r);cases e;rfl
 |v9 b=>obtain⟨t,e⟩:=(show ∃t,u=Value.bytes b t from r);cases e;rfl
 |flt b=>obtain⟨t,e⟩:=(show ∃t,u=Value.float b t from r);cases e;rfl
 |ref a=>cases (show u=Value.ref a from r);rfl
 |ty n=>cases (show u=Value.type n from r);rfl
section
variable {P:Program}{w:World}{H H':Hp}{h h':Heap}{a C dx:Addr}{fs Mb:List (Str×V)}
theorem tF (bu:iq P w H h) (e:H a=some (.ins C dx fs)):∃mA,wU h a dx C mA/\(∀f,iT (fs.lookup f) (mA f))/\PySem.Within mA (fs.map (·.1))/\fs.length<=1000/\H dx=some (.own a):=by
 obtain⟨d,z,ne,ob,mA,n,r,q⟩:=(show bK P w H h a (.ins C dx fs) from bu a _ e);exact⟨mA,⟨ob,n,ne⟩,r,q,z,d⟩
end
structure yg (K:aag)(C:Addr):Prop where
 pg:PySem.W.plainGet K C Str.empty=true
 hd:PySem.W.hasDictIn K C=true
 po:PySem.W.plainOver K C=true
 sa:PySem.W.findIn K (.ref C) "__setattr__"=some (some (.builtin "object.__setattr__"))
theorem yg.get {K:aag}{C:Addr}(c:yg K C)(f:Str):PySem.W.plainGet K C f=true:=c.pg
def hZ (K:aag)(C:Addr)(f:Str):Prop:=PySem.W.findIn K (.ref C) f=some none
theorem hZ.Im {K:aag}{C:Addr}{f:Str}(n:hZ K C f):PySem.W.takerIn K C f=some none:=by
 unfold PySem.W.takerIn;rw[show PySem.W.findIn K (.ref C) f=some none from n];rfl
structure Meth (K:aag)(C:Addr)(m:Str)(f:Addr):Prop where
 at_:PySem.W.findIn K (.ref C) m=some (some (.ref f))
 fn:PySem.W.isFn K (.ref f)=true
 kp:PySem.W.keepIn K (.ref f)=true
section
variable {X:Cx}{pins:aaj}{σ:St}{H:Hp}{s:Shared}{a C dx:Addr}{fs:List (Str×V)}{f:Str}{v:V}{A:Around}{E:aah}
theorem qk {b:Bool} {Q:aah} (I:Inv X pins σ H s) (e:H a=some (.ins C dx fs)) (c:yg X.K C) (n:hZ X.K C f) (l:fs.lookup f=some v)
  (h:∀u s',Inv X pins σ H s'->RelV v u->Q u s'):wpAny (model X.prog X.w) A (getAttr (.ref a) f b) Q E s:=by
 obtain⟨mA,O,r,_,_,_⟩:=tF I.bu e;obtain⟨u,hu,ru⟩:=iT.some_of (v:=v) (o:=mA f) (by rw[←l];exact r f);exact get_map I.mV O (c.get f) c.hd n hu (rP ru) (h u _ (I.tok _) ru)
theorem pK {m:Str}{g:Addr}{pl:Sem Bool}{Q:Value×aak->Shared->Prop}(I:Inv X pins σ H s)(e:H a=some (.ins C dx fs))(c:yg X.K C)(k:Meth X.K C m g)(l:fs.lookup m=none)
  (h:Q (.ref g,[.ref a]) s):wpAny (model X.prog X.w) A (getMethod (.ref a) m pl) Q E s:=by
 obtain⟨mA,O,r,_,_,_⟩:=tF I.bu e;have hn:mA m=none:=iT.none_of (by rw[←l];exact r m);exact A6 I.mV O (c.get m) k.at_ k.fn hn h
theorem qr {y:V}{u:Value}{Q:Unit->Shared->Prop}(I:Inv X pins σ H s)(e:H a=some (.ins C dx fs))(c:yg X.K C)(n:hZ X.K C f)(hl:fs.length < 1000)(ry:RelV y u)
  (h:∀s',Inv X pins σ (upd H a (.ins C dx (ej f y fs))) s'->Q () s'):wpAny (model X.prog X.w) A (setAttr (.ref a) f u) Q E s:=by
 obtain⟨mA,O,r,wi,_,ho⟩:=tF I.bu e;have hz:(fs.map (·.1)).length<=sizeLine:=by rw[Xu,XZ];omega
 refine DU I.mV O c.sa c.po n.Im c.hd wi hz λh' O' sb=>h _ ?_;have hd:∃o,h'.get? dx=some o:=let ⟨o,_,_,e',_⟩:=O'.ns;⟨o,e'⟩;refine I.write (x:=a) (e:=dx) (by rw[e];exact True.intro) (.inr ho) (λb q hb z=>(sb.2 b hb).trans z) hd ?_;refine⟨by rw[aq O.ne];exact ho,?_,O.ne,O'.obj,_,O'.ns,λg=>?_,λg hg=>?_⟩
 · have:=nO f y fs;omega
 · show iT ((ej f y fs).lookup g) (if g=f then some u else mA g);rw[jz];by_cases q:g=f
   · rw[Xw q,Xw q];exact ry
   · rw[Xv q,Xv q];exact r g
 · by_cases q:g=f
   · rw[q];exact (ni f y fs).1
   · refine (ni f y fs).2 g (wi g λz=>hg ?_);show (if g=f then some u else mA g)=none;rw[Xv q];exact z
theorem Inv.made (I:Inv X pins σ H s):Inv X pins σ (upd (upd H s.heap.objs.size (.own (s.heap.objs.size+1))) (s.heap.objs.size+1) (.ins C s.heap.objs.size []))
  {s with heap:=(s.heap.push PySem.W.emptyDict).push (PySem.W.instObj C s.heap.objs.size)}:=by
 have e1:(s.heap.push PySem.W.emptyDict).get? s.heap.objs.size=some PySem.W.emptyDict:=XM s.heap rfl;have e2:((s.heap.push PySem.W.emptyDict).push (PySem.W.instObj C s.heap.objs.size)).get? (s.heap.objs.size+1)=some (PySem.W.instObj C s.heap.objs.size):=by
  have:=XM (s.heap.push PySem.W.emptyDict) (o:=PySem.W.instObj C s.heap.objs.size) rfl
  rwa [YD] at this
 have e3:(s.heap.push PySem.W.emptyDict).Ns s.heap.objs.size (λ_=>none):=⟨PySem.W.emptyDict,#[],_,e1,rfl,(λe he=>absurd he (by simp)),λ_=>rfl⟩;have I1:=I.laid (a:=s.heap.objs.size) (o:=.own (s.heap.objs.size+1)) (h':=s.heap.push PySem.W.emptyDict) (t':=s.toks) (λb u q=>Xx _ q) (XD _) ⟨_,e1⟩;refine I1.laid (a:=s.heap.objs.size+1) (o:=.ins C s.heap.objs.size []) (t':=s.toks) (λb u q=>Xx _ q) (Z9 (YD _ _)) ?_;have ne:s.heap.objs.size≠s.heap.objs.size+1:=X7 (ZX _);refine⟨by rw[aq ne,ae],X2 _,ne,e2,λ_=>none,(Heap.Ns1.of_empty e3).at λo q=>Xx _ q,λ_=>True.intro,λy hy=>absurd rfl hy⟩
theorem yx {prog:Program}{w:World}{env:Env}{e:Expr}{f:Str}{pos:Pos}{s:Shared}{Q:aah}(hb:attributeBase e f env (eval e env)=eval e env)
  (h:wpAny (model prog w) A (eval e env) (λo s₁=>wpAny (model prog w) A (getAttr o f true) Q E s₁) E s):wpAny (model prog w) A (eval (.Attribute e f pos) env) Q E s :=
 Attribute_any_ h (by rw[arm_eval_Attribute,hb])
end
def vk (K:aag)(ta:TE)(f:Str):TE:=λσ H Q=>ta σ H λx H1=>∃a C dx fs v,x=.ref a/\H1 a=some (.ins C dx fs)/\yg K C/\hZ K C f/\fs.lookup f=some v/\Q v H1
def Ks (K:aag)(ta tv:TE)(f:Str):TS:=λD σ H=>tv σ H λy H1=>ta σ H1 λx H2=>∃a C dx fs,x=.ref a/\H2 a=some (.ins C dx fs)/\yg K C/\hZ K C f/\fs.length < 1000 /\
 D.nx σ (upd H2 a (.ins C dx (ej f y fs)))
def IL (X:Cx)(op:Operator)(rd:V->V->Hp->VK->Prop):Prop :=
 ∀(pins:aaj) (s:Shared) (σ:St) (H:Hp) (x y:V) (u v:Value) (Q:VK),Inv X pins σ H s->RelV x u->RelV y v->rd x y H Q->wpAny (model X.prog X.w) X.A (inplaceOp op u v) (EP X pins σ Q) X.xe s
def C9 (K:aag)(ta tv:TE)(rd:V->V->Hp->VK->Prop)(f:Str):TS:=λD σ H=>ta σ H λx H1=>∃a C dx fs v,x=.ref a/\H1 a=some (.ins C dx fs)/\yg K C/\hZ K C f/\fs.lookup f=some v /\
 tv σ H1 λy H2=>rd v y H2 λz H3=>∃MC Mb,H3 a=some (.ins C MC Mb)/\Mb.length < 1000/\D.nx σ (upd H3 a (.ins C MC (ej f z Mb)))
section
variable {X:Cx}{o e value:Expr}{f:Str}{pos pos' LW:Pos}{ta tv:TE}
theorem a6 (he:PE X e ta) (hb:attributeBase e f X.env (eval e X.env)=eval e X.env):PE X (.Attribute e f pos) (vk X.K ta f):=by
 intro pins s σ H Q I h;refine yx hb (bB (he pins s σ H _ I h) λu s1 ⟨x,H1,I1,rx,a,C,dx,fs,v,ex,ea,c,n,l,q⟩=>?_);subst ex;obtain rfl:u=Value.ref a:=rx;exact qk I1 ea c n l λu' s2 I2 ru=>⟨v,H1,I2,ru,q⟩
theorem cB (ha:PE X o ta)(hv:PE X value tv)(hs:swapsWith value (some (.Attribute o f pos')) pos.line X.env=pure false):PS X (.Assign [.Attribute o f pos'] value pos) (Ks X.K ta tv f):=by
 intro pins s σ H D I h;refine plainObj_wpAny_Assign_Attribute (bB (hv pins s σ H _ I h) λu s1 ⟨y,H1,I1,ry,q⟩=>bB (ha pins s1 σ H1 _ I1 q) λov s2 ⟨x,H2,I2,rx,a,C,dx,fs,ex,ea,c,n,l,q2⟩=>?_) hs;subst ex;obtain rfl:ov=Value.ref a:=rx;exact qr I2 ea c n l ry λs3 I3=>⟨σ,_,I3,q2⟩
theorem sx {op:Operator}{rd:V->V->Hp->VK->Prop}(ha:PE X o ta)(hv:PE X value tv)(U9:IL X op rd):PS X (.AugAssign (.Attribute o f LW) op value pos) (C9 X.K ta tv rd f):=by
 intro pins s σ H D I h;refine wpAny_AugAssign_AttributeAny (bB (ha pins s σ H _ I h) λov s1 ⟨x,H1,I1,rx,a,C,dx,fs,v,ex,ea,c,n,l,q⟩=>?_);subst ex;obtain rfl:ov=Value.ref a:=rx;refine qk I1 ea c n l λu s2 I2 ru=>bB (hv pins s2 σ H1 _ I2 q) λw3 s3 ⟨y,H2,I3,ry,q3⟩=>bB (U9 pins s3 σ H2 v y u w3 _ I3 ru ry q3) λw4 s4 ⟨z,H3,I4,rz,MC,Mb,U_,l',q4⟩=>?_;exact qr I4 U_ c n l' rz λs5 I5=>⟨σ,_,I5,q4⟩
def KP:V->V->Hp->VK->Prop:=λx y H Q=>∃i j,x=.int i/\y=.int j/\Q (.int (i+j)) H
theorem CQ:IL X .Add KP:=by
 rintro pins s σ H x y u v Q I rx ry ⟨i,j,rfl,rfl,q⟩;obtain⟨t,rfl⟩:=(show ∃t,u=Value.int i t from rx);obtain⟨t',rfl⟩:=(show ∃t',v=Value.int j t' from ry);exact PyProof.Rows.iadd_int ⟨.int (i+j),H,I.tok _,⟨_,rfl⟩,q⟩
end
section
variable {X:Cx}{pins:aaj}{σ:St}{H:Hp}{s:Shared}{A:Around}{E:aah}{Q:aah}{c:Value}{b:Bool}
end
structure cN (k:Nat)(A:Around):Prop where
 hd:A.handled=none
 dp:A.depth+3*k+5 < recursionLimit
 un:A.units+16*k+200 < cLine
theorem cN.mono {j k:Nat}{A:Around}(r:cN k A)(h:j<=k):cN j A:=⟨r.hd,by have:=r.dp;omega,by have:=r.un;omega⟩
theorem cN.deeper {k:Nat}{A:Around}(r:cN (k+1) A)(env:Env):cN k (A.deeper env) :=
 ⟨r.hd,by have:=r.dp;show A.depth+1+3*k+5 < _;omega,by have:=r.un;show A.units+3+16*k+200 < _;omega⟩
theorem xm {A:Around}{C:Addr}{us:aak}{kw:List (Str×Value)}:(A.under (.builtin "type.__call__" ⟨.ref C::us,kw⟩)).depth=A.depth+1:=by
 first|rfl|simp[Around.under,Code.weight,Code.isCreation,Code.isGuard,Code.isCaller,Code.frames,Code.isFrame,guardIds]
theorem xl {A:Around}{C:Addr}{us:aak}{kw:List (Str×Value)}:(A.under (.builtin "type.__call__" ⟨.ref C::us,kw⟩)).units=A.units+1:=by
 first|rfl|simp[Around.under,Code.cUnits,Code.frames,Code.isFrame]
theorem cN.make {k:Nat}{A:Around}(r:cN (k+1) A)(C:Addr)(us:aak)(kw:List (Str×Value)):cN k (A.under (.builtin "type.__call__" ⟨.ref C::us,kw⟩)) :=
 ⟨r.hd,by have:=r.dp;rw[xm];omega,by have:=r.un;rw[xl];omega⟩
theorem cN.depth {k:Nat}{A:Around}(r:cN k A):A.depth < recursionLimit:=by have:=r.dp;omega
theorem cN.units {k:Nat}{A:Around}(r:cN k A):A.units+64 < cLine:=by have:=r.un;omega
def eV:TA:=λ_ H Q=>Q [] H
def cM (ta:TE)(tr:TA):TA:=λσ H Q=>ta σ H λx H1=>tr σ H1 λxs H2=>Q (x::xs) H2
section
variable {X:Cx}{e:Expr}{es:List Expr}{te:TE}{t:TA}{pos:Pos}
theorem ah:PA X [] eV:=λ_ _ _ _ H Q I h=>Calls.spliced_nil ⟨[],H,I,.nil,h⟩
theorem aa (ha:PE X e te)(hr:PA X es t)(hs:starEach (e::es) X.env=(false,eval e X.env)::starEach es X.env:=by rfl):PA X (e::es) (cM te t):=by
 intro pos pins s σ H Q I h;rw[hs];show wpAny _ _ (spliced ((false,eval e X.env)::backTo pos (starEach es X.env))) _ _ s;refine aad (bB (ha pins s σ H _ I h) λu s1 ⟨x,H1,I1,r1,q1⟩=>?_);exact bB (hr pos pins s1 σ H1 _ I1 q1) λus s2 ⟨xs,H2,I2,r2,q2⟩=>⟨x::xs,H2,I2,.cons r1 r2,q2⟩
def J7 (t:TA):TE:=λσ H Q=>t σ H λxs H1=>xs.length<=sizeLine/\∀p,H1 p=none->Q (.ref p) (upd H1 p (.tup xs))
def Je (t:TA):TE:=λσ H Q=>t σ H λxs H1=>xs.length<=sizeLine/\∀p,H1 p=none->Q (.ref p) (upd H1 p (.lst xs))
theorem c_ {x1}(h:PA X es t):PE X (.Tuple es x1 pos) (J7 t):=by
 intro pins s σ H Q I hq;refine wpAny_Tuple_spliced (bB (h pos pins s σ H _ I hq) λus s1 ⟨xs,H1,I1,r,z,q⟩=>⟨by rw[←r.length];exact z,?_⟩);have hf:H1 s1.heap.objs.size=none:=I1.bu.fresh (XD _);refine⟨.ref s1.heap.objs.size,upd H1 s1.heap.objs.size (.tup xs),I1.laid (t':=s1.toks) (λb u e=>Xx _ e) (XD _) ?_,rfl,q _ hf⟩;exact⟨z,us,r,⟨_,XM _ rfl,rfl,_,rfl⟩⟩
theorem bV (h:PA X es t):PE X (.List es pos) (Je t):=by
 intro pins s σ H Q I hq;refine wpAny_List_spliced (bB (h pos pins s σ H _ I hq) λus s1 ⟨xs,H1,I1,r,z,q⟩=>⟨by rw[←r.length];exact z,?_⟩);have hf:H1 s1.heap.objs.size=none:=I1.bu.fresh (XD _);refine⟨.ref s1.heap.objs.size,upd H1 s1.heap.objs.size (.lst xs),I1.laid (t':=s1.toks) (λb u e=>Xx _ e) (XD _) ?_,rfl,q _ hf⟩;exact⟨z,us,0,r,XM _ rfl⟩
end
abbrev Sp:=List V->Hp->VK->XK->Prop
abbrev my:=List Env->Hp->Shared->XK->Value->Shared->Prop
structure xw (P:Program)(w:World)(K:aag)(mg:aai)(base:Heap)(A:Around)(outer:List Env)(s:Shared)(H:Hp):Prop where
 frames:A.frames=some outer
 mod:Mod K mg base
 bs:∀b o,base.get? b=some o->s.heap.get? b=some o/\H b=none
 C7:base.objs.size<=s.heap.objs.size
 lX:s.heap.FunFrames base outer
 FG:∀b∈vZ outer,H b=none
 bu:iq P w H s.heap
 bare:AllBare s.gens
def CE (outer:List Env)(P:Program)(w:World)(H:Hp)(s:Shared)(Q:VK)(u:Value)(s':Shared):Prop :=
 ∃v H',s'.os=s.os/\AllBare s'.gens/\Un (vZ outer) [] H H' s.heap s'.heap/\iq P w H' s'.heap/\RelV v u/\Q v H'
def CR (CX:my)(outer:List Env)(P:Program)(w:World)(H:Hp)(s:Shared)(Q:VK)(E:XK)(r:Result)(s':Shared):Prop :=
 match r with
 |.ok (.ret u)=>CE outer P w H s Q u s'
 |.ok _=>False
 |.error e=>CX outer H s E e s'
structure a8 (P:Program)(w:World)(K:aag)(mg:aai)(base:Heap)(CX:my)(k:Nat)(f:Addr)(fd:FuncData)(ps:List Str)(sp:Sp):Prop where
 len:∀vs H Q E,sp vs H Q E->vs.length=ps.length
 run:∀(A:Around) (outer:List Env) (s:Shared) (H:Hp) (args:Args) (us:aak) (vs:List V) (Q:VK) (E:XK),cN k A->xw P w K mg base A outer s H->BindsTo s fd args (ps.zip us)->Vals vs us->sp vs H Q E ->
  codeAny (model P w) A (.call (.ref f) args) (CR CX outer P w H s Q E) s
theorem a8.mono {P:Program}{w:World}{K:aag}{mg:aai}{base:Heap}{CX:my}{j k:Nat}{f:Addr}{fd:FuncData}{ps:List Str}{sp:Sp}(F:a8 P w K mg base CX j f fd ps sp)(h:j<=k) :
  a8 P w K mg base CX k f fd ps sp:=⟨F.len,λA outer s H args us vs Q E hr=>F.run A outer s H args us vs Q E (hr.mono h)⟩
theorem xw.make {P:Program}{w:World}{K:aag}{mg:aai}{base:Heap}{A:Around}{outer:List Env}{s:Shared}{H:Hp}(e:xw P w K mg base A outer s H)(C:Addr)(us:aak)(kw:List (Str×Value)) :
  xw P w K mg base (A.under (.builtin "type.__call__" ⟨.ref C::us,kw⟩)) outer s H:=⟨by first|exact e.frames|(simpa [Around.under,Code.envs,Code.isFrame,pushEnvs] using e.frames),e.mod,e.bs,e.C7,e.lX,e.FG,e.bu,e.bare⟩
section
variable {X:Cx}{pins:aaj}{σ:St}{H:Hp}{s s':Shared}
theorem Inv.Ho (I:Inv X pins σ H s):xw X.prog X.w X.K X.mg X.base X.A X.stack s H :=
 ⟨I.ok.frames,I.ok.mod,I.bs,Yi I.ok.C7 I.sz,I.stack,I.tT,I.bu,I.bare⟩
theorem Inv.after {Q:VK}{u:Value}(I:Inv X pins σ H s)(h:CE X.stack X.prog X.w H s Q u s'):EP X pins σ Q u s':=by
 obtain⟨v,H',os,bare,un,bu,r,q⟩:=h;obtain⟨hh,g,d,t,QV⟩:=s';obtain rfl:QV=s.os:=os;exact⟨v,H',I.call (h':=hh) (g':=g) (d':=d) (t':=t) (ch:=[]) un bu bare (λb z=>absurd z (by simp)),r,q⟩
end
def nQ (sp:Sp)(LY:List V)(E:XK)(t:TA):TE:=λσ H Q=>t σ H λvs H1=>sp (vs++LY) H1 Q E
def vO (C:Addr)(m:Str)(sp:Sp)(LY:List V)(E:XK)(ta:TE)(t:TA):TE:=λσ H Q=>ta σ H λx H1=>∃a dx fs,x=.ref a/\H1 a=some (.ins C dx fs)/\fs.lookup m=none /\
 t σ H1 λvs H2=>sp (x::(vs++LY)) H2 Q E
def FV (C:Addr)(sp:Sp)(LY:List V)(E:XK)(t:TA):TE:=λσ H Q=>t σ H λvs H1=>∀x dx,H1 x=none->H1 dx=none->dx≠x ->
 sp (.ref x::(vs++LY)) (upd (upd H1 dx (.own x)) x (.ins C dx [])) (λv H2=>v=.cj/\Q (.ref x) H2) E
def Binds (K:aag)(fd:FuncData)(ps:List Str)(ds:aak):Prop :=
 ∀(s:Shared) (us:aak),K.In s.heap->(us++ds).length=ps.length->BindsTo s fd ⟨us,[]⟩ (ps.zip (us++ds))
theorem Binds.all {K:aag}{fd:FuncData}{ps:List Str}(h:∀us:aak,us.length=ps.length->bindArgs fd ⟨us,[]⟩=pure (ps.zip us)):Binds K fd ps []:=λs us _ hl=>by
 rw[Yx] at hl ⊢;exact .of_eq (h us hl)
def Passes (CX:my)(X:Cx)(E:XK):Prop:=∀(pins:aaj) (σ:St) (H:Hp) (s:Shared) (e:Value) (s':Shared),Inv X pins σ H s->CX X.stack H s E e s'->X.xe e s'
section
variable {X:Cx}{CX:my}{k:Nat}{f C:Addr}{fd:FuncData}{ps:List Str}{sp:Sp}{LY:List V}{ds:aak}{E:XK}{x m:Str}{p pos apos:Pos}{e o:Expr}{es:List Expr}{ta:TE}{t:TA}
theorem x_ {pins:aaj} {σ:St} {H:Hp} {s:Shared} {Q:VK} {us:aak} {vs:List V} (F:a8 X.prog X.w X.K X.mg X.base CX k f fd ps sp) (hr:cN k X.A) (hb:Binds X.K fd ps ds) (hd:Vals LY ds) (hx:Passes CX X E)
  (I:Inv X pins σ H s) (r:Vals vs us) (h:sp (vs++LY) H Q E):wpAny (model X.prog X.w) X.A (call (.ref f) us) (EP X pins σ Q) X.xe s:=by
 have r2:Vals (vs++LY) (us++ds):=r.append hd;have hl:(us++ds).length=ps.length:=by rw[←r2.length];exact F.len _ _ _ _ h
 refine wpAny_call (Z7 (F.run X.A X.stack s H ⟨us,[]⟩ (us++ds) (vs++LY) Q E hr I.Ho (hb s us I.mV hl) r2 h) λr s' hq=>?_);cases r with
 |error e=>exact hx pins σ H s e s' I hq
 |ok fl =>
  cases fl with
  |ret u=>exact I.after hq
  |next=>exact False.elim hq
  |brk=>exact False.elim hq
  |cont=>exact False.elim hq
theorem DN (F:a8 X.prog X.w X.K X.mg X.base CX k f fd ps sp)(hr:cN k X.A)(hg:Gl X x)(hm:X.mg x=some (.ref f))(hk:PySem.W.keepIn X.K (.ref f)=true)(hb:Binds X.K fd ps ds)(hd:Vals LY ds)(hx:Passes CX X E)
  (ha:PA X (e::es) t)(Ml:(x==("__debug__":Str))=false:=by decide)(he:starEach (e::es) X.env=(false,eval e X.env)::starEach es X.env:=by rfl)(LO:(backTo pos (starEach es X.env)).any (·.1)=false:=by rfl) :
  PE X (.Call (.Name x p) (e::es) [] pos) (nQ sp LY E t):=by
 intro pins s σ H Q I h;refine ZK (mC I hg hm ?_ Ml);refine PySem.W.callWith_K (h₀:=X.base) I.ok.mod.Fm hk (bB (ha pos pins s σ H _ I h) λus s1 ⟨vs,H1,I1,r,q⟩=>⟨I1.mV,?_⟩) he LO;exact x_ F hr hb hd hx I1 r q
theorem Ea {pl:Sem Bool}(he:PE X o ta)(c:yg X.K C)(hm:Meth X.K C m f)(F:a8 X.prog X.w X.K X.mg X.base CX k f fd ps sp)(hr:cN k X.A)(hb:Binds X.K fd ps ds)(hd:Vals LY ds)(hx:Passes CX X E)(ha:PA X (e::es) t)
  (Mj:starEach (e::es) X.env=(false,eval e X.env)::starEach es X.env:=by rfl)(LO:(backTo pos (starEach es X.env)).any (·.1)=false:=by rfl)
  (ht:eval (.Call (.Attribute o m apos) (e::es) [] pos) X.env=(do
   let ov ←eval o X.env
   standAt apos.atName
   let (f,first) ←holding [ov] (getMethod ov m pl)
   callWith pos f first (backTo pos (starEach (e::es) X.env)) (backToKw pos (keywordEach [] X.env))):=by rfl) :
  PE X (.Call (.Attribute o m apos) (e::es) [] pos) (vO C m sp LY E ta t):=by
 intro pins s σ H Q I h;refine PySem.W.methodCall_KW (pl:=pl) (bB (he pins s σ H _ I h) λu s1 ⟨x,H1,I1,rx,a,dx,fs,ex,ea,l,q⟩=>?_) ht;subst ex;obtain rfl:u=Value.ref a:=rx;refine pK I1 ea c hm l ?_;refine PySem.W.callWith_K (first:=[.ref a]) (h₀:=X.base) I.ok.mod.Fm hm.kp (bB (ha pos pins s1 σ H1 _ I1 q) λus s2 ⟨vs,H2,I2,r,q2⟩=>⟨I2.mV,?_⟩) Mj LO;exact x_ (us:=.ref a::us) (vs:=.ref a::vs) F hr hb hd hx I2 (.cons rfl r) q2
theorem A7 {pl:Sem Bool}(he:PE X o ta)(c:yg X.K C)(hm:Meth X.K C m f)(F:a8 X.prog X.w X.K X.mg X.base CX k f fd ps sp)(hr:cN k X.A)(hb:Binds X.K fd ps ds)(hd:Vals LY ds)(hx:Passes CX X E)
  (ht:eval (.Call (.Attribute o m apos) [] [] pos) X.env=(do
   let ov ←eval o X.env
   standAt apos.atName
   let (f,first) ←holding [ov] (getMethod ov m pl)
   callWith pos f first (backTo pos (starEach [] X.env)) (backToKw pos (keywordEach [] X.env))):=by rfl) :
  PE X (.Call (.Attribute o m apos) [] [] pos) (vO C m sp LY E ta eV):=by
 intro pins s σ H Q I h;refine PySem.W.methodCall_KW (pl:=pl) (bB (he pins s σ H _ I h) λu s1 ⟨x,H1,I1,rx,a,dx,fs,ex,ea,l,q⟩=>?_) ht;subst ex;obtain rfl:u=Value.ref a:=rx;refine pK I1 ea c hm l ?_;exact PySem.W.callWith_K0 (first:=[.ref a]) I1.mV hm.kp (x_ (us:=[.ref a]) (vs:=[.ref a]) F hr hb hd hx I1 (.cons rfl .nil) q)
structure Mk (K:aag)(C f:Addr):Prop where
 makes:PySem.W.makesIn K C=true
 init:PySem.W.findIn K (.ref C) "__init__"=some (some (.ref f))
 fn:PySem.W.isFn K (.ref f)=true
 kp:PySem.W.keepIn K (.ref C)=true
theorem BF {pins:aaj}{σ:St}{H:Hp}{s:Shared}{Q:VK}{us:aak}{vs:List V}(M:Mk X.K C f)(F:a8 X.prog X.w X.K X.mg X.base CX k f fd ps sp)(hr:cN (k+1) X.A)(hb:Binds X.K fd ps ds)(hd:Vals LY ds)
  (hx:Passes CX X E)(I:Inv X pins σ H s)(r:Vals vs us)
  (h:∀x dx,H x=none->H dx=none->dx≠x->sp (.ref x::(vs++LY)) (upd (upd H dx (.own x)) x (.ins C dx [])) (λv H2=>v=.cj/\Q (.ref x) H2) E) :
  wpAny (model X.prog X.w) X.A (call (.ref C) us) (EP X pins σ Q) X.xe s:=by
 have hq:=h (s.heap.objs.size+1) s.heap.objs.size (I.bu.fresh (Nat.le_succ _)) (I.bu.fresh (XD _)) (X7 (ZX _));have I2:=Inv.made (C:=C) I;have r2:Vals (V.ref (s.heap.objs.size+1)::(vs++LY)) (Value.ref (s.heap.objs.size+1)::(us++ds)):=.cons rfl (r.append hd);have hl:(Value.ref (s.heap.objs.size+1)::us++ds).length=ps.length:=by
  have e:=r2.length;rw[F.len _ _ _ _ hq] at e;exact e.symm
 refine wpAny_call (CV (f:=f) I.mV M.makes M.init (Yl.mp M.fn) (Z7 (F.run _ X.stack _ _ ⟨Value.ref (s.heap.objs.size+1)::us,[]⟩ (Value.ref (s.heap.objs.size+1)::(us++ds)) _ _ E (hr.make C us [])
  (I2.Ho.make C us []) (hb _ (Value.ref (s.heap.objs.size+1)::us) I2.mV hl) r2 hq) λr s' MU=>?_))
 cases r with
 |error e=>exact hx pins σ _ _ e s' I2 MU
 |ok fl =>
  cases fl with
  |ret u =>
   obtain⟨v,H',I3,rv,ev,q3⟩:=I2.after MU;subst ev;exact⟨rv,⟨V.ref (s.heap.objs.size+1),H',I3,rfl,q3⟩⟩
  |next=>exact False.elim MU
  |brk=>exact False.elim MU
  |cont=>exact False.elim MU
theorem DO (M:Mk X.K C f)(F:a8 X.prog X.w X.K X.mg X.base CX k f fd ps sp)(hr:cN (k+1) X.A)(hg:Gl X x)(hm:X.mg x=some (.ref C))(hb:Binds X.K fd ps ds)(hd:Vals LY ds)(hx:Passes CX X E)
  (ha:PA X (e::es) t)(Ml:(x==("__debug__":Str))=false:=by decide)(he:starEach (e::es) X.env=(false,eval e X.env)::starEach es X.env:=by rfl)(LO:(backTo pos (starEach es X.env)).any (·.1)=false:=by rfl) :
  PE X (.Call (.Name x p) (e::es) [] pos) (FV C sp LY E t):=by
 intro pins s σ H Q I h;refine ZK (mC I hg hm ?_ Ml);refine PySem.W.callWith_K (h₀:=X.base) I.ok.mod.Fm M.kp (bB (ha pos pins s σ H _ I h) λus s1 ⟨vs,H1,I1,r,q⟩=>⟨I1.mV,?_⟩) he LO;exact BF M F hr hb hd hx I1 r q
end
section
variable {X:Cx}{CX:my}{k:Nat}{f C:Addr}{fd:FuncData}{ps ks:List Str}{sp:Sp}{E:XK}{x m:Str}{p pos apos kpos:Pos}{e o:Expr}{es:List Expr}{kws:List Keyword}{te ta:TE}{t tk:TA}{nm:Option Str}
variable {g:aak->aak->aak} {gV:List V->List V->List V}
end
structure aG (N P:List Str)(sc:Scope):Prop where
 kind:sc.kind=.function
 co:sc.isCoroutine=false
 gen:sc.isGenerator=false
 nd:N.Nodup
 pre:N.take P.length=P
 par:∀x∈P,sc.names.lookup x=some .local∨sc.names.lookup x=some .cell
 G2:∀y∈sc.names,y.2≠.free
theorem rX {kindOf:Str->Option NameKind}{x:Str}:∀{binds:List (Str×Value)} {m:aai},(∀v,(x,v)∉binds)->bindL kindOf binds m x=m x
 |[],_,_=>rfl
 |(n,v)::r,m,h=>by
  unfold bindL;rw[rX λw hw=>h w (XO _ hw)];split
  · have:x≠n:=by rintro rfl;exact h v Yh
    simp[this]
  · rfl
theorem sD {kindOf:Str->Option NameKind}{x:Str}:∀{binds:List (Str×Value)} {m:aai},(∀v,(x,v)∉binds)->bindC kindOf binds m x=m x
 |[],_,_=>rfl
 |(n,v)::r,m,h=>by
  unfold bindC;rw[sD λw hw=>h w (XO _ hw)];split
  · rfl
  · have:x≠n:=by rintro rfl;exact h v Yh
    simp[this]
theorem rF {kindOf:Str->Option NameKind}{x:Str}{v:Value}:∀{P:List Str} {vs:aak} {i:Nat} {m:aai},P.Nodup->P[i]?=some x->vs[i]?=some v->kindOf x=some .local ->
  bindL kindOf (P.zip vs) m x=some v
 |[],_,_,_,_,h,_,_=>by simp at h
 |_::_,[],_,_,_,_,h,_=>by simp at h
 |p::P,w::vs,0,m,nd,h1,h2,hk=>by
  simp at h1 h2;subst h1;subst h2;show bindL kindOf ((p,w)::P.zip vs) m p=_;unfold bindL;rw[rX λv hv=>(YG.mp nd).1 (List.of_mem_zip hv).1,Xw hk];simp
 |p::P,w::vs,i+1,m,nd,h1,h2,hk=>by
  show bindL kindOf ((p,w)::P.zip vs) m x=_;unfold bindL;exact rF (i:=i) (YG.mp nd).2 (by simpa using h1) (by simpa using h2) hk
theorem rn {kindOf:Str->Option NameKind}{x:Str}{v:Value}:∀{P:List Str} {vs:aak} {i:Nat} {m:aai},P.Nodup->P[i]?=some x->vs[i]?=some v->kindOf x≠some .local ->
  bindC kindOf (P.zip vs) m x=some v
 |[],_,_,_,_,h,_,_=>by simp at h
 |_::_,[],_,_,_,_,h,_=>by simp at h
 |p::P,w::vs,0,m,nd,h1,h2,hk=>by
  simp at h1 h2;subst h1;subst h2;show bindC kindOf ((p,w)::P.zip vs) m p=_;unfold bindC;rw[sD λv hv=>(YG.mp nd).1 (List.of_mem_zip hv).1,Xv hk];simp
 |p::P,w::vs,i+1,m,nd,h1,h2,hk=>by
  show bindC kindOf ((p,w)::P.zip vs) m x=_;unfold bindC;exact rn (i:=i) (YG.mp nd).2 (by simpa using h1) (by simpa using h2) hk
def start (N:List Str)(vs:List V):St:=vs.map some++List.replicate (N.length - vs.length) none
def mS (CX:my)(P:Program)(w:World)(K:aag)(mg:aai)(base:Heap)(N:List Str)(qual:Str)(scope:Scope)(f:Addr)(cd:Value)(A:Around)(outer:List Env)(s:Shared)(H:Hp)(E:XK):Cx where
 prog:=P
 w:=w
 K:=K
 mg:=mg
 base:=base
 A:=A.deeper (envOfC qual scope s.heap.objs.size f cd)
 N:=N
 kM:=s
 Ih:=H
 env:=envOfC qual scope s.heap.objs.size f cd
 outer:=outer
 stack:=envOfC qual scope s.heap.objs.size f cd::outer
 ex:=[]
 calm:=true
 fn:=λ_=>true
 pn:=[]
 xe:=λe s'=>wpAny (model P w) (A.deeper (envOfC qual scope s.heap.objs.size f cd)) (leaving (envOfC qual scope s.heap.objs.size f cd) e) (λ_ PM=>CX outer H s E e PM) (λe' PM=>CX outer H s E e' PM) s'
theorem vq {sc:Scope}{n:Nat}{x:Str}(h:sc.names.lookup x=some .cell):∃c,(cellsFrom n sc.names []).lookup x=some c:=by
 have q:=PySem.W.cellsFrom_some sc.names n [] (.inl h);exact ZH.mp q
theorem Ab {CX:my}{P:Program}{w:World}{K:aag}{mg:aai}{base:Heap}{N ps:List Str}{qual:Str}{scope:Scope}{f:Addr}{cd:Value}{A:Around}{outer:List Env}{s s1:Shared}{H:Hp}{E:XK}{us:aak}{vs:List V}
  (S:aG N ps scope)(hd:A.handled=none)(e0:xw P w K mg base A outer s H)(hl:vs.length=ps.length)(r:Vals vs us)
  (x:InCallC s s.heap.objs.size (bindL (envOfC qual scope s.heap.objs.size f cd).kindOf (ps.zip us) λ_=>none) (cellsFrom (s.heap.objs.size+1) scope.names []) (bindC (envOfC qual scope s.heap.objs.size f cd).kindOf (ps.zip us) λ_=>none) s1) :
  Inv (mS CX P w K mg base N qual scope f cd A outer s H E) [] (start N vs) H s1:=by
 have LO:ps.length<=N.length:=by have:=YB List.length S.pre;rw[XU] at this;omega
 obtain⟨h1,tk,rfl,hk⟩:=x.done;have Oa:∀b:Addr,b∉(mS CX P w K mg base N qual scope f cd A outer s H E).ex:=λb z=>absurd (show b∈([]:List Addr) from z) (by simp);refine⟨⟨e0.mod,S.kind,rfl,rfl,XD _,λy z c h1 h2=>?_,λy hy=>?_,λy c _ h=>?_,λ_=>hd,Around.frames_deeper e0.frames,.inr ⟨rfl,rfl⟩,λb z=>absurd z (Oa b),e0.bs,e0.C7,λb _ _=>Oa b,λb z=>absurd z (Oa b),e0.lX,e0.FG⟩,
  rfl,e0.bare,Un.kept hk,⟨_,x.toInCall.ns,λi y v h1 h2 h3=>?_⟩,λy c h=>⟨_,x.cell y c h⟩,e0.bu.fresh (XD _),λy c h=>?_,λp hp=>absurd (show p∈([]:aaj) from hp) (by simp),e0.bu.kept hk,?_⟩
 · exact name_of_addr x.apart (PySem.mem_of_lookup h1) (PySem.mem_of_lookup h2)
 · have hy:scope.names.lookup y=some .cell∨scope.names.lookup y=some .free:=hy;rcases hy with hy|hy
   · exact vq hy
   · exact absurd rfl (S.G2 _ (PySem.mem_of_lookup hy))
 · exact Nat.le_of_lt (x.above y c (PySem.mem_of_lookup h))
 · have hi:i < vs.length:=by
    unfold start at h2;by_cases hi:i < vs.length
    · exact hi
    · rw[aac (by simpa using hi)] at h2;rw[List.getElem?_replicate] at h2;split at h2 <;> cases h2
   have ha:vs[i]?=some v:=by
    unfold start at h2;rw[List.getElem?_append_left (by simpa using hi),Xz] at h2;cases e:vs[i]? with
    |none=>rw[e] at h2;cases h2
    |some a=>rw[e] at h2;cases h2;rfl
   obtain⟨u,hu,rv⟩:=r.get ha;have hp:ps[i]?=some y:=by
    rw[←S.pre,List.getElem?_take_of_lt (by omega)];exact h1
   have Sq:ps.Nodup:=by rw[←S.pre];exact S.nd.sublist (List.take_sublist _ _)
   refine⟨u,rv,?_⟩;rcases S.par y (X0 hp) with k|k
   · exact .inl ⟨k,rF Sq hp hu k⟩
   · obtain⟨c,e⟩:=vq (n:=s.heap.objs.size+1) k;refine .inr ⟨.inl k,c,e,?_⟩;have q:=x.cell y c e;rw[rn Sq hp hu (by show scope.names.lookup y≠_;rw[k];decide)] at q;exact q
 · exact e0.bu.fresh (Nat.le_of_lt (x.above y c (PySem.mem_of_lookup h)))
 · unfold start;show _=N.length;rw[XT,Xu,X5];omega
theorem Bj {CX:my}{P:Program}{w:World}{K:aag}{mg:aai}{base:Heap}{k:Nat}{f:Addr}{name qual:Str}{params:Arguments}{body:List Stmt}{scope:Scope}{dV kV doc pm LG ct oc:Value}{an od:Option Addr}
  {My:Array (Option Value)}{N ps:List Str}{sp:Sp}(lk:K.lookup f=some ⟨oc,od,.func (PySem.W.fnOf name qual params body scope dV kV doc pm an LG ct),My⟩)(Mg:PySem.W.codeIn K LG qual=true)(S:aG N ps scope)
  (len:∀vs H Q E,sp vs H Q E->vs.length=ps.length)
  (LM:∀(A:Around) (outer:List Env) (s:Shared) (H:Hp) (vs:List V) (Q:VK) (E:XK),cN k (A.deeper (envOfC qual scope s.heap.objs.size f LG))->sp vs H Q E ->
   ∃t,BJ (mS CX P w K mg base N qual scope f LG A outer s H E) body t/\t {nx:=λ_ H'=>Q .cj H',rt:=Q} (start N vs) H) :
  a8 P w K mg base CX (k+1) f (PySem.W.fnOf name qual params body scope dV kV doc pm an LG ct) ps sp:=by
 refine⟨len,λA outer s H args us vs Q E hr e0 hb r Mh=>?_⟩;have hl:=len _ _ _ _ Mh;have KX:K.In s.heap:=e0.mod.Fm.keeps λb o e=>(e0.bs b o e).1;have lim:s.heap.NoLimit:=e0.mod.nolimit.keeps λb o e=>(e0.bs b o e).1;have OL:∀y∈ps.zip us,scope.names.lookup y.1=some .local∨(scope.names.lookup y.1=some .cell/\((cellsFrom (s.heap.objs.size+1) scope.names []).lookup y.1).isSome=true):=λ⟨n,v⟩ hy=>by
  rcases S.par n (List.of_mem_zip hy).1 with q|q
  · exact .inl q
  · exact .inr ⟨q,PySem.W.cellsFrom_some _ _ _ (.inl q)⟩
 refine codeAny_call_function hr.depth (KX _ _ lk) rfl S.co S.gen rfl (PySem.W.codeRec_of KX Mg) (hb _ _ _ _ ?_);refine wpAny_newFunctionEnv_cells S.kind OL λenv he s1 x=>?_;subst he;refine⟨lim.keeps x.toInCall.keep,codeAny_func ?_⟩;obtain⟨t,ht,hq⟩:=LM A outer s H vs Q E (hr.deeper _) Mh;have I:Inv (mS CX P w K mg base N qual scope f LG A outer s H E) [] (start N vs) H s1:=Ab S hr.hd e0 hl r x;refine YM (ht s1 (start N vs) H _ I hq) (λfl s' hs=>?_) λe s' hs=>hs;have fin:∀{σ':St} {H':Hp} {v:V} {u:Value},Inv (mS CX P w K mg base N qual scope f LG A outer s H E) [] σ' H' s'->RelV v u->Q v H'->CE outer P w H s Q u s' :=
  λ{σ' H' v u} J rv q=>⟨v,H',J.os,J.bare,J.base,J.bu,rv,q⟩
 cases fl with
 |ret u =>
  obtain⟨v,σ',H',J,rv,q⟩:=hs;exact fin J rv q
 |next =>
  obtain⟨σ',H',J,q⟩:=hs;exact fin (v:=V.cj) (u:=Value.none) J rfl q
 |brk =>
  obtain⟨_,_,_,q⟩:=hs;exact False.elim q
 |cont =>
  obtain⟨_,_,_,q⟩:=hs;exact False.elim q
theorem Fh {CX:my}{P:Program}{w:World}{K:aag}{mg:aai}{base:Heap}{k:Nat}{f:Addr}{name qual:Str}{params:Arguments}{body:List Stmt}{scope:Scope}{dV kV doc pm LG ct oc:Value}{an od:Option Addr}
  {My:Array (Option Value)}{N ps:List Str}{sp:Sp}(lk:K.lookup f=some ⟨oc,od,.func (PySem.W.fnOf name qual params body scope dV kV doc pm an LG ct),My⟩)(Mg:PySem.W.codeIn K LG qual=true)(S:aG N ps scope)
  (len:∀vs H Q E,sp vs H Q E->vs.length=ps.length)
  (LM:∀(A:Around) (outer:List Env) (s:Shared) (H:Hp) (vs:List V) (Q:VK) (E:XK),cN k (A.deeper (envOfC qual scope s.heap.objs.size f LG))->sp vs H Q E ->
   ∃t,qP (mS CX P w K mg base N qual scope f LG A outer s H E) body t/\t {nx:=λ_ H'=>Q .cj H',rt:=Q} (start N vs) H) :
  a8 P w K mg base CX (k+1) f (PySem.W.fnOf name qual params body scope dV kV doc pm an LG ct) ps sp:=Bj lk Mg S len λA outer s H vs Q E hr hs=>let ⟨t,ht,hq⟩:=LM A outer s H vs Q E hr hs;⟨t,λs σ H D=>ht [] s σ H D,hq⟩
section
variable {X:Cx}{x:Str}{p pos:Pos}{e:Expr}{es:List Expr}{t:TA}{id T:String}{r:List V->Hp->VK->Prop}
def Hn (r:List V->Hp->VK->Prop) (t:TA):TE:=λσ H Q=>t σ H λvs H1=>r vs H1 Q
theorem bY (hc:ie X (.builtin id) r)(hg:Gl X x)(hm:X.mg x=none)(hv:bootBuiltins x=some (.builtin id))(ha:PA X (e::es) t)(hn:x≠"__name__":=by decide)(Ml:(x==("__debug__":Str))=false:=by decide)
  (he:starEach (e::es) X.env=(false,eval e X.env)::starEach es X.env:=by rfl)(LO:(backTo pos (starEach es X.env)).any (·.1)=false:=by rfl):PE X (.Call (.Name x p) (e::es) [] pos) (Hn r t):=by
 intro pins s σ H Q I h;refine ZK (lK I hg hm hv ?_ hn Ml);exact PyProof.Rows.callWith_builtin1 (bB (ha pos pins s σ H _ I h) λus s1 ⟨vs,H1,I1,r1,q1⟩=>hc pins s1 σ H1 vs us Q I1 r1 q1) he LO
theorem ko (hc:ie X (.type T) r)(hg:Gl X x)(hm:X.mg x=none)(hv:bootBuiltins x=some (.type T))(ha:PA X (e::es) t)(hn:x≠"__name__":=by decide)(Ml:(x==("__debug__":Str))=false:=by decide)
  (he:starEach (e::es) X.env=(false,eval e X.env)::starEach es X.env:=by rfl)(LO:(backTo pos (starEach es X.env)).any (·.1)=false:=by rfl):PE X (.Call (.Name x p) (e::es) [] pos) (Hn r t):=by
 intro pins s σ H Q I h;refine ZK (lK I hg hm hv ?_ hn Ml);exact YW (bB (ha pos pins s σ H _ I h) λus s1 ⟨vs,H1,I1,r1,q1⟩=>hc pins s1 σ H1 vs us Q I1 r1 q1) he LO
end
end L2
namespace HT
open PySem PyProof.Rows
section
open PySem.SeqAt
open PySem.AutoSeq1 (wpAny_loadPart')
open PySem.MeetsSeq PySem.MeetsSeq2 PySem.MeetsSeq3
end
section
variable {prog:Program}{w:World}{A:Around}{E:aah}{s:Shared}
theorem E1 {t b:Addr} {vs ws:aak} {Q:aah} (ht:IsTup s.heap t vs.toArray) (hb:IsTup s.heap b ws.toArray) (hv:vs≠[])
  (h1:ws=[]->Q (.ref t) s) (h2:ws≠[]->Q (.ref s.heap.objs.size) {s with heap:=s.heap.push {cls:=.type "tuple",data:=.seq (vs++ws).toArray}})
  (hsz:vs.length+ws.length<=sizeLine):wpAny (model prog w) A (binaryOp .Add (.ref t) (.ref b)) Q E s:=by
 obtain⟨⟨cls,dd,data,sl⟩,ho,hc,n,hd⟩:=id ht;obtain⟨⟨cls2,Sr,data2,Ss⟩,PN,Su,n2,hd2⟩:=id hb;simp only at hc hd Su hd2;subst hc hd Su hd2;have e:vs.toArray++ws.toArray=(vs++ws).toArray:=by simp
 by_cases hw:ws=[]
 · exact concat_meets ⟨_,ho,rfl⟩ ⟨_,PN,rfl⟩ noFill_tuple_add seq_tuple_add PySem.F.slot_tuple_add PySem.F.entry_tuple_add (PySem.F.args_tuple_add_2 _ _)
    (tuple_addW1 t b vs.toArray ws.toArray n n2 dd Sr sl Ss (by simpa using hv) (by simp[hw])) ⟨ho,PN,h1 hw⟩
 · refine concat_meets ⟨_,ho,rfl⟩ ⟨_,PN,rfl⟩ noFill_tuple_add seq_tuple_add PySem.F.slot_tuple_add PySem.F.entry_tuple_add (PySem.F.args_tuple_add_2 _ _)
    (tuple_addW2 t b vs.toArray ws.toArray n n2 dd Sr sl Ss (by simpa using hv) (by simpa using hw) (by rw[XS,XS];exact hsz)) ⟨ho,PN,?_⟩
   rw[e];exact h2 hw
def cg (n d:Nat):Option Int->Nat
 |none=>d
 |some v=>if v < 0 then (v+(n:Int)).toNat else min v.toNat n
theorem ib (n d:Nat):cg n d none=d:=rfl
theorem iH (n d k:Nat):cg n d (some (k:Int))=min k n:=by
 show (if (k:Int) < 0 then ((k:Int)+(n:Int)).toNat else min (k:Int).toNat n)=min k n;rw[Xv (by omega),Yg]
theorem w9 (n d:Nat)(hd:d<=n)(o:Option Int):cg n d o<=n:=by
 cases o with
 |none=>exact hd
 |some v =>
  show (if v < 0 then (v+(n:Int)).toNat else min v.toNat n)<=n;by_cases hv:v < 0
  · rw[Xw hv];omega
  · rw[Xv hv];exact Nat.min_le_right _ _
theorem y4 (v:Int)(n d:Nat):(if v < 0 then max (v+(n:Int)) 0 else min v (n:Int))=((cg n d (some v):Nat):Int):=by
 show (if v < 0 then max (v+(n:Int)) 0 else min v (n:Int))=(((if v < 0 then (v+(n:Int)).toNat else min v.toNat n):Nat):Int);by_cases hv:v < 0
 · simp only[Xw hv];omega
 · simp only[Xv hv];omega
theorem wY (lo hi:Option Int)(n:Nat):Builtin.Slice.sliceAdjust lo hi 1 (n:Int)=(((cg n 0 lo:Nat):Int),((cg n n hi:Nat):Int)):=by
 have h1:¬((1:Int) < 0):=by omega
 unfold Builtin.Slice.sliceAdjust;simp only[h1,Zu];refine Prod.ext ?_ ?_
 · cases lo with
   |none=>rfl
   |some v=>exact y4 v n 0
 · cases hi with
   |none=>rfl
   |some v=>exact y4 v n n
theorem wq (i j:Nat):Builtin.Slice.slicePlaces (i:Int) (j:Int) 1=j - i:=by
 unfold Builtin.Slice.slicePlaces;have h1:(1:Int) > 0:=by omega
 simp only[h1,Zd,Int.ediv_one];split <;> omega
theorem qy {v:Value}{o:Option Int}{Q:Option Int->Shared->Prop}(p:IsPart v o)(h:Q o s):wpAny (model prog w) A (Builtin.Slice.slicePartIndex v) Q E s:=by
 cases p with
 |none=>exact slicePart_none h
 |int i t=>exact slicePart_int h
theorem ij {sl:Addr}{vl vu:Value}{lo hi:Option Int}{n:Nat}{Q:Int×Int×Nat->Shared->Prop}(hs:s.heap.IsSliceOf sl vl vu .none)(pl:IsPart vl lo)(pu:IsPart vu hi)
  (h:Q (((cg n 0 lo:Nat):Int),1,cg n n hi - cg n 0 lo) s):wpAny (model prog w) A (Builtin.Slice.sliceApplied (.ref sl) (pure (n:Int))) Q E s:=by
 obtain⟨os,M5,NM,NN⟩:=id hs;unfold Builtin.Slice.sliceApplied Builtin.Slice.sliceFields;refine Xs (Xs (wpAny_field M5 NN (x:=vl) rfl (Xs (wpAny_field M5 NN (x:=vu) rfl (Xs (wpAny_field M5 NN (x:=.none) rfl (XA ?_)))))));refine Xs (slicePart_none ?_);show wpAny _ _ (if ((1:Int)==0)=true then _ else _) _ _ s;rw[Xv (by decide)];refine Xs (qy pl (Xs (qy pu (Xs (XA ?_)))));show wpAny _ _ (match Builtin.Slice.sliceAdjust lo hi 1 (n:Int) with|(lo,hi)=>pure (lo,(1:Int),Builtin.Slice.slicePlaces lo hi 1)) _ _ s;rw[wY lo hi n];show wpAny _ _ (pure (((cg n 0 lo:Nat):Int),(1:Int),Builtin.Slice.slicePlaces ((cg n 0 lo:Nat):Int) ((cg n n hi:Nat):Int) 1)) _ _ s;rw[wq];exact XA h
theorem BS (xs:Array Value)(i k:Nat):((List.range k).filterMap λ(m:Nat)=>xs[((i:Int)+(m:Int)*1).toNat]?).toArray=((xs.toList.drop i).take k).toArray:=by
 have e:(λ(m:Nat)=>xs[((i:Int)+(m:Int)*1).toNat]?)=λm=>xs[i+m]?:=by
  funext m;have:((i:Int)+(m:Int)*1).toNat=i+m:=by omega
  rw[this]
 rw[e];have:=pick_run xs i k;rw[List.filterMap_map] at this;have e2:((λx=>xs[x]?) ∘ λx=>i+x)=λm=>xs[i+m]?:=rfl;rw[e2] at this;rw[this]
theorem lT {t sl:Addr}{items:Array Value}{vl vu:Value}{lo hi:Option Int}{Q:aah}(ht:IsTup s.heap t items)(hs:s.heap.IsSliceOf sl vl vu .none)(pl:IsPart vl lo)(pu:IsPart vu hi)
  (hw:¬(cg items.size 0 lo=0/\cg items.size items.size hi=items.size))
  (h:Q (.ref s.heap.objs.size) {s with heap:=s.heap.push {cls:=.type "tuple",data:=.seq ((items.toList.drop (cg items.size 0 lo)).take (cg items.size items.size hi - cg items.size 0 lo)).toArray}})
  (hsz:items.size<=sizeLine):wpAny (model prog w) A (getItem (.ref t) (.ref sl)) Q E s:=by
 have Mr:sizeOk (.seq ((items.toList.drop (cg items.size 0 lo)).take (cg items.size items.size hi - cg items.size 0 lo)).toArray):=by
  show ((items.toList.drop (cg items.size 0 lo)).take (cg items.size items.size hi - cg items.size 0 lo)).toArray.size<=sizeLine;rw[XS,XU,Yn,Zf];omega
 have hj:cg items.size items.size hi<=items.size:=w9 _ _ (XD _) hi;obtain⟨os,M5,NM,NN⟩:=id hs;have Va:s.TypeIs (.ref sl) "slice":=⟨os,M5,NM⟩;unfold getItem
 try with_reducible refine Zw ?_
 first|refine Xs (XA ?_)|skip
 refine Xs (wpAny_sequenceKey ht.typeIs (by decide) ?_);refine Xs (YK (name:=Str.ofString "__getitem__") ht.typeIs YL
  (YR YL ht.typeIs entry_tuple_getitem ?_ (args_tuple_getitem _ _)))
 show wpAny _ _ (Builtin.Tuple.tupleItemsOf (.ref t) >>= _) _ _ s;refine Xs (tupleItemsOf_ ht ?_);refine Xs (wpAny_typeOf Va ?_);rw[Xw (by decide)];refine Xs (ij hs pl pu ?_);have MV:¬((((cg items.size 0 lo:Nat):Int)==0&&(1:Int)==1&&(cg items.size items.size hi - cg items.size 0 lo)==items.size)=true):=by
  intro q;rw[XB,XB] at q;have q1:((cg items.size 0 lo:Nat):Int)=0:=YZ q.1.1;have q2:cg items.size items.size hi - cg items.size 0 lo=items.size:=YZ q.2;exact hw ⟨by omega,by omega⟩
 show wpAny _ _ (if (((cg items.size 0 lo:Nat):Int)==0&&(1:Int)==1&&(cg items.size items.size hi - cg items.size 0 lo)==items.size)=true then _ else _) _ _ s;rw[Xv MV,BS]
 first
  |exact Xs (m:=Builtin.Tuple.tupleExact _) (YX (XA ⟨_,rfl,XA h⟩) Mr)
  |exact Xs (m:=Builtin.Tuple.tupleExact _) (YX (Xs (XA (XA ⟨_,rfl,XA h⟩))) Mr)
  |exact Xs (Xs (m:=Builtin.Tuple.tupleExact _) (YX (XA (XA ⟨_,rfl,XA h⟩)) Mr))
  |exact Xs (Xs (m:=Builtin.Tuple.tupleExact _) (YX (XA ⟨_,rfl,XA h⟩) Mr))
end
end HT
namespace L2
open PySem PySem.Spec PyProof.Rows
abbrev TO:=St->Hp->(Option Int->Hp->Prop)->Prop
def PO (X:Cx)(e:Option Expr)(t:TO):Prop :=
 ∀(pins:aaj) (s:Shared) (σ:St) (H:Hp) (Q:Option Int->Hp->Prop),Inv X pins σ H s->t σ H Q ->
  wpAny (model X.prog X.w) X.A (evalPart e X.env) (λu s'=>∃o H',Inv X pins σ H' s'/\IsPart u o/\Q o H') X.xe s
def DP:TO:=λ_ H Q=>Q none H
def Ij (t:TE):TO:=λσ H Q=>t σ H λx H1=>∃i,x=.int i/\Q (some i) H1
theorem intsAre_of {ns:List Int}:∀{us:aak},Vals (ns.map V.int) us->IntsAre us ns:=by
 induction ns with
 |nil=>intro us r;rw[YU] at r;cases r;exact .nil
 |cons n ns ih =>
  intro us r;rw[XN] at r;cases r with
  |cons r1 r2 =>
   obtain⟨t,e⟩:=r1;subst e;exact .cons n t (ih r2)
section
variable {X:Cx}{e:Expr}{te:TE}{lo hi:Option Expr}{tl th:TO}{pos p2:Pos}
theorem ft:PO X none DP:=by
 intro pins s σ H Q I h;rw[evalPart_none];exact XA ⟨none,H,I,.none,h⟩
theorem cY (h:PE X e te):PO X (some e) (Ij te):=by
 intro pins s σ H Q I hw;rw[evalPart_some];refine bB (h pins s σ H _ I hw) λu s1 ⟨x,H1,I1,r1,q1⟩=>?_;obtain⟨i,rfl,q⟩:=q1;obtain⟨t,rfl⟩:=r1;exact⟨some i,H1,I1,.int i t,q⟩
def Jk (X:Cx)(r:V->Option Int->Option Int->Hp->VK->Prop):Prop :=
 ∀(pins:aaj) (s:Shared) (σ:St) (H:Hp) (x:V) (v vl vu:Value) (lo hi:Option Int) (sl:Addr) (Q:VK),Inv X pins σ H s->RelV x v->s.heap.IsSliceOf sl vl vu .none->IsPart vl lo->IsPart vu hi->r x lo hi H Q ->
  ∃T id,typeLookup (.type T) "__getitem__"=pure (some (.builtin id))/\s.TypeIs v T/\wpAny (model X.prog X.w) X.A (getItem v (.ref sl)) (EP X pins σ Q) X.xe s
def Lv (r:V->Option Int->Option Int->Hp->VK->Prop)(te:TE)(tl th:TO):TE:=λσ H Q=>te σ H λx H1=>tl σ H1 λl H2=>th σ H2 λu H3=>r x l u H3 Q
theorem cK {r:V->Option Int->Option Int->Hp->VK->Prop}(hr:Jk X r)(he:PE X e te)(hl:PO X lo tl)(hu:PO X hi th):PE X (.Subscript e (.Slice lo hi none p2) pos) (Lv r te tl th):=by
 intro pins s σ H Q I h;refine Subscript_ (bB (he pins s σ H _ I h) λv s1 ⟨x,H1,I1,r1,q1⟩=>?_);refine wpAny_Slice (bB (hl pins s1 σ H1 _ I1 q1) λvl s2 ⟨l,H2,I2,pl,q2⟩=>bB (hu pins s2 σ H2 _ I2 q2) λvu s3 ⟨u,H3,I3,pu,q3⟩=>?_);rw[evalPart_none];refine XA ?_;have I4:Inv X pins σ H3 {s3 with heap:=s3.heap.push {cls:=.type "slice",data:=.fields #[vl,vu,.none]}}:=I3.kept (t':=s3.toks) λb ob q=>Xx _ q;obtain⟨T,id,hT,ht,hg⟩:=hr pins {s3 with heap:=s3.heap.push {cls:=.type "slice",data:=.fields #[vl,vu,.none]}} σ H3 x v vl vu l u s3.heap.objs.size Q I4 r1 (Heap.IsSliceOf.new ..) pl pu q3;show wpAny (model X.prog X.w) X.A (subscriptTail e (.Slice lo hi none p2) v (.ref s3.heap.objs.size)) (EP X pins σ Q) X.xe {s3 with heap:=s3.heap.push {cls:=.type "slice",data:=.fields #[vl,vu,.none]}};exact tail_any (ops:=[.ref s3.heap.objs.size,v]) ht hT hg (by with_unfolding_all rfl)
def fC (xs:List V)(lo hi:Option Int):List V:=(xs.drop (HT.cg xs.length 0 lo)).take (HT.cg xs.length xs.length hi - HT.cg xs.length 0 lo)
theorem nW (xs:List V)(lo hi:Option Int):(fC xs lo hi).length<=xs.length:=by
 unfold fC;rw[XU,Yn];omega
def Ku (K:aag):V->Option Int->Option Int->Hp->VK->Prop:=λx lo hi H Q=>∃a xs,x=.ref a/\b7 K H a xs /\
 ¬(HT.cg xs.length 0 lo=0/\HT.cg xs.length xs.length hi=xs.length)/\∀p,H p=none->Q (.ref p) (upd H p (.tup (fC xs lo hi)))
theorem G7:Jk X (Ku X.K):=by
 intro pins s σ H x v vl vu lo hi sl Q I rx hs pl pu h;obtain⟨a,xs,rfl,hx,hw,q⟩:=h;cases rx;obtain⟨LF,r,ht,hz⟩:=I.tuple hx;have hlen:LF.toArray.size=xs.length:=by rw[XS];exact r.length.symm
 refine⟨"tuple",_,YL.lookup,ht.typeIs,?_⟩;refine HT.lT ht hs pl pu (by rw[hlen];exact hw) ?_ (by rw[hlen];exact hz);rw[hlen];refine⟨.ref s.heap.objs.size,_,I.laid (t':=s.toks) (o:=.tup (fC xs lo hi)) (λb ob q=>Xx _ q) (XD _) ?_,rfl,q _ (I.bu.fresh (XD _))⟩;exact⟨Yi (nW xs lo hi) hz,_,(r.drop (HT.cg xs.length 0 lo)).take (HT.cg xs.length xs.length hi - HT.cg xs.length 0 lo),IsTup.new _ _⟩
def Jo (K:aag):R2:=λx y H Q=>∃a b xs ys,x=.ref a/\y=.ref b/\b7 K H a xs/\b7 K H b ys/\xs≠[]/\xs.length+ys.length<=sizeLine /\
 (ys=[]->Q (.ref a) H)/\(ys≠[]->∀p,H p=none->Q (.ref p) (upd H p (.tup (xs++ys))))
theorem Vals.ow {xs:List V}{us:aak}(r:Vals xs us):us=[]↔xs=[]:=by
 cases r with
 |nil=>simp
 |cons _ _=>simp
theorem Dl:jT X (binaryOp .Add) (Jo X.K):=by
 intro pins s σ H x y v u Q I rx ry h;obtain⟨a,b,xs,ys,rfl,rfl,ha,hb,hx,hz,q1,q2⟩:=h;cases rx;cases ry;obtain⟨LF,r1,p1,_⟩:=I.tuple ha;obtain⟨L7,r2,p2,_⟩:=I.tuple hb;refine HT.E1 p1 p2 (λz=>hx (r1.ow.mp z)) (λz=>⟨.ref a,H,I,rfl,q1 (r2.ow.mp z)⟩) (λz=>?_) (by rw[←r1.length,←r2.length];exact hz);refine⟨.ref s.heap.objs.size,_,I.laid (t':=s.toks) (o:=.tup (xs++ys)) (λb ob q=>Xx _ q) (XD _) ?_,rfl,q2 (λw=>z (r2.ow.mpr w)) _ (I.bu.fresh (XD _))⟩;exact⟨by rw[XT];exact hz,_,r1.append r2,IsTup.new _ _⟩
end
def E5 (n:Nat)(i:Int):Option Nat:=if 0<=i then (if i < n then some i.toNat else none) else if -(n:Int)<=i then some (i+n).toNat else none
def n8 {α:Type}(xs:List α)(i:Int):Option α:=(E5 xs.length i).bind λj=>xs[j]?
theorem y9 {n:Nat}{i:Int}{j:Nat}(h:E5 n i=some j):seqIndex? i n=some j/\j < n/\-(n:Int)<=i/\i < n:=by
 unfold E5 at h;by_cases h0:0<=i
 · rw[Xw h0] at h;by_cases h1:i < n
   · rw[Xw h1] at h;have e:i.toNat=j:=X8 h;exact⟨by rw[seqIndex_of h0 h1,e],by omega,by omega,h1⟩
   · rw[Xv h1] at h;cases h
 · rw[Xv h0] at h;by_cases h1:-(n:Int)<=i
   · rw[Xw h1] at h;have e:(i+n).toNat=j:=X8 h;exact⟨by rw[seqIndex_neg (by omega) h1,e],by omega,h1,by omega⟩
   · rw[Xv h1] at h;cases h
theorem tm {α:Type}{xs:List α}{i:Int}{v:α}(h:n8 xs i=some v):∃j,seqIndex? i xs.length=some j/\xs[j]?=some v/\j < xs.length/\-(xs.length:Int)<=i/\i < xs.length:=by
 unfold n8 at h;cases e:E5 xs.length i with
 |none=>rw[e] at h;cases h
 |some j =>
  rw[e] at h;obtain⟨h1,h2,h3,h4⟩:=y9 e;exact⟨j,h1,h,h2,h3,h4⟩
theorem cy {α:Type}{xs:List α}{j:Nat}{v:α}(h:xs[j]?=some v):n8 xs (j:Int)=some v:=by
 have hj:j < xs.length:=(XI.mp h).1;have e:E5 xs.length (j:Int)=some j:=by
  unfold E5;rw[Xw (by omega),Xw (by omega)];simp
 unfold n8;rw[e];exact h
def DE (b:Expr):Prop:=∀o i,subscripted b false o i=operate [o,i] (getItem o i)
def J4 (X:Cx)(r:R2):Prop :=
 ∀(value slice:Expr) (pins:aaj) (s:Shared) (σ:St) (H:Hp) (x y:V) (v u:Value) (Q:VK),Inv X pins σ H s->RelV x v->RelV y u->r x y H Q ->
  subscripted slice false v u=operate [v,u] (getItem v u)->wpAny (model X.prog X.w) X.A (subscriptTail value slice v u) (EP X pins σ Q) X.xe s
def Br (X:Cx)(id:String)(r:V->List V->Hp->VK->Prop):Prop :=
 ∀(pins:aaj) (s:Shared) (σ:St) (H:Hp) (x:V) (xs:List V) (v:Value) (us:aak) (Q:VK),Inv X pins σ H s->RelV x v->Vals xs us->r x xs H Q ->
  wpAny (model X.prog X.w) X.A (call (.builtin id) (v::us)) (EP X pins σ Q) X.xe s
section
variable {X:Cx}{a b:Expr}{ta tb:TE}{pos:Pos}
theorem bo {r:R2} (hr:J4 X r) (ha:PE X a ta) (hb:PE X b tb) (hs:DE b):PE X (.Subscript a b pos) (kJ r ta tb):=by
 intro pins s σ H Q I h;exact Subscript_ (Hg ha hb I h λv u s2 x y H2 I2 rx ry q=>hr a b pins s2 σ H2 x y v u Q I2 rx ry q (hs _ _))
def As (K:aag):R2:=λx y H Q=>∃p xs i v,x=.ref p/\y=.int i/\aP K H p xs/\n8 xs i=some v/\Q v H
def IP (K:aag):R2:=λx y H Q=>∃p xs i v,x=.ref p/\y=.int i/\b7 K H p xs/\n8 xs i=some v/\Q v H
def Iz:R2:=λx y H Q=>∃z i c,x=.str z/\y=.int i/\z.length<=sizeLine/\n8 z.cps.toList i=some c/\Q (.str ⟨#[c]⟩) H
theorem aM:J4 X (As X.K):=by
 intro value slice pins s σ H x y v u Q I rx ry h hs;obtain⟨p,xs,i,z,rfl,rfl,hq,he,q⟩:=h;cases rx;obtain⟨t,rfl⟩:=ry;obtain⟨LF,r,pl,hz⟩:=I.list hq;obtain⟨j,h1,h2,h3,h4,h5⟩:=tm he;obtain⟨w,ew,NO⟩:=r.get h2;have hl:=r.length;have hn:=lG;have fin:EP X pins σ Q w s:=⟨z,H,I,NO,q⟩;by_cases h0:0<=i
 · have hj:i.toNat=j:=by
    rw[seqIndex_of h0 h5] at h1;exact X8 h1
   exact item_listR pl.isList h0 (by omega) (by rw[hj];simpa using ew) fin hs
 · have hj:(i+(LF.toArray.size:Int)).toNat=j:=by
    rw[seqIndex_neg (by omega) h4] at h1;rw[XS,←hl];exact X8 h1
   exact subscriptTail_builtinR (x:=w) pl.isList.typeIs slot_list_getitem.lookup
    (wpAny_getItem_list_neg (Q:=λr s'=>r=w/\EP X pins σ Q r s') pl.isList (by omega) (by rw[XS] <;> omega) (by omega) (by rw[hj];simpa using ew) ⟨rfl,fin⟩) hs
theorem A8:J4 X (IP X.K):=by
 intro value slice pins s σ H x y v u Q I rx ry h hs;obtain⟨p,xs,i,z,rfl,rfl,hq,he,q⟩:=h;cases rx;obtain⟨t,rfl⟩:=ry;obtain⟨LF,r,pl,hz⟩:=I.tuple hq;obtain⟨j,h1,h2,h3,h4,h5⟩:=tm he;obtain⟨w,ew,NO⟩:=r.get h2;have hl:=r.length;have hn:=lG;have fin:EP X pins σ Q w s:=⟨z,H,I,NO,q⟩;exact subscriptTail_builtinR (x:=w) pl.typeIs slot_tuple_getitem.lookup
  (getItem_tuple (j:=j) (Q:=λr s'=>r=w/\EP X pins σ Q r s') pl (by omega) (by omega) (by rw[XS,←hl];exact h1) (by simpa using ew) ⟨rfl,fin⟩) hs
theorem tq:J4 X Iz:=by
 intro value slice pins s σ H x y v u Q I rx ry h hs;obtain⟨z,i,c,rfl,rfl,hz,he,q⟩:=h;obtain⟨t,rfl⟩:=rx;obtain⟨t',rfl⟩:=ry;obtain⟨j,h1,h2,h3,h4,h5⟩:=tm he;have hl:z.cps.toList.length=z.length:=by simp[Str.length]
 rw[hl] at h1 h4 h5;have hn:=lG;exact tail_any (ZW s z t) slot_str_getitem.lookup (getItem_str (c:=c) (by
  have e1:decide (i < -(2 ^ 63:Int))=false:=Yj (by omega);have e2:decide (i ≥ 2 ^ 63)=false:=Yj (by omega);rw[e1,e2,ZJ]) (by rw[h1];simpa using h2) ⟨.str ⟨#[c]⟩,H,I.tok _,⟨_,rfl⟩,q⟩) hs
theorem wJ (LF:aak)(n j:Nat)(u:Value):Obj.mapSeq (·.setIfInBounds j u) {cls:=.type "list",data:=.seq LF.toArray n}={cls:=.type "list",data:=.seq (LF.set j u).toArray n}:=by
 simp[Obj.mapSeq]
theorem Inv.lst {pins:aaj}{σ:St}{H:Hp}{s:Shared}{p:Addr}{xs:List V}(I:Inv X pins σ H s)(h:H p=some (.lst xs)) :
  ∃(LF:aak) (n:Nat),Vals xs LF/\s.heap.get? p=some {cls:=.type "list",data:=.seq LF.toArray n}/\xs.length<=sizeLine:=by
 obtain⟨z,LF,n,r,e⟩:=I.bu p _ h;exact⟨LF,n,r,e,z⟩
theorem Inv.G3 {pins:aaj}{σ:St}{H:Hp}{s:Shared}{p:Addr}{xs ys:List V}{LF its':aak}{n n':Nat}{f:Obj->Obj}(I:Inv X pins σ H s)(h:H p=some (.lst xs))
  (ho:s.heap.get? p=some {cls:=.type "list",data:=.seq LF.toArray n})(hf:f {cls:=.type "list",data:=.seq LF.toArray n}={cls:=.type "list",data:=.seq its'.toArray n'})(r:Vals ys its')(hz:ys.length<=sizeLine)(t:Nat) :
  Inv X pins σ (upd H p (.lst ys)) {s with heap:=s.heap.update p f,toks:=t}:=by
 have e:(s.heap.update p f).get? p=some {cls:=.type "list",data:=.seq its'.toArray n'}:=by
  rw[Yu f ho (by rw[hf] <;> rfl),hf]
 refine I.write (x:=p) (e:=p) (by rw[h];trivial) (.inl rfl) (λb u hb q=>(Zr _ _ (Z8 hb)).trans q) ⟨_,e⟩ ?_;exact⟨hz,its',n',r,e⟩
def IY:V->V->V->Hp->(Hp->Prop)->Prop:=λo i v H Q=>∃p xs k j,o=.ref p/\i=.int k/\H p=some (.lst xs)/\E5 xs.length k=some j/\Q (upd H p (.lst (xs.set j v)))
theorem set_list:IH X IY:=by
 intro pins s σ H o i v ov iv u Q I ro ri rv h;obtain⟨p,xs,k,j,rfl,rfl,hp,hj,q⟩:=h;cases ro;obtain⟨t,rfl⟩:=ri;obtain⟨LF,n,r,ho,hz⟩:=I.lst hp;obtain⟨h1,h2,h3,h4⟩:=y9 hj;have hl:=r.length;have hn:=lG;have I':Inv X pins σ (upd H p (.lst (xs.set j v))) {s with heap:=s.heap.update p (Obj.mapSeq (·.setIfInBounds j u))} :=
  I.G3 hp ho (wJ LF n j u) (r.set rv j) (by rw[List.length_set];exact hz) s.toks
 by_cases h0:0<=k
 · have hk:k.toNat=j:=by
    rw[seqIndex_of h0 h4] at h1;exact X8 h1
   exact PySem.W.ki_setAt ho h0 (by omega) (by rw[XS,←hl];exact h4) (by rw[hk];exact⟨_,I',q⟩)
 · have hk:(k+(LF.toArray.size:Int)).toNat=j:=by
    rw[seqIndex_neg (by omega) h3] at h1;rw[XS,←hl];exact X8 h1
   exact PySem.W.ki_setBack ho (by omega) (by rw[XS,←hl];exact h3) (by omega) (by rw[hk];exact⟨_,I',q⟩)
theorem tQ (lo hi:Option Int)(n:Nat):(sliceBounds lo hi none n).1=((HT.cg n 0 lo:Nat):Int)/\(sliceBounds lo hi none n).2.1=((HT.cg n n hi:Nat):Int)/\(sliceBounds lo hi none n).2.2=1:=by
 refine⟨?_,?_,rfl⟩
 · cases lo with
   |none=>simp[sliceBounds,HT.cg]
   |some i =>
    simp only[sliceBounds,HT.cg,Option.getD_none,show (1:Int) > 0 by decide,Zd];by_cases h:i < 0
    · simp only[h,Zd] <;> omega
    · simp only[h,Zu] <;> omega
 · cases hi with
   |none=>simp[sliceBounds,HT.cg]
   |some i =>
    simp only[sliceBounds,HT.cg,Option.getD_none,show (1:Int) > 0 by decide,Zd];by_cases h:i < 0
    · simp only[h,Zd] <;> omega
    · simp only[h,Zu] <;> omega
theorem qT (LF:aak)(lo hi:Option Int):slicePick LF.toArray lo hi none=((LF.drop (HT.cg LF.length 0 lo)).take (HT.cg LF.length LF.length hi - HT.cg LF.length 0 lo)).toArray:=by
 obtain⟨h1,h2,h3⟩:=tQ lo hi LF.toArray.size;unfold slicePick;rw[h1,h2,h3];simp only[sliceRange_one,pick_run,XS] <;> rfl
def Kv (K:aag):V->Option Int->Option Int->Hp->VK->Prop:=λx lo hi H Q=>∃a xs,x=.ref a/\aP K H a xs/\∀p,H p=none->Q (.ref p) (upd H p (.lst (fC xs lo hi)))
theorem fk:Jk X (Kv X.K):=by
 intro pins s σ H x v vl vu lo hi sl Q I rx hs pl pu h;obtain⟨a,xs,rfl,hx,q⟩:=h;cases rx;obtain⟨LF,r,ht,hz⟩:=I.list hx;have hlen:=r.length;refine⟨"list",_,slot_list_getitem.lookup,ht.isList.typeIs,?_⟩;refine wpAny_getItem_list_slice ht.isList hs pl pu .none (by simp) ?_ (by rw[XS] <;> omega);rw[qT,←hlen];refine⟨.ref s.heap.objs.size,_,I.laid (t':=s.toks) (o:=.lst (fC xs lo hi)) (λb ob q=>Xx _ q) (XD _) ?_,rfl,q _ (I.bu.fresh (XD _))⟩;exact⟨Yi (nW xs lo hi) hz,_,0,(r.drop (HT.cg xs.length 0 lo)).take (HT.cg xs.length xs.length hi - HT.cg xs.length 0 lo),XM _ rfl⟩
def dO:V->Bool
 |.cj=>true
 |.bl _=>true
 |.int _=>true
 |.str _=>true
 |_=>false
def r9:V->V->Bool
 |.cj,.cj=>true
 |.bl a,.bl b=>a==b
 |.bl a,.int b=>(if a then 1 else 0)==b
 |.int a,.bl b=>a==(if b then 1 else 0)
 |.int a,.int b=>a==b
 |.str a,.str b=>a==b
 |_,_=>false
theorem Hd {A:Around}{s:Shared}{y x:V}{u v:Value}(ry:RelV y u)(rx:RelV x v)(fy:dO y=true)(fx:dO x=true):SeqAt.EqAt A s u v (r9 y x):=by
 cases y with
 |cj =>
  cases ry;cases x with
  |cj=>cases rx;exact SeqAt.EqAt.same _
  |bl b=>cases rx;exact SeqAt.EqAt.none_bool b
  |int b=>obtain⟨t,rfl⟩:=rx;exact SeqAt.EqAt.none_int b t
  |str b=>obtain⟨t,rfl⟩:=rx;exact SeqAt.EqAt.none_str b t
  |_=>exact absurd (show false=true from fx) XW
 |bl a =>
  cases ry;cases x with
  |cj=>cases rx;exact SeqAt.EqAt.bool_none a
  |bl b=>cases rx;exact SeqAt.EqAt.bool_bool a b
  |int b=>obtain⟨t,rfl⟩:=rx;exact SeqAt.EqAt.bool_int a b t
  |str b=>obtain⟨t,rfl⟩:=rx;exact SeqAt.EqAt.bool_str a b t
  |_=>exact absurd (show false=true from fx) XW
 |int a =>
  obtain⟨t',rfl⟩:=ry;cases x with
  |cj=>cases rx;exact SeqAt.EqAt.int_none a t'
  |bl b=>cases rx;exact SeqAt.EqAt.int_bool a t' b
  |int b=>obtain⟨t,rfl⟩:=rx;exact SeqAt.EqAt.int_int a t' b t
  |str b=>obtain⟨t,rfl⟩:=rx;exact SeqAt.EqAt.int_str a t' b t
  |_=>exact absurd (show false=true from fx) XW
 |str a =>
  obtain⟨t',rfl⟩:=ry;cases x with
  |cj=>cases rx;exact SeqAt.EqAt.str_none a t'
  |bl b=>cases rx;exact SeqAt.EqAt.str_bool a t' b
  |int b=>obtain⟨t,rfl⟩:=rx;exact SeqAt.EqAt.str_int a t' b t
  |str b=>obtain⟨t,rfl⟩:=rx;exact SeqAt.EqAt.str_str a t' b t
  |_=>exact absurd (show false=true from fx) XW
 |_=>exact absurd (show false=true from fy) XW
def v8 (x:V)(u:Value):Bool:=match u with
 |.none=>r9 .cj x
 |.bool b=>r9 (.bl b) x
 |.int i _=>r9 (.int i) x
 |.str z _=>r9 (.str z) x
 |_=>false
theorem lJ {x y:V}{u:Value}(r:RelV y u)(f:dO y=true):v8 x u=r9 y x:=by
 cases y with
 |cj=>cases r;rfl
 |bl b=>cases r;rfl
 |int i=>obtain⟨t,rfl⟩:=r;rfl
 |str z=>obtain⟨t,rfl⟩:=r;rfl
 |_=>exact absurd (show false=true from f) XW
theorem mK {x:V}:∀{xs:List V} {us:aak},Vals xs us->xs.all dO=true->us.any (v8 x)=xs.any λy=>r9 y x
 |_,_,.nil,_=>rfl
 |y::xs,u::us,.cons r t,f=>by
  rw[ZI,XB] at f;rw[Y3,Y3,lJ r f.1,mK t f.2]
theorem gu {A:Around}{s:Shared}{x:V}{v:Value}(rx:RelV x v)(fx:dO x=true):∀{xs:List V} {us:aak},Vals xs us->xs.all dO=true->∀u∈us,SeqAt.EqAt A s u v (v8 x u)
 |_,_,.nil,_=>λu hu=>by cases hu
 |y::xs,u::us,.cons r t,f=>λu' hu=>by
  rw[ZI,XB] at f;rcases Xy.mp hu with rfl|hu
  · rw[lJ r f.1];exact Hd r rx f.1 fx
  · exact gu rx fx t f.2 u' hu
def oh (x:V)(xs:List V):Bool:=xs.any λy=>r9 y x
def Hz (K:aag)(neg:Bool):R2:=λx y H Q=>∃p xs,y=.ref p/\(aP K H p xs∨b7 K H p xs)/\dO x=true/\xs.all dO=true/\Q (.bl (if neg then !oh x xs else oh x xs)) H
theorem gg:jT X (compareOp .In) (Hz X.K false):=by
 intro pins s σ H x y v u Q I rx ry h;obtain⟨p,xs,rfl,hq,fx,fs,q⟩:=h;cases ry;rcases hq with hq|hq
 · obtain⟨LF,r,pl,hz⟩:=I.list hq;refine SeqAt.in_listAt (v8 x) pl.isList (λw hw=>gu rx fx r fs w (by simpa using hw)) ⟨.bl _,H,I,rfl,?_⟩;rw[show LF.toArray.any (v8 x)=LF.any (v8 x) by simp,mK r fs];exact q
 · obtain⟨LF,r,pl,hz⟩:=I.tuple hq;refine SeqAt.in_tupleAt (v8 x) pl (λw hw=>gu rx fx r fs w (by simpa using hw)) ⟨.bl _,H,I,rfl,?_⟩;rw[show LF.toArray.any (v8 x)=LF.any (v8 x) by simp,mK r fs];exact q
theorem eD:jT X (compareOp .NotIn) (Hz X.K true):=by
 intro pins s σ H x y v u Q I rx ry h;obtain⟨p,xs,rfl,hq,fx,fs,q⟩:=h;cases ry;rcases hq with hq|hq
 · obtain⟨LF,r,pl,hz⟩:=I.list hq;refine SeqAt.notIn_listAt (v8 x) pl.isList (λw hw=>gu rx fx r fs w (by simpa using hw)) ⟨.bl _,H,I,rfl,?_⟩;rw[show LF.toArray.any (v8 x)=LF.any (v8 x) by simp,mK r fs];exact q
 · obtain⟨LF,r,pl,hz⟩:=I.tuple hq;refine SeqAt.notIn_tupleAt (v8 x) pl (λw hw=>gu rx fx r fs w (by simpa using hw)) ⟨.bl _,H,I,rfl,?_⟩;rw[show LF.toArray.any (v8 x)=LF.any (v8 x) by simp,mK r fs];exact q
theorem uv:ie X (.builtin "len") (λxs H Q=>∃p ys,xs=[.ref p]/\(aP X.K H p ys∨b7 X.K H p ys)/\Q (.int ys.length) H):=by
 intro pins s σ H xs us Q I r h;obtain⟨p,ys,rfl,hq,q⟩:=h;obtain⟨u,rfl,rx⟩:=vals1 r;cases rx;have hn:=lG;rcases hq with hq|hq
 · obtain⟨LF,r',pl,hz⟩:=I.list hq;have hlen:=r'.length;exact Calls.call_len_list pl.isList (by simp only[XS] <;> omega) ⟨.int ys.length,H,I.tok _,⟨s.toks+1,by rw[XS,hlen]⟩,q⟩
 · obtain⟨LF,r',pl,hz⟩:=I.tuple hq;have hlen:=r'.length;exact len_tuple pl (by simp only[XS] <;> omega) ⟨.int ys.length,H,I.tok _,⟨s.toks+1,by rw[XS,hlen]⟩,q⟩
theorem fR:ie X (.builtin "len") (λxs H Q=>∃z,xs=[.str z]/\z.length<=sizeLine/\Q (.int z.length) H):=by
 intro pins s σ H xs us Q I r h;obtain⟨z,rfl,hz,q⟩:=h;obtain⟨u,rfl,t,rfl⟩:=vals1 r;have hn:=lG;exact len_str (by omega) ⟨.int z.length,H,I.tok _,⟨_,rfl⟩,q⟩
theorem qU:ie X (.type "tuple") (λxs H Q=>∃p ys,xs=[.ref p]/\((aP X.K H p ys/\∀l,H l=none->Q (.ref l) (upd H l (.tup ys)))∨(b7 X.K H p ys/\Q (.ref p) H))):=by
 intro pins s σ H xs us Q I r h;obtain⟨p,ys,rfl,h⟩:=h;obtain⟨u,rfl,rx⟩:=vals1 r;cases rx;rcases h with ⟨hq,q⟩|⟨hq,q⟩
 · obtain⟨LF,r',pl,hz⟩:=I.list hq;have hlen:=r'.length;refine call_tuple_list pl.isList (λh' kp=>?_) (by simp only[XS] <;> omega);have I1:Inv X pins σ H {s with heap:=h'}:=I.kept (t':=s.toks) kp;have I2:Inv X pins σ (upd H h'.objs.size (.tup ys)) {s with heap:=h'.push {cls:=.type "tuple",data:=.seq LF.toArray}} :=
    I1.laid (t':=s.toks) (λb o e=>Xx _ e) (XD _) (show bK X.prog X.w _ _ _ (.tup ys) from ⟨hz,LF,r',IsTup.new _ _⟩)
   exact⟨.ref h'.objs.size,_,I2,rfl,q _ (I1.bu.fresh (XD _))⟩
 · obtain⟨LF,r',pl,hz⟩:=I.tuple hq;exact call_tuple_same pl ⟨.ref p,H,I,rfl,q⟩
def La (K:aag)(T:String)(x:V)(H:Hp):Prop:=match x with
 |.str _=>T="str"
 |.int _=>T="int"
 |.ref p=>(T="list"/\∃xs,aP K H p xs)∨(T="tuple"/\∃o,K.lookup p=some o/\o.cls=.type "tuple"/\o.dict=none) ∨
   (T="dict"/\((∃LD,H p=some (.dK LD))∨∃LD,H p=some (.dT LD)))∨(T="set"/\∃S n,H p=some (.set S n))
 |_=>False
theorem HH {pins:aaj}{σ:St}{H:Hp}{s:Shared}{T:String}{x:V}{v:Value}(I:Inv X pins σ H s)(r:RelV x v)(ty:La X.K T x H) :
  s.TypeIs v T/\∀a,v=.ref a->∃ob,s.heap.get? a=some ob/\ob.dict=none:=by
 cases x with
 |str z =>
  obtain⟨t,rfl⟩:=r;cases (show T="str" from ty);exact⟨ZW s z t,λ_ e=>nomatch e⟩
 |int i =>
  obtain⟨t,rfl⟩:=r;cases (show T="int" from ty);exact⟨typeIs_int s i t,λ_ e=>nomatch e⟩
 |ref p =>
  cases r;rcases ty with ⟨rfl,xs,hq⟩|⟨rfl,o,hk,hc,hd⟩|⟨rfl,hk⟩|⟨rfl,S,n,hk⟩
  · obtain⟨LF,_,pl,_⟩:=I.list hq;refine⟨pl.isList.typeIs,λa e=>?_⟩;cases e;obtain⟨o,n,e,c,hd,_⟩:=pl;exact⟨o,e,hd⟩
  · refine⟨⟨o,I.mV p o hk,hc⟩,λa e=>?_⟩;cases e;exact⟨o,I.mV _ o hk,hd⟩
  · have z:∃o,s.heap.get? p=some o/\o.ExactDict:=by
     rcases hk with ⟨LD,hk⟩|⟨LD,hk⟩
     · obtain⟨_,_,_,_,o,_,_,e,ex,_⟩:=I.bu p _ hk;exact⟨o,e,ex⟩
     · obtain⟨_,_,_,_,o,_,_,e,ex,_⟩:=I.bu p _ hk;exact⟨o,e,ex⟩
    obtain⟨o,e,ex⟩:=z;refine⟨⟨o,e,ex.1⟩,λa e2=>?_⟩;cases e2;exact⟨o,e,ex.2.1⟩
  · obtain⟨o,_,_,_,e,ex,_⟩:=I.bu p _ hk;refine⟨⟨o,e,ex.1⟩,λa e2=>?_⟩;cases e2;exact⟨o,e,ex.2.1⟩
 |_=>exact False.elim ty
def LB (K:aag)(T:String)(r:V->List V->Hp->VK->Prop)(to:TE)(t:TA):TE:=λσ H Q=>to σ H λx H1=>La K T x H1/\t σ H1 λxs H2=>r x xs H2 Q
variable {o e:Expr}{es:List Expr}{to:TE}{t:TA}{name:Str}{apos LK:Pos}{T id:String}{r:V->List V->Hp->VK->Prop}
theorem qu (pa:PlainAttrs T) (slot:Slot T name id) (Ob:typeOf (.builtin id)=pure (.type "method_descriptor")) (hm:Br X id r) (ho:PE X o to) (ha:PA X (e::es) t)
  (LU:attributeBase o name X.env (eval o X.env)=eval o X.env:=by rfl)
  (QW:((backTo LK (starEach (e::es) X.env)).all (λx=>!x.1)&&(backToKw LK (keywordEach [] X.env)).all (λx=>x.1.isSome)
   && decide ((e::es).length+([]:List Keyword).length+(if ([]:List Keyword).isEmpty then 0 else 1) < 30))=true:=by rfl)
  (LV:(apos.endLine==LK.line)=true:=by rfl) (hs:starEach (e::es) X.env=(false,eval e X.env)::starEach es X.env:=by rfl) (NP:(backTo LK (starEach es X.env)).any (·.1)=false:=by rfl) :
  PE X (.Call (.Attribute o name apos) (e::es) [] LK) (LB X.K T r to t):=by
 intro pins s σ H Q I h;refine wpAny_Call_method_late LU QW LV rfl (bB (ho pins s σ H _ I h) λv s1 ⟨x,H1,I1,r1,ty,q1⟩=>?_);obtain⟨h1,h2⟩:=HH I1 r1 ty;refine⟨T,id,pa,slot,Ob,h1,h2,?_⟩;have hA:=ha LK pins s1 σ H1 _ I1 q1;rw[hs] at hA ⊢;refine ZU (by show (false||(backTo LK (starEach es X.env)).any (·.1))=false;rw[NP] <;> rfl) (Calls.evalArgs_plain ?_);exact bB hA λus s2 ⟨vs,H2,I2,r2,q2⟩=>hm pins s2 σ H2 x vs v us Q I2 r1 r2 q2
end
def Lb (X:Cx)(id:String)(r:V->List V->Hp->VK->Prop):Prop :=
 ∀(pins:aaj) (s:Shared) (σ:St) (H:Hp) (x:V) (xs:List V) (v:Value) (us:aak) (Q:VK),Inv X pins σ H s->RelV x v->Vals xs us->r x xs H Q ->
  wpAny (model X.prog X.w) X.A (call (.builtin id) (v::us)) (EP X pins σ Q) X.xe s
theorem Vals.one:∀{x:V} {us:aak},Vals [x] us->∃u,us=[u]/\RelV x u
 |_,_,.cons r .nil=>⟨_,rfl,r⟩
section
variable {X:Cx}{pins:aaj}{σ:St}{H:Hp}{s:Shared}{l b:Addr}{xs ys zs:List V}
theorem Inv.Ke {LF its':aak} {n:Nat} {f:Array Value->Array Value} {t':Nat} (I:Inv X pins σ H s) (hH:H l=some (.lst xs))
  (e:s.heap.get? l=some {cls:=.type "list",data:=.seq LF.toArray n}) (hf:f LF.toArray=its'.toArray) (hv:Vals ys its') (hz:ys.length<=sizeLine) :
  Inv X pins σ (upd H l (.lst ys)) {s with heap:=s.heap.update l (Obj.mapSeq f),toks:=t'}:=by
 have q:=PySem.IsL.update e f;rw[hf] at q;refine I.write (x:=l) (e:=l) (by rw[hH];exact trivial) (.inl rfl) (λb' u hb hu=>(Zr s.heap (Obj.mapSeq f) (Z8 hb)).trans hu) ⟨_,q⟩ ?_;exact⟨hz,its',_,hv,q⟩
theorem Inv.Kh {LF:aak}{t':Nat}(I:Inv X pins σ H s)(hv:Vals ys LF)(hz:ys.length<=sizeLine) :
  Inv X pins σ (upd H s.heap.objs.size (.lst ys)) {s with heap:=s.heap.push {cls:=.type "list",data:=.seq LF.toArray},toks:=t'} :=
 I.laid (λ_ _ q=>Xx _ q) (XD _) ⟨hz,LF,0,hv,XM _ rfl⟩
theorem Inv.fresh (I:Inv X pins σ H s):H s.heap.objs.size=none:=I.bu.fresh (XD _)
theorem Inv.HN (I:Inv X pins σ H s)(hH:H l=some (.lst xs)):xs.length<=sizeLine/\∃(LF:aak) (n:Nat),Vals xs LF/\xs.length=LF.length/\s.heap.get? l=some {cls:=.type "list",data:=.seq LF.toArray n}:=by
 obtain⟨z,LF,n,r,e⟩:=I.bu l _ hH;exact⟨z,LF,n,r,r.length,e⟩
end
section
variable {X:Cx}
def Fe:V->List V->Hp->VK->Prop:=λx vs H Q=>∃l xs y,x=.ref l/\vs=[y]/\H l=some (.lst xs)/\xs.length < sizeLine/\Q .cj (upd H l (.lst (xs++[y])))
theorem iA:Lb X "list.append" Fe:=by
 intro pins s σ H x vs v us Q I rx rv h;obtain⟨l,xs,y,rfl,rfl,hH,hz,q⟩:=h;cases rx;obtain⟨u,rfl,ru⟩:=rv.one;obtain⟨z,LF,n,r,hl,e⟩:=I.HN hH;refine call_meets F.slot_list_append ⟨_,e,rfl⟩ F.entry_list_append (F.args_list_append_2 _ _) (PySem.list_append l LF.toArray n u (by rw[XS];omega)) ⟨e,?_⟩;refine⟨.cj,_,I.Ke (its':=LF++[u]) hH e (by simp) (r.append (.cons ru .nil)) ?_,rfl,q⟩;rw[XT,YI];omega
def J6:R2:=λx y H Q=>∃l b xs zs,x=.ref l/\y=.ref b/\H l=some (.lst xs)/\H b=some (.lst zs)/\xs.length+zs.length<=sizeLine/\∀p,H p=none->Q (.ref p) (upd H p (.lst (xs++zs)))
theorem wF:jT X (binaryOp .Add) J6:=by
 intro pins s σ H x y v u Q I rx ry h;obtain⟨l,b,xs,zs,rfl,rfl,hH,hB,hz,q⟩:=h;cases rx;cases ry;obtain⟨z,LF,n,r,hl,e⟩:=I.HN hH;obtain⟨z2,L7,n2,r2,U2,e2⟩:=I.HN hB;refine PySem.P.add_list e e2 ?_ (by rw[XS,XS];omega);have ea:LF.toArray++L7.toArray=(LF++L7).toArray:=by simp
 rw[ea];exact⟨.ref _,_,I.Kh (t':=s.toks) (r.append r2) (by rw[XT];omega),rfl,q _ I.fresh⟩
end
section
variable {prog:Program}{w:World}{A:Around}{E:aah}{s:Shared}
end
section
variable {X:Cx}
end
theorem Vals.ints:∀{ns:List Int} {us:aak},Vals (ns.map V.int) us->IntsAre us ns
 |[],us,h=>by
  rw[YU] at h;cases h;exact IntsAre.nil
 |n::ns,us,h=>by
  rw[XN] at h;cases h with
  |cons r t =>
   obtain⟨k,rfl⟩:=r;exact IntsAre.cons n k (Vals.ints t)
theorem lZ:∀{us:aak} {ns:List Int},IntsAre us ns->Vals (ns.map V.int) us
 |_,_,.nil=>by rw[YU];exact Paired.nil
 |_,_,.cons n t h=>by rw[XN];exact Paired.cons (show RelV (V.int n) (Value.int n t) from ⟨t,rfl⟩) (lZ h)
theorem Vals.KI:∀{bs:List Bool} {us:aak},Vals (bs.map V.bl) us->us=bs.map Value.bool
 |[],us,h=>by
  rw[YU] at h;cases h;rfl
 |b::bs,us,h=>by
  rw[XN] at h;cases h with
  |cons r t =>
   cases r;rw[Vals.KI t,XN]
theorem Vals.wj {a:Addr}{us:aak}(r:Vals [V.ref a] us):us=[Value.ref a]:=by
 cases r with
 |cons r t =>
  cases t;cases r;rfl
section
variable {prog:Program}{w:World}{A:Around}{E:aah}{s:Shared}{l:Addr}{LF:aak}{ns:List Int}{Q:aah}
theorem Dx (hh:A.handled=none) (hl:s.heap.IsList l LF.toArray) (hi:IntsAre LF ns)
  (h:∀h' tk t',(∀b o,s.heap.get? b=some o->h'.get? b=some o)->Q (.int ns.sum t') {s with heap:=h',toks:=tk}):wpAny (model prog w) A (call (.builtin "sum") [.ref l]) Q E s:=by
 obtain⟨xs,e⟩:=hi.allInts.items;have hn:numsOf (intItems xs).toList=ns:=by rw[←e];exact hi.numsOf
 rw[nums_intItems] at hn;rw[e] at hl;refine PySem.sum_intListG hh hl λh' tk t' hk=>?_;have:=h h' tk t' hk;rw[preSum_eq,Yr (by simp),hn];exact this
end
section
variable {X:Cx}
def IC (K:aag):List V->Hp->VK->Prop:=λvs H Q=>∃(a:Addr) (ns:List Int),vs=[V.ref a]/\aP K H a (ns.map V.int)/\Q (.int ns.sum) H
theorem wH (hc:X.calm=true):ie X (.builtin "sum") (IC X.K):=by
 intro pins s σ H vs us Q I r h;obtain⟨a,ns,rfl,hs,q⟩:=h;obtain⟨LF,rv,hl,_⟩:=I.list hs;rw[Vals.wj r];exact Dx (I.ok.hd hc) hl.isList rv.ints λh' tk t' hk=>⟨.int _,H,I.kept hk,⟨_,rfl⟩,q⟩
theorem yO {n:Nat}(h:n < 64):n<=sizeLine:=by rw[XZ];omega
end
section
variable {X:Cx}
def HE (K:aag):V->List V->Hp->VK->Prop:=λx xs H Q=>∃(a:Addr) (ys:List V) (y:V) (j:Nat) (z:V),x=V.ref a/\xs=[y]/\aP K H a ys/\dO y=true/\ys.all dO=true/\ys[j]?=some z/\r9 z y=true /\
 (∀(m:Nat) (z':V),m < j->ys[m]?=some z'->r9 z' y=false)/\Q (.int (j:Nat)) H
theorem zj {ys:List V}(f:ys.all dO=true){j:Nat}{z:V}(h:ys[j]?=some z):dO z=true:=X1.mp f z (X0 h)
theorem BZ:Br X "list.index" (HE X.K):=by
 intro pins s σ H x xs v us Q I rx QX h;obtain⟨a,ys,y,j,z,rfl,rfl,hs,fy,Nl,hz,Vb,MV,q⟩:=h;cases rx;cases QX with
 |cons ry rt =>
  rename_i uy ut;cases rt;obtain⟨LF,rv,⟨⟨cls,dd,data,sl⟩,n,ho,hc,PQ,hd⟩,hlen⟩:=I.list hs;simp only at hc hd;subst hc hd;obtain⟨u,hu,ru⟩:=rv.get hz;obtain⟨Oc,Vc⟩:=XI.mp hu;have hvl:=rv.length;have hj:j < LF.toArray.size:=by simpa using Oc
  have NQ:=XZ;refine call_meets PySem.F.slot_list_index ⟨_,ho,rfl⟩ PySem.F.entry_list_index (PySem.F.args_list_index_2 _ _)
   (SeqAt.list_indexAt a LF.toArray n dd sl uy (v8 y) j hj (by omega) ?_ ?_) ⟨ho,λu' QY=>gu ry fy rv Nl u' (by simpa using QY),?_⟩
  · have e1:LF.toArray[j]=u:=by simpa using Vc
    rw[e1,lJ ru (zj Nl hz)];exact Vb
  · intro m hm Vd;have Nm:m < LF.length:=by simpa using hm
    have Ve:m < ys.length:=by omega
    have Nn:ys[m]?=some ys[m]:=XE Ve;obtain⟨u2,QZ,Q0⟩:=rv.get Nn;obtain⟨_,Vf⟩:=XI.mp QZ;have e1:LF.toArray[m]=u2:=by simpa using Vf
    rw[e1,lJ Q0 (zj Nl Nn)];exact MV m _ Vd Nn
  · exact⟨.int (j:Nat),H,I.tok _,⟨_,rfl⟩,q⟩
end
section
variable {X:Cx}
end
theorem vF {prog:Program}{w:World}{A:Around}{E:aah}{s:Shared}{l:Addr}{items:Array Value}{Q:aah}(hl:s.heap.IsList l items)
  (h:∀s₂:Shared,s₂={s with heap:=s.heap.push {cls:=.type "list_iterator",data:=.fields #[.ref l,.int 0 0]}} ->
   (s₂.heap.IsListIter s.heap.objs.size l 0/\s₂.heap.IsList l items)->l≠s.heap.objs.size->Q (.ref s.heap.objs.size) s₂):wpAny (model prog w) A (pyIter (.ref l)) Q E s:=by
 have LJ:l < s.heap.objs.size:=by obtain⟨_,e,_⟩:=hl;exact XH e
 exact wpAny_pyIter_list hl (h _ rfl ⟨⟨_,XM _ rfl,rfl,rfl⟩,hl.push _⟩ (X7 LJ))
theorem nI {prog:Program}{w:World}{A:Around}{bs:List Bool}{LF:aak}(e:LF=bs.map Value.bool) :
  TruthOf prog w A (λi v=>LF.toArray[i]?=some v) (λi=>bs.getD i false):=λi v s Q E hv hq=>by
 have PL:LF[i]?=some v:=by simpa using hv
 rw[e,Xz] at PL;obtain⟨b,hb,rfl⟩:=X6.mp PL;have hg:bs.getD i false=b:=by rw[Yd,hb] <;> rfl
 have MU:Q (bs.getD i false) s:=hq;rw[hg] at MU;exact YJ MU
theorem any_range:∀bs:List Bool,(List.range bs.length).any (λi=>bs.getD i false)=bs.any id
 |[]=>rfl
 |b::bs=>by
  rw[XG,List.range_succ_eq_map,Y3,ZS,Y3,←any_range bs]
  all_goals rfl
theorem all_range:∀bs:List Bool,(List.range bs.length).all (λi=>bs.getD i false)=bs.all id
 |[]=>rfl
 |b::bs=>by
  rw[XG,List.range_succ_eq_map,ZI,ZE,ZI,←all_range bs]
  all_goals rfl
section
variable {X:Cx}
def Kn (K:aag):List V->Hp->VK->Prop:=λvs H Q=>∃(a:Addr) (bs:List Bool),vs=[V.ref a]/\aP K H a (bs.map V.bl)/\Q (.bl (bs.any id)) H
def Kd (K:aag):List V->Hp->VK->Prop:=λvs H Q=>∃(a:Addr) (bs:List Bool),vs=[V.ref a]/\aP K H a (bs.map V.bl)/\Q (.bl (bs.all id)) H
theorem C3 (hc:X.calm=true):ie X (.builtin "any") (Kn X.K):=by
 intro pins s σ H vs us Q I r h;obtain⟨a,bs,rfl,hs,q⟩:=h;obtain⟨LF,rv,hl,_⟩:=I.list hs;rw[Vals.wj r];have hb:=rv.KI;refine call_any_walk (vF hl.isList λs₂ e2 st LQ=>?_);subst e2;refine⟨_,_,_,_,_,_,_,rfl,Walks.list (A:=X.A.in1) (I.ok.hd hc) _ a LQ LF.toArray,st,nI hb,λh' tk hk=>?_⟩;refine⟨.bl _,H,I.kept λb o eo=>hk b o (λMm=>?_) (Xx _ eo),?_,q⟩
 · rcases Xy.mp Mm with e1|Mm
   · exact absurd (e1 ▸ XH eo) (YQ _)
   · cases Mm
 · show Value.bool _=Value.bool _;rw[←any_range,hb,XS,Xu]
theorem xY (hc:X.calm=true):ie X (.builtin "all") (Kd X.K):=by
 intro pins s σ H vs us Q I r h;obtain⟨a,bs,rfl,hs,q⟩:=h;obtain⟨LF,rv,hl,_⟩:=I.list hs;rw[Vals.wj r];have hb:=rv.KI;refine call_all_walk (vF hl.isList λs₂ e2 st LQ=>?_);subst e2;refine⟨_,_,_,_,_,_,_,rfl,Walks.list (A:=X.A.in1) (I.ok.hd hc) _ a LQ LF.toArray,st,nI hb,λh' tk hk=>?_⟩;refine⟨.bl _,H,I.kept λb o eo=>hk b o (λMm=>?_) (Xx _ eo),?_,q⟩
 · rcases Xy.mp Mm with e1|Mm
   · exact absurd (e1 ▸ XH eo) (YQ _)
   · cases Mm
 · show Value.bool _=Value.bool _;rw[←all_range,hb,XS,Xu]
end
mutual
inductive Dp (K:aag)(H:Hp):V->PyData->Prop
 |cj:Dp K H .cj .none
 |bl (b:Bool):Dp K H (.bl b) (.bool b)
 |int (i:Int):Dp K H (.int i) (.int i)
 |str (x:Str):Dp K H (.str x) (.str x)
 |lst {a:Addr} {xs:List V} {ds:List PyData}:aP K H a xs->qW K H xs ds->Dp K H (.ref a) (.list ds)
 |tup {a:Addr} {xs:List V} {ds:List PyData}:b7 K H a xs->qW K H xs ds->Dp K H (.ref a) (.tuple ds)
inductive qW (K:aag)(H:Hp):List V->List PyData->Prop
 |nil:qW K H [] []
 |cons {v:V} {vs:List V} {d:PyData} {ds:List PyData}:Dp K H v d->qW K H vs ds->qW K H (v::vs) (d::ds)
end
section
variable {X:Cx}{pins:aaj}{σ:St}{H:Hp}{s:Shared}
mutual
theorem Dp.reads (I:Inv X pins σ H s):∀(d:PyData) (v:V) (u:Value),Dp X.K H v d->RelV v u->∃as,Reads s.heap u d as
 |.none,_,_,h,r=>by
  cases h;cases r;exact⟨_,Reads.none⟩
 |.bool b,_,_,h,r=>by
  cases h;cases r;exact⟨_,Reads.bool b⟩
 |.int i,_,_,h,r=>by
  cases h;obtain⟨t,rfl⟩:=r;exact⟨_,Reads.int i t⟩
 |.str x,_,_,h,r=>by
  cases h;obtain⟨t,rfl⟩:=r;exact⟨_,Reads.str x t⟩
 |.list ds,_,_,h,r=>by
  cases h with
  |lst hs ha =>
   cases r;obtain⟨LF,rv,⟨o,n,ho,hc,_,hd⟩,_⟩:=I.list hs;obtain⟨as,hr⟩:=Dp.readsAll I ds _ LF ha rv;exact⟨_,Reads.list ho hc hd hr⟩
 |.tuple ds,_,_,h,r=>by
  cases h with
  |tup hs ha =>
   cases r;obtain⟨LF,rv,⟨o,ho,hc,n,hd⟩,_⟩:=I.tuple hs;obtain⟨as,hr⟩:=Dp.readsAll I ds _ LF ha rv;exact⟨_,Reads.tuple ho hc hd hr⟩
 |.dict _,_,_,h,_=>by cases h
theorem Dp.readsAll (I:Inv X pins σ H s):∀(ds:List PyData) (vs:List V) (us:aak),qW X.K H vs ds->Vals vs us->∃as,ReadsAll s.heap us ds as
 |[],_,_,h,r=>by
  cases h;cases r;exact⟨_,ReadsAll.nil⟩
 |d::ds,_,_,h,r=>by
  cases h with
  |cons h1 h2 =>
   cases r with
   |cons r1 r2 =>
    obtain⟨as,q1⟩:=Dp.reads I d _ _ h1 r1;obtain⟨bs,q2⟩:=Dp.readsAll I ds _ _ h2 r2;exact⟨_,ReadsAll.cons q1 q2⟩
end
end
section
variable {X:Cx}
def K0 (K:aag):R2:=λx y H Q=>∃d e,Dp K H x d/\Dp K H y e/\SeqAt.shaped d=true/\SeqAt.shaped e=true/\Q (.bl (PyData.eqv d e)) H
theorem Hl (hu:X.A.units+64 < cLine):jT X (compareOp .Eq) (K0 X.K):=by
 intro pins s σ H x y v u Q I rx ry h;obtain⟨d,e,hd,he,sd,se,q⟩:=h;obtain⟨as,r1⟩:=Dp.reads I d x v hd rx;obtain⟨bs,r2⟩:=Dp.reads I e y u he ry;exact SeqAt.compareEq_shaped r1 r2 sd se hu ⟨.bl _,H,I,rfl,q⟩
end
end L2
namespace L2
open PySem PySem.Spec PyProof.Rows
abbrev B1 (h:Heap)(c:Addr)(v:Option Value):Prop:=h.IsCell c v
def Kg (scope sc:Scope):Scope :=
 {scope with names:=scope.names.map λ(n,k)=>if (k==.free&&sc.kind==.function&&sc.names.lookup n==some .cell) then (n,.cell) else (n,k)}
def bL (cells:List (Str×Addr)):List (Str×NameKind)->List (Str×Addr)->List (Str×Addr)
 |[],acc=>acc
 |(n,k)::r,acc=>if k==.free then bL cells r ((n,(cells.lookup n).getD 0)::acc) else bL cells r acc
theorem mJ (env:Env)(f:Str×NameKind->List (Str×Addr)->Sem (ForInStep (List (Str×Addr))))
  (hf:∀n k c,f (n,k) c=if k==.free then (do let a ←cellOf env n;pure (.yield ((n,a)::c))) else pure (.yield c)) :
  ∀(names:List (Str×NameKind)) (acc:List (Str×Addr)),(∀y∈names,y.2=.free->∃c,env.cells.lookup y.1=some c)->forIn names acc f=pure (bL env.cells names acc)
 |[],acc,_=>by rw[List.forIn_nil];rfl
 |(n,k)::r,acc,h=>by
  rw[List.forIn_cons,hf];have ih:=λacc=>mJ env f hf r acc λy hy=>h y (XO _ hy);unfold bL;by_cases hk:(k==NameKind.free)=true
  · rw[Xw hk,Xw hk];obtain⟨c,hc⟩:=h (n,k) Yh (by simpa using hk);have e:cellOf env n=pure c:=by unfold cellOf;rw[hc]
    rw[e];have e2:(env.cells.lookup n).getD 0=c:=by rw[hc];rfl
    rw[e2];exact ih _
  · rw[Xv hk,Xv hk];exact ih _
theorem wc {scope:Scope}{env:Env}(h:∀y∈scope.names,y.2=.free->∃c,env.cells.lookup y.1=some c):closureFor scope env=pure (bL env.cells scope.names []):=by
 simp only[closureFor];rw[mJ env _ (λn k c=>rfl) scope.names [] h];rfl
theorem mem_lookup {α:Type}:∀{l:List (Str×α)} {n:Str} {c:α},(n,c)∈l->∃c',l.lookup n=some c'
 |(k,v)::r,n,c,h=>by
  rw[Zj];cases hb:n==k with
  |true=>exact⟨_,rfl⟩
  |false =>
   rcases Xy.mp h with e|h
   · cases e;simp at hb
   · exact mem_lookup h
theorem gW {cells:List (Str×Addr)}:∀{names:List (Str×NameKind)} {acc:List (Str×Addr)} {n:Str} {c:Addr},(n,c)∈bL cells names acc->(n,c)∈acc∨((n,.free)∈names/\c=(cells.lookup n).getD 0)
 |[],_,_,_,h=>.inl h
 |(m,k)::r,acc,n,c,h=>by
  unfold bL at h;split at h
  · rename_i hk;have hk:k=.free:=by simpa using hk
    rcases gW h with h|⟨h1,h2⟩
    · rcases Xy.mp h with e|h
      · cases e;exact .inr ⟨hk ▸ Yh,rfl⟩
      · exact .inl h
    · exact .inr ⟨XO _ h1,h2⟩
  · rcases gW h with h|⟨h1,h2⟩
    · exact .inl h
    · exact .inr ⟨XO _ h1,h2⟩
theorem jw {cells:List (Str×Addr)}:∀{names:List (Str×NameKind)} {acc:List (Str×Addr)} {p:Str×Addr},p∈acc->p∈bL cells names acc
 |[],_,_,h=>h
 |(m,k)::r,acc,p,h=>by
  unfold bL;split
  · exact jw (XO _ h)
  · exact jw h
theorem jP {cells:List (Str×Addr)}:∀{names:List (Str×NameKind)} {acc:List (Str×Addr)} {n:Str},(n,.free)∈names->(n,(cells.lookup n).getD 0)∈bL cells names acc
 |(m,k)::r,acc,n,h=>by
  unfold bL;rcases Xy.mp h with e|h
  · cases e;exact jw Yh
  · split
    · exact jP h
    · exact jP h
theorem ic:∀{names:List (Str×NameKind)} {h:Heap} {acc:List (Str×Addr)} {x:Str} {c:Addr},(x,c)∈cellsFrom h.objs.size names acc ->
  (x,c)∈acc∨((x,.cell)∈names/\h.objs.size<=c/\B1 (pushCells h names) c none)
 |[],_,_,_,_,h=>.inl h
 |(n,k)::r,h,acc,x,c,hm=>by
  unfold cellsFrom at hm;unfold pushCells;split at hm
  · rename_i hk;rw[Xw hk];have hk:k=.cell:=by simpa using hk
    rw[←YD h {cls:=.type "cell",data:=.cell none}] at hm;rcases ic hm with hm|⟨h1,h2,h3⟩
    · rcases Xy.mp hm with e|hm
      · cases e;exact .inr ⟨hk ▸ Yh,XD _,_,pushCells_keeps r _ _ _ (XM _ rfl),rfl⟩
      · exact .inl hm
    · rw[YD] at h2;exact .inr ⟨XO _ h1,Nat.le_of_succ_le h2,h3⟩
  · rename_i hk;rw[Xv hk];rcases ic hm with hm|⟨h1,h2,h3⟩
    · exact .inl hm
    · exact .inr ⟨XO _ h1,h2,h3⟩
theorem kr:∀{names:List (Str×NameKind)} {n:Nat} {acc:List (Str×Addr)} {p:Str×Addr},p∈acc->p∈cellsFrom n names acc
 |[],_,_,_,h=>h
 |(m,k)::r,n,acc,p,h=>by
  unfold cellsFrom;split
  · exact kr (XO _ h)
  · exact kr h
theorem nc:∀{names:List (Str×NameKind)} {n:Nat} {acc:List (Str×Addr)} {x:Str},(x,.cell)∈names->∃c,(x,c)∈cellsFrom n names acc
 |(m,k)::r,n,acc,x,h=>by
  unfold cellsFrom;rcases Xy.mp h with e|h
  · cases e;exact⟨n,kr Yh⟩
  · split
    · exact nc h
    · exact nc h
theorem m_:∀{names:List (Str×NameKind)} {h:Heap} {acc:List (Str×Addr)} {x y:Str} {c:Addr},(∀p∈acc,p.2 < h.objs.size)->(∀x y c,(x,c)∈acc->(y,c)∈acc->x=y) ->
  (x,c)∈cellsFrom h.objs.size names acc->(y,c)∈cellsFrom h.objs.size names acc->x=y
 |[],_,_,_,_,_,_,hi,h1,h2=>hi _ _ _ h1 h2
 |(n,k)::r,h,acc,x,y,c,hl,hi,h1,h2=>by
  unfold cellsFrom at h1 h2;split at h1
  · rename_i hk;rw[Xw hk] at h2;rw[←YD h {cls:=.type "cell",data:=.cell none}] at h1 h2;refine m_ (h:=h.push _) (λp hp=>?_) (λx y c a b=>?_) h1 h2
    · rw[YD];rcases Xy.mp hp with rfl|hp
      · exact ZX _
      · exact Nat.lt_succ_of_lt (hl p hp)
    · rcases Xy.mp a with e|a <;> rcases Xy.mp b with e'|b
      · cases e;cases e';rfl
      · cases e;exact absurd (hl _ b) (YQ _)
      · cases e';exact absurd (hl _ a) (YQ _)
      · exact hi _ _ _ a b
  · rename_i hk;rw[Xv hk] at h2;exact m_ hl hi h1 h2
theorem vb {M:Model}{A:Around}{E:aah}{s:Shared}{scope:Scope}{globals:Addr}{closure:List (Str×Addr)}{qual:Str}{func:Option Addr}{code:Value}{around:Env}{builtins:Addr}{Q:Env->Shared->Prop}
  (h:Q (newEnv scope s.heap.objs.size globals (cellsFrom (s.heap.objs.size+1) scope.names closure) qual func code (some around) builtins)
   {s with heap:=pushCells (s.heap.push {cls:=.type "dict",data:=.dict #[]}) scope.names}) :
  wpAny M A (newFunctionEnv scope globals closure [] qual func code (some around) builtins) Q E s:=by
 simp only[newFunctionEnv,Option.isSome_some,Zd];refine Xs (wpAny_alloc ?_);refine Xs (wpAny_layCells _ (λn k c=>rfl) scope.names closure _ _ ?_);rw[show ({s with heap:=s.heap.push {cls:=.type "dict",data:=.dict #[]}}:Shared).heap.objs.size=s.heap.objs.size+1 from YD ..];rw[List.forIn_nil];exact Xs (XA (XA h))
theorem jv {sc:Scope}:∀{names:List (Str×NameKind)} {x:Str} {k:NameKind},
  (names.map λ(n,k)=>if (k==NameKind.free&&sc.kind==.function&&sc.names.lookup n==some .cell) then (n,NameKind.cell) else (n,k)).lookup x=some k ->
  ∃k',names.lookup x=some k'/\(k=k'∨(k'=.free/\k=.cell))
 |[],_,_,h=>by simp at h
 |(n,k₀)::r,x,k,h=>by
  have ih:=@jv sc r x k;have h':List.lookup x ((if (k₀==NameKind.free&&sc.kind==.function&&sc.names.lookup n==some .cell)=true then (n,NameKind.cell) else (n,k₀))::(r.map _))=some k:=h;cases hx:x==n with
  |true =>
   simp only[Zj,hx];by_cases hc:(k₀==NameKind.free&&sc.kind==.function&&sc.names.lookup n==some .cell)=true
   · rw[Xw hc] at h';simp only[Zj,hx] at h';cases h';simp only[XB,Yl] at hc;exact⟨k₀,rfl,.inr ⟨hc.1.1,rfl⟩⟩
   · rw[Xv hc] at h';simp only[Zj,hx] at h';cases h';exact⟨_,rfl,.inl rfl⟩
  |false =>
   simp only[Zj,hx];by_cases hc:(k₀==NameKind.free&&sc.kind==.function&&sc.names.lookup n==some .cell)=true
   · rw[Xw hc] at h';simp only[Zj,hx] at h';exact ih h'
   · rw[Xv hc] at h';simp only[Zj,hx] at h';exact ih h'
structure u7 (N:List Str)(sc scope:Scope)(own:List (Str×Nat)):Prop where
 kind:scope.kind=.function
 uniq:∀y∈scope.names,scope.names.lookup y.1=some y.2
 ix:∀p∈own,N[p.2]?=some p.1
 free:∀y∈scope.names,y.2=.free->sc.names.lookup y.1=some .cell∨sc.names.lookup y.1=some .free
 own:∀y∈scope.names,y.2=.local∨y.2=.cell->y.1∈own.map (·.1)∨y.1∉N
def wipe (σ:St):aaf->St
 |[]=>σ
 |v::vs=>(wipe σ vs).set v none
theorem jB (σ:St):∀vs:aaf,(wipe σ vs).length=σ.length
 |[]=>rfl
 |v::vs=>by unfold wipe;rw[List.length_set,jB σ vs]
theorem nv {σ:St}{i:Nat}{x:V}:∀{vs:aaf},(wipe σ vs)[i]?=some (some x)->σ[i]?=some (some x)/\i∉vs
 |[],h=>⟨h,by simp⟩
 |v::vs,h=>by
  unfold wipe at h;by_cases hi:v=i
  · subst hi;by_cases hv:v < (wipe σ vs).length
    · rw[ZP hv] at h;cases h
    · rw[Yy (by simpa using hv)] at h;cases h
  · rw[List.getElem?_set_ne hi] at h;obtain⟨h1,h2⟩:=nv h;exact⟨h1,by simp only[Xy,not_or];exact⟨λe=>hi e.symm,h2⟩⟩
abbrev Cx.qI (X:Cx)(s:Shared)(H:Hp)(scope:Scope)(LI:Env)(fp:List Addr):Cx:={X with kM:=s,Ih:=H,env:=LI,outer:=X.stack,ex:=fp,fn:=λx=>scope.names.lookup x==some .cell,pn:=[],xe:=λ_ _=>False}
section
variable {X:Cx}{pins:aaj}{σ:St}{H:Hp}{s:Shared}
theorem vv {scope:Scope} {own:List (Str×Nat)} {fp:List Addr} (I:Inv X pins σ H s) (ok:u7 X.N X.env.scope scope own) (hN:X.N.Nodup) (Np:∀b∈fp,mP X pins H b/\b < s.heap.objs.size) :
  Inv (X.qI s H scope (compEnvC scope (cellsFrom (s.heap.objs.size+1) scope.names (bL X.env.cells scope.names [])) s.heap.objs.size X.env) fp) [] (wipe σ (own.map (·.2))) H {s with heap:=pushCells (s.heap.push {cls:=.type "dict",data:=.dict #[]}) scope.names}:=by
 have L4:∀y∈scope.names,y.2=.free->∃c,X.env.cells.lookup y.1=some c:=λy hy e=>by
  rcases ok.free y hy e with k|k
  · exact I.ok.has _ (.inl k)
  · exact I.ok.has _ (.inr k)
 generalize Me:compEnvC scope (cellsFrom (s.heap.objs.size+1) scope.names (bL X.env.cells scope.names [])) s.heap.objs.size X.env=LI;have kp:∀b o,s.heap.get? b=some o->(pushCells (s.heap.push {cls:=.type "dict",data:=.dict #[]}) scope.names).get? b=some o:=λb o e=>pushCells_keeps _ _ _ _ (Xx _ e);have hL:LI.locals=s.heap.objs.size:=by rw[←Me];rfl
 have NR:LI.cells=cellsFrom (s.heap.objs.size+1) scope.names (bL X.env.cells scope.names []):=by rw[←Me];rfl
 have Q1:LI.scope=Kg scope X.env.scope:=by rw[←Me];rfl
 rw[←YD s.heap {cls:=.type "dict",data:=.dict #[]}] at NR;have cm:∀{y c},(y,c)∈bL X.env.cells scope.names []->X.env.cells.lookup y=some c/\c < s.heap.objs.size:=λ{y c} hm=>by
  rcases gW hm with hm|⟨h1,rfl⟩
  · cases hm
  · obtain⟨c,hc⟩:=L4 _ h1 rfl;rw[hc];obtain⟨w,z⟩:=I.cell _ _ hc;exact⟨rfl,z.lt⟩
 have mem:∀{y c},LI.cells.lookup y=some c->(X.env.cells.lookup y=some c/\c < s.heap.objs.size)∨(s.heap.objs.size+1<=c/\B1 (pushCells (s.heap.push {cls:=.type "dict",data:=.dict #[]}) scope.names) c none):=λ{y c} e=>by
  rw[NR] at e;rcases ic (PySem.mem_of_lookup e) with hm|⟨_,h2,h3⟩
  · exact .inl (cm hm)
  · rw[YD] at h2;exact .inr ⟨h2,h3⟩
 have look:∀{y},scope.names.lookup y=some .free->∃c,LI.cells.lookup y=some c/\X.env.cells.lookup y=some c:=λ{y} hl=>by
  have hy:(y,NameKind.free)∈scope.names:=PySem.mem_of_lookup hl;obtain⟨c',e'⟩:=mem_lookup (kr (names:=scope.names) (n:=(s.heap.push {cls:=.type "dict",data:=.dict #[]}).objs.size) (jP (cells:=X.env.cells) (acc:=[]) hy));rw[←NR] at e';refine⟨c',e',?_⟩;rw[NR] at e';rcases ic (PySem.mem_of_lookup e') with hm|⟨h1,_,_⟩
  · exact (cm hm).1
  · have:=ok.uniq _ h1;rw[hl] at this;cases this
 have Vg:(X.qI s H scope LI fp).Ok:=by
  refine⟨I.ok.mod,by show LI.scope.kind=_;rw[Q1];exact ok.kind,by show LI.globals=_;rw[←Me];exact I.ok.glob,by show LI.builtins=_;rw[←Me];exact I.ok.blt,by show s.heap.objs.size<=LI.locals;rw[hL];exact XD _,
   λy z c e1 e2=>?_,λy hy=>?_,λy c z e=>?_,I.ok.hd,I.ok.frames,.inl rfl,λb hb=>⟨?_,λy c e z=>?_⟩,I.bs,Yi I.ok.C7 I.sz,λb o e hb=>?_,λb hb z=>?_,I.stack,I.tT⟩
  · have e1:LI.cells.lookup y=some c:=e1;have e2:LI.cells.lookup z=some c:=e2;rw[NR] at e1 e2;refine m_ (λp hp=>?_) (λy z c a b=>I.ok.inj y z c (cm a).1 (cm b).1) (PySem.mem_of_lookup e1) (PySem.mem_of_lookup e2);rw[YD];exact Nat.lt_succ_of_lt (cm (y:=p.1) (c:=p.2) hp).2
  · show ∃c,LI.cells.lookup y=some c;have key:∀k,LI.kindOf y=some k->(k=.cell∨k=.free)->∃c,LI.cells.lookup y=some c:=λk hk Q2=>by
     unfold Env.kindOf at hk;rw[Q1] at hk;obtain⟨k',e,r⟩:=jv hk;have:k'=.cell∨k'=.free:=by
      rcases r with rfl|⟨rfl,_⟩
      · exact Q2
      · exact .inr rfl
     rcases this with rfl|rfl
     · obtain⟨c,hm⟩:=nc (n:=(s.heap.push {cls:=.type "dict",data:=.dict #[]}).objs.size) (acc:=bL X.env.cells scope.names []) (PySem.mem_of_lookup e);obtain⟨c',e'⟩:=mem_lookup hm;exact⟨c',by rw[NR];exact e'⟩
     · obtain⟨c,h1,_⟩:=look e;exact⟨c,h1⟩
    rcases hy with hy|hy
    · exact key _ hy (.inl rfl)
    · exact key _ hy (.inr rfl)
  · have z:(scope.names.lookup y==some NameKind.cell)=true:=z;have z:scope.names.lookup y=some .cell:=by simpa using z
    have e:LI.cells.lookup y=some c:=e;rw[NR] at e;rcases ic (PySem.mem_of_lookup e) with hm|⟨_,h2,_⟩
    · rcases gW hm with hm|⟨h1,_⟩
      · cases hm
      · have q:=ok.uniq _ h1;rw[z] at q;cases q
    · rw[YD] at h2;exact Nat.le_of_succ_le h2
  · show b≠LI.locals;rw[hL];exact X7 (Np b hb).2
  · have e:LI.cells.lookup y=some c:=e;rcases mem e with ⟨h1,_⟩|⟨h1,_⟩
    · exact (Np b hb).1.2.2.2.2.1 y c h1 z
    · have h2:s.heap.objs.size+1<=b:=by rw[←z];exact h1
      exact absurd (Yb (Np b hb).2 (Nat.le_of_succ_le h2)) (YQ _)
  · rcases (Np b hb).1.2.2.2.1 with z|z
    · exact I.ok.Ax b o e z
    · exact absurd (Yb (XH e) (Yi I.ok.C7 z)) (YQ _)
  · rcases Xy.mp (I.wR b z) with z|z
    · exact (Np b hb).1.2.1 z
    · exact (Np b hb).1.2.2.1 z
 refine⟨Vg,rfl,I.bare,Un.kept kp,⟨λ_=>none,?_,λi y av e1 e2 e3=>?_⟩,λy c e=>?_,?_,λy c e=>?_,λp hp=>?_,I.bu.kept kp,by rw[jB];exact I.len⟩
 · show Heap.Ns _ LI.locals _;rw[hL];exact Heap.Ns.keeps (Heap.Ns.new ..) λb o e=>pushCells_keeps _ _ _ _ e
 · obtain⟨e2,LQ⟩:=nv e2;have PR:scope.names.lookup y=some .free/\(LI.kindOf y=some .cell∨LI.kindOf y=some .free):=by
    have key:∀k,LI.scope.names.lookup y=some k->k=.local∨k=.cell∨k=.free->scope.names.lookup y=some .free/\(LI.kindOf y=some .cell∨LI.kindOf y=some .free):=λk hk Q2=>by
     have OG:=hk;rw[Q1] at hk;obtain⟨k',e,r⟩:=jv hk;have no:¬(k'=.local∨k'=.cell):=λhh=>by
      rcases ok.own _ (PySem.mem_of_lookup e) hh with e'|e'
      · obtain⟨p,hp,Vh⟩:=X4.mp e';have e3:=ok.ix p hp;have:p.1=y:=Vh;rw[this] at e3;exact LQ (X4.mpr ⟨p,hp,qG hN e3 e1⟩)
      · exact e' (X0 e1)
     rcases r with rfl|⟨rfl,rfl⟩
     · rcases Q2 with rfl|rfl|rfl
       · exact absurd (.inl rfl) no
       · exact absurd (.inr rfl) no
       · exact⟨e,.inr OG⟩
     · exact⟨e,.inl OG⟩
    have e3:Ie LI.scope y:=e3;rcases e3 with e3|e3|e3
    · exact key _ e3 (.inl rfl)
    · exact key _ e3 (.inr (.inl rfl))
    · exact key _ e3 (.inr (.inr rfl))
   obtain⟨m,hn,hl⟩:=I.loc;have Q3:Ie X.env.scope y:=(ok.free _ (PySem.mem_of_lookup PR.1) rfl).elim (λk=>.inr (.inl k)) (λk=>.inr (.inr k));obtain⟨w,r,q⟩:=hl i y av e1 e2 Q3;refine⟨w,r,.inr ⟨PR.2,?_⟩⟩;obtain⟨c,h1,h2⟩:=look PR.1;rcases q with ⟨k,_⟩|⟨_,c',e',z⟩
   · have k:X.env.scope.names.lookup y=some .local:=k;rcases ok.free _ (PySem.mem_of_lookup PR.1) rfl with k'|k' <;> rw[show X.env.scope.names.lookup y=_ from k'] at k <;> cases k
   · rw[h2] at e';cases e';exact⟨c,h1,z.keeps kp⟩
 · have e:LI.cells.lookup y=some c:=e;rcases mem e with ⟨h1,_⟩|⟨_,z⟩
   · obtain⟨w,z⟩:=I.cell y c h1;exact⟨w,z.keeps kp⟩
   · exact⟨_,z⟩
 · show H LI.locals=none;rw[hL];exact I.bu.fresh (XD _)
 · have e:LI.cells.lookup y=some c:=e;rcases mem e with ⟨h1,_⟩|⟨h1,_⟩
   · exact I.gp y c h1
   · exact I.bu.fresh (Nat.le_of_succ_le h1)
 · exact absurd (show p∈([]:aaj)++[] from hp) (by simp)
theorem Hf {E:aah}{D:Addr}{xs:List V}{y:V}{v:Value}{Q:aah}(I:Inv X pins σ H s)(hD:H D=some (.lst xs))(hz:xs.length < sizeLine)(r:RelV y v)
  (h:∀s',Inv X pins σ (upd H D (.lst (xs++[y]))) s'->Q .none s'):wpAny (model X.prog X.w) X.A (call (.builtin "list.append") [.ref D,v]) Q E s:=by
 obtain⟨hz',LF,n,ri,e⟩:=I.bu D _ hD;have hl:=ri.length;refine append_at (hsz:=by rw[XS];omega) e λh' sb L1=>?_;refine h {s with heap:=h'} (I.write (t':=s.toks) (by rw[hD];trivial) (.inl rfl) (λb u hb q=>(sb.2 b hb).trans q) ⟨_,L1⟩ ⟨by rw[XT];exact hz,LF++[v],n+1,ri.append (.cons r .nil),?_⟩);rw[L1];simp
def II (X:Cx)(ifs:List Expr)(t:TT):Prop :=
 ∀(pins:aaj) (s:Shared) (σ:St) (H:Hp) (Q:Bool->Hp->Prop),Inv X pins σ H s->t σ H Q ->
  wpAny (model X.prog X.w) X.A (forIn ifs true λc r=>if r=true then do let ok ←isTrue c X.env (eval c X.env);pure (ForInStep.yield ok) else pure (ForInStep.yield r)) (TP X pins σ Q) X.xe s
def Ct:TT:=λ_ H Q=>Q true H
theorem cu:II X [] Ct:=λ_ _ _ H _ I h=>wpAny_tests_nil ⟨H,I,h⟩
theorem oz {c:Expr}{t:TT}(h:PT X c t):II X [c] t:=λpins s σ H Q I hw=>wpAny_tests_one (h pins s σ H Q I hw)
end
theorem zP {α:Type}{t:Sem α}{Q Q':α->Shared->Prop}{M:Model}{A:Around}{E:aah}{s:Shared}(h:wpAny M A t Q (λ_ _=>False) s)(hQ:∀a s,Q a s->Q' a s):wpAny M A t Q' E s:=YM h hQ λ_ _ z=>False.elim z
theorem sJ {prog:Program}{w:World}{A:Around}{R:Result->Shared->Prop}{s:Shared}{elt target iter:Expr}{ifs:List Expr}{scope:Scope}{pos:Pos}{it acc:Value}{env:Env}(I:Nat->Shared->Prop)
  (turn:∀n s,I n s->wpAny (model prog w) A (pyNext it) (λr s₁=>match r with
   |none=>R (.ok .next) s₁
   |some v=>wpAny (model prog w) A (letOwnedTupleGo target it v) (λ_ s₁'=>wpAny (model prog w) A (assign target env v) (λ_ s₂ =>
     wpAny (model prog w) A (forIn ifs true λc r=>if r=true then do let ok ←isTrue c env (eval c env);pure (ForInStep.yield ok) else pure (ForInStep.yield r)) (λok s₃ =>
      if ok=true then wpAny (model prog w) A (eval elt env) (λx s₄ =>
       wpAny (model prog w) A (call (.builtin "list.append") [acc,x]) (λ_ s₅=>∃m,m < n/\I m s₅) (notedBy (model prog w) A env λe s'=>R (.error e) s') s₄) (notedBy (model prog w) A env λe s'=>R (.error e) s') s₃
      else ∃m,m < n/\I m s₃) (notedBy (model prog w) A env λe s'=>R (.error e) s') s₂) (notedBy (model prog w) A env λe s'=>R (.error e) s') s₁') (notedBy (model prog w) A env λe s'=>R (.error e) s') s₁) (notedBy (model prog w) A env λe s'=>R (.error e) s') s)
  (n:Nat) (h:I n s) :
  codeAny (model prog w) A (.compLoop (.ListComp elt [⟨target,iter,ifs,0⟩] scope pos) 0 it acc env) R s:=by
 refine codeAny_loop rfl I (λn s hI=>?_) n h;show wpAny _ A ((compTurn (.ListComp elt [⟨target,iter,ifs,0⟩] scope pos) 0 it acc env).onRaise (λx=>do noteFrame x env;theTreesLotGoes x)) _ _ s;refine wpAny_noted ?_;rw[compTurn_list];refine Xs (wpAny_standAt (Xs (YM (turn n s hI) (λr s₁ h₁=>?_) λ_ _ h'=>h')));cases r with
 |none=>exact XA h₁
 |some v =>
  refine Xs (YM h₁ (λ_ s₁' h₁'=>?_) λ_ _ h'=>h');refine Xs (YM h₁' (λ_ s₂ h₂=>Xs (YM h₂ (λok s₃ h₃=>?_) λ_ _ h'=>h')) λ_ _ h'=>h');cases ok with
  |false=>exact XA ⟨rfl,h₃⟩
  |true =>
   exact Xs (Xs (YM h₃ (λx s₄ h₄=>Xs (YM h₄ (λ_ s₅ h₅=>XA (XA ⟨rfl,h₅⟩)) λ_ _ h'=>h')) λ_ _ h'=>h'))
section
variable {X:Cx}
def HK (wi:TI) (g:TG) (tt:TT) (te:TE) (vs:aaf):TE:=λσ H Q=>wi σ H λJ H1=>∀D,H1 D=none->∃W:Nat->Nat->Hp->Prop,(∃m,W 0 m (upd H1 D (.lst [])))/\∀i m H,W i m H ->
 (J.stop i H/\Q (.ref D) H)∨(J.go i H/\∃Nx:Hp->Prop,(∀H',Nx H'->∃m',m' < m/\W (i+1) m' H')/\∀x H',J.v_ i H x H'->g x (wipe σ vs) H' λσ2 H2=>wipe σ2 vs=wipe σ vs/\tt σ2 H2 λb H3 =>
  if b=true then te σ2 H3 λy H4=>∃acc,H4 D=some (.lst acc)/\acc.length < sizeLine/\Nx (upd H4 D (.lst (acc++[y]))) else Nx H3)
theorem yo {pins:aaj}{s:Shared}{σ:St}{H:Hp}{Q:VK}{elt tg iter:Expr}{ifs:List Expr}{scope:Scope}{own:List (Str×Nat)}{pos pos':Pos}{wi:TI}{g:TG}{tt:TT}{te:TE}{use:Option (Value->Sem Unit)}{Qf:aah}
  (hc:X.calm=true)(hN:X.N.Nodup)(I:Inv X pins σ H s)(hi:PI X tg iter wi)(ok:u7 X.N X.env.scope scope own)
  (hg:∀(s:Shared) (H:Hp) (C:Addr) (cl:List (Str×Addr)) (fp:List Addr),PG (X.qI s H scope (compEnvC scope cl C X.env) fp) tg g)(ht:∀(s:Shared) (H:Hp) (C:Addr) (cl:List (Str×Addr)) (fp:List Addr),II (X.qI s H scope (compEnvC scope cl C X.env) fp) ifs tt)
  (he:∀(s:Shared) (H:Hp) (C:Addr) (cl:List (Str×Addr)) (fp:List Addr),PE (X.qI s H scope (compEnvC scope cl C X.env) fp) elt te)(hs:∀x,foldedSetIterable iter X.env x=pure x)
  (h:HK wi g tt te (own.map (·.2)) σ H Q)
  (Vi:∀D C s' m H',Inv X pins σ H' s'->Q (.ref D) H'->s'.heap.Ns C m->mP X pins H' C->compPost (model X.prog X.w) X.A X.xe use Qf (.ref D) C (.ok .next) s') :
  wpAny (model X.prog X.w) X.A (comprehension (.ListComp elt [⟨tg,iter,ifs,0⟩] scope pos) scope X.env pos' (newList []) false (eval iter X.env) use) Qf X.xe s:=by
 have L4:∀y∈scope.names,y.2=.free->∃c,X.env.cells.lookup y.1=some c:=λy hy e=>by
  rcases ok.free y hy e with k|k
  · exact I.ok.has _ (.inl k)
  · exact I.ok.has _ (.inr k)
 refine wpAny_comprehension_free (use:=use) rfl hs (wc L4) ok.kind (λy hy e=>by rw[ok.uniq y hy,e])
  (bB (hi pins s σ H _ I h) λxv s1 hx=>bB hx λPK s2 h2=>?_)
 obtain⟨it,fp,tn,J,H2,e,I2,T,N_,f2,q⟩:=h2;subst e;refine YX (vb ?_) (by show 0<=sizeLine;decide);generalize hD:s2.heap.objs.size=D;have Vj:H2 D=none:=I2.bu.fresh (Z9 hD);obtain⟨W,⟨m0,w0⟩,turn⟩:=q D Vj;generalize Sv:({s2 with heap:=s2.heap.push {cls:=.type "list",data:=.seq ([]:aak).toArray}}:Shared)=s3;have I3:Inv X pins σ (upd H2 D (.lst [])) s3:=by
  rw[←Sv];refine I2.laid (t':=s2.toks) (λb o e=>Xx _ e) (Z9 hD) ⟨X2 _,[],0,.nil,?_⟩;rw[←hD];exact XM _ rfl
 have h3:s3.heap=s2.heap.push {cls:=.type "list",data:=.seq ([]:aak).toArray}:=by rw[←Sv]
 have sz:∀b∈fp,b < s2.heap.objs.size:=λb hb=>by
  obtain⟨o,e,_⟩:=T.obj _ _ N_ b hb;exact XH e
 have f3:∀b∈fp,mP X pins (upd H2 D (.lst [])) b/\b < s3.heap.objs.size:=λb hb=>by
  have LJ:=sz b hb;refine⟨⟨?_,(f2 b hb).2⟩,by rw[h3,YD];exact Nat.lt_succ_of_lt LJ⟩;rw[aq (by rw[←hD];exact X7 LJ)];exact (f2 b hb).1
 have NL:tn 0 s3.heap:=T.keep _ _ _ N_ λb _ o e=>by rw[h3];exact Xx _ e
 have I4:=vv I3 ok hN f3;have pg:=hg s3 (upd H2 D (.lst [])) s3.heap.objs.size (cellsFrom (s3.heap.objs.size+1) scope.names (bL X.env.cells scope.names [])) fp;have pt:=ht s3 (upd H2 D (.lst [])) s3.heap.objs.size (cellsFrom (s3.heap.objs.size+1) scope.names (bL X.env.cells scope.names [])) fp;have pe:=he s3 (upd H2 D (.lst [])) s3.heap.objs.size (cellsFrom (s3.heap.objs.size+1) scope.names (bL X.env.cells scope.names [])) fp;show codeAny _ _ (.compStart (.ListComp elt [⟨tg,iter,ifs,0⟩] scope pos) 0 (.ref it) (.ref D) (compEnvC scope (cellsFrom (s3.heap.objs.size+1) scope.names (bL X.env.cells scope.names [])) s3.heap.objs.size X.env)) (compPost (model X.prog X.w) X.A X.xe use Qf (.ref D) s3.heap.objs.size) {s3 with heap:=pushCells (s3.heap.push {cls:=.type "dict",data:=.dict #[]}) scope.names};have OM:∀b∈fp,(upd H2 D (.lst [])) b=none:=λb hb=>(f3 b hb).1.1;generalize Vk:compEnvC scope (cellsFrom (s3.heap.objs.size+1) scope.names (bL X.env.cells scope.names [])) s3.heap.objs.size X.env=ce at I4 pg pt pe ⊢;have cL:ce.locals=s3.heap.objs.size:=by subst Vk;rfl
 generalize hH3:upd H2 D (.lst [])=H3 at I3 I4 pg pt pe w0 OM f3;generalize Vl:({s3 with heap:=pushCells (s3.heap.push {cls:=.type "dict",data:=.dict #[]}) scope.names}:Shared)=s4 at I4 ⊢;have Sw:tn 0 s4.heap:=T.keep _ _ _ NL λb _ o e=>by rw[←Vl];exact pushCells_keeps _ _ _ _ (Xx _ e)
 have LZ:∀{σ':St} {H':Hp} {s':Shared},Inv (X.qI s3 H3 scope ce fp) [] σ' H' s'->(∀b∈fp,H' b=none)->∀b∈fp,mP (X.qI s3 H3 scope ce fp) [] H' b:=λ{σ' H' s'} I' hn b hb =>
  ⟨hn b hb,(I'.ok.IA b hb).1,I'.ok.zu b hb,.inl hb,λx c e=>(I'.ok.IA b hb).2 x c e,λp hp=>absurd (show p∈([]:aaj)++[] from hp) (by simp)⟩
 have loop:codeAny (model X.prog X.w) X.A (.compLoop (.ListComp elt [⟨tg,iter,ifs,0⟩] scope pos) 0 (.ref it) (.ref D) ce) (compPost (model X.prog X.w) X.A X.xe use Qf (.ref D) s3.heap.objs.size) s4:=by
  refine sJ (λn s'=>∃i H',Inv (X.qI s3 H3 scope ce fp) [] (wipe σ (own.map (·.2))) H' s'/\tn i s'.heap/\(∀b∈fp,H' b=none)/\W i n H') ?_ m0 ⟨0,H3,I4,Sw,OM,w0⟩;rintro n s5 ⟨i,H5,I5,MT,n5,w5⟩;rcases turn i n H5 w5 with ⟨stop,qq⟩|⟨go,Nx,Vm,step⟩
  · have td:=T.done (X.qI s3 H3 scope ce fp) rfl rfl rfl hc i [] s5 _ H5 (λ_ _=>False) I5 (LZ I5 n5) MT stop;refine zP td λr s6 ⟨hr,I6⟩=>?_;subst hr;have I7:Inv X pins σ H5 s6:=I3.Fs (ch:=fp) I6.os I6.base I6.bu I6.bare λb hb=>⟨(f3 b hb).1.2.2.2.1,(f3 b hb).1.2.1,(f3 b hb).1.2.2.2.2.1,(f3 b hb).1.2.2.2.2.2⟩;have nC:H5 s3.heap.objs.size=none:=by
     have z:H5 ce.locals=none:=I6.free;rw[cL] at z;exact z
    obtain⟨m,hn,_⟩:=I6.loc;have hn:s6.heap.Ns ce.locals m:=hn;rw[cL] at hn;exact Vi D s3.heap.objs.size s6 m H5 I7 qq hn (I3.wG (XD _) nC)
  · have ti:=T.item (X.qI s3 H3 scope ce fp) rfl rfl rfl hc i [] s5 _ H5 (λ_ _=>False) I5 (LZ I5 n5) MT go;refine zP ti λr s6 ⟨u,hr,h6⟩=>?_;subst hr;refine zP h6 λ_ s7 ⟨x,H7,I7,r7,y7,Q4,n7⟩=>?_;have Vn:=I7.pinned (LZ I7 n7) (T.obj _ _ Q4);refine zP (pg _ s7 _ H7 x u _ Vn r7 (step x H7 y7)) λ_ s8 ⟨σ8,H8,I8,Sx,q8⟩=>?_;refine zP (pt _ s8 σ8 H8 _ I8 q8) λb s9 ⟨H9,I9,q9⟩=>?_;have fin:∀{s':Shared} {H':Hp},Inv (X.qI s3 H3 scope ce fp) ([]++nG fp s7.heap) σ8 H' s'->Nx H'->∃m,m < n/\∃i H',Inv (X.qI s3 H3 scope ce fp) [] (wipe σ (own.map (·.2))) H' s'/\tn i s'.heap/\(∀b∈fp,H' b=none)/\W i m H':=λ{s' H'} I' nx=>by
     obtain⟨m',hm,w'⟩:=Vm H' nx;have ON:∀b∈fp,∀o,s7.heap.get? b=some o->s'.heap.get? b=some o/\H' b=none:=λb hb o e =>
      let z:=I'.pin (b,o) (Yt _ (Yt _ (gG hb e)))
      ⟨z.1,z.2.1⟩
     have hl:(wipe σ (own.map (·.2))).length=σ8.length:=by rw[←Sx,jB]
     refine⟨m',hm,i+1,H',(I'.ik (pins:=[])).weak hl (λj v e=>?_),T.keep _ _ _ Q4 λb hb o e=>(ON b hb o e).1,λb hb=>?_,w'⟩
     · rw[←Sx] at e;exact (nv e).1
     · obtain⟨o,e,_⟩:=T.obj _ _ Q4 b hb;exact (ON b hb o e).2
    cases b with
    |false =>
     simp only[YV,Zu] at q9 ⊢;exact fin I9 q9
    |true =>
     simp only[Zd] at q9 ⊢;refine zP (pe _ s9 σ8 H9 _ I9 q9) λz s10 ⟨yv,H10,Vo,Vp,acc,Q5,Q6,nx⟩=>?_;exact Hf (X:=X.qI s3 H3 scope ce fp) Vo Q5 Q6 Vp λs11 Vq=>fin Vq nx
 exact codeAny_compStart_list loop (T.self X.A 0 _ _ _ Sw loop)
theorem fz {elt tg iter:Expr}{ifs:List Expr}{scope:Scope}{own:List (Str×Nat)}{pos:Pos}{wi:TI}{g:TG}{tt:TT}{te:TE}(hc:X.calm=true)(hN:X.N.Nodup)(hi:PI X tg iter wi)(ok:u7 X.N X.env.scope scope own)
  (hg:∀(s:Shared) (H:Hp) (C:Addr) (cl:List (Str×Addr)) (fp:List Addr),PG (X.qI s H scope (compEnvC scope cl C X.env) fp) tg g)(ht:∀(s:Shared) (H:Hp) (C:Addr) (cl:List (Str×Addr)) (fp:List Addr),II (X.qI s H scope (compEnvC scope cl C X.env) fp) ifs tt)
  (he:∀(s:Shared) (H:Hp) (C:Addr) (cl:List (Str×Addr)) (fp:List Addr),PE (X.qI s H scope (compEnvC scope cl C X.env) fp) elt te)(hs:∀x,foldedSetIterable iter X.env x=pure x:=by intro _;rfl) :
  PE X (.ListComp elt [⟨tg,iter,ifs,0⟩] scope pos) (HK wi g tt te (own.map (·.2))):=by
 intro pins s σ H Q I h;rw[eval_ListComp];refine yo hc hN I hi ok hg ht he hs h λD C s' m H' I' q hn f=>⟨m,hn,λNq sb=>?_⟩;obtain⟨f0,f1,f2,f3,f4,f5⟩:=f;exact⟨.ref D,H',I'.turned (t':=s'.toks) (λb o hb e=>(sb.2 b hb).trans e) f0 f1 f3 f4 f5,rfl,q⟩
theorem oP {i:Nat}{y:Str}{py:Pos}{elt tg iter:Expr}{ifs:List Expr}{scope:Scope}{own:List (Str×Nat)}{pos OO:Pos}{wi:TI}{g:TG}{tt:TT}{te:TE}(hc:X.calm=true)(hN:X.N.Nodup)(hy:X.N[i]?=some y)(Sy:X.env.scope.names.lookup y=some .local)
  (Vr:swapsWith (.ListComp elt [⟨tg,iter,ifs,0⟩] scope pos) (some (.Name y py)) OO.line X.env=pure true)(hi:PI X tg iter wi)(ok:u7 X.N X.env.scope scope own)
  (hg:∀(s:Shared) (H:Hp) (C:Addr) (cl:List (Str×Addr)) (fp:List Addr),PG (X.qI s H scope (compEnvC scope cl C X.env) fp) tg g)(ht:∀(s:Shared) (H:Hp) (C:Addr) (cl:List (Str×Addr)) (fp:List Addr),II (X.qI s H scope (compEnvC scope cl C X.env) fp) ifs tt)
  (he:∀(s:Shared) (H:Hp) (C:Addr) (cl:List (Str×Addr)) (fp:List Addr),PE (X.qI s H scope (compEnvC scope cl C X.env) fp) elt te)(hs:∀x,foldedSetIterable iter X.env x=pure x:=by intro _;rfl) :
  PS X (.Assign [.Name y py] (.ListComp elt [⟨tg,iter,ifs,0⟩] scope pos) OO) (zY (HK wi g tt te (own.map (·.2))) (fL i)):=by
 intro pins s σ H D I h;rw[exec_Assign_Name_used _ _ _ _ Vr];refine Xs (wpAny_standAt (Xs ?_));show wpAny _ X.A (do let _ ←comprehension (.ListComp elt [⟨tg,iter,ifs,0⟩] scope pos) scope X.env (firstIterPos [⟨tg,iter,ifs,0⟩] pos) (newList []) false (eval iter X.env) (some (assign (.Name y py) X.env))) _ _ s;have h:HK wi g tt te (own.map (·.2)) σ H (λx H1=>fL i x σ H1 D.nx):=h;refine Xs (bB (yo (Qf:=λ_ s'=>SP X pins D .next s') hc hN I hi ok hg ht he hs h λL C s' m H' I' q hn f=>?_) λ_ s' hq=>XA (XA hq));show wpAny _ _ (assign (.Name y py) X.env (.ref L)) _ _ _;refine wpAny_assign_Name (rq (v:=V.ref L) I' hN hy (.inl Sy) rfl (λs2 I2 ⟨a,sb,ha⟩=>?_) (.inr Sy));obtain⟨f0,f1,f2,f3,f4,f5⟩:=f;have Vs:C≠a:=by
  rcases ha with z|z
  · rw[z];exact f1
  · exact λe=>f4 y a z e.symm
 refine⟨m,hn.sameBut sb Vs,λh3 Vt=>?_⟩;exact⟨_,H',I2.turned (t':=s2.toks) (λb o hb e=>(Vt.2 b hb).trans e) f0 f1 f3 f4 f5,q⟩
theorem uf {elt:Expr}{gs:List Comprehension}{scope:Scope}{pos py:Pos}{y:Str}{l:Nat}{env:Env}(hk:env.scope.kind=.function)(hy:env.scope.names.lookup y=some .local)(hl:(py.line==pos.line)=true)
  (ha:(scope.names.any λ(n,k)=>n==y&&(k==.local||k==.cell))=false):swapsWith (.ListComp elt gs scope pos) (some (.Name y py)) l env=pure true:=by
 have ky:env.kindOf y=some .local:=hy;have hb:env.blockKind=.function:=by unfold Env.blockKind;rw[hk];rfl
 unfold swapsWith;simp only[hb,ky,ha,Expr.pos,hl];rfl
end
theorem lR {lo:Int}{n:Nat}{g:TG}{tt:TT}{te:TE}{vs:aaf}{σ:St}{H1:Hp}{D:Addr}{Qd:Hp->Prop}(Pv:Nat->Hp->Prop)(h0:Pv 0 (upd H1 D (.lst [])))
  (hs:∀i H,i < n->Pv i H->g (.int (lo+i)) (wipe σ vs) H λσ2 H2=>wipe σ2 vs=wipe σ vs/\tt σ2 H2 λb H3 =>
   if b=true then te σ2 H3 λy H4=>∃acc,H4 D=some (.lst acc)/\acc.length < sizeLine/\Pv (i+1) (upd H4 D (.lst (acc++[y]))) else Pv (i+1) H3) (hd:∀H,Pv n H->Qd H) :
  ∃W:Nat->Nat->Hp->Prop,(∃m,W 0 m (upd H1 D (.lst [])))/\∀i m H,W i m H ->
   ((AB lo n).stop i H/\Qd H)∨((AB lo n).go i H/\∃Nx:Hp->Prop,(∀H',Nx H'->∃m',m' < m/\W (i+1) m' H')/\∀x H',(AB lo n).v_ i H x H'->g x (wipe σ vs) H' λσ2 H2=>wipe σ2 vs=wipe σ vs/\tt σ2 H2 λb H3 =>
    if b=true then te σ2 H3 λy H4=>∃acc,H4 D=some (.lst acc)/\acc.length < sizeLine/\Nx (upd H4 D (.lst (acc++[y]))) else Nx H3):=by
 refine⟨λi m H=>m=n - i/\i<=n/\Pv i H,⟨n,by simp,X2 _,h0⟩,?_⟩;rintro i m H ⟨rfl,hi,p⟩;by_cases LJ:i < n
 · refine .inr ⟨LJ,Pv (i+1),λH' p'=>⟨n - (i+1),by omega,rfl,LJ,p'⟩,λx H' y=>?_⟩;obtain⟨e,y⟩:=y;subst e y;exact hs i _ LJ p
 · have e:i=n:=by omega
   subst e;exact .inl ⟨XD _,hd H p⟩
theorem iO {K:aag}{a:Addr}{xs:List V}{g:TG}{tt:TT}{te:TE}{vs:aaf}{σ:St}{H1:Hp}{D:Addr}{Qd:Hp->Prop}(Pv:Nat->Hp->Prop)(h0:Pv 0 (upd H1 D (.lst [])))(hl:∀i H,i<=xs.length->Pv i H->aP K H a xs)
  (hs:∀i x H,xs[i]?=some x->Pv i H->g x (wipe σ vs) H λσ2 H2=>wipe σ2 vs=wipe σ vs/\tt σ2 H2 λb H3 =>
   if b=true then te σ2 H3 λy H4=>∃acc,H4 D=some (.lst acc)/\acc.length < sizeLine/\Pv (i+1) (upd H4 D (.lst (acc++[y]))) else Pv (i+1) H3) (hd:∀H,Pv xs.length H->Qd H) :
  ∃W:Nat->Nat->Hp->Prop,(∃m,W 0 m (upd H1 D (.lst [])))/\∀i m H,W i m H ->
   ((By K a).stop i H/\Qd H)∨((By K a).go i H/\∃Nx:Hp->Prop,(∀H',Nx H'->∃m',m' < m/\W (i+1) m' H')/\∀x H',(By K a).v_ i H x H'->g x (wipe σ vs) H' λσ2 H2=>wipe σ2 vs=wipe σ vs/\tt σ2 H2 λb H3 =>
    if b=true then te σ2 H3 λy H4=>∃acc,H4 D=some (.lst acc)/\acc.length < sizeLine/\Nx (upd H4 D (.lst (acc++[y]))) else Nx H3):=by
 refine⟨λi m H=>m=xs.length - i/\i<=xs.length/\Pv i H,⟨xs.length,by simp,X2 _,h0⟩,?_⟩;rintro i m H ⟨rfl,hi,p⟩;have q:=hl i H hi p;by_cases LJ:i < xs.length
 · refine .inr ⟨⟨xs,xs[i],q,by simp[LJ]⟩,Pv (i+1),λH' p'=>⟨xs.length - (i+1),by omega,rfl,LJ,p'⟩,λx H' y=>?_⟩;obtain⟨e,y⟩:=y;subst e;exact hs i x _ (y xs q) p
 · have e:i=xs.length:=by omega
   subst e;exact .inl ⟨⟨xs,q,XD _⟩,hd H p⟩
theorem HI {K:aag}{a:Addr}{xs:List V}{g:TG}{tt:TT}{te:TE}{vs:aaf}{σ:St}{H1:Hp}{D:Addr}{Qd:Hp->Prop}(Pv:Nat->Hp->Prop)(h0:Pv 0 (upd H1 D (.lst [])))(hl:∀i H,i<=xs.length->Pv i H->b7 K H a xs)
  (hs:∀i x H,xs[i]?=some x->Pv i H->g x (wipe σ vs) H λσ2 H2=>wipe σ2 vs=wipe σ vs/\tt σ2 H2 λb H3 =>
   if b=true then te σ2 H3 λy H4=>∃acc,H4 D=some (.lst acc)/\acc.length < sizeLine/\Pv (i+1) (upd H4 D (.lst (acc++[y]))) else Pv (i+1) H3) (hd:∀H,Pv xs.length H->Qd H) :
  ∃W:Nat->Nat->Hp->Prop,(∃m,W 0 m (upd H1 D (.lst [])))/\∀i m H,W i m H ->
   ((JD K a).stop i H/\Qd H)∨((JD K a).go i H/\∃Nx:Hp->Prop,(∀H',Nx H'->∃m',m' < m/\W (i+1) m' H')/\∀x H',(JD K a).v_ i H x H'->g x (wipe σ vs) H' λσ2 H2=>wipe σ2 vs=wipe σ vs/\tt σ2 H2 λb H3 =>
    if b=true then te σ2 H3 λy H4=>∃acc,H4 D=some (.lst acc)/\acc.length < sizeLine/\Nx (upd H4 D (.lst (acc++[y]))) else Nx H3):=by
 refine⟨λi m H=>m=xs.length - i/\i<=xs.length/\Pv i H,⟨xs.length,by simp,X2 _,h0⟩,?_⟩;rintro i m H ⟨rfl,hi,p⟩;have q:=hl i H hi p;by_cases LJ:i < xs.length
 · refine .inr ⟨⟨xs,xs[i],q,by simp[LJ]⟩,Pv (i+1),λH' p'=>⟨xs.length - (i+1),by omega,rfl,LJ,p'⟩,λx H' y=>?_⟩;obtain⟨e,y⟩:=y;subst e;exact hs i x _ (y xs q) p
 · have e:i=xs.length:=by omega
   subst e;exact .inl ⟨⟨xs,q,XD _⟩,hd H p⟩
def Iw (N:List Str)(sc scope:Scope)(own:List (Str×Nat)):Bool :=
 (match scope.kind with|.function=>true|_=>false)&&(scope.names.all λy=>decide (scope.names.lookup y.1=some y.2))&&(own.all λp=>decide (N[p.2]?=some p.1)) &&
  (scope.names.all λy=>match y.2 with
   |.free=>(match sc.names.lookup y.1 with|some .cell=>true|some .free=>true|_=>false)
   |.local=>decide (y.1∈own.map (·.1))||decide (y.1∉N)
   |.cell=>decide (y.1∈own.map (·.1))||decide (y.1∉N)
   |_=>true)
theorem bz {N:List Str}{sc scope:Scope}{own:List (Str×Nat)}(h:Iw N sc scope own=true):u7 N sc scope own:=by
 unfold Iw at h;simp only[XB,X1,XC] at h;obtain⟨⟨⟨h1,h2⟩,h3⟩,h4⟩:=h;refine⟨?_,h2,h3,λy hy e=>?_,λy hy e=>?_⟩
 · split at h1
   · assumption
   · cases h1
 · have q:=h4 y hy;simp only[e] at q;split at q <;> first|exact .inl (by assumption)|exact .inr (by assumption)|cases q
 · have q:=h4 y hy;rcases e with e|e <;> (simp only[e,Yv,XC] at q;exact q)
section
variable {prog:Program}{w:World}{A:Around}{R:Result->Shared->Prop}{s:Shared}{elt t0 i0 t1 i1:Expr}{ifs0 ifs1:List Expr}{scope:Scope}{pos:Pos}{it acc:Value}{env:Env}
end
section
variable {X:Cx}
end
section
variable {κ:Type} [DecidableEq κ]
def cQ (LD:List (κ×V)) (k:κ):Option V:=(LD.find? λkv=>decide (kv.1=k)).map (·.2)
def putK (LD:List (κ×V))(k:κ)(v:V):List (κ×V) :=
 if (LD.any λkv=>decide (kv.1=k))=true then LD.map (λkv=>if kv.1=k then (kv.1,v) else kv) else LD++[(k,v)]
theorem da {p:κ×V}{r:List (κ×V)}{k:κ}(e:p.1=k):cQ (p::r) k=some p.2:=by simp[cQ,Y9,e]
theorem cZ {p:κ×V}{r:List (κ×V)}{k:κ}(e:¬p.1=k):cQ (p::r) k=cQ r k:=by simp[cQ,Y9,e]
theorem ma (k:κ):∀LD:List (κ×V),(LD.any λkv=>decide (kv.1=k))=(cQ LD k).isSome
 |[]=>rfl
 |p::r=>by
  rw[Y3];by_cases e:p.1=k
  · simp only[da e,X_ e,Bool.true_or,Option.isSome_some]
  · rw[cZ e,Yj e,Bool.false_or];exact ma k r
theorem uJ (k j:κ)(y:V):∀LD:List (κ×V),cQ (LD.map λkv=>if kv.1=k then (kv.1,y) else kv) j=(cQ LD j).map λx=>if j=k then y else x
 |[]=>rfl
 |p::r=>by
  have ih:=uJ k j y r;rw[XN];by_cases h:p.1=k
  · rw[Xw h];by_cases e:p.1=j
    · rw[da (p:=(p.1,y)) e,da e,Option.map_some,Xw (e.symm.trans h)]
    · rw[cZ (p:=(p.1,y)) e,cZ e,ih]
  · rw[Xv h];by_cases e:p.1=j
    · rw[da (p:=p) e,da e,Option.map_some,Xv (λz=>h (e.trans z))]
    · rw[cZ (p:=p) e,cZ e,ih]
theorem sq (k j:κ)(y:V):∀LD:List (κ×V),cQ LD k=none->cQ (LD++[(k,y)]) j=if j=k then some y else cQ LD j
 |[],_=>by
  by_cases e:k=j
  · rw[Xw e.symm];exact da (p:=(k,y)) e
  · rw[Xv (λz=>e z.symm)];exact cZ (p:=(k,y)) e
 |p::r,hn=>by
  rw[ZD];have hk:¬p.1=k:=λz=>by rw[da z] at hn;cases hn
  rw[cZ hk] at hn;have ih:=sq k j y r hn;by_cases e:p.1=j
  · rw[da e,da e,Xv (λz=>hk (e.trans z))]
  · rw[cZ e,cZ e,ih]
theorem pY (LD:List (κ×V))(k j:κ)(y:V):cQ (putK LD k y) j=if j=k then some y else cQ LD j:=by
 unfold putK;by_cases a:(LD.any λkv=>decide (kv.1=k))=true
 · rw[Xw a,uJ];rw[ma] at a;by_cases e:j=k
   · obtain⟨x,hx⟩:=ZH.mp a;rw[Xw e,e,hx,Option.map_some,Xw rfl]
   · rw[Xv e];cases cQ LD j with
     |none=>rfl
     |some x=>rw[Option.map_some,Xv e]
 · rw[Xv a];refine sq k j y LD ?_;rw[ma] at a;cases q:cQ LD k with
   |none=>rfl
   |some x=>rw[q] at a;exact (a rfl).elim
theorem gJ (LD:List (κ×V))(k:κ)(v:V):(putK LD k v).length<=LD.length+1:=by
 unfold putK;split
 · rw[Xu];omega
 · rw[XT,XG,Y5];omega
theorem iT.iB {o:Option V}{u:Option Value}(r:iT o u):o.isSome=u.isSome:=by
 cases o with
 |none=>cases u with
  |none=>rfl
  |some _=>exact (show False from r).elim
 |some _=>cases u with
  |none=>exact (show False from r).elim
  |some _=>rfl
theorem iT.getD {o:Option V}{u:Option Value}{d:V}{d':Value}(r:iT o u)(rd:RelV d d'):RelV (o.getD d) (u.getD d'):=by
 cases o with
 |none=>cases u with
  |none=>exact rd
  |some _=>exact (show False from r).elim
 |some _=>cases u with
  |none=>exact (show False from r).elim
  |some _=>exact r
theorem KV.val {LD:List (κ×V)}{vs:List (κ×Value)}(r:KV LD vs)(k:κ):iT (cQ LD k) (valueAt vs k):=by
 unfold KV at r
 induction r with
 |nil=>exact True.intro
 |@cons p q ps qs h t ih =>
  obtain⟨h1,h2⟩:=h;by_cases e:p.1=k
  · have e':q.1=k:=h1.symm.trans e;have b:valueAt (q::qs) k=some q.2:=by simp[valueAt,Y9,e']
    rw[da e,b];exact h2
  · have e':¬q.1=k:=λz=>e (h1.trans z);have b:valueAt (q::qs) k=valueAt qs k:=by simp[valueAt,Y9,e']
    rw[cZ e,b];exact ih
theorem KV.any {LD:List (κ×V)}{vs:List (κ×Value)}(r:KV LD vs)(k:κ):(LD.any λkv=>decide (kv.1=k))=vs.any λkv=>decide (kv.1=k):=by
 unfold KV at r
 induction r with
 |nil=>rfl
 |cons h t ih=>rw[Y3,Y3,ih,h.1]
theorem KV.HA {LD:List (κ×V)}{vs:List (κ×Value)}(r:KV LD vs)(k:κ){y:V}{u:Value}(ry:RelV y u) :
  KV (LD.map λkv=>if kv.1=k then (kv.1,y) else kv) (vs.map λkv=>if kv.1=k then (kv.1,u) else kv):=by
 unfold KV at r ⊢
 induction r with
 |nil=>exact .nil
 |@cons p q ps qs h t ih =>
  rw[XN,XN];refine .cons ?_ ih;obtain⟨h1,h2⟩:=h;by_cases e:p.1=k
  · rw[Xw e,Xw (h1.symm.trans e)];exact⟨h1,ry⟩
  · rw[Xv e,Xv (λz=>e (h1.trans z))];exact⟨h1,h2⟩
theorem KV.put {LD:List (κ×V)}{vs:List (κ×Value)}(r:KV LD vs)(k:κ){y:V}{u:Value}(ry:RelV y u):KV (putK LD k y) (stored vs k u):=by
 unfold putK stored;rw[r.any k];by_cases e:(vs.any λkv=>decide (kv.1=k))=true
 · rw[Xw e,Xw e];exact r.HA k ry
 · rw[Xv e,Xv e];exact Paired.snoc r ⟨rfl,ry⟩
theorem KV.length {LD:List (κ×V)}{vs:List (κ×Value)}(r:KV LD vs):LD.length=vs.length:=Paired.length r
end
theorem pd {P:Program}{w:World}{k:Key}{u:Value}(r:RelV (kV k) u):(cz P w).is k u=true:=by
 cases k with
 |inl i=>obtain⟨t,e⟩:=(show ∃t,u=Value.int i t from r);subst e;exact vg P w i t
 |inr x=>obtain⟨t,e⟩:=(show ∃t,u=Value.str x t from r);subst e;exact u9 P w x t
theorem q_ {P:Program}{w:World}:∀{ks:List Key} {us:aak},Vals (ks.map kV) us->ItemsAre (cz P w) ks us
 |[],_,r=>by rw[YU] at r;cases r;exact .nil
 |k::ks,_,r=>by
  rw[XN] at r;cases r with
  |cons h t=>exact .cons (pd h) (q_ t)
abbrev KT (H:Hp):List (List Key×V)->List (List Key×Addr×Value)->Prop:=Paired λp q=>p.1=q.1/\H q.2.1=some (.tup (p.1.map kV))/\RelV p.2 q.2.2
theorem KT.val {H:Hp}{LD:List (List Key×V)}{xs:List (List Key×Addr×Value)}(r:KT H LD xs)(k:List Key):iT (cQ LD k) ((atKey xs k).map (·.2)):=by
 induction r with
 |nil=>exact True.intro
 |@cons p q ps qs h t ih =>
  obtain⟨h1,_,h2⟩:=h;by_cases e:p.1=k
  · have e':q.1=k:=h1.symm.trans e;have b:atKey (q::qs) k=some q.2:=by simp[atKey,Y9,e']
    rw[da e,b];exact h2
  · have e':¬q.1=k:=λz=>e (h1.trans z);have b:atKey (q::qs) k=atKey qs k:=by simp[atKey,Y9,e']
    rw[cZ e,b];exact ih
theorem KT.HA {H:Hp}{LD:List (List Key×V)}{xs:List (List Key×Addr×Value)}(r:KT H LD xs)(k:List Key){y:V}{u:Value}(ry:RelV y u) :
  KT H (LD.map λkv=>if kv.1=k then (kv.1,y) else kv) (xs.map (putAt k u)):=by
 induction r with
 |nil=>exact .nil
 |@cons p q ps qs h t ih =>
  rw[XN,XN];refine .cons ?_ ih;obtain⟨h1,h2,h3⟩:=h;unfold putAt;by_cases e:p.1=k
  · rw[Xw e,Xw (h1.symm.trans e)];exact⟨h1,h2,ry⟩
  · rw[Xv e,Xv (λz=>e (h1.trans z))];exact⟨h1,h2,h3⟩
theorem KT.put {H:Hp}{LD:List (List Key×V)}{xs:List (List Key×Addr×Value)}(r:KT H LD xs)(k:List Key){b:Addr}{y:V}{u:Value}(hb:H b=some (.tup (k.map kV)))(ry:RelV y u) :
  KT H (putK LD k y) (storedH xs k b u):=by
 have e:(LD.any λkv=>decide (kv.1=k))=(atKey xs k).isSome:=by
  rw[ma,(r.val k).iB,Option.isSome_map]
 unfold putK storedH;rw[e];by_cases q:(atKey xs k).isSome=true
 · rw[Xw q,Xw q];exact r.HA k ry
 · rw[Xv q,Xv q];exact Paired.snoc r ⟨rfl,hb,ry⟩
theorem KT.keeps {H H':Hp}{LD:List (List Key×V)}{xs:List (List Key×Addr×Value)}(r:KT H LD xs)(ht:∀b ys,H b=some (.tup ys)->H' b=some (.tup ys)):KT H' LD xs :=
 Paired.d9 r λ_ _ z=>⟨z.1,ht _ _ z.2.1,z.2.2⟩
section
variable {P:Program}{w:World}{H:Hp}{h:Heap}{a:Addr}
theorem Fp {u:HO} (ok:iq P w H h) (e:Rd H a u):bK P w H h a u:=e.ok ok
theorem vK {LD:List (Key×V)}(ok:iq P w H h)(e:Rd H a (.dK LD)):LD.length<=sizeLine/\(a==sysModules)=false/\∃vs,KV LD vs/\h.DictOf (cz P w) a vs :=
 show bK P w H h a (.dK LD) from Fp ok e
theorem Jd {LD:List (Key×V)}(ok:iq P w H h)(e:H a=some (.dK LD)):LD.length<=sizeLine/\(a==sysModules)=false/\∃vs,KV LD vs/\h.DictOf (cz P w) a vs:=vK ok (.inl e)
theorem qf {ks:List Key}(ok:iq P w H h)(e:H a=some (.tup (ks.map kV))):(tupleKind (cz P w)).is h ks a:=by
 obtain⟨_,LF,r,o,h1,h2,n,h3⟩:=(show bK P w H h a (.tup (ks.map kV)) from ok a _ e);exact⟨o,LF.toArray,n,h1,h2,h3,by simpa using q_ r⟩
theorem vJ {LD:List (List Key×V)}(ok:iq P w H h)(e:Rd H a (.dT LD)):LD.length<=sizeLine/\(a==sysModules)=false /\
  ∃xs,KT H LD xs/\h.DictOfH (tupleKind (cz P w)) a xs:=by
 obtain⟨z,y,xs,r,o,es,ep,h1,h2,h3,h4,h5⟩:=(show bK P w H h a (.dT LD) from Fp ok e);refine⟨z,y,xs,r,o,es,ep,h1,h2,h3,h4,λx hx=>?_,h5⟩;have all:∀{l:List (List Key×V)} {m:List (List Key×Addr×Value)},KT H l m->∀x∈m,(tupleKind (cz P w)).is h x.1 x.2.1:=by
  intro l m q
  induction q with
  |nil=>intro x hx;exact nomatch hx
  |@cons p q ps qs hq t ih =>
   intro x hx;rcases Xy.mp hx with e|hx
   · subst e;exact qf ok (by rw[←hq.1];exact hq.2.1)
   · exact ih x hx
 exact all r x hx
theorem JI {LD:List (List Key×V)}(ok:iq P w H h)(e:H a=some (.dT LD)):LD.length<=sizeLine/\(a==sysModules)=false /\
  ∃xs,KT H LD xs/\h.DictOfH (tupleKind (cz P w)) a xs:=vJ ok (.inl e)
end
def gj (H:Hp)(a:Addr)(y:V)(r:Option V):Prop :=
 (∃LD k,Rd H a (.dK LD)/\y=kV k/\r=cQ LD k)∨∃LD k b,Rd H a (.dT LD)/\y=.ref b/\H b=some (.tup (k.map kV))/\r=cQ LD k
def IM (H:Hp)(a:Addr)(y v:V)(H':Hp):Prop :=
 (∃LD k,H a=some (.dK LD)/\y=kV k/\LD.length < sizeLine/\H'=upd H a (.dK (putK LD k v))) ∨
 ∃LD k b,H a=some (.dT LD)/\y=.ref b/\H b=some (.tup (k.map kV))/\LD.length < sizeLine/\H'=upd H a (.dT (putK LD k v))
theorem gj.k {H:Hp}{a:Addr}{LD:List (Key×V)}{k:Key}(e:H a=some (.dK LD)):gj H a (kV k) (cQ LD k):=.inl ⟨LD,k,.inl e,rfl,rfl⟩
theorem gj.t {H:Hp}{a b:Addr}{LD:List (List Key×V)}{k:List Key}(e:H a=some (.dT LD))(eb:H b=some (.tup (k.map kV))):gj H a (.ref b) (cQ LD k):=.inr ⟨LD,k,b,.inl e,rfl,eb,rfl⟩
section
variable {X:Cx}{pins:aaj}{σ:St}{H:Hp}{s:Shared}{a:Addr}{y v:V}{u r:Value}{o:Option V}{A:Around}{E:aah}
theorem Inv.big (I:Inv X pins σ H s):sysModules < s.heap.objs.size:=by
 have h:mainGlobals < s.heap.objs.size:=(I.mod.glob.keeps I.bk).lt;exact Nat.lt_trans (by decide) h
theorem KS {Q:aah}(hu:A.units+1 < cLine)(I:Inv X pins σ H s)(g:gj H a y o)(ry:RelV y u)(h:∀s',Inv X pins σ H s'->Q (.bool o.isSome) s') :
  wpAny (model X.prog X.w) A (compareOp .In u (.ref a)) Q E s:=by
 rcases g with ⟨LD,k,e,ey,l⟩|⟨LD,k,b,e,ey,eb,l⟩
 · subst ey;obtain⟨z,hd,vs,rel,dd⟩:=vK I.bu e;refine wpAny_in_of (pd ry) hd dd.mapOf ?_;rw[←(rel.val k).iB,←l];exact h _ (I.tok _)
 · subst ey;cases (show u=Value.ref b from ry);obtain⟨z,hd,xs,rel,dd⟩:=vJ I.bu e;refine wpAny_in_heap (Z_ hu) (qf I.bu eb) hd dd ?_;have q:=(rel.val k).iB;rw[Option.isSome_map] at q;rw[←q,←l];exact h _ (I.tok _)
theorem Em {Q:aah}(hu:A.units+1 < cLine)(I:Inv X pins σ H s)(g:gj H a y o)(ry:RelV y u)(h:∀s',Inv X pins σ H s'->Q (.bool (!o.isSome)) s') :
  wpAny (model X.prog X.w) A (compareOp .NotIn u (.ref a)) Q E s:=by
 rcases g with ⟨LD,k,e,ey,l⟩|⟨LD,k,b,e,ey,eb,l⟩
 · subst ey;obtain⟨z,hd,vs,rel,dd⟩:=vK I.bu e;refine wpAny_notIn_of (pd ry) hd dd.mapOf ?_;rw[←(rel.val k).iB,←l];exact h _ (I.tok _)
 · subst ey;cases (show u=Value.ref b from ry);obtain⟨z,hd,xs,rel,dd⟩:=vJ I.bu e;refine wpAny_notIn_heap (Z_ hu) (qf I.bu eb) hd dd ?_;have q:=(rel.val k).iB;rw[Option.isSome_map] at q;rw[←q,←l];exact h _ (I.tok _)
theorem ym {h':Heap}{t':Nat}{ob:HO}(I:Inv X pins σ H s)(mu:JG (H a))(hs:Heap.SameBut a s.heap h')(he:∃q,h'.get? a=some q)(new:bK X.prog X.w (upd H a ob) h' a ob) :
  Inv X pins σ (upd H a ob) {s with heap:=h',toks:=t'} :=
 I.write (x:=a) (e:=a) mu (.inl rfl) (λb q hb z=>(hs.2 b hb).trans z) he new
theorem GU {P:Program}{w:World}{H':Hp}{h':Heap}{LD:List (Key×V)}{vs:List (Key×Value)}(z:LD.length<=sizeLine)(hd:(a==sysModules)=false)(rel:KV LD vs)(dd:h'.DictOf (cz P w) a vs) :
  bK P w H' h' a (.dK LD):=⟨z,hd,vs,rel,dd⟩
theorem zR {H':Hp}{Q:Unit->Shared->Prop}(hu:A.units+1 < cLine)(I:Inv X pins σ H s)(g:IM H a y v H')(ry:RelV y u)(rv:RelV v r)(h:∀s',Inv X pins σ H' s'->Q () s') :
  wpAny (model X.prog X.w) A (setItem (.ref a) u r) Q E s:=by
 rcases g with ⟨LD,k,e,ey,l,eH⟩|⟨LD,k,b,e,ey,eb,l,eH⟩
 · subst ey eH;obtain⟨z,hd,vs,rel,dd⟩:=Jd I.bu e;have hz:vs.length<=sizeLine:=by rw[←rel.length];exact z
   have hl:(putK LD k v).length<=sizeLine:=by have:=gJ LD k v;omega
   refine wpAny_setItem_pairs (hsz:=hz) (pd ry) dd λh' PU hs=>h _ ?_;have he:∃q,h'.get? a=some q:=let ⟨q,_,_,hq,_⟩:=PU;⟨q,hq⟩;exact ym I (by rw[e];exact True.intro) hs he (GU hl hd (rel.put k rv) PU)
 · subst ey eH;cases (show u=Value.ref b from ry);obtain⟨z,hd,xs,rel,dd⟩:=JI I.bu e;have hz:xs.length<=sizeLine:=by rw[←Paired.length rel];exact z
   have hl:(putK LD k v).length<=sizeLine:=by have:=gJ LD k v;omega
   refine wpAny_setItem_heap (hsz:=hz) (Z_ hu) (qf I.bu eb) dd λh' PU hs=>h _ ?_;obtain⟨q,es,ep,hq,h2,h3,h4,_,h5⟩:=PU;refine ym I (by rw[e];exact True.intro) hs ⟨q,hq⟩ ⟨hl,hd,_,(rel.put k eb rv).keeps λc ys ec=>?_,q,es,ep,hq,h2,h3,h4,h5⟩;rw[aq (dG ec e (λz=>nomatch z))];exact ec
end
section
variable {X:Cx}{pins:aaj}{σ:St}{H:Hp}{s:Shared}{a:Addr}{LD:List (Key×V)}{k:Key}{u:Value}{A:Around}{E:aah}
end
def IT (i:Expr):Prop:=∀ov iv,subscripted i false ov iv=operate [ov,iv] (getItem ov iv)
theorem E2 {prog:Program}{w:World}{A:Around}{E:aah}{s:Shared}{env:Env}{value slice:Expr}{pos:Pos}{T id:String}{Q:aah}
  (hl:typeLookup (.type T) "__getitem__"=pure (some (.builtin id)))(hs:IT slice)
  (h:wpAny (model prog w) A (eval value env) (λo s₁=>wpAny (model prog w) A (eval slice env) (λi s₂=>s₂.TypeIs o T/\wpAny (model prog w) A (getItem o i) Q E s₂) E s₁) E s) :
  wpAny (model prog w) A (eval (.Subscript value slice pos) env) Q E s:=by
 refine Subscript_ (YM h (λo s₁ h₁=>YM h₁ (λi s₂ h₂=>?_) λ_ _ x=>x) λ_ _ x=>x);obtain⟨hT,h₂⟩:=h₂;unfold subscriptTail;refine Xs ?_;rw[getitemInPython_of_ne hT.not_modules];refine Xs (wpAny_specialOf hT hl ?_);have fin:wpAny (model prog w) A (subscripted slice false o i) (λr s₃=>wpAny (model prog w) A (letTemporaryGo value o r >>= λ_=>pure r) Q E s₃) E s₂:=by
  rw[hs o i];exact wpAny_operating (YM h₂ (λr s₃ h₃=>Xs (wpAny_letTemporaryGo (XA h₃))) λ_ _ x=>x)
 first
  |exact XA (Xs fin)
  |exact Xs (XA (Xs fin))
  |exact Xs fin
def Iu (ty td:TE):TE:=λσ H Q=>ty σ H λy H1=>td σ H1 λx H2=>∃a o,x=.ref a/\gj H2 a y o/\Q (.bl o.isSome) H2
def C8 (ty td:TE):TE:=λσ H Q=>ty σ H λy H1=>td σ H1 λx H2=>∃a o,x=.ref a/\gj H2 a y o/\Q (.bl (!o.isSome)) H2
def Jv (td ty tv:TE):TS:=λD σ H=>tv σ H λv H1=>td σ H1 λx H2=>ty σ H2 λy H3=>∃a H4,x=.ref a/\IM H3 a y v H4/\D.nx σ H4
section
variable {X:Cx}{o i e value:Expr}{pos pos' LW:Pos}{td ty tv:TE}
theorem ui (hu:X.A.units+1 < cLine) (hi:PE X i ty) (ho:PE X o td):PC X .In i o (Iu ty td):=by
 intro pins s σ H Q I h;refine bB (hi pins s σ H _ I h) λiv s1 ⟨y,H1,I1,ry,q1⟩=>bB (ho pins s1 σ H1 _ I1 q1) λu s2 ⟨x,H2,I2,rx,a,ov,ex,g,q2⟩=>?_;subst ex;obtain rfl:u=Value.ref a:=rx;exact KS hu I2 g ry λs3 I3=>⟨.bl ov.isSome,H2,I3,rfl,q2⟩
theorem zN (hu:X.A.units+1 < cLine)(hi:PE X i ty)(ho:PE X o td):PC X .NotIn i o (C8 ty td):=by
 intro pins s σ H Q I h;refine bB (hi pins s σ H _ I h) λiv s1 ⟨y,H1,I1,ry,q1⟩=>bB (ho pins s1 σ H1 _ I1 q1) λu s2 ⟨x,H2,I2,rx,a,ov,ex,g,q2⟩=>?_;subst ex;obtain rfl:u=Value.ref a:=rx;exact Em hu I2 g ry λs3 I3=>⟨.bl (!ov.isSome),H2,I3,rfl,q2⟩
theorem lY (hu:X.A.units+1 < cLine)(ho:PE X o td)(hi:PE X i ty)(hv:PE X value tv)(hs:swapsWith value (some (.Subscript o i pos')) pos.line X.env=pure false) :
  PS X (.Assign [.Subscript o i pos'] value pos) (Jv td ty tv):=by
 intro pins s σ H D I h;refine wpAny_Assign_Subscript (bB (hv pins s σ H _ I h) λr s1 ⟨v,H1,I1,rv,q1⟩=>bB (ho pins s1 σ H1 _ I1 q1) λu s2 ⟨x,H2,I2,rx,q2⟩=>bB (hi pins s2 σ H2 _ I2 q2) λiv s3 ⟨y,H3,I3,ry,a,H4,ex,g,q3⟩=>?_) hs;subst ex;obtain rfl:u=Value.ref a:=rx;exact zR hu I3 g ry rv λs4 I4=>⟨σ,H4,I4,q3⟩
end
theorem Cu {P:Program}{w:World}{H:Hp}(h:Heap)(hb:sysModules < h.objs.size):bK P w H (h.push {cls:=.type "dict",data:=.dict #[]}) h.objs.size (.dK []) :=
 ⟨X2 _,X3.mpr (Z8 (X7 hb)),[],.nil,Heap.DictOf.new h⟩
theorem AE {P:Program}{w:World}{H:Hp}(h:Heap)(hb:sysModules < h.objs.size):bK P w H (h.push {cls:=.type "dict",data:=.dict #[]}) h.objs.size (.dT []) :=
 ⟨X2 _,X3.mpr (Z8 (X7 hb)),[],.nil,_,#[],0,XM _ rfl,⟨rfl,rfl,rfl⟩,rfl,rfl,List.nodup_nil⟩
def Hv:TE:=λ_ H Q=>∀p,H p=none->Q (.ref p) (upd H p (.dK []))
def Gd:TE:=λ_ H Q=>∀p,H p=none->Q (.ref p) (upd H p (.dT []))
section
variable {X:Cx}{pos:Pos}
theorem qd:PE X (.Dict [] [] pos) Hv:=λpins s σ H Q I h =>
 wpAny_Dict_empty ⟨.ref s.heap.objs.size,_,I.laid (a:=s.heap.objs.size) (o:=.dK []) (t':=s.toks) (λ_ _ q=>Xx _ q) (XD _) (Cu s.heap I.big),rfl,h _ (I.bu.fresh (XD _))⟩
theorem pU:PE X (.Dict [] [] pos) Gd:=λpins s σ H Q I h =>
 wpAny_Dict_empty ⟨.ref s.heap.objs.size,_,I.laid (a:=s.heap.objs.size) (o:=.dT []) (t':=s.toks) (λ_ _ q=>Xx _ q) (XD _) (AE s.heap I.big),rfl,h _ (I.bu.fresh (XD _))⟩
end
structure M2 (X:Cx)(o:Expr)(m:Str)(apos:Pos)(e f:Expr)(LK:Pos):Prop where
 base:attributeBase o m X.env (eval o X.env)=eval o X.env
 vY:((backTo LK (starEach [e,f] X.env)).all (λx=>!x.1)&&(backToKw LK (keywordEach [] X.env)).all (λx=>x.1.isSome)
  && decide (([e,f]:List Expr).length+([]:List Keyword).length+(if ([]:List Keyword).isEmpty then 0 else 1) < 30))=true
 line:(apos.endLine==LK.line)=true
 trees:backTo LK (starEach [e,f] X.env)=[(false,eval e X.env),(false,eval f X.env)]
def K_ (H:Hp)(a:Addr):Prop:=(∃LD,Rd H a (.dK LD))∨∃LD,Rd H a (.dT LD)
theorem HX {X:Cx}{pins:aaj}{σ:St}{H:Hp}{s:Shared}{a:Addr}(I:Inv X pins σ H s)(d:K_ H a) :
  s.TypeIs (.ref a) "dict"/\(∀b,Value.ref a=.ref b->∃ob,s.heap.get? b=some ob/\ob.dict=none)/\(a==sysModules)=false:=by
 rcases d with ⟨LD,e⟩|⟨LD,e⟩
 · obtain⟨_,hd,vs,_,dd⟩:=vK I.bu e;refine⟨dd.typeIs,λb q=>?_,hd⟩;cases q;obtain⟨ob,_,_,h1,h2,_⟩:=dd;exact⟨ob,h1,h2.2.1⟩
 · obtain⟨_,hd,xs,_,dd⟩:=vJ I.bu e;refine⟨dd.typeIs,λb q=>?_,hd⟩;cases q;obtain⟨ob,_,_,h1,h2,_⟩:=dd;exact⟨ob,h1,h2.2.1⟩
section
variable {X:Cx}{pins:aaj}{σ:St}{H:Hp}{s:Shared}{a:Addr}{y d:V}{u r:Value}{o:Option V}{A:Around}{E:aah}
theorem GY {Q:aah} (hu:A.units+1 < cLine) (I:Inv X pins σ H s) (g:gj H a y o) (ry:RelV y u) (rd:RelV d r) (h:∀w' s',Inv X pins σ H s'->RelV (o.getD d) w'->Q w' s') :
  wpAny (model X.prog X.w) A (call (.builtin "dict.get") [.ref a,u,r]) Q E s:=by
 rcases g with ⟨LD,k,e,ey,l⟩|⟨LD,k,b,e,ey,eb,l⟩
 · subst ey;obtain⟨z,hd,vs,rel,dd⟩:=vK I.bu e;refine call_meetsIn PySem.F.slot_dict_get dd.typeIs PySem.F.entry_dict_get (PySem.F.args_dict_get_3 _ _ _) (meets_dict_get_default (cz X.prog X.w) a (pd ry) hd r) ⟨_,dd.mapOf,h _ _ (I.tok _) ?_⟩;rw[l];exact (rel.val k).getD rd
 · subst ey;cases (show u=Value.ref b from ry);obtain⟨z,hd,xs,rel,dd⟩:=vJ I.bu e;refine call_meetsIn PySem.F.slot_dict_get dd.typeIs PySem.F.entry_dict_get (PySem.F.args_dict_get_3 _ _ _) (meetsH_dict_get_default (tupleKind (cz X.prog X.w)) a b hd r) ⟨Z_ hu,k,xs,qf I.bu eb,dd,h _ _ (I.tok _) ?_⟩;rw[l];exact (rel.val k).getD rd
end
def GX (td ty tx:TE):TE:=λσ H Q=>td σ H λx H1=>∃a,x=.ref a/\K_ H1 a/\ty σ H1 λy H2=>tx σ H2 λz H3=>∃o,gj H3 a y o/\Q (o.getD z) H3
section
variable {X:Cx}{o e f:Expr}{apos LK:Pos}{td ty tx:TE}
theorem vM (hu:X.A.units+1 < cLine) (ho:PE X o td) (he:PE X e ty) (hf:PE X f tx) (m:M2 X o "get" apos e f LK):PE X (.Call (.Attribute o "get" apos) [e,f] [] LK) (GX td ty tx):=by
 intro pins s σ H Q I h;refine wpAny_Call_method m.base m.vY m.line PySem.F.plainAttrs_dict PySem.F.slot_dict_get PySem.F.type_dict_get (bB (ho pins s σ H _ I h) λu s1 ⟨x,H1,I1,rx,a,ex,d,q1⟩=>?_);subst ex;obtain rfl:u=Value.ref a:=rx;obtain⟨t1,t2,_⟩:=HX I1 d;refine⟨t1,t2,?_⟩;rw[m.trees];refine ZU rfl (Calls.evalArgs_plain (aad (bB (he pins s1 σ H1 _ I1 q1) λiv s2 ⟨y,H2,I2,ry,q2⟩ =>
  aad (bB (hf pins s2 σ H2 _ I2 q2) λfv s3 ⟨z,H3,I3,rz,ov,g,q3⟩=>Calls.spliced_nil ?_))))
 exact GY hu I3 g ry rz λw' s4 I4 NO=>⟨_,H3,I4,NO,q3⟩
end
section
variable {X:Cx}{pins:aaj}{σ:St}{H:Hp}{s:Shared}{a:Addr}{LD:List (Key×V)}{A:Around}{E:aah}
end
section
variable {X:Cx}{pins:aaj}{σ:St}{H:Hp}{s:Shared}{a:Addr}{y:V}{u:Value}{A:Around}{E:aah}
end
section
variable {prog:Program}{w:World}{A:Around}{E:aah}
end
section
variable {X:Cx}
end
section
variable {X:Cx}{pins:aaj}{σ:St}{H:Hp}{s:Shared}{h':Heap}
theorem Inv.EY {t':Nat} {ch:List Addr} (I:Inv X pins σ H s) (k:∀b o,b∉ch->s.heap.get? b=some o->h'.get? b=some o) (hf:∀b∈ch,mP X pins H b):Inv X pins σ H {s with heap:=h',toks:=t'}:=by
 have Nk:∀b u,H b=some u->b∉ch:=λb u e z=>by
  have q:=(hf b z).1;rw[q] at e;cases e
 refine I.step (g':=s.gens) (d':=s.drawn) (ch:=ch) (λb hb=>⟨(hf b hb).2.2.2.1,(hf b hb).2.1,(hf b hb).2.2.2.2.1,(hf b hb).2.2.2.2.2⟩) (λb o _ _ hc e _=>k b o hc e) (λb o _ _ hc e _=>⟨o.slots,k b o hc e⟩)
  (λ_ _ _ _ n=>n) (λb o hc e=>⟨o,k b o hc e⟩) (λ_ _ e=>e) (λ_ _ _ e=>e) (λb ps e=>⟨#[],by rw[e];simp⟩) (λm hm=>?_) (λb u e=>?_) I.bare
 · obtain⟨o,es,ep,ho,r⟩:=hm;exact⟨o,es,ep,k _ o (λz=>(hf _ z).2.1 rfl) ho,r⟩
 · refine (I.bu b u e).kK (λc v hc q=>k c v ?_ q) (λ_ q=>q) λ_ _ q=>q;rcases hc with z|z
   · rw[z];exact Nk b u e
   · exact Nk c _ z
theorem Inv.rJ {t':Nat}{ch:List Addr}{T:Addr}{ob:HO}(I:Inv X pins σ H s)(k:∀b o,b∉ch->s.heap.get? b=some o->h'.get? b=some o)(hf:∀b∈ch,mP X pins H b)(hT:s.heap.objs.size<=T)
  (new:bK X.prog X.w (upd H T ob) h' T ob):Inv X pins σ (upd H T ob) {s with heap:=h',toks:=t'}:=by
 have hn:H T=none:=I.bu.fresh hT;have Nk:∀b u,H b=some u->b∉ch:=λb u e z=>by
  have q:=(hf b z).1;rw[q] at e;cases e
 refine I.step (g':=s.gens) (d':=s.drawn) (ch:=ch) (λb hb=>⟨(hf b hb).2.2.2.1,(hf b hb).2.1,(hf b hb).2.2.2.2.1,(hf b hb).2.2.2.2.2⟩) (λb o _ _ hc e _=>k b o hc e) (λb o _ _ hc e _=>⟨o.slots,k b o hc e⟩)
  (λb o _ e n=>?_) (λb o hc e=>⟨o,k b o hc e⟩) (λb xs e=>?_) (λb o u e=>?_) (λb ps e=>⟨#[],?_⟩) (λm hm=>?_) (λb u e=>?_) I.bare
 · rw[aq (X7 (Yb (XH e) hT))];exact n
 · rw[aq (ao e hn)];exact e
 · rw[aq (ao e hn)];exact e
 · rw[aq (ao e hn),e];simp
 · obtain⟨o,es,ep,ho,r⟩:=hm;exact⟨o,es,ep,k _ o (λz=>(hf _ z).2.1 rfl) ho,r⟩
 · by_cases hb:b=T
   · subst hb;rw[ae] at e;cases e;exact new
   · rw[aq hb] at e;refine (I.bu b u e).kK (λc v hc q=>k c v ?_ q) (λc q=>by rw[aq (ao q hn)];exact q) λc xs q=>by rw[aq (ao q hn)];exact q
     rcases hc with z|z
     · rw[z];exact Nk b u e
     · exact Nk c _ z
end
section
variable {X:Cx}
theorem wC {tg:Expr} {pins:aaj} {σ:St} {H:Hp} {s:Shared} {R:It->Hp->Prop} {J:It} {tn:Nat->Heap->Prop} {tk:Nat} (I:Inv X pins σ H s) (o:Obj)
  (T:Turn X.prog X.w X.K tg J [s.heap.objs.size] s.heap.objs.size tn) (st:tn 0 (s.heap.push o)) (q:R J H):Kw X pins σ tg R (.ref s.heap.objs.size) {s with heap:=s.heap.push o,toks:=tk}:=by
 refine⟨s.heap.objs.size,[s.heap.objs.size],tn,J,H,rfl,I.kept λb ob e=>Xx _ e,T,st,λb hb=>?_,q⟩;have e:b=s.heap.objs.size:=by simpa using hb
 subst e;exact I.wG (XD _) (I.bu.fresh (XD _))
end
def Ic (lo c:Int)(n:Nat):It:=⟨λi _=>i < n,λi H x H'=>H'=H/\x=.int (lo+(i:Nat)*c),λi _=>n<=i⟩
theorem vR {P:Program}{w:World}{K:aag}{tg:Expr}(it:Addr)(lo c:Int)(n:Nat):Turn P w K tg (Ic lo c n) [it] it (λi h=>IsRangeIter h it (lo+(i:Nat)*c) ((n:Int) - (i:Nat)) c) where
 mem:=by simp
 obj:=λi h st b hb=>by
  have e:b=it:=by simpa using hb
  subst e;exact⟨_,st,λv z=>nomatch z⟩
 keep:=λi h h' st k=>k it (by simp) _ st
 item:=by
  intro X hP hw hK hc i pins s σ H E I hf st hg;subst hP hw hK;obtain⟨f0,f1,f2,f3,f4,f5⟩:=hf it (by simp);have W:=Walks.range (prog:=X.prog) (w:=X.w) (I.ok.hd hc) it lo c n;refine W.item i s _ _ hg st λv h' tk hv Mq kk=>?_;obtain⟨t,rfl⟩:=hv;have I1:Inv X pins σ H {s with heap:=h',toks:=tk}:=I.turned (λb o hb e=>kk b o (by simpa using hb) e) f0 f1 f3 f4 f5;exact⟨_,rfl,vN (s:={s with heap:=h',toks:=tk}) (n:="range_iterator") Mq rfl rfl (by decide) ⟨.int (lo+(i:Nat)*c),H,I1,⟨t,rfl⟩,⟨rfl,rfl⟩,Mq,λb hb=>(hf b hb).1⟩⟩
 done:=by
  intro X hP hw hK hc i pins s σ H E I hf st hg;subst hP hw hK;obtain⟨f0,f1,f2,f3,f4,f5⟩:=hf it (by simp);exact wpAny_pyNext_range_end (I.ok.hd hc) st (by have:n<=i:=hg;omega) λh' eb=>⟨rfl,I.turned (t':=s.toks) (λb o hb e=>eb b o hb e) f0 f1 f3 f4 f5⟩
 self:=λA i s Q E st h=>wpAny_pyIter_rangeiter st h
def JS (i j c:Int)(n:Nat):Prop:=c≠0/\c.natAbs < 1073741824/\Builtin.Range.small i j c=true/\Builtin.Range.rangeSize i j c=n
theorem JS.neg {i j:Int}(ha:-(2 ^ 62)<=i)(Q7:i < 2 ^ 62)(hb:-(2 ^ 62)<=j)(PV:j < 2 ^ 62):JS i j (-1) (i - j).toNat :=
 ⟨by decide,by decide,PySem.W.small_down ha Q7 hb PV,PySem.W.rangeSize_downNat i j⟩
def Fx (ta:TA):TI:=λσ H R=>ta σ H λvs H1=>∃(i j c:Int) (n:Nat),vs=[.int i,.int j,.int c]/\JS i j c n/\R (Ic i c n) H1
section
variable {X:Cx}{tg:Expr}
theorem sy {a b c:Expr} {ta:TA} {p pos:Pos} (hg:Gl X "range") (hm:X.mg "range"=none) (ha:PA X [a,b,c] ta)
  (hs:starEach [a,b,c] X.env=(false,eval a X.env)::starEach [b,c] X.env:=by rfl) (LO:(backTo pos (starEach [b,c] X.env)).any (·.1)=false:=by rfl) :
  PI X tg (.Call (.Name "range" p) [a,b,c] [] pos) (Fx ta):=by
 intro pins s σ H R I h;refine Call_ (lK I hg hm boot_range (YW (bB (ha pos pins s σ H _ I h) λus s1 ⟨vs,H1,I1,r1,q1⟩=>?_) hs LO));obtain⟨i,j,k,n,e,⟨c0,c1,c2,c3⟩,q⟩:=q1;subst e;cases r1 with
 |cons r rr =>
  cases rr with
  |cons r' rr =>
   cases rr with
   |cons Vu rr =>
    cases rr;obtain⟨t,rfl⟩:=r;obtain⟨t',rfl⟩:=r';obtain⟨Vv,rfl⟩:=Vu;refine call_range_3 c0 ?_ (.inl (PyProof.noPylong_small c1));refine wpAny_pyIter_range (IsRange.new ..) c2 ?_;have I2:Inv X pins σ H1 {s1 with heap:=s1.heap.push {cls:=.type "range",data:=.fields #[.int i t,.int j t',.int k Vv]}}:=I1.kept (t':=s1.toks) λb o e=>Xx _ e;refine wC (tk:=s1.toks) I2 _ (vR _ i k n) ?_ q;have e1:i+((0:Nat):Int)*k=i:=by simp
    have e2:(n:Int) - ((0:Nat):Int)=Builtin.Range.rangeSize i j k:=by rw[c3];simp
    show IsRangeIter _ _ (i+((0:Nat):Int)*k) ((n:Int) - ((0:Nat):Int)) k;rw[e1,e2];exact XM _ rfl
end
theorem pZ {lo c:Int}{n:Nat}{g:TG}{tb:TS}{D:Ends}{σ:St}{H:Hp}(Pv:Nat->St->Hp->Prop)(h0:Pv 0 σ H)
  (hs:∀i σ H,i < n->Pv i σ H->g (.int (lo+(i:Nat)*c)) σ H λσ2 H2=>tb {D with nx:=Pv (i+1),ct:=Pv (i+1),bk:=D.nx} σ2 H2)(hd:∀σ H,Pv n σ H->D.nx σ H) :
  ∃W:Nat->Nat->St->Hp->Prop,(∃m,W 0 m σ H)/\∀i m σ H,W i m σ H ->
   ((Ic lo c n).stop i H/\D.nx σ H)∨((Ic lo c n).go i H/\∃N:St->Hp->Prop,(∀σ' H',N σ' H'->∃m',m' < m/\W (i+1) m' σ' H')/\∀x H',(Ic lo c n).v_ i H x H'->g x σ H' λσ2 H2=>tb {D with nx:=N,ct:=N,bk:=D.nx} σ2 H2):=by
 refine⟨λi m σ H=>m=n - i/\i<=n/\Pv i σ H,⟨n,by simp,X2 _,h0⟩,?_⟩;rintro i m σ H ⟨rfl,hi,p⟩;by_cases LJ:i < n
 · refine .inr ⟨LJ,Pv (i+1),λσ' H' p'=>⟨n - (i+1),by omega,rfl,LJ,p'⟩,λx H' y=>?_⟩;obtain⟨e,y⟩:=y;subst e y;exact hs i σ _ LJ p
 · have e:i=n:=by omega
   subst e;exact .inl ⟨XD _,hd σ H p⟩
section
variable {X:Cx}{tg:Expr}
end
def Jf (x:Str):It:=⟨λi _=>i < x.cps.size,λi H v H'=>H'=H/\∃c,x.cps[i]?=some c/\v=.str ⟨#[c]⟩,λi _=>x.cps.size<=i⟩
theorem vw {P:Program}{w:World}{K:aag}{tg:Expr}(it:Addr)(x:Str)(t:Tok)(ty:String)(Ob:ty="str_ascii_iterator"∨ty="str_iterator") :
  Turn P w K tg (Jf x) [it] it (λi h=>h.IsStrIter it ty x t i) where
 mem:=by simp
 obj:=λi h st b hb=>by
  have e:b=it:=by simpa using hb
  subst e;obtain⟨o,e,c,d⟩:=st;exact⟨o,e,λv z=>by rw[d] at z;cases z⟩
 keep:=λi h h' st k=>let ⟨o,ho,r⟩:=st;⟨o,k it (by simp) o ho,r⟩
 item:=by
  intro X hP hw hK hc i pins s σ H E I hf st hg;subst hP hw hK;obtain⟨f0,f1,f2,f3,f4,f5⟩:=hf it (by simp);have W:Walks X.prog X.w X.A it [it] [it] x.cps.size (SignAt x) (λi h=>h.IsStrIter it ty x t i):=by
   rcases Ob with e|e
   · rw[e];exact Walks.strAscii (I.ok.hd hc) it x t
   · rw[e];exact Walks.strWide (I.ok.hd hc) it x t
  have MV:["enumerate","zip","dict_itemiterator","dict_reverseitemiterator","odict_iterator","itertools.zip_longest","itertools.pairwise"].contains ty=false:=by
   rcases Ob with e|e
   · rw[e];decide
   · rw[e];decide
  refine W.item i s _ _ hg st λv h' tk hv Mq kk=>?_;obtain⟨c,u,Vw,rfl⟩:=hv;have I1:Inv X pins σ H {s with heap:=h',toks:=tk}:=I.turned (λb o hb e=>kk b o (by simpa using hb) e) f0 f1 f3 f4 f5;obtain⟨oi,e,cc,dd⟩:=id Mq;exact⟨_,rfl,vN (s:={s with heap:=h',toks:=tk}) e cc dd MV ⟨.str ⟨#[c]⟩,H,I1,⟨u,rfl⟩,⟨rfl,c,Vw,rfl⟩,Mq,λb hb=>(hf b hb).1⟩⟩
 done:=by
  intro X hP hw hK hc i pins s σ H E I hf st hg;subst hP hw hK;obtain⟨f0,f1,f2,f3,f4,f5⟩:=hf it (by simp);have hx:x.cps[i]?=none:=Array.getElem?_eq_none hg;rcases Ob with e|e
  · rw[e] at st;exact wpAny_pyNext_ascii_end (I.ok.hd hc) st hx λh' eb=>⟨rfl,I.turned (t':=s.toks) (λb o hb e=>eb b o hb e) f0 f1 f3 f4 f5⟩
  · rw[e] at st;exact wpAny_pyNext_wide_end (I.ok.hd hc) st hx λh' eb=>⟨rfl,I.turned (t':=s.toks) (λb o hb e=>eb b o hb e) f0 f1 f3 f4 f5⟩
 self:=λA i s Q E st h=>by
  rcases Ob with e|e
  · rw[e] at st;exact wpAny_pyIter_striter_ascii st h
  · rw[e] at st;exact wpAny_pyIter_striter_wide st h
def Kx (te:TE):TI:=λσ H R=>te σ H λv H1=>∃x,v=.str x/\R (Jf x) H1
theorem G_ {X:Cx}{tg e:Expr}{te:TE}(he:PE X e te):PI X tg e (Kx te):=by
 intro pins s σ H R I h;refine bB (he pins s σ H _ I h) λv s1 ⟨y,H1,I1,r1,x,ex,q⟩=>?_;subst ex;obtain⟨t,rfl⟩:=r1;cases ha:x.cps.all (· < 128)
 · exact wpAny_pyIter_wide ha (wC (tk:=s1.toks) I1 _ (vw _ x t "str_iterator" (.inr rfl)) ⟨_,XM _ rfl,rfl,rfl⟩ q)
 · exact wpAny_pyIter_ascii ha (wC (tk:=s1.toks) I1 _ (vw _ x t "str_ascii_iterator" (.inl rfl)) ⟨_,XM _ rfl,rfl,rfl⟩ q)
section
variable {prog:Program}{w:World}{A:Around}{E:aah}{s:Shared}
theorem zr {d:Addr} {o:Obj} {es:Array DictEntry} {ep:Nat} {Q:aah} (hd:(d==sysModules)=false) (ho:s.heap.get? d=some o) (hc:o.ExactDict) (OP:o.data=.dict es ep)
  (hQ:Q (.ref s.heap.objs.size) {s with heap:=s.heap.push {cls:=.type "dict_keyiterator",data:=.fields #[.ref d,.int 0 0,.int es.size 0,.int ep 0]}}) :
  wpAny (model prog w) A (pyIter (.ref d)) Q E s:=by
 have hT:s.TypeIs (.ref d) "dict":=⟨o,ho,hc.1⟩;refine wpAny_pyIter_slot hT F.slot_dict_iter (YR F.slot_dict_iter hT F.entry_dict_iter ?_ (F.args_dict_iter_1 _));unfold Builtin.«dict.__iter__»;refine Xs ?_;unfold Builtin.Dict.dictSlotNone;refine Xs (wpAny_notOrdered_dict hT ?_);show wpAny _ _ (pure (Value.ref d)) _ _ s;refine XA ?_;show wpAny _ _ (Builtin.Dict.showsAll d >>= _) _ _ s;unfold Builtin.Dict.showsAll;rw[Xv (by rw[hd];exact XW)];refine Xs (XA ?_);refine Xs (wpAny_dictEntries ho OP ?_);refine Xs (wpAny_dictEpoch ho OP ?_);refine Xs (YX (XA ⟨_,rfl,"dict_keyiterator",_,⟨_,XM _ rfl,rfl⟩,Y6.lookup,?_⟩));simpa [rawInt] using hQ
theorem qQ {it d:Addr}{i n ep:Nat}{od:Obj}{es:Array DictEntry}{en:DictEntry}{Q:Option Value->Shared->Prop}(hit:s.heap.IsKeyIter it d i n ep)(OQ:s.heap.get? d=some od)(OR:od.data=.dict es ep)
  (hsz:es.size=n)(hx:es[i]?=some en)(hQ:∀h',h'.IsKeyIter it d (i+1) n ep->Heap.SameBut it s.heap h'->Q (some en.key) {s with heap:=h'}):wpAny (model prog w) A (pyNext (.ref it)) Q E s:=by
 obtain⟨o,ho,hc,hd⟩:=id hit;unfold pyNext;refine Xs (wpAny_attempt (YK (name:=Str.ofString "__next__") hit.typeIs Y6
  (YR Y6 hit.typeIs F.entry_dict_keyiterator_next ?_ (F.args_dict_keyiterator_next_1 _))))
 refine Xs (XA ?_);refine Xs ?_;refine Xs ?_
 first|refine Xs (Zn hit.typeIs (XA ?_))|refine Xs (ZG hit.typeIs (XA ?_))
 refine Xs (wpAny_fieldsOf ho hd ?_);have NS:Builtin.Dict_items.ownsTuple "dict_keyiterator"=false:=by decide
 simp only[NS,YV,Zu];show wpAny _ _ (if (Value.ref d==Value.none)=true then _ else _) _ _ s;rw[Xv (show ¬((Value.ref d==Value.none)=true) from XW)];refine Xs (XA ?_);refine Xs (wpAny_dictEntries OQ OR ?_);rw[Xv (by rw[hsz];simp)];refine Xs (XA ?_);refine Xs (wpAny_dictEpoch OQ OR ?_);rw[Xv (by simp)];refine XA ?_;obtain⟨Q8,Od⟩:=Array.getElem?_eq_some_iff.mp hx;simp only[show ¬((i:Int) < 0) from by omega,Zu,Yg,Array.getElem?_eq_getElem Q8];refine Xs ?_
 first|refine Xs (Zn hit.typeIs (XA ?_))|refine Xs (ZG hit.typeIs (XA ?_))
 refine Xs (wpAny_isOneOf_keyiter hit.typeIs ?_);show wpAny _ _ (setField (.ref it) 1 (rawInt ((i:Int)+1)) >>= _) _ _ s;refine Xs (wpAny_setField ho hd (by simp) ?_);have M6:(s.heap.update it (Obj.mapFields (·.setIfInBounds 1 (rawInt ((i:Int)+1))))).IsKeyIter it d (i+1) n ep :=
  ⟨_,Yu _ ho (Obj.isFreed_of_fields (Obj.data_mapFields hd _)),(Obj.cls_mapFields ..).trans hc,by rw[Obj.data_mapFields hd];simp[rawInt]⟩
 refine Xs (Zw ?_);refine Xs (wpAny_isOneOf_keyiter (s:={s with heap:=s.heap.update it (Obj.mapFields (·.setIfInBounds 1 (rawInt ((i:Int)+1))))}) M6.typeIs ?_);show wpAny _ _ (pure es[i].key) _ _ _;rw[Od];exact XA (XA ⟨_,rfl,XA (hQ _ M6 (XX ..))⟩)
theorem tf {it d:Addr}{i n ep:Nat}{od:Obj}{es:Array DictEntry}{Q:Option Value->Shared->Prop}(hh:A.handled=none)(hit:s.heap.IsKeyIter it d i n ep)(OQ:s.heap.get? d=some od)(OR:od.data=.dict es ep)
  (hsz:es.size=n)(Vx:n<=i)(hQ:∀h',Heap.ExtBut it s.heap h'->Q none {s with heap:=h'}):wpAny (model prog w) A (pyNext (.ref it)) Q E s:=by
 obtain⟨o,ho,hc,hd⟩:=id hit;unfold pyNext;refine Xs (wpAny_attempt (YK (name:=Str.ofString "__next__") hit.typeIs Y6
  (YR Y6 hit.typeIs F.entry_dict_keyiterator_next ?_ (F.args_dict_keyiterator_next_1 _))))
 refine Xs (XA ?_);refine Xs ?_;refine Xs ?_
 first|refine Xs (Zn hit.typeIs (XA ?_))|refine Xs (ZG hit.typeIs (XA ?_))
 refine Xs (wpAny_fieldsOf ho hd ?_);have NS:Builtin.Dict_items.ownsTuple "dict_keyiterator"=false:=by decide
 simp only[NS,YV,Zu];show wpAny _ _ (if (Value.ref d==Value.none)=true then _ else _) _ _ s;rw[Xv (show ¬((Value.ref d==Value.none)=true) from XW)];refine Xs (XA ?_);refine Xs (wpAny_dictEntries OQ OR ?_);rw[Xv (by rw[hsz];simp)];refine Xs (XA ?_);refine Xs (wpAny_dictEpoch OQ OR ?_);rw[Xv (by simp)];refine XA ?_;have Q9:es.size<=i:=by rw[hsz];exact Vx
 simp only[show ¬((i:Int) < 0) from by omega,Zu,Yg,Array.getElem?_eq_none Q9];refine Xs ?_
 first|refine Xs (Zn hit.typeIs (XA ?_))|refine Xs (ZG hit.typeIs (XA ?_))
 show wpAny _ _ (setField (.ref it) 0 .none >>= _) _ _ s;refine Xs (wpAny_setField ho hd (by simp) ?_);show wpAny _ _ (newExc (.type "StopIteration") [] >>= _) _ _ _;refine Xs ?_;simp only[newExc,newTuple];refine Xs (YX ?_ (by size_fits));refine Xs (m:=firstArgMember _ _) (wpAny_of_eq (a:=Value.none) (by first|rfl|(simp only[firstArgMember];rfl)) ?_);refine YX ?_ (by size_fits);simp only[raiseNew];refine Xs (wpAny_handled ?_);rw[show A.in1.handled=none from hh];refine Xs (XA (wpAny_throw ?_));refine Xs (wpAny_isInstance (T:="StopIteration") (b:=true) ⟨_,XM _ rfl,rfl⟩ isSubtype_stop ?_);exact XA (hQ _ (((XX ..).extBut.push _).push _))
end
theorem we {α β:Type}{G:α->β->Prop}{l₁:List α}{l₂:List β}(h:Paired G l₁ l₂):∀{i:Nat} {a:α},l₁[i]?=some a->∃b,l₂[i]?=some b/\G a b:=by
 induction h with
 |nil=>intro i a e;simp at e
 |@cons a b l₁ l₂ r t ih =>
  intro i a' e;cases i with
  |zero =>
   simp only[List.getElem?_cons_zero,Option.some.injEq] at e;subst e;exact⟨b,rfl,r⟩
  |succ j =>
   simp only[List.getElem?_cons_succ] at e ⊢;exact ih e
section
variable {X:Cx}{pins:aaj}{σ:St}{H:Hp}{s:Shared}{d:Addr}{o:Obj}
end
section
variable {P:Program}{w:World}{K:aag}{tg:Expr}{d:Addr}{o:Obj}{es:Array DictEntry}{ep:Nat}
end
section
variable {X:Cx}{tg e:Expr}{td:TE}{apos LK:Pos}
end
def Fj (K:aag)(a:Addr):It :=
 ⟨λi H=>∃(xs:List V) (x:V),aP K H a xs/\xs[i]?=some x,λi H v H'=>∃T x,v=.ref T/\H T=none/\H'=upd H T (.tup [.int (i:Nat),x])/\∀xs,aP K H a xs->xs[i]?=some x,λi H=>∃xs:List V,aP K H a xs/\xs.length<=i⟩
theorem Al {P:Program}{w:World}{K:aag}{elts:List Expr}{kk:Nat}{LW:Pos}(a e it:Addr) :
  Turn P w K (.Tuple elts kk LW) (Fj K a) [e,it] e (λi h=>(∃old,IsEnum h e it ((i:Nat):Int) old)/\h.IsListIter it a i/\e≠it) where
 mem:=by simp
 obj:=λi h st b hb=>by
  obtain⟨⟨old,he⟩,⟨o,ho,hc,hd⟩,_⟩:=st;have e':b=e∨b=it:=by simpa using hb
  rcases e' with z|z
  · rw[z];exact⟨_,he,λv q=>nomatch q⟩
  · rw[z];exact⟨o,ho,λv q=>by rw[hd] at q;cases q⟩
 keep:=λi h h' st k=>let ⟨⟨old,he⟩,hi,LQ⟩:=st;⟨⟨old,k e (by simp) _ he⟩,hi.at λo q=>k it (by simp) o q,LQ⟩
 item:=by
  intro X hP hw hK hc i pins s σ H E I hf st hg;subst hP hw hK;obtain⟨⟨old,he⟩,hit,LQ⟩:=st;obtain⟨xs,x,hq,hx⟩:=hg;obtain⟨LF,rv,p,hz⟩:=I.list hq;obtain⟨u,hu,ru⟩:=rv.get hx;have Sz:e < s.heap.objs.size:=XH he;have LN:it < s.heap.objs.size:=by obtain⟨_,q,_⟩:=hit;exact XH q
  refine wpAny_pyNext_enum_item he hit p.isList (x:=u) (by simpa using hu) LQ λh' ho M6 hT hsz hk=>?_;refine⟨_,rfl,wpAny_letOwnedTupleGo_enum (s:={s with heap:=h',toks:=s.toks+1}) ho λNq Vy sb=>?_⟩;have MD:Nq.get? s.heap.objs.size=some {cls:=.type "tuple",data:=.seq #[.int i s.toks,u]}:=(sb.2 _ (Nat.ne_of_gt Sz)).trans hT;have new:bK X.prog X.w (upd H s.heap.objs.size (.tup [.int (i:Nat),x])) Nq s.heap.objs.size (.tup [.int (i:Nat),x]) :=
   ⟨by show 2<=sizeLine;decide,[.int i s.toks,u],.cons ⟨_,rfl⟩ (.cons ru .nil),⟨_,MD,rfl,_,rfl⟩⟩
  have I1:Inv X pins σ (upd H s.heap.objs.size (.tup [.int (i:Nat),x])) {s with heap:=Nq,toks:=s.toks+1} :=
   I.rJ (ch:=[e,it]) (λb ob hb q=>(sb.2 b (λz=>hb (by simp[z]))).trans (hk b ob (λz=>hb (by simp[z])) (λz=>hb (by simp[z])) q)) hf (XD _) new
  refine⟨.ref s.heap.objs.size,_,I1,rfl,⟨_,x,rfl,I.bu.fresh (XD _),rfl,λys hy=>by rw[I.pE hy hq];exact hx⟩,⟨⟨u,?_⟩,M6.at λo q=>(sb.2 it (Z8 LQ)).trans q,LQ⟩,λb hb=>?_⟩
  · have e1:((i+1:Nat):Int)=(i:Int)+1:=by omega
    rw[e1];exact Vy
  · have PV:b < s.heap.objs.size:=by
     have e':b=e∨b=it:=by simpa using hb
     rcases e' with z|z
     · rw[z];exact Sz
     · rw[z];exact LN
    rw[aq (X7 PV)];exact (hf b hb).1
 done:=by
  intro X hP hw hK hc i pins s σ H E I hf st hg;subst hP hw hK;obtain⟨⟨old,he⟩,hit,LQ⟩:=st;obtain⟨xs,hq,hx⟩:=hg;obtain⟨LF,rv,p,hz⟩:=I.list hq;obtain⟨f0,f1,f2,f3,f4,f5⟩:=hf it (by simp);have hl:=rv.length;exact wpAny_pyNext_enum_end (I.ok.hd hc) he hit p.isList (by simp;omega) λh' eb=>⟨rfl,I.turned (t':=s.toks) (λb o hb q=>eb b o hb q) f0 f1 f3 f4 f5⟩
 self:=λA i s Q E st h=>let ⟨⟨_,he⟩,_⟩:=st;wpAny_pyIter_enum he h
def Ji (K:aag)(ta:TA):TI:=λσ H R=>ta σ H λvs H1=>∃a xs,vs=[.ref a]/\aP K H1 a xs/\R (Fj K a) H1
theorem tN {X:Cx}{e:Expr}{ta:TA}{p pos LW:Pos}{elts:List Expr}{kk:Nat}(hg:Gl X "enumerate")(hm:X.mg "enumerate"=none)(ha:PA X [e] ta)(hs:starEach [e] X.env=[(false,eval e X.env)]:=by rfl) :
  PI X (.Tuple elts kk LW) (.Call (.Name "enumerate" p) [e] [] pos) (Ji X.K ta):=by
 intro pins s σ H R I h;refine Call_ (lK I hg hm boot_enumerate (YW (bB (ha pos pins s σ H _ I h) λus s1 ⟨vs,H1,I1,r1,q1⟩=>?_) hs rfl));obtain⟨a,xs,ex,hq,q⟩:=q1;subst ex;cases r1 with
 |cons r rr =>
  cases rr;cases r;obtain⟨LF,rv,p',hz⟩:=I1.list hq;refine call_enumerate_list p'.isList λh' he hit hsz hk=>wpAny_pyIter_enum he ?_;have I2:Inv X pins σ H1 {s1 with heap:=h'}:=I1.kept (t':=s1.toks) hk;refine⟨s1.heap.objs.size+1,[s1.heap.objs.size+1,s1.heap.objs.size],_,_,H1,rfl,I2,Al a (s1.heap.objs.size+1) s1.heap.objs.size,⟨⟨.none,he⟩,hit,Nat.succ_ne_self _⟩,λb hb=>?_,q⟩;have e':b=s1.heap.objs.size+1∨b=s1.heap.objs.size:=by simpa using hb
  have hle:s1.heap.objs.size<=b:=by
   rcases e' with z|z
   · rw[z];exact ZY _ _
   · rw[z];exact XD _
  exact I1.wG hle (I1.bu.fresh hle)
theorem Aq:bootBuiltins "zip"=some (.type "zip"):=by decide +kernel
end L2
section
namespace Q_
open PySem PyProof.Rows
end Q_
end
section
namespace TL
open PySem PySem.Builtin PySem.Builtin.Str PySem.StrLaws
abbrev tl (x:Str):aaf:=x.cps.toList
theorem ll (x:Str):x.length=(tl x).length:=by simp[tl,Str.length]
theorem xt {x y:Str}(h:tl x=tl y):x=y:=Str.ext' (Array.toList_inj.mp h)
theorem rG (x y:Str):tl (x++y)=tl x++tl y:=by
 show (x++y).cps.toList=_;rw[Str.cps_append,Array.toList_append]
theorem qE:∀{l m:List Str},l.map tl=m.map tl->l=m
 |[],[],_=>rfl
 |[],_::_,h=>by simp at h
 |_::_,[],h=>by simp at h
 |x::l,y::m,h=>by
  rw[XN,XN] at h;injection h with h1 h2;rw[xt h1,qE h2]
theorem gO (s:String):tl (Str.ofString s)=s.toList.map Char.toNat:=PyProof.Rows.signs_ofString s
def pre (S l:aaf):Bool:=l.take S.length==S
def nP (S:aaf):Nat->aaf->aaf->aae
 |_,acc,[]=>[acc]
 |0,acc,c::r=>if pre S (c::r)=true then acc::nP S (S.length - 1) [] r else nP S 0 (acc++[c]) r
 |k+1,acc,_::r=>nP S k acc r
theorem oF (S:aaf)(k:Nat)(acc:aaf):nP S k acc []=[acc]:=by cases k <;> rfl
theorem ye {S acc r:aaf}{c:Nat}(h:pre S (c::r)=true):nP S 0 acc (c::r)=acc::nP S (S.length - 1) [] r:=by
 show (if pre S (c::r)=true then acc::nP S (S.length - 1) [] r else nP S 0 (acc++[c]) r)=_;rw[Xw h]
theorem vj {S acc r:aaf}{c:Nat}(h:pre S (c::r)=false):nP S 0 acc (c::r)=nP S 0 (acc++[c]) r:=by
 show (if pre S (c::r)=true then acc::nP S (S.length - 1) [] r else nP S 0 (acc++[c]) r)=_;rw[Xv (by rw[h];exact XW)]
theorem vo (S:aaf):∀(k:Nat) (acc l:aaf),nP S k acc l=nP S 0 acc (l.drop k)
 |0,_,_=>by rw[List.drop_zero]
 |k+1,acc,[]=>by rw[List.drop_nil,oF,oF]
 |k+1,acc,c::r=>by
  show nP S k acc r=nP S 0 acc (r.drop k);exact vo S k acc r
theorem mq {S:aaf}(hS:S≠[]):pre S []=false:=by
 cases S with
 |nil=>exact absurd rfl hS
 |cons s S=>rfl
theorem uN {s c:Nat}(S r:aaf)(h:c≠s):pre (s::S) (c::r)=false:=by
 cases hp:pre (s::S) (c::r) with
 |false=>rfl
 |true =>
  have e:(c::r).take (s::S).length=s::S:=YZ hp;rw[XG,List.take_succ_cons] at e;injection e with e1 e2;exact absurd e1 h
theorem mM {L:aaf}{a:Nat}(h:a < L.length):∃c,L.drop a=c::L.drop (a+1):=⟨L[a],YS h⟩
theorem ur (S L:aaf):∀(m a:Nat) (acc:aaf),a+m<=L.length->(∀k,a<=k->k < a+m->pre S (L.drop k)=false) ->
  nP S 0 acc (L.drop a)=nP S 0 (acc++(L.drop a).take m) (L.drop (a+m))
 |0,a,acc,_,_=>by rw[List.take_zero,Yx,Nat.add_zero]
 |m+1,a,acc,h,hn=>by
  have LJ:a < L.length:=by omega
  obtain⟨c,e⟩:=mM LJ;have h0:=hn a (XD _) (by omega);have ih:=ur S L m (a+1) (acc++[c]) (by omega) (λk h1 h2=>hn k (by omega) (by omega));have e2:a+1+m=a+(m+1):=by omega
  rw[e2] at ih;rw[e] at h0;rw[e,vj h0,ih,List.take_succ_cons,YY] <;> rfl
theorem Cb (L:aaf)(a b:Nat):(L.drop a).drop b=L.drop (a+b):=by
 first
  |rw[List.drop_drop]
  |rw[List.drop_drop,Nat.add_comm]
theorem HM {S L:aaf}(hS:S≠[]){c:Nat}{acc:aaf}(h:pre S (L.drop c)=true):nP S 0 acc (L.drop c)=acc::nP S 0 [] (L.drop (c+S.length)):=by
 rw[←Cb];cases e:L.drop c with
 |nil=>rw[e,mq hS] at h;cases h
 |cons d r =>
  rw[e] at h;rw[ye h,vo];cases S with
  |nil=>exact absurd rfl hS
  |cons s S=>rfl
theorem BY {x y:Str}(hy:tl y≠[])(i:Nat):At x y x.length i↔pre (tl y) ((tl x).drop i)=true:=by
 have hx:=ll x;have hl:=ll y;constructor
 · intro h;have h2:=h.2;rw[subAt_eq,hl] at h2;exact h2
 · intro h;have e:((tl x).drop i).take (tl y).length=tl y:=YZ h;have e1:=YB List.length e;rw[XU,Yn] at e1;have e2:0 < (tl y).length:=Yz.mpr hy;refine⟨by omega,?_⟩;rw[subAt_eq,hl];exact h
theorem Fq {x y:Str}(hy:tl y≠[]){i:Nat}(h:¬At x y x.length i):pre (tl y) ((tl x).drop i)=false:=by
 cases hp:pre (tl y) ((tl x).drop i) with
 |false=>rfl
 |true=>exact absurd ((BY hy i).mpr hp) h
theorem Kk {y:Str}(hy:tl y≠[]):1<=y.length:=by
 have e2:0 < (tl y).length:=Yz.mpr hy;rw[ll y];exact e2
theorem rZ (x:Str)(i j:Nat):tl (strSub x i j)=((tl x).drop i).take (j - i):=strSub_toList x i j
theorem qO (x:Str)(i:Nat):tl (strSub x i x.length)=(tl x).drop i:=by
 rw[rZ,ll x];exact Yr (by rw[Yn] <;> omega)
theorem rW {x y:Str}(hy:tl y≠[]):∀(OS:aaf) (a f:Nat),a<=(tl x).length->ChainG x y x.length a OS f->(∀k,f<=k->¬At x y x.length k) ->
  (partsFrom x y.length a OS).map tl=nP (tl y) 0 [] ((tl x).drop a)
 |[],a,f,ha,h,hn=>by
  have e:f=a:=h;subst e;show [tl (strSub x f x.length)]=_;have run:=ur (tl y) (tl x) ((tl x).length - f) f [] (by omega) (λk h1 _=>Fq hy (hn k h1));have e2:f+((tl x).length - f)=(tl x).length:=by omega
  rw[e2,Zm,oF,Yq,Yr (by rw[Yn] <;> omega)] at run;rw[run,qO]
 |c::r,a,f,ha,h,hn=>by
  obtain⟨h1,h2,h3,h4⟩:=h;have hc:c+y.length<=x.length:=h2.1;have hx:=ll x;have hl:=ll y;have ih:=rW hy r (c+y.length) f (by omega) h4 hn;show tl (strSub x a c)::(partsFrom x y.length (c+y.length) r).map tl=_;have run:=ur (tl y) (tl x) (c - a) a [] (by omega) (λk k1 k2=>Fq hy (h3 k k1 (by omega)));have e2:a+(c - a)=c:=by omega
  rw[e2,Yq,HM hy ((BY hy c).mp h2)] at run;rw[run,ih,rZ,hl]
theorem zG (x y:Str)(hy:tl y≠[])(hk:¬Builtin.Str.strKind x < Builtin.Str.strKind y):(Txt.split x y).map tl=nP (tl y) 0 [] (tl x):=by
 obtain⟨f,g,hn⟩:=occ_tight x y (Kk hy);have key:=rW hy _ 0 f (X2 _) g hn;rw[List.drop_zero] at key;have L5:occurrences x y 0 x.length (x.length+1)=[]->[x].map tl=nP (tl y) 0 [] (tl x):=λho=>by
  rw[ho] at key;rw[←key];show [tl x]=[tl (strSub x 0 x.length)];rw[sub_whole]
 unfold Txt.split;by_cases h1:(decide (x.length < y.length)||decide (Builtin.Str.strKind x < Builtin.Str.strKind y))=true
 · rw[Xw h1];have LJ:x.length < y.length:=by
    simp only[Yv,XC] at h1;rcases h1 with h|h
    · exact h
    · exact absurd h hk
   refine L5 ?_;cases ho:occurrences x y 0 x.length (x.length+1) with
   |nil=>rfl
   |cons c r =>
    rw[ho] at g;have hc:c+y.length<=x.length:=g.2.1.1;omega
 · rw[Xv h1];by_cases h2:(occurrences x y 0 x.length (x.length+1)).isEmpty=true
   · rw[Xw h2];exact L5 (Y7.mp h2)
   · rw[Xv h2,partsBetween_eq];exact key
theorem D5 {x y:Str}(h:y.cps.all (· < 256)=true):¬Builtin.Str.strKind x < Builtin.Str.strKind y:=by
 have e:Builtin.Str.strKind y=1:=by unfold PySem.Builtin.Str.strKind;rw[Xw h]
 rw[e];unfold PySem.Builtin.Str.strKind;split
 · omega
 · split <;> omega
def dM (S:aaf):aae->aaf
 |[]=>[]
 |[p]=>p
 |p::q::r=>p++(S++dM S (q::r))
theorem yy (y:Str):∀parts:List Str,tl (Str.join y parts)=dM (tl y) (parts.map tl)
 |[]=>rfl
 |[_]=>rfl
 |x::z::r=>by
  show tl (x++y++Str.join y (z::r))=tl x++(tl y++dM (tl y) ((z::r).map tl));rw[rG,rG,yy y (z::r),YY]
theorem join_eq (y:Str)(parts:List Str):Txt.join y parts=Str.join y parts:=glued_eq_join y parts
end TL
end
namespace L2
open PySem PySem.Spec PyProof.Rows
theorem sh:∀l:List (Str×Tok),Vals ((l.map (·.1)).map V.str) (strValues l)
 |[]=>.nil
 |p::r=>.cons ⟨p.2,rfl⟩ (sh r)
theorem jb:∀{ys:List Str} {us:aak},Vals (ys.map V.str) us->StrsAre us ys
 |[],_,.nil=>.nil
 |y::ys,_,.cons r t=>by
  obtain⟨k,rfl⟩:=r;exact .cons y k (jb t)
def pN (ys:List Str):Hp->VK->Prop:=λH Q=>∀p,H p=none->Q (.ref p) (upd H p (.lst (ys.map V.str)))
section
variable {X:Cx}{pins:aaj}{σ:St}{H:Hp}{s:Shared}{Q:VK}
theorem nq {l:List (Str×Tok)} {ys:List Str} {k:Nat} (I:Inv X pins σ H s) (e:l.map (·.1)=ys) (hz:ys.length<=sizeLine) (h:pN ys H Q) :
  EP X pins σ Q (.ref s.heap.objs.size) {s with toks:=k,heap:=s.heap.push {cls:=.type "list",data:=.seq (strValues l).toArray}}:=by
 have hp:=I.bu.fresh (XD _);refine⟨.ref s.heap.objs.size,upd H s.heap.objs.size (.lst (ys.map V.str)),I.laid (λb u q=>Xx _ q) (XD _) ⟨by rw[Xu];exact hz,strValues l,_,?_,XM _ rfl⟩,rfl,h _ hp⟩;rw[←e];exact sh l
end
section
variable {X:Cx}
theorem Cc:Br X "str.split" (λx xs H Q=>∃a b,x=.str a/\xs=[.str b]/\(b.length==0)=false/\a.length+2<=sizeLine/\pN (Txt.split a b) H Q):=by
 intro pins s σ H x xs v us Q I rx rs h;obtain⟨a,b,rfl,rfl,hb,hz,h⟩:=h;obtain⟨t,rfl⟩:=rx;cases rs with
 |cons r1 rs =>
  cases rs;obtain⟨u,rfl⟩:=r1;have hl:(Txt.split a b).length<=sizeLine:=Yi (PyProof.Rows.split_le a b) hz;have hn:(Builtin.Str.partsBetween a (Builtin.Str.occurrences a b 0 a.length (a.length+1)) b.length).length<=sizeLine:=by
   have e1:=StrLaws.occ_length_le a b 0 a.length (a.length+1);rw[length_partsBetween];omega
  cases h1:(decide (a.length < b.length)||decide (Builtin.Str.strKind a < Builtin.Str.strKind b))
  · cases hf:(Builtin.Str.occurrences a b 0 a.length (a.length+1)).isEmpty
    · refine call_meets F.slot_str_split (ZW _ _ _) F.entry_str_split (F.args_str_split_2 _ _) (meets_str_split_sep a b t u h1 hb hf (by omega) hn) ?_;show EP X pins σ Q (.ref s.heap.objs.size) {s with toks:=_,heap:=s.heap.push {cls:=.type "list",data:=.seq (strsFrom s.toks (Builtin.Str.partsBetween a (Builtin.Str.occurrences a b 0 a.length (a.length+1)) b.length)).toArray}};rw[strsFrom_eq];exact nq (ys:=Txt.split a b) I ((numbered_texts _ _).trans ((Xv (ne_true_of_eq_false h1)).trans (Xv (ne_true_of_eq_false hf))).symm) hl h
    · refine call_meets F.slot_str_split (ZW _ _ _) F.entry_str_split (F.args_str_split_2 _ _) (meets_str_split_not_found a b t u h1 hb hf) ?_;exact nq (l:=[(a,t)]) (ys:=Txt.split a b) (k:=s.toks) I ((Xv (ne_true_of_eq_false h1)).trans (Xw hf)).symm hl h
  · refine call_meets F.slot_str_split (ZW _ _ _) F.entry_str_split (F.args_str_split_2 _ _) (meets_str_split_cannot_occur a b t u h1) ?_;exact nq (l:=[(a,t)]) (ys:=Txt.split a b) (k:=s.toks) I (Xw h1).symm hl h
theorem E3:Br X "str.join" (λx xs H Q=>∃a p,∃ys:List Str,x=.str a/\xs=[.ref p]/\(aP X.K H p (ys.map V.str)∨b7 X.K H p (ys.map V.str)) /\
  (ys.map (·.length)).sum+ys.length*a.length<=16777216/\Q (.str (Txt.join a ys)) H):=by
 intro pins s σ H x xs v us Q I rx rs h;obtain⟨a,p,ys,rfl,rfl,hp,hz,h⟩:=h;obtain⟨t,rfl⟩:=rx;cases rs with
 |cons r1 rs =>
  cases rs;cases r1;rcases hp with hp|hp
  · obtain⟨LF,r,⟨o,n,ho,hc,_,hd⟩,_⟩:=I.list hp;exact PyProof.Rows.join_list (items:=LF.toArray) ⟨o,ho,hc,n,hd⟩ (by rw[List.toList_toArray];exact jb r) hz λt' k=>⟨.str _,H,I.tok k,⟨t',rfl⟩,h⟩
  · obtain⟨LF,r,ht,_⟩:=I.tuple hp;exact PyProof.Rows.join_tuple (items:=LF.toArray) ht (by rw[List.toList_toArray];exact jb r) hz λt' k=>⟨.str _,H,I.tok k,⟨t',rfl⟩,h⟩
theorem Lk {id:String}{C:Str->Prop}{g:Str->V}(rule:∀(a:Str) (t:Tok) (s:Shared) (Q:aah),C a->(∀(u:Value) (k:Nat),RelV (g a) u->Q u {s with toks:=k}) ->
  wpAny (model X.prog X.w) X.A (call (.builtin id) [.str a t]) Q X.xe s):Br X id (λx xs H Q=>∃a,x=.str a/\xs=[]/\C a/\Q (g a) H):=by
 intro pins s σ H x xs v us Q I rx rs h;obtain⟨a,rfl,rfl,hc,h⟩:=h;obtain⟨t,rfl⟩:=rx;cases rs;exact rule a t s _ hc λu k r=>⟨g a,H,I.tok k,r,h⟩
theorem xP:Br X "str.isdigit" (λx xs H Q=>∃a,x=.str a/\xs=[]/\True/\Q (.bl (Txt.isdigit a)) H) :=
 Lk (C:=λ_=>True) (g:=λa=>.bl (Txt.isdigit a)) λ_ _ s _ _ h=>PySem.SC.isdigit (h _ s.toks rfl)
theorem Lm {id:String}{g:Str->Str->V}(rule:∀(a b:Str) (t u:Tok) (s:Shared) (Q:aah),(∀(v:Value) (k:Nat),RelV (g a b) v->Q v {s with toks:=k}) ->
  wpAny (model X.prog X.w) X.A (call (.builtin id) [.str a t,.str b u]) Q X.xe s):Br X id (λx xs H Q=>∃a b,x=.str a/\xs=[.str b]/\Q (g a b) H):=by
 intro pins s σ H x xs v us Q I rx rs h;obtain⟨a,b,rfl,rfl,h⟩:=h;obtain⟨t,rfl⟩:=rx;cases rs with
 |cons r1 rs =>
  cases rs;obtain⟨u,rfl⟩:=r1;exact rule a b t u s _ λv k r=>⟨g a b,H,I.tok k,r,h⟩
theorem vL:Br X "str.endswith" (λx xs H Q=>∃a b,x=.str a/\xs=[.str b]/\Q (.bl (Txt.endswith a b)) H) :=
 Lm (g:=λa b=>.bl (Txt.endswith a b)) λ_ _ _ _ s _ h=>PySem.SC.endswith (h _ s.toks rfl)
theorem uA:ie X (.type "int") (λxs H Q=>∃a n,xs=[.str a]/\PySem.intText? a=some n/\a.length<=640/\Q (.int n) H):=by
 intro pins s σ H xs us Q I rs h;obtain⟨a,n,rfl,hn,hl,h⟩:=h;cases rs with
 |cons r1 rs =>
  cases rs;obtain⟨t,rfl⟩:=r1;exact PySem.W.KIN.call_text hn hl ⟨.int n,H,I.tok _,⟨_,rfl⟩,h⟩
end
section
variable {X:Cx}{o e:Expr}{to te:TE}
def K8 (r:V->List V->Hp->VK->Prop) (to:TE):TE:=λσ H Q=>to σ H λx H1=>(∃a,x=.str a)/\r x [] H1 Q
def KW (r:V->List V->Hp->VK->Prop)(to te:TE):TE:=λσ H Q=>to σ H λx H1=>(∃a,x=.str a)/\te σ H1 λy H2=>r x [y] H2 Q
theorem IG {id:String}{name:Str}{apos pos:Pos}{r:V->List V->Hp->VK->Prop}(slot:Slot "str" name id)(ty:typeOf (.builtin id)=pure (.type "method_descriptor"))(rule:Br X id r)(ho:PE X o to)
  (LU:attributeBase o name X.env (eval o X.env)=eval o X.env:=by rfl)(LV:(apos.endLine==pos.line)=true:=by rfl):PE X (.Call (.Attribute o name apos) [] [] pos) (K8 r to):=by
 intro pins s σ H Q I h;refine PySem.Call_method0 LU LV (bB (ho pins s σ H _ I h) λv s1 ⟨x,H1,I1,r1,q1⟩=>?_);obtain⟨⟨a,rfl⟩,q1⟩:=q1;obtain⟨t,rfl⟩:=_root_.id r1;exact⟨"str",_,F.plainAttrs_str,slot,ty,ZW _ _ _,(λ_ e=>nomatch e),ZU rfl (PySem.evalArgs_none (rule pins s1 σ H1 _ [] _ [] Q I1 r1 .nil q1))⟩
theorem CL {id:String}{name:Str}{apos pos:Pos}{r:V->List V->Hp->VK->Prop}(slot:Slot "str" name id)(ty:typeOf (.builtin id)=pure (.type "method_descriptor"))(rule:Br X id r)(ho:PE X o to)(he:PE X e te)
  (hs:starEach [e] X.env=[(false,eval e X.env)]:=by rfl)(LU:attributeBase o name X.env (eval o X.env)=eval o X.env:=by rfl)(LV:(apos.endLine==pos.line)=true:=by rfl) :
  PE X (.Call (.Attribute o name apos) [e] [] pos) (KW r to te):=by
 intro pins s σ H Q I h;refine PySem.Call_method1 LU hs LV (bB (ho pins s σ H _ I h) λv s1 ⟨x,H1,I1,r1,q1⟩=>?_);obtain⟨⟨a,rfl⟩,q1⟩:=q1;obtain⟨t,rfl⟩:=_root_.id r1;refine⟨"str",_,F.plainAttrs_str,slot,ty,ZW _ _ _,(λ_ e=>nomatch e),ZU rfl (Calls.evalArgs_plain (aad ?_))⟩;exact bB (he pins s1 σ H1 _ I1 q1) λu s2 ⟨y,H2,I2,r2,q2⟩=>Calls.spliced_nil (rule pins s2 σ H2 _ [y] _ [u] Q I2 r1 (.cons r2 .nil) q2)
theorem mj {apos pos:Pos}(ho:PE X o to)(he:PE X e te)(hs:starEach [e] X.env=[(false,eval e X.env)]:=by rfl)(LU:attributeBase o "split" X.env (eval o X.env)=eval o X.env:=by rfl)(LV:(apos.endLine==pos.line)=true:=by rfl) :
  PE X (.Call (.Attribute o "split" apos) [e] [] pos) (KW (λx xs H Q=>∃a b,x=.str a/\xs=[.str b]/\(b.length==0)=false/\a.length+2<=sizeLine/\pN (Txt.split a b) H Q) to te) :=
 CL F.slot_str_split F.type_str_split Cc ho he hs LU LV
theorem DH {apos pos:Pos}(ho:PE X o to)(he:PE X e te)(hs:starEach [e] X.env=[(false,eval e X.env)]:=by rfl)(LU:attributeBase o "join" X.env (eval o X.env)=eval o X.env:=by rfl)(LV:(apos.endLine==pos.line)=true:=by rfl) :
  PE X (.Call (.Attribute o "join" apos) [e] [] pos) (KW (λx xs H Q=>∃a p,∃ys:List Str,x=.str a/\xs=[.ref p]/\(aP X.K H p (ys.map V.str)∨b7 X.K H p (ys.map V.str)) /\
   (ys.map (·.length)).sum+ys.length*a.length<=16777216/\Q (.str (Txt.join a ys)) H) to te) :=
 CL F.slot_str_join F.type_str_join E3 ho he hs LU LV
end
section
variable {X:Cx}
theorem qo:jT X (compareOp .In) (λx y H Q=>∃(c:Nat) (z:Str),x=.str ⟨#[c]⟩/\y=.str z/\Q (.bl (decide (c∈z.cps.toList))) H):=by
 intro pins s σ H x y v u Q I rx ry h;obtain⟨c,z,rfl,rfl,q⟩:=h;obtain⟨t,rfl⟩:=rx;obtain⟨t',rfl⟩:=ry;exact PyProof.Rows.in_str (bt I q (PySem.StrLaws.found_one z c).symm)
theorem qS:jT X (compareOp .NotIn) (λx y H Q=>∃(c:Nat) (z:Str),x=.str ⟨#[c]⟩/\y=.str z/\Q (.bl (!decide (c∈z.cps.toList))) H):=by
 intro pins s σ H x y v u Q I rx ry h;obtain⟨c,z,rfl,rfl,q⟩:=h;obtain⟨t,rfl⟩:=rx;obtain⟨t',rfl⟩:=ry;exact PyProof.Rows.notIn_str (bt I q (YB Bool.not (PySem.StrLaws.found_one z c).symm))
end
theorem IsPart.raw {v:Value}{o:Option Int}(p:IsPart v o):∃l:Option (Int×Tok),v=partValue l/\l.map (·.1)=o:=by
 cases p with
 |none=>exact⟨none,rfl,rfl⟩
 |int i t=>exact⟨some (i,t),rfl,rfl⟩
def vD (n d:Nat):Option Int->Int
 |none=>(d:Int)
 |some i=>max 0 (min (if i < 0 then i+(n:Int) else i) (n:Int))
theorem uY (n d:Nat)(o:Option Int):vD n d o=((HT.cg n d o:Nat):Int):=by
 cases o with
 |none=>rfl
 |some v =>
  show max (0:Int) (min (if v < 0 then v+(n:Int) else v) (n:Int))=(((if v < 0 then (v+(n:Int)).toNat else min v.toNat n):Nat):Int);by_cases hv:v < 0
  · simp only[Xw hv];omega
  · simp only[Xv hv];omega
theorem Aw (a b:Option Int)(n:Nat):Builtin.Str.strSliceIndices a b 1 n=sliceRange (vD n 0 a) (vD n n b) 1:=by
 have h1:((1:Int) > 0)=True:=by simp
 cases a <;> cases b <;> first
  |rfl
  |(simp only[Builtin.Str.strSliceIndices,vD,h1,Zd];rfl)
  |simp[Builtin.Str.strSliceIndices,vD]
theorem Kt (a b:Option Int)(n:Nat):Builtin.Str.strSliceIndices a b 1 n=(List.range (HT.cg n n b - HT.cg n 0 a)).map (λk=>HT.cg n 0 a+k):=by
 rw[Aw,uY,uY];generalize HT.cg n 0 a=p;generalize HT.cg n n b=q;simp only[sliceRange,show ((1:Int) > 0)=True from by simp,Zd];by_cases LJ:(p:Int) < q
 · have e3:(((q:Int) - p+1 - 1) / 1).toNat=q - p:=by first|omega|(simp;done)|(simp;omega)
   simp only[LJ,Zd,e3];refine Yo λk _=>?_;omega
 · have:q - p=0:=by omega
   simp[LJ,this]
def zx (z:Str)(lo hi:Option Int):Str :=
 ⟨((z.cps.toList.drop (HT.cg z.length 0 lo)).take (HT.cg z.length z.length hi - HT.cg z.length 0 lo)).toArray⟩
theorem kP (z:Str)(lo hi:Option Int):PySem.StrLaws.sliceText z lo hi=zx z lo hi:=by
 have h1:HT.cg z.length 0 lo<=z.length:=HT.w9 _ _ (X2 _) _;have h2:HT.cg z.length z.length hi<=z.length:=HT.w9 _ _ (XD _) _;have hp:HT.cg z.length 0 lo<=max (HT.cg z.length 0 lo) (HT.cg z.length z.length hi):=Nat.le_max_left _ _;have hq:max (HT.cg z.length 0 lo) (HT.cg z.length z.length hi)<=z.length:=Nat.max_le.mpr ⟨h1,h2⟩;have hd:max (HT.cg z.length 0 lo) (HT.cg z.length z.length hi) - HT.cg z.length 0 lo=HT.cg z.length z.length hi - HT.cg z.length 0 lo:=by omega
 have e:Builtin.Str.strSliceIndices lo hi 1 z.length =
   Builtin.Str.strSliceIndices (some ((HT.cg z.length 0 lo:Nat):Int)) (some ((max (HT.cg z.length 0 lo) (HT.cg z.length z.length hi):Nat):Int)) 1 z.length:=by
  rw[PySem.StrLaws.strSliceIndices_plain hp hq,hd,Kt]
 have e2:PySem.StrLaws.sliceText z lo hi =
   PySem.StrLaws.sliceText z (some ((HT.cg z.length 0 lo:Nat):Int)) (some ((max (HT.cg z.length 0 lo) (HT.cg z.length z.length hi):Nat):Int)):=by
  unfold PySem.StrLaws.sliceText;rw[e]
 rw[e2,PySem.StrLaws.sliceText_nat z hp hq,hd];rfl
theorem n_ (z:Str)(lo hi:Option Int):(zx z lo hi).length<=z.length:=by
 show (((z.cps.toList.drop (HT.cg z.length 0 lo)).take (HT.cg z.length z.length hi - HT.cg z.length 0 lo)).toArray).size<=z.cps.size;rw[XS,XU,Yn,Zf];omega
def J_:V->Option Int->Option Int->Hp->VK->Prop:=λx lo hi H Q=>∃z,x=.str z/\z.length<=sizeLine/\Q (.str (zx z lo hi)) H
theorem Ht {X:Cx}:Jk X J_:=by
 intro pins s σ H x v vl vu lo hi sl Q I rx hs pl pu h;obtain⟨z,rfl,hz,q⟩:=h;obtain⟨t,rfl⟩:=rx;obtain⟨os,M5,NM,NN⟩:=hs;obtain⟨l,rfl,rfl⟩:=IsPart.raw pl;obtain⟨u,rfl,rfl⟩:=IsPart.raw pu;refine⟨"str",_,F.slot_str_getitem.lookup,ZW _ _ _,?_⟩;refine wpAny_getItem_str_slice (l:=l) (u:=u) (st:=none) ⟨os,M5,NM,NN⟩ rfl ?_;have hl:(PySem.StrLaws.sliceText z (l.map (·.1)) (u.map (·.1))).length<=sizeLine:=by
  rw[kP];exact Yi (n_ z _ _) hz
 rw[←kP] at q;unfold PySem.StrLaws.sliceText at q hl;show Made.post (if ((1:Int)==1&&(Builtin.Str.strSliceIndices (l.map (·.1)) (u.map (·.1)) 1 z.length).length==z.length)=true then Made.val (.str z t)
  else Made.str ⟨((Builtin.Str.strSliceIndices (l.map (·.1)) (u.map (·.1)) 1 z.length).filterMap (z.cps[·]?)).toArray⟩) (EP X pins σ Q) s
 by_cases c:((1:Int)==1&&(Builtin.Str.strSliceIndices (l.map (·.1)) (u.map (·.1)) 1 z.length).length==z.length)=true
 · rw[Xw c] at q ⊢;exact⟨.str z,H,I,⟨t,rfl⟩,q⟩
 · rw[Xv c] at q hl ⊢;exact⟨hl,.str _,H,I.tok _,⟨_,rfl⟩,q⟩
end L2
namespace Att
open PySem PySem.W PySem.Calls PyProof.Rows
section
variable {prog:Program}{w:World}{A:Around}{E:aah}{s:Shared}{K:Frag}
end
end Att
namespace L2
open PySem PySem.Spec PyProof.Rows
end L2
section
set_option Elab.async false
set_option linter.all false
set_option maxRecDepth 100000
set_option maxHeartbeats 2000000
namespace L2
open PySem PySem.Spec PyProof.Rows
open PySem.W (WData Codec OpenSpec Well WellAll ReadsW ReadsAllW)
mutual
inductive Dw (K:aag)(H:Hp):V->WData->Prop
 |cj:Dw K H .cj .none
 |bl (b:Bool):Dw K H (.bl b) (.bool b)
 |int (i:Int):Dw K H (.int i) (.int i)
 |str (x:Str):Dw K H (.str x) (.str x)
 |v9 (b:Array UInt8):Dw K H (.v9 b) (.bytes b.toList)
 |lst {a:Addr} {xs:List V} {ds:List WData}:aP K H a xs->il K H xs ds->Dw K H (.ref a) (.list ds)
 |tup {a:Addr} {xs:List V} {ds:List WData}:b7 K H a xs->il K H xs ds->Dw K H (.ref a) (.tuple ds)
inductive il (K:aag)(H:Hp):List V->List WData->Prop
 |nil:il K H [] []
 |cons {v:V} {vs:List V} {d:WData} {ds:List WData}:Dw K H v d->il K H vs ds->il K H (v::vs) (d::ds)
end
theorem yK {K:aag}{H:Hp}:∀ns:List Int,il K H (ns.map V.int) (ns.map WData.int)
 |[]=>.nil
 |n::r=>.cons (.int n) (yK r)
theorem uu {K:aag}{H:Hp}:∀(ns:List Int) (xs:List V),il K H xs (ns.map WData.int)->xs=ns.map V.int
 |[],xs,h=>by
  cases h;rfl
 |n::r,xs,h=>by
  cases h with
  |cons h1 h2 =>
   cases h1;rw[uu r _ h2] <;> rfl
section
variable {P:Program}{w:World}{K:aag}{H:Hp}{h:Heap}{R:PySem.W.WRecords}{cl:Str->Option Addr}
theorem Hw {a:Addr} {xs:List V} (bu:iq P w H h) (KX:K.In h) (q:aP K H a xs):∃(LF:aak) (o:Obj) (n:Nat),Vals xs LF/\h.get? a=some o/\o.cls=.type "list"/\o.data=.seq LF.toArray n:=by
 rcases q with q|⟨o,LF,n,e,hc,_,hd,_,hv⟩
 · obtain⟨_,LF,n,hv,e⟩:=(show bK P w H h a (.lst xs) from q.ok bu);exact⟨LF,_,n,hv,e,rfl,rfl⟩
 · exact⟨LF.toList,o,n,hv,KX _ _ e,hc,by simp[hd]⟩
theorem Hj {a:Addr}{xs:List V}(bu:iq P w H h)(KX:K.In h)(q:b7 K H a xs):∃(LF:aak) (o:Obj) (n:Nat),Vals xs LF/\h.get? a=some o/\o.cls=.type "tuple"/\o.data=.seq LF.toArray n:=by
 rcases q with q|⟨o,LF,n,e,hc,hd,_,hv⟩
 · obtain⟨_,LF,hv,o,e,hc,n,hd⟩:=(show bK P w H h a (.tup xs) from q.ok bu);exact⟨LF,o,n,hv,e,hc,hd⟩
 · exact⟨LF.toList,o,n,hv,KX _ _ e,hc,by simp[hd]⟩
mutual
theorem Dw.reads (bu:iq P w H h)(KX:K.In h):∀(d:WData) (v:V) (u:Value),Dw K H v d->RelV v u->∃as,ReadsW R cl h u d as
 |.none,_,_,x,r=>by
  cases x;cases r;exact⟨_,ReadsW.none⟩
 |.bool b,_,_,x,r=>by
  cases x;cases r;exact⟨_,ReadsW.bool b⟩
 |.int i,_,_,x,r=>by
  cases x;obtain⟨t,rfl⟩:=r;exact⟨_,ReadsW.int i t⟩
 |.str s,_,_,x,r=>by
  cases x;obtain⟨t,rfl⟩:=r;exact⟨_,ReadsW.str s t⟩
 |.bytes b,_,_,x,r=>by
  cases x;obtain⟨t,rfl⟩:=r;exact⟨_,ReadsW.bytes _ t⟩
 |.list ds,_,_,x,r=>by
  cases x with
  |lst hs ha =>
   cases r;obtain⟨LF,o,n,rv,ho,hc,hd⟩:=Hw bu KX hs;obtain⟨as,hr⟩:=Dw.readsAll bu KX ds _ LF ha rv;exact⟨_,ReadsW.list ho hc hd hr⟩
 |.tuple ds,_,_,x,r=>by
  cases x with
  |tup hs ha =>
   cases r;obtain⟨LF,o,n,rv,ho,hc,hd⟩:=Hj bu KX hs;obtain⟨as,hr⟩:=Dw.readsAll bu KX ds _ LF ha rv;exact⟨_,ReadsW.tuple ho hc hd hr⟩
 |.float _,_,_,x,_=>by cases x
 |.dict _,_,_,x,_=>by cases x
 |.bytearray _,_,_,x,_=>by cases x
 |.set _,_,_,x,_=>by cases x
 |.frozenset _,_,_,x,_=>by cases x
 |.obj _ _,_,_,x,_=>by cases x
theorem Dw.readsAll (bu:iq P w H h)(KX:K.In h):∀(ds:List WData) (vs:List V) (us:aak),il K H vs ds->Vals vs us->∃as,ReadsAllW R cl h us ds as
 |[],_,_,x,r=>by
  cases x;cases r;exact⟨_,ReadsAllW.nil⟩
 |d::ds,_,_,x,r=>by
  cases x with
  |cons h1 h2 =>
   cases r with
   |cons r1 r2 =>
    obtain⟨as,q1⟩:=Dw.reads bu KX d _ _ h1 r1;obtain⟨bs,q2⟩:=Dw.readsAll bu KX ds _ _ h2 r2;exact⟨_,ReadsAllW.cons q1 q2⟩
end
end
mutual
def y8:WData->Bool
 |.none=>true
 |.bool _=>true
 |.int _=>true
 |.str _=>true
 |.bytes _=>true
 |.list xs=>oo xs
 |.tuple xs=>oo xs
 |_=>false
def oo:List WData->Bool
 |[]=>true
 |x::r=>y8 x&&oo r
end
theorem vE {α:Type}{f:α->WData}(h:∀a,y8 (f a)=true):∀l:List α,oo (l.map f)=true
 |[]=>rfl
 |x::r=>by
  show (y8 (f x)&&oo (r.map f))=true;rw[h x,vE h r] <;> rfl
theorem jL:∀(c:Codec) (a:c.denote),y8 (c.enc a)=true
 |.unit,_=>rfl
 |.bool,_=>rfl
 |.int _ _,_=>rfl
 |.nat _ _,_=>rfl
 |.u8,_=>rfl
 |.bytes _ _,_=>rfl
 |.text _ _ _ _,_=>rfl
 |.list _ _ c,a=>vE (λx=>jL c x) a
 |.pair c d,a=>by
  show (y8 (c.enc a.1)&&(y8 (d.enc a.2)&&true))=true;rw[jL c a.1,jL d a.2] <;> rfl
 |.triple c d e,a=>by
  show (y8 (c.enc a.1)&&(y8 (d.enc a.2.1)&&(y8 (e.enc a.2.2)&&true)))=true;rw[jL c a.1,jL d a.2.1,jL e a.2.2] <;> rfl
 |.option c,none=>rfl
 |.option c,some x=>jL c x
theorem sk:∀(cs:List Codec) (a:Codec.denoteAll cs),oo (Codec.encAll cs a)=true
 |[],_=>rfl
 |c::cs,a=>by
  show (y8 (c.enc a.1)&&oo (Codec.encAll cs a.2))=true;rw[jL c a.1,sk cs a.2] <;> rfl
theorem lj:∀{xs:List WData} {d:WData},d∈xs->d.weight<=WData.weightAll xs
 |[],d,h=>absurd h (by simp)
 |x::r,d,h=>by
  show d.weight<=x.weight+1+WData.weightAll r;rcases Xy.mp h with e|m
  · rw[e];omega
  · have z:=lj m;omega
def toV:Value->V
 |.none=>.cj
 |.bool b=>.bl b
 |.int i _=>.int i
 |.str x _=>.str x
 |.bytes b _=>.v9 b
 |.ref a=>.ref a
 |_=>.cj
def zt (A:List Addr):Value->Prop
 |.none=>True
 |.bool _=>True
 |.int _ _=>True
 |.str _ _=>True
 |.bytes _ _=>True
 |.ref a=>a∈A
 |_=>False
theorem zt.mono {A B:List Addr}(h:∀a∈A,a∈B):∀{u:Value},zt A u->zt B u:=λ{u} x=>by
 cases u with
 |ref a=>exact h a x
 |none=>trivial
 |bool b=>trivial
 |int i t=>trivial
 |str s t=>trivial
 |bytes b t=>trivial
 |_=>exact False.elim x
theorem Cn {A:List Addr}{u:Value}(x:zt A u):RelV (toV u) u:=by
 cases u with
 |ref a=>rfl
 |none=>rfl
 |bool b=>rfl
 |int i t=>exact⟨t,rfl⟩
 |str s t=>exact⟨t,rfl⟩
 |bytes b t=>exact⟨t,rfl⟩
 |_=>exact False.elim x
theorem iC {A:List Addr}:∀{vs:aak},(∀u∈vs,zt A u)->Vals (vs.map toV) vs
 |[],_=>.nil
 |u::r,h=>.cons (Cn (h u (Yh ..))) (iC λx hx=>h x (XO _ hx))
def jl (h:Heap)(A:List Addr)(a:Addr):Prop:=∃vs:aak,vs.length<=sizeLine/\(∀u∈vs,zt A u) /\
 (h.get? a=some {cls:=.type "list",data:=.seq vs.toArray}∨h.get? a=some {cls:=.type "tuple",data:=.seq vs.toArray})
theorem jl.mono {h:Heap}{A B:List Addr}{a:Addr}(k:∀a∈A,a∈B)(x:jl h A a):jl h B a:=by
 obtain⟨vs,h1,h2,h3⟩:=x;exact⟨vs,h1,λu hu=>(h2 u hu).mono k,h3⟩
theorem gM {P:Params}{h:Heap}:∀{vs:aak} {ds:List WData},WellAll P h vs ds->vs.length=ds.length
 |_,_,.nil=>rfl
 |_,_,.cons _ b=>by
  show _+1=_+1;rw[gM b]
theorem rb {P:Params}{h:Heap}{v:Value}{ds:List WData}(x:Well P h v (.list ds)):∃(a:Addr) (vs:aak),v=.ref a/\h.get? a=some {cls:=.type "list",data:=.seq vs.toArray}/\WellAll P h vs ds:=by
 cases x with
 |list ho LR=>exact⟨_,_,rfl,ho,LR⟩
theorem qi {P:Params}{h:Heap}{v:Value}{ds:List WData}(x:Well P h v (.tuple ds)):∃(a:Addr) (vs:aak),v=.ref a/\h.get? a=some {cls:=.type "tuple",data:=.seq vs.toArray}/\WellAll P h vs ds:=by
 cases x with
 |tuple ho LR=>exact⟨_,_,rfl,ho,LR⟩
theorem rL {P:Params}{h:Heap}{us:aak}{d:WData}{ds:List WData}(x:WellAll P h us (d::ds)):∃(v:Value) (vs:aak),us=v::vs/\Well P h v d/\WellAll P h vs ds:=by
 cases x with
 |cons a b=>exact⟨_,_,rfl,a,b⟩
theorem zf {n:Nat}(h:n<=1048576):n<=sizeLine:=Yi h (by decide)
section
variable {P:Params}{h:Heap}
mutual
theorem A3:∀(d:WData) (v:Value),Well P h v d->y8 d=true->d.weight<=1048576->∃A:List Addr,zt A v/\∀a∈A,jl h A a
 |.none,_,x,_,_=>by
  cases x;exact⟨[],trivial,λa m=>absurd m (by simp)⟩
 |.bool b,_,x,_,_=>by
  cases x;exact⟨[],trivial,λa m=>absurd m (by simp)⟩
 |.int i,_,x,_,_=>by
  cases x;exact⟨[],trivial,λa m=>absurd m (by simp)⟩
 |.str s,_,x,_,_=>by
  cases x;exact⟨[],trivial,λa m=>absurd m (by simp)⟩
 |.bytes b,_,x,_,_=>by
  cases x;exact⟨[],trivial,λa m=>absurd m (by simp)⟩
 |.list ds,_,x,p,z=>by
  obtain⟨a,vs,rfl,ho,LR⟩:=rb x;have z2:WData.weightAll ds<=1048576:=z;obtain⟨A,h1,h2⟩:=mi ds _ LR p λd hd=>Yi (lj hd) z2;have k:∀b∈A,b∈a::A:=λb hb=>XO _ hb;refine⟨a::A,Yh ..,λb hb=>?_⟩;rcases Xy.mp hb with e|m
  · rw[e];exact⟨vs,zf (by rw[gM LR];exact Yi (PySem.W.length_le_weightAllW ds) z2),λu hu=>(h1 u hu).mono k,.inl ho⟩
  · exact (h2 b m).mono k
 |.tuple ds,_,x,p,z=>by
  obtain⟨a,vs,rfl,ho,LR⟩:=qi x;have z2:WData.weightAll ds<=1048576:=z;obtain⟨A,h1,h2⟩:=mi ds _ LR p λd hd=>Yi (lj hd) z2;have k:∀b∈A,b∈a::A:=λb hb=>XO _ hb;refine⟨a::A,Yh ..,λb hb=>?_⟩;rcases Xy.mp hb with e|m
  · rw[e];exact⟨vs,zf (by rw[gM LR];exact Yi (PySem.W.length_le_weightAllW ds) z2),λu hu=>(h1 u hu).mono k,.inr ho⟩
  · exact (h2 b m).mono k
 |.float _,_,_,p,_=>Bool.noConfusion (show false=true from p)
 |.dict _,_,_,p,_=>Bool.noConfusion (show false=true from p)
 |.bytearray _,_,_,p,_=>Bool.noConfusion (show false=true from p)
 |.set _,_,_,p,_=>Bool.noConfusion (show false=true from p)
 |.frozenset _,_,_,p,_=>Bool.noConfusion (show false=true from p)
 |.obj _ _,_,_,p,_=>Bool.noConfusion (show false=true from p)
theorem mi:∀(ds:List WData) (vs:aak),WellAll P h vs ds->oo ds=true->(∀d∈ds,d.weight<=1048576)->∃A:List Addr,(∀u∈vs,zt A u)/\∀a∈A,jl h A a
 |[],_,x,_,_=>by
  cases x;exact⟨[],λu m=>absurd m (by simp),λa m=>absurd m (by simp)⟩
 |d::ds,_,x,p,z=>by
  obtain⟨v,vs,rfl,x1,x2⟩:=rL x;have q:y8 d=true/\oo ds=true:=Z2.mp p;obtain⟨A,a1,a2⟩:=A3 d v x1 q.1 (z d (Yh ..));obtain⟨B,b1,b2⟩:=mi ds vs x2 q.2 λe he=>z e (XO _ he);have kA:∀b∈A,b∈A++B:=λb hb=>Yk.mpr (.inl hb);have kB:∀b∈B,b∈A++B:=λb hb=>Yk.mpr (.inr hb);refine⟨A++B,λu hu=>?_,λb hb=>?_⟩
  · rcases Xy.mp hu with e|m
    · rw[e];exact a1.mono kA
    · exact (b1 u m).mono kB
  · rcases Yk.mp hb with m|m
    · exact (a2 b m).mono kA
    · exact (b2 b m).mono kB
end
end
def Dz (o:Obj):Option HO:=match o.data with
 |.seq vs _=>if (o.cls==Value.type "list")=true then some (.frz o (.lst (vs.toList.map toV))) else some (.frz o (.tup (vs.toList.map toV)))
 |_=>none
def jc (K:aag)(h:Heap)(A:List Addr):Hp:=λb=>if b∈A then (if (K.lookup b).isNone=true then (h.get? b).bind Dz else none) else none
def uP (H:Hp):Prop:=∀b,H b=none∨∃o u,H b=some (.frz o u)
theorem vC (vs:aak):Dz {cls:=.type "list",data:=.seq vs.toArray}=some (.frz {cls:=.type "list",data:=.seq vs.toArray} (.lst (vs.map toV))):=by
 show (if (Value.type "list"==Value.type "list")=true then some (HO.frz {cls:=.type "list",data:=.seq vs.toArray} (.lst (vs.toArray.toList.map toV))) else some (HO.frz {cls:=.type "list",data:=.seq vs.toArray} (.tup (vs.toArray.toList.map toV))))=_;rw[Xw (beq_self_eq_true _)]
theorem vH (vs:aak):Dz {cls:=.type "tuple",data:=.seq vs.toArray}=some (.frz {cls:=.type "tuple",data:=.seq vs.toArray} (.tup (vs.map toV))):=by
 show (if (Value.type "tuple"==Value.type "list")=true then some (HO.frz {cls:=.type "tuple",data:=.seq vs.toArray} (.lst (vs.toArray.toList.map toV))) else some (HO.frz {cls:=.type "tuple",data:=.seq vs.toArray} (.tup (vs.toArray.toList.map toV))))=_;rw[Xv (by decide)]
section
variable {P:Program}{w:World}{K:aag}{h:Heap}{A:List Addr}
theorem ot {b:Addr} {o:Obj} (hb:b∈A) (hk:K.lookup b=none) (e:h.get? b=some o):jc K h A b=Dz o:=by
 unfold jc;rw[Xw hb,hk,Xw (show (none:Option Obj).isNone=true from rfl),e] <;> rfl
theorem Dv {b:Addr}{u:HO}(q:jc K h A b=some u):b∈A/\K.lookup b=none:=by
 unfold jc at q;by_cases hb:b∈A
 · rw[Xw hb] at q;cases hk:K.lookup b with
   |none=>exact⟨hb,rfl⟩
   |some o =>
    rw[hk,Xv (by simp)] at q;cases q
 · rw[Xv hb] at q;cases q
theorem oA (ar:∀a∈A,jl h A a){b:Addr}{u:HO}(q:jc K h A b=some u):K.lookup b=none/\∃vs:aak,vs.length<=sizeLine/\(∀u∈vs,zt A u) /\
  ((h.get? b=some {cls:=.type "list",data:=.seq vs.toArray}/\u=.frz {cls:=.type "list",data:=.seq vs.toArray} (.lst (vs.map toV))) ∨
   (h.get? b=some {cls:=.type "tuple",data:=.seq vs.toArray}/\u=.frz {cls:=.type "tuple",data:=.seq vs.toArray} (.tup (vs.map toV)))):=by
 obtain⟨hb,hk⟩:=Dv q;obtain⟨vs,h1,h2,h3⟩:=ar b hb;refine⟨hk,vs,h1,h2,?_⟩;rcases h3 with e|e
 · rw[ot hb hk e,vC] at q;exact .inl ⟨e,(X8 q).symm⟩
 · rw[ot hb hk e,vH] at q;exact .inr ⟨e,(X8 q).symm⟩
theorem zX (ar:∀a∈A,jl h A a):uP (jc K h A):=λb=>by
 cases q:jc K h A b with
 |none=>exact .inl rfl
 |some u =>
  obtain⟨_,vs,_,_,⟨_,e⟩|⟨_,e⟩⟩:=oA ar q
  · exact .inr ⟨_,_,by rw[e]⟩
  · exact .inr ⟨_,_,by rw[e]⟩
theorem Eu (ar:∀a∈A,jl h A a):iq P w (jc K h A) h:=λb u q=>by
 obtain⟨_,vs,h1,h2,⟨e,rfl⟩|⟨e,rfl⟩⟩:=oA ar q
 · exact⟨e,by rw[Xu];exact h1,vs,_,iC h2,e⟩
 · exact⟨e,by rw[Xu];exact h1,vs,iC h2,_,e,rfl,_,rfl⟩
theorem oK {c c':Value}{vs us:aak}(e:(some {cls:=c,data:=.seq vs.toArray}:Option Obj)=some {cls:=c',data:=.seq us.toArray}):c=c'/\vs=us:=by
 have e1:=X8 e;have e2:c=c':=YB Obj.cls e1;have e3:Data.seq vs.toArray=Data.seq us.toArray:=YB Obj.data e1;injection e3 with e4;refine⟨e2,?_⟩;have e5:=YB Array.toList e4;simpa using e5
theorem Ka (KX:K.In h)(ar:∀a∈A,jl h A a){a:Addr}{vs:aak}(ha:a∈A)(e:h.get? a=some {cls:=.type "list",data:=.seq vs.toArray}):(∀u∈vs,zt A u)/\aP K (jc K h A) a (vs.map toV):=by
 obtain⟨us,h1,h2,h3⟩:=ar a ha;have hu:us=vs:=by
  rcases h3 with q|q
  · rw[e] at q;exact (oK q).2.symm
  · rw[e] at q;exact absurd (Value.type.inj (oK q).1) (by decide)
 subst hu;refine⟨h2,?_⟩;cases hk:K.lookup a with
 |none=>exact .inl (.inr ⟨_,by rw[ot ha hk e,vC]⟩)
 |some o =>
  have e2:=KX a o hk;rw[e] at e2;obtain rfl:=X8 e2;exact .inr ⟨_,us.toArray,_,hk,rfl,rfl,rfl,by rw[XS];exact h1,by simpa using iC h2⟩
theorem KZ (KX:K.In h)(ar:∀a∈A,jl h A a){a:Addr}{vs:aak}(ha:a∈A)(e:h.get? a=some {cls:=.type "tuple",data:=.seq vs.toArray}):(∀u∈vs,zt A u)/\b7 K (jc K h A) a (vs.map toV):=by
 obtain⟨us,h1,h2,h3⟩:=ar a ha;have hu:us=vs:=by
  rcases h3 with q|q
  · rw[e] at q;exact absurd (Value.type.inj (oK q).1) (by decide)
  · rw[e] at q;exact (oK q).2.symm
 subst hu;refine⟨h2,?_⟩;cases hk:K.lookup a with
 |none=>exact .inl (.inr ⟨_,by rw[ot ha hk e,vH]⟩)
 |some o =>
  have e2:=KX a o hk;rw[e] at e2;obtain rfl:=X8 e2;exact .inr ⟨_,us.toArray,_,hk,rfl,rfl,by rw[XS];exact h1,by simpa using iC h2⟩
mutual
theorem G8 {Pm:Params}(KX:K.In h)(ar:∀a∈A,jl h A a):∀(d:WData) (v:Value),Well Pm h v d->y8 d=true->zt A v->Dw K (jc K h A) (toV v) d
 |.none,_,x,_,_=>by
  cases x;exact .cj
 |.bool b,_,x,_,_=>by
  cases x;exact .bl b
 |.int i,_,x,_,_=>by
  cases x;exact .int i
 |.str s,_,x,_,_=>by
  cases x;exact .str s
 |.bytes b,_,x,_,_=>by
  cases x;have z:=Dw.v9 (K:=K) (H:=jc K h A) b.toArray;exact z
 |.list ds,_,x,p,hu=>by
  obtain⟨a,vs,rfl,ho,LR⟩:=rb x;obtain⟨h2,hs⟩:=Ka KX ar hu ho;exact .lst hs (tY KX ar ds _ LR p h2)
 |.tuple ds,_,x,p,hu=>by
  obtain⟨a,vs,rfl,ho,LR⟩:=qi x;obtain⟨h2,hs⟩:=KZ KX ar hu ho;exact .tup hs (tY KX ar ds _ LR p h2)
 |.float _,_,_,p,_=>Bool.noConfusion (show false=true from p)
 |.dict _,_,_,p,_=>Bool.noConfusion (show false=true from p)
 |.bytearray _,_,_,p,_=>Bool.noConfusion (show false=true from p)
 |.set _,_,_,p,_=>Bool.noConfusion (show false=true from p)
 |.frozenset _,_,_,p,_=>Bool.noConfusion (show false=true from p)
 |.obj _ _,_,_,p,_=>Bool.noConfusion (show false=true from p)
theorem tY {Pm:Params}(KX:K.In h)(ar:∀a∈A,jl h A a):∀(ds:List WData) (vs:aak),WellAll Pm h vs ds->oo ds=true->(∀u∈vs,zt A u)->il K (jc K h A) (vs.map toV) ds
 |[],_,x,_,_=>by
  cases x;exact .nil
 |d::ds,_,x,p,hu=>by
  obtain⟨v,vs,rfl,x1,x2⟩:=rL x;have q:y8 d=true/\oo ds=true:=Z2.mp p;exact .cons (G8 KX ar d v x1 q.1 (hu _ (Yh ..))) (tY KX ar ds vs x2 q.2 λu m=>hu u (XO _ m))
end
end
theorem zF {P:Program}{w:World}{K:aag}{mg mb:aai}{CX:my}{k:Nat}{fa:Addr}{fd:FuncData}{ps:List Str}{sp:Sp}{s₁:Shared}{vals:aak}{ds:List WData}{R:PySem.W.WRecords}{cl:Str->Option Addr}{d0:WData}
  (KX:K.In s₁.heap)(OT:s₁.heap.Ns mainGlobals mg)(hb:s₁.heap.Ns builtinsNs mb)(Vz:∀x:Str,x≠"__name__"->mb x=bootBuiltins x)(Ra:s₁.heap.NoLimit)(hg:s₁.gens=#[])
  (MW:WellAll w.params s₁.heap vals ds)(LO:oo ds=true)(VA:∀d∈ds,d.weight<=1048576)(hr:cN k callerA)
  (F:∀base:Heap,K.In base->base.Ns mainGlobals mg->a8 P w K mg base CX k fa fd ps sp)(OU:∀(s:Shared) (us:aak),us.length=ps.length->BindsTo s fd ⟨us,[]⟩ (ps.zip us))(hlen:ds.length=ps.length)
  (Mh:∀(H:Hp) (xs:List V),uP H->il K H xs ds->sp xs H (λv H'=>Dw K H' v d0) λ_ _ _=>False)
  (OV:∀H e s',CX [] H s₁ (λ_ _ _=>False) e s'->False) :
  codeAny (model P w) callerA (.call (.ref fa) ⟨vals,[]⟩) (λr s'=>∃u as,r=.ok (.ret u)/\ReadsW R cl s'.heap u d0 as/\OldK s₁.heap s'.heap/\s'.os=s₁.os/\AllBare s'.gens) s₁:=by
 obtain⟨A,ho,ar⟩:=mi ds vals MW LO VA;have hO:uP (jc K s₁.heap A):=zX ar;have bu:iq P w (jc K s₁.heap A) s₁.heap:=Eu ar;have hS:=tY KX ar ds vals MW LO ho;have hV:=iC ho;have hK:∀b u,jc K s₁.heap A b=some u->K.lookup b=none:=λb u q=>(oA ar q).1;have Oa:∀{b:Addr} {o:Obj} {es:Array DictEntry} {ep:Nat},s₁.heap.get? b=some o->o.data=.dict es ep->jc K s₁.heap A b=none:=λ{b o es ep} e d=>by
  cases q:jc K s₁.heap A b with
  |none=>rfl
  |some u =>
   obtain⟨_,vs,_,_,⟨e2,_⟩|⟨e2,_⟩⟩:=oA ar q
   · rw[e2] at e;cases e;have d':Data.seq vs.toArray _=Data.dict es ep:=d;cases d'
   · rw[e2] at e;cases e;have d':Data.seq vs.toArray _=Data.dict es ep:=d;cases d'
 generalize jc K s₁.heap A=H at hO bu hS hK Oa;have Ms:∀{b:Addr} {o:Obj},s₁.heap.get? b=some o->H b=none->(ux s₁.heap H).get? b=some o:=λe n=>Bf e n;have C6:∀{b:Addr} {m:aai},s₁.heap.Ns b m->(ux s₁.heap H).Ns b m:=λ{b m} ⟨o,es,ep,e,d,r⟩=>⟨o,es,ep,Ms e (Oa e d),d,r⟩;have nK:∀b o,K.lookup b=some o->H b=none:=λb o e=>by
  cases q:H b with
  |none=>rfl
  |some u =>
   rw[hK b u q] at e;cases e
 have SA:K.In (ux s₁.heap H):=λb o e=>Ms (KX b o e) (nK b o e);have hM:Mod K mg (ux s₁.heap H):=⟨SA,C6 OT,⟨mb,C6 hb,Vz⟩,let ⟨mc,h1,h2⟩:=Ra;⟨mc,C6 h1,h2⟩⟩;have e0:xw P w K mg (ux s₁.heap H) callerA [] s₁ H:=⟨rfl,hM,λb o e=>DB e,Z9 (zZ _ _),trivial,λb hb=>absurd (show b∈([]:List Addr) from hb) (by simp),bu,.of_eq hg⟩;have hl:vals.length=ps.length:=by rw[gM MW];exact hlen
 refine Z7 ((F _ SA (C6 OT)).run callerA [] s₁ H ⟨vals,[]⟩ vals (vals.map toV) _ _ hr e0 (OU s₁ vals hl) hV (Mh H _ hO hS)) λr s' x=>?_;cases r with
 |error e=>exact (OV H e s' x).elim
 |ok fl =>
  cases fl with
  |next=>exact False.elim x
  |brk=>exact False.elim x
  |cont=>exact False.elim x
  |ret u =>
   obtain⟨v,H',os,bare,un,OW,r',q⟩:=x;have kept:∀b o,s₁.heap.get? b=some o->s'.heap.get? b=some o:=λb o e=>by
    cases q2:H b with
    |none=>exact un.keep b o e q2 (by intro z;exact absurd (show b∈([]:List Addr) from z) (by simp)) (by simp)
    |some u2 =>
     rcases hO b with z|⟨ob,u3,z⟩
     · rw[q2] at z;cases z
     · have z2:=un.mX b ob _ z;obtain⟨e1,_⟩:=bu b _ z;obtain⟨e2,_⟩:=OW b _ z2;rw[e] at e1;cases e1;exact e2
   have VB:K.In s'.heap:=λb o e=>kept b o (KX b o e);obtain⟨as,SD⟩:=Dw.reads (R:=R) (cl:=cl) OW VB d0 v u q r';exact⟨u,as,rfl,SD,OldK.of_keep kept,os,bare⟩
theorem pQ {ds:List WData}(h:WData.layableAll ds=true):∀d∈ds,d.weight<=1048576:=λd hd =>
 (PySem.W.layableW_iff.mp (X1.mp h d hd)).2.2
theorem qb:∀(cs:List Codec) (a:Codec.denoteAll cs),(Codec.encAll cs a).length=cs.length
 |[],_=>rfl
 |c::cs,a=>by
  show (Codec.encAll cs a.2).length+1=cs.length+1;rw[qb cs a.2]
theorem zB {r:OpenSpec}{k:Nat}{q:Program}{loose:List Str}{XP:(Str->Option Value)->Heap->Prop}{YP:World->Heap->Prop}{d:DefRec}{K:Params->aag}{CX:World->my}{ps:List Str}{sp:World->Sp}
  (MJ:r.wellSaid=true)(SE:d.params.defaults=[])(hlen:r.args.length=ps.length)(hr:cN k callerA)
  (hY:∀(w:World) (h:Heap),YP w h->(K w.params).In h)
  (F:∀(w:World) (mg:aai) (fa:Addr) (h:Heap),YP w h->(K w.params).In h->h.Ns mainGlobals mg->mg d.name=some (.ref fa) ->
   ∃fd:FuncData,(∀(s:Shared) (us:aak),us.length=ps.length->BindsTo s fd ⟨us,[]⟩ (ps.zip us)) /\
    ∀base:Heap,(K w.params).In base->base.Ns mainGlobals mg->a8 r.prog w (K w.params) mg base (CX w) k fa fd ps (sp w))
  (Mh:∀(w:World) (H:Hp) (xs:List V) (a:Codec.denoteAll r.args),uP H->Codec.withinAll r.args a=true->Codec.app r.args r.asked a=true->il (K w.params) H xs (Codec.encAll r.args a) ->
   sp w xs H (λv H'=>Dw (K w.params) H' v (r.ret.enc (Codec.app r.args r.f a))) λ_ _ _=>False)
  (OV:∀(w:World) (H:Hp) (s:Shared) (e:Value) (s':Shared),CX w [] H s (λ_ _ _=>False) e s'->False) :
  PySem.W.WalkOS q loose XP YP r d [] (λf vs=>PySem.call f vs):=by
 intro w kM s₁ mg mb G Y fa o pm cd doc dV kV ho hd Mg hD OX hg args vals as Rb Rc SD MW QH;obtain⟨a,e1,e2⟩:=PySem.W.os_pre_some Rb;obtain⟨e3,Oe⟩:=Codec.encAll_of_decAll r.args args a e1;subst e3;have KX:=hY w _ Y;obtain⟨fd,hb,hF⟩:=F w mg fa _ Y KX G.T.g OX;refine PySem.W.enter_call (Z7 (zF (R:=[]) (cl:=classAt kM.heap) (d0:=r.ret.enc (Codec.app r.args r.f a)) KX G.T.g G.T.b G.T.builtins G.T.nolimit hg MW (sk _ _) (pQ Rc) hr hF hb (by rw[qb];exact hlen)
  (λH xs hO hS=>Mh w H xs a hO Oe e2 hS) λH e s'=>OV w H s₁ e s') λr' s' hq=>?_)
 obtain⟨u,VC,rfl,h1,h2,h3,h4⟩:=hq;exact⟨.inl ⟨u,_,VC,rfl,λ_=>rfl,h1,(OpenSpec.post_iff MJ Oe _ _).mpr rfl,λz=>Bool.noConfusion (show false=true from z)⟩,h2,h3,h4⟩
theorem xU {r:OpenSpec}{k:Nat}{q:Program}{loose:List Str}{XP:(Str->Option Value)->Heap->Prop}{YP:World->Heap->Prop}{d:DefRec}{K:Params->aag}{CX:my}{ps:List Str}{sp:aag->Sp}
  (MJ:r.wellSaid=true)(SE:d.params.defaults=[])(hlen:r.args.length=ps.length)(hr:cN k callerA)
  (hY:∀(w:World) (h:Heap),YP w h->(K w.params).In h)
  (F:∀(w:World) (mg:aai) (fa:Addr) (h:Heap),YP w h->(K w.params).In h->h.Ns mainGlobals mg->mg d.name=some (.ref fa) ->
   ∃fd:FuncData,(∀(s:Shared) (us:aak),us.length=ps.length->BindsTo s fd ⟨us,[]⟩ (ps.zip us)) /\
    ∀base:Heap,(K w.params).In base->base.Ns mainGlobals mg->a8 r.prog w (K w.params) mg base CX k fa fd ps (sp (K w.params)))
  (Mh:∀(K:aag) (H:Hp) (xs:List V) (a:Codec.denoteAll r.args),uP H->Codec.withinAll r.args a=true->Codec.app r.args r.asked a=true->il K H xs (Codec.encAll r.args a) ->
   sp K xs H (λv H'=>Dw K H' v (r.ret.enc (Codec.app r.args r.f a))) λ_ _ _=>False)
  (OV:∀(H:Hp) (s:Shared) (e:Value) (s':Shared),CX [] H s (λ_ _ _=>False) e s'->False) :
  PySem.W.WalkOS q loose XP YP r d [] (λf vs=>PySem.call f vs) :=
 zB (K:=K) (CX:=λ_=>CX) (sp:=λw=>sp (K w.params)) MJ SE hlen hr hY F (λw H xs a h1 h2 h3 h4=>Mh (K w.params) H xs a h1 h2 h3 h4) λ_ H s e s'=>OV H s e s'
end L2
end
namespace L2
open PySem PySem.Spec PyProof.Rows
abbrev bA:my:=λ_ _ _ _ _ _=>False
abbrev E0:XK:=λ_ _ _=>False
theorem a9 {X:Cx}:Passes bA X E0:=λ_ _ _ _ _ _ _ h=>h.elim
structure dk (K:aag)(x qual:Str)(st:Stmt)(f:Addr)(fd:FuncData):Prop where
 ex:∃(oc:Value) (od:Option Addr) (kV doc pm:Value) (an:Option Addr) (LG ct:Value) (My:Array (Option Value)),
  fd=PySem.W.fnOf x qual (cW st) (bZ st) (aw st) .none kV doc pm an LG ct/\K.lookup f=some ⟨oc,od,.func fd,My⟩/\PySem.W.codeIn K LG qual=true
 kp:PySem.W.keepIn K (.ref f)=true
section
variable {P:Program}{w:World}{K:aag}{mg:aai}{base:Heap}
theorem dk.ok {x qual:Str} {st:Stmt} {f:Addr} {fd:FuncData} {N ps:List Str} {k:Nat} {sp:Sp} (F:dk K x qual st f fd) (S:aG N ps (aw st)) (len:∀vs H Q E,sp vs H Q E->vs.length=ps.length)
  (LM:∀(LG:Value) (A:Around) (outer:List Env) (s:Shared) (H:Hp) (vs:List V) (Q:VK) (E:XK),cN k (A.deeper (envOfC qual (aw st) s.heap.objs.size f LG))->sp vs H Q E ->
   ∃t,qP (mS bA P w K mg base N qual (aw st) f LG A outer s H E).G4 (bZ st) t/\t {nx:=λ_ H'=>Q .cj H',rt:=Q} (start N vs) H):a8 P w K mg base bA (k+1) f fd ps sp:=by
 obtain⟨oc,od,kV,doc,pm,an,LG,ct,My,rfl,lk,Mg⟩:=F.ex;refine Fh lk Mg S len λA outer s H vs Q E hr Mh=>?_;obtain⟨t,h,q⟩:=LM LG A outer s H vs Q E hr Mh;exact⟨t,h.G4,q⟩
theorem dk.binds {x qual:Str}{st:Stmt}{f:Addr}{fd:FuncData}{ps:List Str}(F:dk K x qual st f fd)
  (h:∀(kV doc pm:Value) (an:Option Addr) (LG ct:Value) (us:aak),us.length=ps.length->bindArgs (PySem.W.fnOf x qual (cW st) (bZ st) (aw st) .none kV doc pm an LG ct) ⟨us,[]⟩=pure (ps.zip us)):Binds K fd ps []:=by
 obtain⟨oc,od,kV,doc,pm,an,LG,ct,My,rfl,lk,Mg⟩:=F.ex;exact .all (h kV doc pm an LG ct)
theorem sN {x qual:Str}{st:Stmt}{f:Addr}{oc:Value}{od an:Option Addr}{My:Array (Option Value)}{kV doc pm LG ct:Value}(l:K.lookup f=some ⟨oc,od,.func (PySem.W.fnOf x qual (cW st) (bZ st) (aw st) .none kV doc pm an LG ct),My⟩)
  (c:PySem.W.codeIn K LG qual=true)(k:PySem.W.keepIn K (.ref f)=true):dk K x qual st f (PySem.W.fnOf x qual (cW st) (bZ st) (aw st) .none kV doc pm an LG ct):=⟨⟨oc,od,kV,doc,pm,an,LG,ct,My,rfl,l,c⟩,k⟩
end
theorem uK {A:Around}{k:Nat}(hr:cN k A):A.units+1 < cLine:=Nat.lt_of_le_of_lt (Nat.add_le_add_left (by decide:1<=64) _) hr.units
section
variable {X:Cx}
theorem pv (i:Nat) {x:Str} {pos:Pos} (hN:X.N[i]?=some x:=by rfl) (hv:Ie X.env.scope x:=by first|exact Or.inl rfl|exact Or.inr (Or.inl rfl)|exact Or.inr (Or.inr rfl)) (hd:(x==("__debug__":Str))=false:=by decide)
  (Mg:(x==("__classdict__":Str))=false:=by decide):PE X (.Name x pos) (cJ i):=Gb hN hv hd Mg
end
theorem u6 {A B:Prop}(h:B):if false=true then A else B:=by
 rw[Xv XW];exact h
theorem qj {A B:Prop}(h:A):if true=true then A else B:=by
 rw[Xw rfl];exact h
theorem gH {c A B:Prop} [Decidable c] (h1:c->A)(h2:¬c->B):if c then A else B:=by
 by_cases h:c
 · rw[Xw h];exact h1 h
 · rw[Xv h];exact h2 h
def au (H H':Hp):Prop:=∀b o,H b=some o->H' b=some o
theorem au.refl (H:Hp):au H H:=λ_ _ h=>h
theorem au.trans {H H1 H2:Hp}(a:au H H1)(b:au H1 H2):au H H2:=λc o h=>b c o (a c o h)
theorem au.free {H H':Hp}(e:au H H'){l:Addr}(h:H' l=Option.none):H l=Option.none:=by
 cases q:H l with
 |none=>rfl
 |some o =>
  rw[e l o q] at h;cases h
theorem au.seq {K:aag}{H H':Hp}{a:Addr}{xs:List V}(e:au H H')(h:aP K H a xs):aP K H' a xs:=by
 rcases h with (h|⟨o,h⟩)|h
 · exact .inl (.inl (e _ _ h))
 · exact .inl (.inr ⟨o,e _ _ h⟩)
 · exact .inr h
section
variable {κ:Type} [DecidableEq κ]
end
end L2
end
set_option autoImplicit false
set_option linter.all false
set_option maxRecDepth 100000
set_option maxHeartbeats 2000000
namespace BwX
open PySem PySem.Calls PySem.Spec PyProof.Rows
structure Nt (fs ch:List Addr)(h g:Heap):Prop where
 keep:∀b o,h.get? b=some o->b∉fs->b∉ch->g.get? b=some o
 slot:∀b o,h.get? b=some o->b∉ch->∃sl,g.get? b=some {o with slots:=sl}
section
variable {fs ch Mb SG:List Addr}{h g k:Heap}
theorem Nt.refl (fs ch:List Addr) (h:Heap):Nt fs ch h h:=⟨λ_ _ e _ _=>e,λ_ o e _=>⟨o.slots,e⟩⟩
theorem Nt.trans (a:Nt fs ch h g)(b:Nt fs ch g k):Nt fs ch h k where
 keep:=λc o e hf hc=>b.keep c o (a.keep c o e hf hc) hf hc
 slot:=λc o e hc=>by
  obtain⟨_,e1⟩:=a.slot c o e hc;obtain⟨sl,e2⟩:=b.slot c _ e1 hc;exact⟨sl,e2⟩
theorem Nt.mono (a:Nt fs ch h g)(hf:∀b∈fs,b∈Mb)(hc:∀b∈ch,b∈SG):Nt Mb SG h g :=
 ⟨λb o e n m=>a.keep b o e (λz=>n (hf b z)) λz=>m (hc b z),λb o e m=>a.slot b o e λz=>m (hc b z)⟩
theorem Nt.push (o:Obj):Nt fs ch h (h.push o):=⟨λ_ _ e _ _=>Xx o e,λ_ u e _=>⟨u.slots,Xx o e⟩⟩
theorem Nt.upd {a:Addr}{f:Obj->Obj}(ha:a∈ch):Nt fs ch h (h.update a f):=by
 have kK:∀b,b∉ch->(h.update a f).get? b=h.get? b:=λb m=>Zr _ _ λz=>m (z ▸ ha);exact⟨λb o e _ m=>(kK b m).trans e,λb o e m=>⟨o.slots,(kK b m).trans e⟩⟩
theorem Nt.slots (so:Heap.SlotsOnly fs h g):Nt fs ch h g:=⟨λb o e n _=>(so.2.1 b n).trans e,λb o e _=>so.2.2 b o e⟩
end
def Rec (h:Heap)(a:Addr)(k:Value)(d:Option Addr)(vs:Array Value):Prop:=∃o,h.get? a=some o/\(o.cls=k/\o.dict=d)/\o.data=.fields vs
section
variable {M:Model}{A:Around}{E:aah}{s:Shared}{h g:Heap}{a:Addr}{k x:Value}{d:Option Addr}{vs:Array Value}{i:Nat}
theorem Rec.put (r:Rec h a k d vs):Rec (h.update a (Obj.mapFields (·.setIfInBounds i x))) a k d (vs.setIfInBounds i x):=by
 obtain⟨⟨oc,od,dt,sl⟩,e,c,dd⟩:=r;cases dd;exact⟨_,Yu _ e rfl,c,rfl⟩
theorem Rec.over {fs ch:List Addr}(r:Rec h a k d vs)(N:Nt fs ch h g)(m:a∉ch):Rec g a k d vs:=by
 obtain⟨o,e,c,dd⟩:=r;obtain⟨sl,e'⟩:=N.slot a o e m;exact⟨_,e',c,dd⟩
theorem Rec.read {Q:aah}(r:Rec s.heap a k d vs)(hi:vs[i]?=some x)(q:Q x s):wpAny M A (field (.ref a) i) Q E s:=by
 obtain⟨o,e,_,dd⟩:=r;exact wpAny_field e dd hi q
theorem Rec.write {Q:Unit->Shared->Prop}(r:Rec s.heap a k d vs)(hi:i < vs.size)(q:Q () {s with heap:=s.heap.update a (Obj.mapFields (·.setIfInBounds i x))}):wpAny M A (setField (.ref a) i x) Q E s:=by
 obtain⟨o,e,_,dd⟩:=r;exact wpAny_setField e dd hi q
end
def kI (h0 h:Heap)(e:Addr)(k:Value)(dx:Addr)(p:Option (Addr×Value)):Prop :=
 ∃vs,(Rec h e k (some dx) vs/\h0.get? e=none) /\
  match p with
  |none=>vs[1]?=some .none
  |some (T,fl)=>vs[1]?=some (.ref T)/\T≠e/\h0.get? T=none/\∃c d ts,Rec h T c d ts/\ts[3]?=some fl
def jQ (e:Addr)(p:Option (Addr×Value)):List Addr:=e::p.toList.map (·.1)
section
variable {h0 h1 h:Heap}{e dx:Addr}{k:Value}{p:Option (Addr×Value)}
theorem kI.yh (F:kI h0 h e k dx p):∀b∈jQ e p,h0.get? b=none/\∃c d vs,Rec h b c d vs:=by
 obtain⟨vs,⟨r,n⟩,q⟩:=F;intro b hb;cases p with
 |none =>
  obtain rfl:b=e:=by simpa [jQ] using hb
  exact⟨n,_,_,_,r⟩
 |some p =>
  obtain⟨_,_,nT,c,d,ts,rT,_⟩:=q;have hb:b=e∨b=p.1:=by simpa [jQ] using hb
  rcases hb with rfl|rfl
  · exact⟨n,_,_,_,r⟩
  · exact⟨nT,c,d,ts,rT⟩
theorem kI.low (F:kI h0 h e k dx p)(hm:∀b,h0.get? b=none->h1.get? b=none):kI h1 h e k dx p:=by
 obtain⟨vs,⟨r,n⟩,q⟩:=F;cases p with
 |none=>exact⟨vs,⟨r,hm _ n⟩,q⟩
 |some p =>
  obtain⟨q1,q2,q3,q4⟩:=q;exact⟨vs,⟨r,hm _ n⟩,q1,q2,hm _ q3,q4⟩
end
section
variable {M:Model}{A:Around}{E:aah}{s:Shared}{base:Heap}{env:Env}{outer:List Env}{L e dx:Addr}{k:Value}{h0:Heap}
theorem entry {vs:Array Value} {Rf:Value} {nx:Bool} {Q:Unit->Shared->Prop} (fr:A.frames=some (env::outer)) (ff:s.heap.FunFrames base (env::outer)) (hf:env.frame=some L) (r:Rec s.heap e k (some dx) vs) (hz:1 < vs.size)
  (fin:∀g T c d ts,s.heap.objs.size<=T->T≠e->Nt ((env::outer).filterMap (·.frame)) [e] s.heap g->Rec g e k (some dx) (vs.setIfInBounds 1 (.ref T))->Rec g T c d ts->ts[3]?=some (rawInt L)->Q () {s with heap:=g}) :
  wpAny M A (frameOf env >>= λa=>entryPlaceOf L nx >>= λpl=>EntryCells.newEntry Rf a .none (rawInt L) .none pl >>= λb=>setField (.ref e) 1 b) Q E s:=by
 refine Xs (wpAny_frameOf_fun fr ff hf λg so=>Xs (wpAny_entryPlaceOf λpl ip=>Xs ?_));simp only[EntryCells.newEntry,newFields];refine YX ?_ (ip.sizeOk5 _ _ _ _ _);have h3:(([Rf,Value.ref L,Value.none,rawInt L,Value.none]++(if pl.isEmpty then List.replicate 6 Value.none else pl)).toArray)[3]?=some (rawInt L):=by simp
 generalize ([Rf,Value.ref L,Value.none,rawInt L,Value.none]++(if pl.isEmpty then List.replicate 6 Value.none else pl)).toArray=ts at h3;have r2:Rec (g.push {cls:=.type "traceback",dict:=none,data:=.fields ts}) e k (some dx) vs:=r.over ((Nt.slots so).trans (Nt.push _):Nt _ [] _ _) (by simp);have ne:g.objs.size≠e:=by
  obtain⟨o,eo,_⟩:=r.over (Nt.slots so:Nt _ [] _ _) (by simp);exact Nat.ne_of_gt (XH eo)
 have rT:Rec (g.push {cls:=.type "traceback",dict:=none,data:=.fields ts}) g.objs.size (.type "traceback") none ts:=⟨_,XM g rfl,⟨rfl,rfl⟩,rfl⟩;have up:Nt ((env::outer).filterMap (·.frame)) [e] (g.push {cls:=.type "traceback",dict:=none,data:=.fields ts}) _:=Nt.upd (f:=Obj.mapFields (·.setIfInBounds 1 (Value.ref g.objs.size))) (XJ.mpr rfl);exact Rec.write (s:={s with heap:=g.push {cls:=.type "traceback",dict:=none,data:=.fields ts}}) r2 hz
  (fin _ g.objs.size _ _ ts (Z9 so.1.symm) ne (((Nt.slots so).trans (Nt.push _)).trans up) r2.put (rT.over up λz=>ne (XJ.mp z)) h3)
theorem fb {vs:Array Value}{i:Nat}{x:Value}(h:vs[i]?=some x):i < vs.size:=(Array.getElem?_eq_some_iff.mp h).1
theorem xI {p:Option (Addr×Value)}{Q:Unit->Shared->Prop}(fr:A.frames=some (env::outer))(ff:s.heap.FunFrames base (env::outer))(hf:env.frame=some L)(F:kI h0 s.heap e k dx p)(Mj:∀b,s.heap.get? b=none->h0.get? b=none)
  (hp:∀T fl,p=some (T,fl)->fl=.none∨fl=rawInt L)
  (fin:∀g T,kI h0 g e k dx (some (T,rawInt L))->(T∈jQ e p∨s.heap.objs.size<=T)->Nt ((env::outer).filterMap (·.frame)) (jQ e p) s.heap g->Q () {s with heap:=g}):wpAny M A (noteFrame (.ref e) env) Q E s:=by
 obtain⟨vs,⟨r,n⟩,q⟩:=F;have made:∀(h:Heap),h.objs.size=s.heap.objs.size->∀g T c d ts,h.objs.size<=T->T≠e->Rec g e k (some dx) (vs.setIfInBounds 1 (.ref T))->Rec g T c d ts->ts[3]?=some (rawInt L)->1 < vs.size->kI h0 g e k dx (some (T,rawInt L)):=λh hs g T c d ts hT ne r1 rT h3 hz =>
  ⟨_,⟨r1,n⟩,by simp[hz],ne,Mj T (Heap.get?_none_of_le (hs ▸ hT)),c,d,ts,rT,h3⟩
 simp only[noteFrame,hf];cases p with
 |none =>
  refine Xs (r.read q ?_);exact entry fr ff hf r (fb q) λg T c d ts hT ne N r1 rT h3=>fin g T (made _ rfl g T c d ts hT ne r1 rT h3 (fb q)) (.inr hT) N
 |some p =>
  obtain⟨T,fl⟩:=p;obtain⟨h1,ne,nT,c,d,ts,rT,h3⟩:=q;refine Xs (r.read h1 (Xs (rT.read h3 ?_)));rcases hp T fl rfl with rfl|rfl
  · have N1:Nt ((env::outer).filterMap (·.frame)) [T] s.heap _:=Nt.upd (f:=Obj.mapFields (·.setIfInBounds 3 Value.none)) (XJ.mpr rfl);have r1:=r.over N1 λz=>ne (XJ.mp z).symm;have hs:(s.heap.update T (Obj.mapFields (·.setIfInBounds 3 Value.none))).objs.size=s.heap.objs.size:=Heap.size_after_update ..;have f1:(s.heap.update T (Obj.mapFields (·.setIfInBounds 3 Value.none))).FunFrames base (env::outer):=ff.of_keeps λb o eb nb=>by
     obtain⟨sl,z⟩:=N1.slot b o eb λz=>by
      obtain⟨u,eu,_,du⟩:=rT;rw[XJ.mp z,eu] at eb;cases eb;exact nb ts du
     exact⟨_,z,rfl⟩
    refine Xs (rT.write (fb h3) ?_);refine entry (s:={s with heap:=s.heap.update T (Obj.mapFields (·.setIfInBounds 3 Value.none))}) fr f1 hf r1 (fb h1) λg T' c' d' VD hT ne' N r2 VE VF=>?_;refine fin g T' (made _ hs g T' c' d' VD hT ne' r2 VE VF (fb h1)) (.inr (Yi (Z9 hs.symm) hT)) ?_;exact (N1.mono (λ_ z=>z) λb z=>by simp at z;simp[jQ,z]).trans (N.mono (λ_ z=>z) λb z=>by simp at z;simp[jQ,z])
  · have same:(rawInt L==rawInt L)=true:=by first|exact beq_self_eq_true _|simp
    rw[Xw same];exact XA (fin s.heap T ⟨vs,⟨r,n⟩,h1,ne,nT,c,d,ts,rT,h3⟩ (.inl (by simp[jQ])) (Nt.refl _ _ _))
theorem xj {T:Addr}{fl:Value}{v:Option Addr}{fs:List Addr}{Q:Unit->Shared->Prop}(F:kI h0 s.heap e k dx (some (T,fl)))
  (fin:∀g,kI h0 g e k dx (some (T,v.elim .none λf=>rawInt f))->Nt fs (jQ e (some (T,fl))) s.heap g->Q () {s with heap:=g}) :
  wpAny M A (setFlight (.ref e) v) Q E s:=by
 obtain⟨vs,⟨r,n⟩,h1,ne,nT,c,d,ts,rT,h3⟩:=F;have N1:Nt fs [T] s.heap _:=Nt.upd (f:=Obj.mapFields (·.setIfInBounds 3 (v.elim Value.none λf=>rawInt f))) (XJ.mpr rfl);simp only[setFlight];refine Xs (r.read h1 (rT.write (fb h3) (fin _ ⟨vs,⟨r.over N1 λz=>ne (XJ.mp z).symm,n⟩,h1,ne,nT,c,d,_,rT.put,by simp[fb h3]⟩ ?_)));exact N1.mono (λ_ z=>z) λb z=>by simp at z;simp[jQ,z]
end
end BwX
namespace BwX
open PySem PySem.Calls PySem.W Builtin Builtin.ObjectAttr
abbrev sv:aak:=[.type "Exception",.type "BaseException",.type "object"]
def cO (o:Obj)(C N:Addr):Prop:=∃nm q bs sn sub ab col dd k0 k1 k2 k3 k5,o=excClassObj nm q C N bs sv true sn sub ab col dd k0 k1 k2 k3 k5 "Exception.__new__"
section
variable {M:Model}{h:Heap}{a C N:Addr}{oC:Obj}{d:Option Addr}{vs:Array Value}
theorem Rec.type {k:Value} (r:Rec h a k d vs):Looks M h (typeOf (.ref a)) k:=by
 obtain⟨o,e,⟨c,_⟩,_⟩:=r;exact c ▸ (Looks.ld e).andThen .now
theorem cO.data (Z:cO oC C N)(e:h.get? C=some oC):∃cd:ClassData,Looks M h (classData C) cd/\cd.mro=.ref C::sv/\cd.hasDict=true:=by
 obtain⟨nm,q,bs,sn,sub,ab,col,dd,k0,k1,k2,k3,k5,rfl⟩:=Z;exact⟨_,(Looks.ld (part:=none) e).andThen .now,rfl,rfl⟩
theorem cO.mro (Z:cO oC C N)(e:h.get? C=some oC):Looks M h (mroOf (.ref C)) (.ref C::sv):=by
 obtain⟨cd,l,m,_⟩:=Z.data (M:=M) e;exact l.andThen (m ▸ .now)
theorem cO.sub (Z:cO oC C N)(e:h.get? C=some oC){b:Value}{r:Bool}(hb:(Value.ref C::sv).contains b=r):Looks M h (isSubtype (.ref C) b) r:=by
 unfold isSubtype;refine (Z.mro e).andThen ?_;dsimp only;rw[hb];exact .now
theorem cO.meta (Z:cO oC C N)(e:h.get? C=some oC):Looks M h (typeOf (.ref C)) (.type "type"):=by
 obtain⟨nm,q,bs,sn,sub,ab,col,dd,k0,k1,k2,k3,k5,rfl⟩:=Z;exact (Looks.ld e).andThen .now
theorem Rec.IX {k:Value}(r:Rec h a k d vs):Looks M h (isType (.ref a)) false:=by
 obtain⟨o,e,_,dt⟩:=r;refine (Looks.ld e).andThen ?_;rw[dt];exact .now
end
section
variable {M:Model}{A:Around}{E:aah}{s:Shared}{env:Env}
theorem wD {x:Sem Value} {Q:Flow->Shared->Prop} (hh:A.handled=none)
  (h:wpAny M A x (λv s1=>∃e C N oC d vs,v=.ref e/\Rec s1.heap e (.ref C) d vs/\vs[1]?=some .none/\s1.heap.get? C=some oC/\cO oC C N/\E (.ref e) s1) E s) :
  wpAny M A (raiseStmt env (some x) none) Q E s:=by
 refine Xs (YM h (λv s1 q=>?_) λ_ _ z=>z);obtain⟨e,C,N,oC,d,vs,rfl,r,h1,eC,Z,hE⟩:=q;obtain⟨hp,g,dr,tk,os⟩:=s1;have r:Rec hp e (.ref C) d vs:=r;have eC:hp.get? C=some oC:=eC;have l0:=r.type (M:=M);have l1:=Z.sub (M:=M) eC (b:=.type "BaseException") (r:=true) (by rw[List.contains_cons];exact Bool.or_eq_true_iff.mpr (.inr (by decide)));have l2:=Z.meta (M:=M) eC;have l3:=r.IX (M:=M);have lE:Looks M hp (isExcClass (.ref e)) false:=l3.andThen .now;have lI:Looks M hp (isInstance (.ref e) (.type "BaseException")) true:=l0.andThen l1;have l4:Looks M hp (excFromValue (.ref e) "exceptions must derive from BaseException") (.ref e):=lE.andThen (lI.andThen .now);have l5:Looks M hp (raisedInstance (.ref e)) (.ref e):=l0.andThen (l2.andThen .now);refine Xs (XA (Xs (Zw (l4.at ?_))));refine Xs (l3.at (Xs (l5.at (Xs ?_))));refine Xs (r.read (s:=⟨hp,g,dr,tk,os⟩) h1 (XA ?_));exact wpAny_raiseNew_none hh hE
end
theorem Ep {o:Obj}{es:Array DictEntry}{ep:Nat}{f:Str}{v:Value}(d:o.data=.dict es ep)(e:nsFind es f=some v):lookIn f o=some (some v):=by
 unfold lookIn;rw[d];unfold nsFind findBy at e;rw[←Array.find?_toList] at e;dsimp only;split
 · rename_i en he;rw[he] at e;exact YB some e
 · rename_i he;rw[he] at e;cases e
section
variable {prog:Program}{w:World}{A:Around}{E:aah}{K:Frag}{h:Heap}{g:Array GenState}{dr:Drawn}{tk:Nat}{os:OsState}{a C N dx:Addr}{oC:Obj}{vs:Array Value}{f:Str}{v:Value}{mA:aai}{b:Bool}
theorem uM {Q:aah} (X:K.In h) (eC:K.lookup C=some oC) (Z:cO oC C N) (ga:findIn K (.ref C) "__getattribute__"=some (some (.builtin "BaseException.__getattribute__"))) (gt:findIn K (.ref C) "__getattr__"=some none) (nf:findIn K (.ref C) f=some none)
  (r:Rec h a (.ref C) (some dx) vs) (n:h.Ns1 dx mA) (hv:mA f=some v) (hh:handedOut v=pure v) (q:Q v ⟨h,g,dr,tk+1,os⟩):wpAny (model prog w) A (getAttr (.ref a) f b) Q E ⟨h,g,dr,tk,os⟩:=by
 obtain⟨o,e,⟨c,d⟩,dt⟩:=id r;obtain⟨od,es,ep,e1,e2,_,_,e3⟩:=n;obtain⟨nm,q',bs,sn,sub,ab,col,dd,k0,k1,k2,k3,k5,rfl⟩:=id Z;have I:InstAt h a o C (some od):=⟨e,c,by unfold notCls;rw[dt],by rw[d];exact e1⟩;have fo:findObj K C (some od) f=some (.value v):=by
  obtain⟨cd,hc,hd⟩:∃cd,clsIn K C=some cd/\cd.hasDict=true:=⟨_,by unfold clsIn;rw[eC],rfl⟩;have ho:ownOf cd (some od) f=some (some v):=(Xw hd).trans (Ep e2 ((e3 f).trans hv));unfold findObj;rw[hc,nf];show (ownOf cd (some od) f).bind _=_;rw[ho];rfl
 have FB:=F.attrBase_Exception;have l0:=I.type (M:=model prog w);have l1:=looks_findIn (M:=model prog w) X ga;have l2:=looks_findIn (M:=model prog w) X gt;have l3:=looks_find (M:=model prog w) X I fo;refine Xs (wpAny_mkText (Zw (Xs (l0.at (Xs (l1.at ?_))))));show wpAny _ _ (getAttrByItsOwn (.ref a) (.str f tk) (.ref C) (.builtin "BaseException.__getattribute__") true b) _ _ _;refine Xs (l2.at (Xs (wpAny_attempt (Zw ?_))));have OY:callGetattribute (.ref a) (.str f tk) (.builtin "BaseException.__getattribute__") b=call (.builtin "BaseException.__getattribute__") [.ref a,.str f tk]:=by
  have hb:callGetattribute (.ref a) (.str f tk) (.builtin "BaseException.__getattribute__") b=boundAndCalled (.builtin "BaseException.__getattribute__") (.ref a) (.str f tk):=by cases b <;> rfl
  rw[hb];unfold boundAndCalled;rw[FB.ga.bind];rfl
 rw[OY];refine wpAny_call (codeAny_call_builtin FB.ga.plain F.entry_bexc_ga (wpAny_check_ga_own FB (X _ _ eC) .base e c ?_));refine Xs (XA (Xs (XA (Xs (l0.at (Xs (l3.at (XA ?_))))))));show wpAny _ _ (handedOut v) _ _ _;rw[hh];exact XA q
theorem uG {sl:Array (Option Value)}{Q:Unit->Shared->Prop}(X:K.In h)(eC:K.lookup C=some oC)(Z:cO oC C N)(sa:findIn K (.ref C) "__setattr__"=some (some (.builtin "object.__setattr__")))(nf:findIn K (.ref C) f=some none)
  (e:h.get? a=some ⟨.ref C,none,.fields vs,sl⟩)
  (fin:∀g' Mz,g'.get? a=some ⟨.ref C,some h.objs.size,.fields vs,sl⟩->g'.Ns1 h.objs.size (λy=>if y=f then some v else none)->(∀b o,b≠a->h.get? b=some o->g'.get? b=some o)->Q () ⟨g',g,dr,Mz,os⟩) :
  wpAny (model prog w) A (setAttr (.ref a) f v) Q E ⟨h,g,dr,tk,os⟩:=by
 have SF:=F.store_Exception;have r:Rec h a (.ref C) none vs:=⟨_,e,⟨rfl,rfl⟩,rfl⟩;have Rg:=X _ _ eC;have l0:=r.type (M:=model prog w);have l1:=looks_findIn (M:=model prog w) X sa;have l2:=looks_findIn (M:=model prog w) X nf;have l3:=Z.mro (M:=model prog w) Rg;obtain⟨cd,l4,_,hd⟩:=Z.data (M:=model prog w) Rg;have ne:a≠h.objs.size:=X7 (XH e);obtain⟨nm,q',bs,sn,sub,ab,col,dd,k0,k1,k2,k3,k5,rfl⟩:=id Z;refine Xs (wpAny_mkText (Xs (Xs (Xs (l0.at (l1.at ?_))))));refine Zw (Xs ?_);rw[SF.slot.bind];refine XA (Xs (wpAny_call ?_));refine codeAny_call_builtin SF.slot.plain SF.entry ?_;show wpAny _ _ (checkBuiltinCall "object.__setattr__" ⟨[.ref a,.str f tk,v],[]⟩) _ _ _;refine PySem.wpAny_check_sa (sa:="object.__setattr__") (owner:="object") (B:="Exception") (bm:=sv) SF (x:=a) (C:=C) Rg e rfl ?_;show wpAny _ _ (Builtin.«object.__setattr__» ⟨[.ref a,.str f tk,v],[]⟩) _ _ _;rw[osa_eq,refuse_eq];refine Xs (Xs (l0.at (Xs (l3.at ?_))));rw[refuseLoop_ref,SF.passes];refine XA (Xs (l0.at (Xs (l2.at (Xs (XA ?_))))));show wpAny _ _ (storeInOwnDict (.ref a) (.ref C) (.str f tk) f v false) _ _ _;have dic:∀(A':Around) (E':aah) (Q':Option Addr->Shared->Prop) (Mz:Nat),Q' (some h.objs.size) ⟨(h.push {cls:=.type "dict",data:=.dict #[]}).update a λo=>{o with dict:=some h.objs.size},g,dr,Mz,os⟩ ->
   wpAny (model prog w) A' (ownDictForStores (.ref a)) Q' E' ⟨h,g,dr,Mz,os⟩:=λA' E' Q' Mz z=>by
  refine Xs (wpAny_loadPart e (Xs (l4.at ?_)));rw[hd];exact Xs (wpAny_alloc (Xs (wpAny_update (Xx _ e) (XA z))))
 refine Xs (XA (Xs (dic _ _ _ _ ?_)));have SI:((h.push {cls:=.type "dict",data:=.dict #[]}).update a λo=>{o with dict:=some h.objs.size}).get? a=some ⟨.ref C,some h.objs.size,.fields vs,sl⟩:=Yu _ (Xx _ e) rfl;have SJ:((h.push {cls:=.type "dict",data:=.dict #[]}).update a λo=>{o with dict:=some h.objs.size}).get? h.objs.size=some {cls:=.type "dict",data:=.dict #[]}:=(Zr _ _ ne).trans (XM h rfl);have old:∀b o,b≠a->h.get? b=some o->((h.push {cls:=.type "dict",data:=.dict #[]}).update a λo=>{o with dict:=some h.objs.size}).get? b=some o:=λb o n eb=>(Zr _ _ (Z8 n)).trans (Xx _ eb);generalize ((h.push {cls:=.type "dict",data:=.dict #[]}).update a λo=>{o with dict:=some h.objs.size})=h1 at SI SJ old;have n1:h1.Ns1 h.objs.size (λ_=>none):=⟨_,#[],_,SJ,rfl,λy hy=>by simp at hy,by unfold UniqKeys;simp,λ_=>rfl⟩;show wpAny _ _ (storeInDict h.objs.size (.str f tk) f v) _ _ _;refine Xs (XA (Xs (wpAny_nsSet1 n1 λh2 n2 same=>?_)));obtain⟨oD,U6,U7,QT,QU,vY⟩:=n2.count (Within.cons f v Within.nil);refine Xs (wpAny_lookBehind QT (by rw[QU];exact pastItsLine_dict (Yi vY (by show 1<=sizeLine+1;decide))) (XA ?_));refine XA (XA (fin h2 _ ((same.2 a ne).trans SI) n2 λb o n eb=>(same.2 b (X7 (XH eb))).trans (old b o n eb)))
end
end BwX
namespace L2
open PySem PySem.Spec PyProof.Rows BwX
def ff (k p:Int):List (Str×V):=[("kind",.int k),("place",.int p)]
def sr (dx:Addr)(fs:List (Str×V)):HO:=.ext λh=>∃mA,h.Ns1 dx mA/\∀f,iT (fs.lookup f) (mA f)
def Rz (C:Addr)(E:XK)(k p:Int):Prop:=∀(H:Hp) (dx:Addr),H dx=some (sr dx (ff k p))->E (.ref C) (some dx) H
def eW (P:Program)(w:World)(C:Addr):my:=λouter H s E e s' =>
 ∃(a dx T:Addr) (H':Hp) (k p:Int),(e=.ref a/\s'.os=s.os/\AllBare s'.gens/\Un (vZ outer) [] H H' s.heap s'.heap/\iq P w H' s'.heap) /\
  kI s.heap s'.heap a (.ref C) dx (some (T,.none))/\(∀b∈jQ a (some (T,Value.none)),H' b=none)/\H' dx=some (sr dx (ff k p))/\Rz C E k p
def XF (X:Cx)(C:Addr)(E:XK):Value->Shared->Prop:=λe s' =>
 ∃(σ:St) (H:Hp) (a dx:Addr) (t:Option (Addr×Value)) (k p:Int),(e=.ref a/\Inv X [] σ H s')/\kI X.kM.heap s'.heap a (.ref C) dx t/\(∀b∈jQ a t,H b=none) /\
  (∀T fl,t=some (T,fl)->fl=.none∨fl=rawInt X.env.locals)/\H dx=some (sr dx (ff k p))/\Rz C E k p
structure mw (X:Cx):Prop where
 Fz:X.stack=X.env::X.outer
 frame:X.env.frame=some X.env.locals
 pn:X.pn=[]
 ex:X.ex=[]
section
variable {X:Cx}{pins:aaj}{σ:List (Option V)}{H H':Hp}{s:Shared}{h':Heap}
theorem Inv.gone (I:Inv X pins σ H s) (O:mw X):∀b,s.heap.get? b=none->X.kM.heap.get? b=none:=λb e=>by
 cases q:X.kM.heap.get? b with
 |none=>rfl
 |some o =>
  obtain⟨o',z⟩:=I.base.there b o q (by rw[O.ex];simp);rw[e] at z;cases z
end
section
variable {X:Cx}{σ:St}{H:Hp}{s:Shared}{C a dx:Addr}{E:XK}{M:Model}
theorem Inv.FZ {g:Heap} {ch:List Addr} (I:Inv X [] σ H s) (O:mw X) (nt:Nt (vZ X.stack) ch s.heap g) (L3:∀b∈ch,X.kM.heap.get? b=none/\∃c d vs,Rec s.heap b c d vs) (hH:∀b∈ch,H b=none):Inv X [] σ H {s with heap:=g}:=by
 refine I.FU (s':={s with heap:=g}) (ch:=ch) rfl ⟨λb o e _ hb hc=>nt.keep b o e hb hc,λb o e _ _ hc=>nt.slot b o e hc,λ_ _ _ n _=>n,λb o e hc=>(let ⟨_,z⟩:=nt.slot b o e hc;⟨_,z⟩),λ_ _ e=>e,λ_ _ _ e=>e,λb ps e=>⟨#[],by rw[e];simp⟩⟩ (λb u e=>?_) I.bare (λb hb=>?_)
 · refine (I.bu b u e).kK (λc v hc q=>?_) (λ_ q=>q) λ_ _ q=>q;have tr:H c≠none:=by
    rcases hc with rfl|hc
    · rw[e];simp
    · rw[hc];simp
   exact nt.keep c v q (λz=>tr (I.tT c z)) λz=>tr (hH c z)
 · obtain⟨h1,c,d,vs,o,ho,_,hd⟩:=L3 b hb;refine⟨.inr h1,?_,?_,?_⟩
   · rintro rfl;obtain⟨m,⟨o',es,ep,L1,Md,_⟩,_⟩:=I.loc;rw[L1] at ho;cases ho;rw[Md] at hd;cases hd
   · rintro x c e rfl;obtain⟨v,o',L1,Md⟩:=I.cell x c e;rw[L1] at ho;cases ho;rw[Md] at hd;cases hd
   · intro p hp;rw[O.pn] at hp;simp at hp
theorem xR {t:Option (Addr×Value)}{k:Value}{E':aah}{Q:Unit->Shared->Prop}(O:mw X)(I:Inv X [] σ H s)(F:kI X.kM.heap s.heap a k dx t)(hH:∀b∈jQ a t,H b=none)
  (Nr:∀T fl,t=some (T,fl)->fl=.none∨fl=rawInt X.env.locals)
  (fin:∀g T,Inv X [] σ H {s with heap:=g}->kI X.kM.heap g a k dx (some (T,rawInt X.env.locals))->(∀b∈jQ a (some (T,rawInt X.env.locals)),H b=none)->Q () {s with heap:=g}) :
  wpAny M X.A (noteFrame (.ref a) X.env) Q E' s:=by
 have fr:=I.ok.frames;have ff:=I.stack;rw[O.Fz] at fr ff;refine xI (base:=X.base) fr ff O.frame F (I.gone O) Nr λg T F' hT N=>fin g T (I.FZ O (by rw[O.Fz];exact N) F.yh hH) F' λb hb=>?_;rcases Xy.mp hb with rfl|hb
 · exact hH _ (Yh ..)
 · have:b=T:=by simpa using hb
   subst this;rcases hT with hT|hT
   · exact hH _ hT
   · exact I.bu.fresh hT
theorem lO {T:Addr}{fl k:Value}{v:Option Addr}{E':aah}{Q:Unit->Shared->Prop}{A:Around}(O:mw X)(I:Inv X [] σ H s)(F:kI X.kM.heap s.heap a k dx (some (T,fl)))(hH:∀b∈jQ a (some (T,fl)),H b=none)
  (fin:∀g,Inv X [] σ H {s with heap:=g}->kI X.kM.heap g a k dx (some (T,v.elim .none λf=>rawInt f))->Q () {s with heap:=g}) :
  wpAny M A (setFlight (.ref a) v) Q E' s :=
 xj (fs:=vZ X.stack) F λg F' N=>fin g (I.FZ O N F.yh hH) F'
theorem Fc {P:Program}{w:World}{e:Value}{Q:Unit->Shared->Prop}{E':aah}(O:mw X)(hP:X.prog=P)(hw:X.w=w)(h:XF X C E e s)(fin:∀s',eW P w C X.outer X.Ih X.kM E e s'->Q () s'):wpAny M X.A (leaving X.env e) Q E' s:=by
 obtain⟨σ,H,a,dx,t,k,p,⟨rfl,I⟩,F,hH,Nr,hx,hz⟩:=h;unfold leaving;refine Xs (xR O I F hH Nr λg T I1 F1 H1=>lO O I1 F1 H1 λg2 I2 F2=>fin _ ?_);have b:=I2.base;rw[O.ex] at b;exact⟨a,dx,T,H,k,p,⟨rfl,I2.os,I2.bare,b,hP ▸ hw ▸ I2.bu⟩,F2,H1,hx,hz⟩
theorem yQ (O:mw X):PassesOwn M X.A X.env (XF X C E):=by
 rintro e s' ⟨σ,H,a,dx,t,k,p,⟨rfl,I⟩,F,hH,Nr,hx,hz⟩;refine xR O I F hH Nr λg T I1 F1 H1=>?_;unfold cameBackBy;obtain⟨vs,⟨r,_⟩,h1,_⟩:=id F1;refine Xs (Rec.read (s:={s' with heap:=g}) r h1 ?_);rw[Xv (by simp)];refine lO O I1 F1 H1 λg2 I2 F2=>?_;refine⟨σ,H,a,dx,_,k,p,⟨rfl,I2⟩,F2,H1,λT' VG q=>?_,hx,hz⟩;rw[O.frame] at q;injection q with q;injection q with _ q;exact .inr q.symm
theorem bQ {P:Program}{w:World}(O:mw X)(hP:X.prog=P)(hw:X.w=w):Passes (eW P w C) (X.iF (XF X C E)) E:=by
 rintro pins σ H s e s' I ⟨a,dx,T,H',k,p,⟨rfl,os,bare,un,bu⟩,F,hH,hx,hz⟩;subst hP hw;have I1:Inv X pins σ H s:=I.di;have I2:Inv X pins σ H' s':=I1.Fs (ch:=[]) os un bu bare (λb z=>absurd z (by simp));refine⟨σ,H',a,dx,_,k,p,⟨rfl,I2.mI (pins':=[]) (λp hp=>absurd hp (by simp))⟩,F.low (I1.gone O),hH,λT' VG q=>?_,hx,hz⟩;injection q with q;injection q with _ q;exact .inl q.symm
end
section
variable {P:Program}{w:World}{K:aag}{mg:aai}{base:Heap}
theorem aH {CX:my} {N:List Str} {qual:Str} {scope:Scope} {f:Addr} {cd:Value} {A:Around} {outer:List Env} {s:Shared} {H:Hp} {E:XK}:mw (mS CX P w K mg base N qual scope f cd A outer s H E):=⟨rfl,rfl,rfl,rfl⟩
abbrev Ld (C:Addr)(P:Program)(w:World)(K:aag)(mg:aai)(base:Heap)(N:List Str)(qual:Str)(scope:Scope)(f:Addr)(cd:Value)(A:Around)(outer:List Env)(s:Shared)(H:Hp)(E:XK):Cx :=
 (mS (eW P w C) P w K mg base N qual scope f cd A outer s H E).iF (XF (mS (eW P w C) P w K mg base N qual scope f cd A outer s H E) C E)
theorem dk.Lu {x qual:Str}{st:Stmt}{f C:Addr}{fd:FuncData}{N ps:List Str}{k:Nat}{sp:Sp}(F:dk K x qual st f fd)(S:aG N ps (aw st))(len:∀vs H Q E,sp vs H Q E->vs.length=ps.length)
  (LM:∀(LG:Value) (A:Around) (outer:List Env) (s:Shared) (H:Hp) (vs:List V) (Q:VK) (E:XK),cN k (A.deeper (envOfC qual (aw st) s.heap.objs.size f LG))->sp vs H Q E ->
   ∃t,qP (Ld C P w K mg base N qual (aw st) f LG A outer s H E) (bZ st) t/\t {nx:=λ_ H'=>Q .cj H',rt:=Q} (start N vs) H):a8 P w K mg base (eW P w C) (k+1) f fd ps sp:=by
 obtain⟨oc,od,kV,doc,pm,an,LG,ct,My,rfl,lk,Mg⟩:=F.ex;refine Fh lk Mg S len λA outer s H vs Q E hr Mh=>?_;obtain⟨t,h,q⟩:=LM LG A outer s H vs Q E hr Mh;refine⟨t,λpins s1 σ H1 D I hw=>?_,q⟩;refine YM (h pins s1 σ H1 D (I.iF _) hw) (λ_ _ q=>q.di) λe s' z=>?_;exact Fc aH rfl rfl z λPM z=>z
end
def iy (K:aag)(N:Addr):Bool:=match K.lookup N with
 |some ⟨_,_,.dict es _,_⟩=>es.toList.all λe=>match e.key with
  |.str _ _=>true
  |_=>false
 |_=>false
def C6 (K:aag)(N:Addr)(x:Str):Option Value:=match K.lookup N with
 |some ⟨_,_,.dict es _,_⟩=>nsFind es x
 |_=>none
theorem Ci {K:aag}{N:Addr}{h:Heap}(X:K.In h)(e:iy K N=true):h.Ns N (C6 K N):=by
 unfold iy at e;split at e
 · rename_i c d es n sl q;refine⟨_,es,n,X _ _ q,rfl,λy hy=>?_,λname=>?_⟩
   · have z:=X1.mp e y (Array.mem_toList_iff.mpr hy);split at z
     · rename_i a b w;exact⟨a,b,w⟩
     · cases z
   · unfold C6;rw[q]
 · cases e
theorem sX {K:aag}{N:Addr}{x:Str}{r:Option Value}(e:PySem.W.nsIn K N x=some r):C6 K N x=r:=by
 unfold PySem.W.nsIn at e;unfold C6;split at e
 · rename_i c d es n sl q;rw[q];show nsFind es x=r;unfold nsFind findBy;rw[←Array.find?_toList];split at e
   · rename_i y w;rw[w];exact X8 e
   · rename_i w;rw[w];split at e
     · cases e
     · exact X8 e
 · cases e
structure pC (K:aag)(C N fI:Addr):Prop where
 cls:∃oC,K.lookup C=some oC/\cO oC C N
 keys:iy K N=true
 init:PySem.W.nsIn K N "__init__"=some (some (.ref fI))
 fn:PySem.W.isFn K (.ref fI)=true
 kp:PySem.W.keepIn K (.ref C)=true
 AK:PySem.W.nsIn K N "__setattr__"=some none
 KR:PySem.W.nsIn K N "kind"=some none
 K6:PySem.W.nsIn K N "place"=some none
 sa:PySem.W.findIn K (.ref C) "__setattr__"=some (some (.builtin "object.__setattr__"))
 ga:PySem.W.findIn K (.ref C) "__getattribute__"=some (some (.builtin "BaseException.__getattribute__"))
 gt:PySem.W.findIn K (.ref C) "__getattr__"=some none
 fK:PySem.W.findIn K (.ref C) "kind"=some none
 fP:PySem.W.findIn K (.ref C) "place"=some none
theorem Ly:typeLookup (.type "Exception") "kind"=pure none:=by rw[typeLookup_type,builtinLookup_eq_fast];kernel_rfl
theorem Lo:typeLookup (.type "Exception") "place"=pure none:=by rw[typeLookup_type,builtinLookup_eq_fast];kernel_rfl
def sP (a C t:Addr)(od:Option Addr):HO:=.ext λh=>h.get? a=some {cls:=.ref C,dict:=od,data:=.fields #[.ref t,.none,.none,.none,.bool false,.none]}
theorem bK.there {P:Program}{w:World}{H:Hp}{h:Heap}{a:Addr}{o:HO}(x:bK P w H h a o):∃u,h.get? a=some u:=by
 cases o with
 |lst xs=>obtain⟨_,_,_,_,e⟩:=x;exact⟨_,e⟩
 |tup xs=>obtain⟨_,_,_,o,e,_⟩:=x;exact⟨_,e⟩
 |dK LD=>obtain⟨_,_,_,_,o,_,_,e,_⟩:=x;exact⟨_,e⟩
 |dT LD=>obtain⟨_,_,_,_,o,_,_,e,_⟩:=x;exact⟨_,e⟩
 |set S n=>obtain⟨o,_,_,_,e,_⟩:=x;exact⟨_,e⟩
 |ins C dx fs=>obtain⟨_,_,_,e,_⟩:=x;exact⟨_,e⟩
 |own y=>exact x
 |xd fs=>obtain⟨_,⟨_,_,_,e,_⟩,_⟩:=x;exact⟨_,e⟩
 |rng lo hi=>obtain⟨_,_,_,e⟩:=x;exact⟨_,e⟩
 |frz ob u=>obtain⟨e,_⟩:=x;exact⟨_,e⟩
 |tbl ps=>exact⟨_,show h.get? a=some _ from x⟩
 |met f y=>exact⟨_,show h.get? a=some _ from x⟩
 |ext φ=>obtain⟨_,e,_⟩:=x;exact e
theorem iq.gone {P:Program}{w:World}{H:Hp}{h:Heap}{a:Addr}(x:iq P w H h)(e:h.get? a=none):H a=none:=by
 cases q:H a with
 |none=>rfl
 |some o =>
  obtain⟨u,z⟩:=(x a o q).there;rw[e] at z;cases z
theorem Co {P:Program}{w:World}{H:Hp}{h:Heap}{dx:Addr}{fs:List (Str×V)}{mA:aai}(n:h.Ns1 dx mA)(r:∀f,iT (fs.lookup f) (mA f)):bK P w H h dx (sr dx fs):=by
 obtain⟨o,es,ep,e,c⟩:=id n;refine⟨⟨mA,n,r⟩,⟨o,e⟩,?_⟩;rintro h1 h2 ⟨m,⟨o,es,ep,e,c⟩,r⟩ k;exact⟨m,⟨o,es,ep,k _ e,c⟩,r⟩
theorem Cr {P:Program}{w:World}{H:Hp}{h:Heap}{a C t:Addr}{od:Option Addr}(e:h.get? a=some {cls:=.ref C,dict:=od,data:=.fields #[.ref t,.none,.none,.none,.bool false,.none]}):bK P w H h a (sP a C t od) :=
 ⟨e,⟨_,e⟩,λ_ _ e k=>k _ e⟩
section
variable {X:Cx}{pins:aaj}{σ:St}{H:Hp}{s:Shared}{a C N fI t dx:Addr}{fs:List (Str×V)}{f:Str}{v:V}{u:Value}{A:Around}{E':aah}{Q:Unit->Shared->Prop}
theorem JT (I:Inv X pins σ H s) (Z:pC X.K C N fI) (nf:PySem.W.findIn X.K (.ref C) f=some none) (ea:H a=some (sP a C t none)) (r:RelV v u)
  (h:∀s' dx,H dx=none->dx≠a->Inv X pins σ (upd (upd H dx (sr dx [(f,v)])) a (sP a C t (some dx))) s'->Q () s'):wpAny (model X.prog X.w) A (setAttr (.ref a) f u) Q E' s:=by
 obtain⟨oC,hC,hF⟩:=Z.cls;obtain⟨φ,_,_⟩:=I.bu a _ ea;have hK:=I.mV;obtain⟨hp,ga,d,tk,os⟩:=s;refine uG hK hC hF Z.sa nf φ λg Mz h1 h2 h3=>?_;have fr:H hp.objs.size=none:=I.bu.fresh (XD _);have ne:hp.objs.size≠a:=λz=>by rw[z,ea] at fr;cases fr
 refine h ⟨g,ga,d,Mz,os⟩ hp.objs.size fr ne ?_;have at_:∀b o,H b=some o->b≠a->(upd (upd H hp.objs.size (sr hp.objs.size [(f,v)])) a (sP a C t (some hp.objs.size))) b=some o:=λb o e n=>by
  rw[aq n,aq (λz=>by rw[z,fr] at e;cases e)];exact e
 have no:∀b o,H b=some o->(∀φ,o≠.ext φ)->b≠a:=λb o e n z=>by
  rw[z,ea] at e;exact n _ (X8 e).symm
 refine I.un (h':=g) (t':=Mz) ⟨λb o e n _ _=>?_,λb o e n _ _=>?_,λb o e n _=>?_,λb o e _=>?_,λb xs e=>at_ b _ e (no b _ e λ_ z=>by cases z),λb o u e=>at_ b _ e (no b _ e λ_ z=>by cases z),λb ps e=>⟨#[],by rw[at_ b _ e (no b _ e λ_ z=>by cases z)];simp⟩⟩ (λb u e=>?_)
 · exact h3 b o (λz=>by rw[z,ea] at n;cases n) e
 · exact⟨o.slots,h3 b o (λz=>by rw[z,ea] at n;cases n) e⟩
 · rw[aq (λz=>by rw[z,ea] at n;cases n),aq (X7 (XH e))];exact n
 · by_cases z:b=a
   · exact⟨_,z ▸ h1⟩
   · exact⟨o,h3 b o z e⟩
 · by_cases z:b=a
   · subst z;rw[ae] at e;cases e;exact Cr h1
   · rw[aq z] at e;by_cases z2:b=hp.objs.size
     · subst z2;rw[ae] at e;cases e;refine Co h2 λy=>?_;by_cases hy:y=f
       · subst hy;simp only[List.lookup,beq_self_eq_true,Zd];exact r
       · have hb:(y==f)=false:=X3.mpr hy;simp only[List.lookup,hb,Xv hy]
         trivial
     · rw[aq z2] at e;refine (I.bu b u e).kK (λc w' hc q=>h3 c w' ?_ q) (λc q=>at_ c _ q (no c _ q λ_ z=>by cases z)) λc xs q=>at_ c _ q (no c _ q λ_ z=>by cases z);rcases hc with rfl|hc
       · exact z
       · exact no c _ hc λ_ z=>by cases z
theorem Jy (I:Inv X pins σ H s)(Z:pC X.K C N fI)(hn:PySem.W.nsIn X.K N f=some none)(hB:typeLookup (.type "Exception") f=pure none)(ea:H a=some (sP a C t (some dx)))(ed:H dx=some (sr dx fs))(ne:dx≠a)(hl:fs.length < 1000)(r:RelV v u)
  (h:∀s',Inv X pins σ (upd H dx (sr dx (ej f v fs))) s'->Q () s'):wpAny (model X.prog X.w) A (setAttr (.ref a) f u) Q E' s:=by
 obtain⟨_,hC,nm,q,bs,sn,sub,ab,col,dd,k0,k1,k2,k3,k5,rfl⟩:=Z.cls;have VH:=I.mV _ _ hC;have hN:=Ci I.mV Z.keys;have nC:a≠C:=λz=>by
  have:=(I.bs C _ (I.ok.mod.Fm _ _ hC)).2;rw[←z,ea] at this;cases this
 obtain⟨φ,_,_⟩:=I.bu a _ ea;obtain⟨⟨mA,n1,rl⟩,_,_⟩:=I.bu dx _ ed;obtain⟨hp,ga,d,tk,os⟩:=s;have wi:Within mA (fs.map (·.1)):=λy hy=>by
  have q:=rl y;cases e:fs.lookup y with
  |none =>
   rw[e] at q;cases e2:mA y with
   |none=>exact absurd e2 hy
   |some w'=>rw[e2] at q;exact q.elim
  |some w'=>exact X4.mpr ⟨(y,w'),PySem.mem_of_lookup e,rfl⟩
 refine store_attr F.store_Exception VH hN (sX Z.AK) (sX hn) hB nC ⟨_,φ,rfl,(λc q=>by cases q),Or.inr ⟨dx,rfl,ne,n1⟩⟩ (λh' Mz J keep same=>?_) wi (by rw[Xu,XZ];omega);obtain⟨o1,e1,c1,d1,s1,x1⟩:=same _ φ;have x1:o1.dict=some dx:=x1 dx rfl;obtain⟨o2,e2,_,_,r2⟩:=J;rw[e1] at e2;cases e2;have n2:h'.Ns1 dx (λy=>if y=f then some u else mA y):=by
  rcases r2 with ⟨z,_⟩|⟨d',z,_,w'⟩
  · rw[x1] at z;cases z
  · rw[x1] at z;cases z;exact w'
 refine h ⟨h',ga,d,Mz,os⟩ (I.write (h':=h') (t':=Mz) (x:=dx) (e:=dx) (by rw[ed];trivial) (.inl rfl) (λb o hb e=>?_) ?_ (Co n2 λy=>?_))
 · by_cases z:b=a
   · subst z;rw[φ] at e;cases e;rw[e1];obtain⟨p1,p2,p3,p4⟩:=o1;simp only at c1 d1 s1 x1;rw[c1,d1,s1,x1]
   · exact keep b o z (λo₀ MC w0 w1=>by
      rw[φ] at w0;cases w0;cases w1;exact hb) e
 · obtain⟨o,_,_,e,_⟩:=n2;exact⟨o,e⟩
 · rw[jz];by_cases hy:y=f
   · simp only[Xw hy];exact r
   · simp only[Xv hy];exact rl y
end
def Io (C:Addr)(ta tv:TE)(f:Str):TS:=λD σ H=>tv σ H λy H1=>ta σ H1 λx H2=>∃a t,x=.ref a /\
 ((H2 a=some (sP a C t none)/\∀dx,H2 dx=none->dx≠a->D.nx σ (upd (upd H2 dx (sr dx [(f,y)])) a (sP a C t (some dx)))) ∨
  ∃dx fs,H2 a=some (sP a C t (some dx))/\H2 dx=some (sr dx fs)/\dx≠a/\fs.length < 1000/\D.nx σ (upd H2 dx (sr dx (ej f y fs))))
theorem yI {X:Cx}{C N fI:Addr}{o value:Expr}{f:Str}{pos pos':Pos}{ta tv:TE}(Z:pC X.K C N fI)(nf:PySem.W.findIn X.K (.ref C) f=some none)(hn:PySem.W.nsIn X.K N f=some none)(hB:typeLookup (.type "Exception") f=pure none)(ha:PE X o ta)(hv:PE X value tv)
  (hs:swapsWith value (some (.Attribute o f pos')) pos.line X.env=pure false):PS X (.Assign [.Attribute o f pos'] value pos) (Io C ta tv f):=by
 intro pins s σ H D I h;refine plainObj_wpAny_Assign_Attribute (bB (hv pins s σ H _ I h) λu s1 ⟨y,H1,I1,ry,q⟩=>bB (ha pins s1 σ H1 _ I1 q) λov s2 ⟨x,H2,I2,rx,a,t,ex,q2⟩=>?_) hs;subst ex;obtain rfl:ov=Value.ref a:=rx;rcases q2 with ⟨ea,q2⟩|⟨dx,fs,ea,ed,ne,hl,q2⟩
 · exact JT I2 Z nf ea ry λs3 dx fr ne I3=>⟨σ,_,I3,q2 dx fr ne⟩
 · exact Jy I2 Z hn hB ea ed ne hl ry λs3 I3=>⟨σ,_,I3,q2⟩
def GF (C:Addr):Sp:=λvs H Q _=>∃(a t:Addr) (k p:Int),vs=[.ref a,.int k,.int p]/\H a=some (sP a C t none) /\
 ∀(dx:Addr),H dx=none->dx≠a->Q .cj (upd (upd H dx (sr dx (ff k p))) a (sP a C t (some dx)))
section
variable {X:Cx}{pins:aaj}{σ:St}{H:Hp}{s:Shared}
theorem Inv.grown {a:Addr} {o:HO} {h':Heap} {t':Nat} (I:Inv X pins σ H s) (k:∀b u,s.heap.get? b=some u->h'.get? b=some u) (hp:s.heap.get? a=none) (new:bK X.prog X.w (upd H a o) h' a o):Inv X pins σ (upd H a o) {s with heap:=h',toks:=t'}:=by
 have fr:H a=none:=I.bu.gone hp;have at_:∀b u,H b=some u->(upd H a o) b=some u:=λb u e=>by rw[aq (ao e fr)];exact e
 refine I.un (h':=h') (t':=t') ⟨λb u e n _ _=>k b u e,λb u e n _ _=>⟨u.slots,k b u e⟩,λb u e n _=>?_,λb u e _=>⟨u,k b u e⟩,λb xs e=>at_ b _ e,λb u v e=>at_ b _ e,λb ps e=>⟨#[],by rw[at_ b _ e];simp⟩⟩ λb u e=>?_
 · rw[aq (λz=>by rw[z,hp] at e;cases e)];exact n
 · by_cases z:b=a
   · subst z;rw[ae] at e;cases e;exact new
   · rw[aq z] at e;exact (I.bu b u e).kK (λc v _ q=>k c v q) (λc q=>at_ c _ q) λc xs q=>at_ c _ q
def J1 (H:Hp)(a:Addr):Hp:=λb=>if b=a then none else H b
theorem p8 {a:Addr}:J1 H a a=none:=Xw rfl
theorem uB {a b:Addr}(h:b≠a):J1 H a b=H b:=Xv h
theorem Inv.dropped {a:Addr}{φ:Heap->Prop}(I:Inv X pins σ H s)(e:H a=some (.ext φ)):Inv X pins σ (J1 H a) s:=by
 have at_:∀b u,H b=some u->(∀ψ,u≠.ext ψ)->J1 H a b=some u:=λb u q n=>by
  rw[uB (λz=>by rw[z,e] at q;exact n _ (X8 q).symm)];exact q
 refine I.un (h':=s.heap) (t':=s.toks) ⟨λb u q n _ _=>q,λb u q n _ _=>⟨u.slots,q⟩,λb u q n _=>?_,λb u q _=>⟨u,q⟩,λb xs q=>at_ b _ q (λ_ z=>by cases z),λb u v q=>at_ b _ q (λ_ z=>by cases z),λb ps q=>⟨#[],by rw[at_ b _ q (λ_ z=>by cases z)];simp⟩⟩ λb u q=>?_
 · by_cases z:b=a
   · rw[z];exact p8
   · rw[uB z];exact n
 · by_cases z:b=a
   · rw[z,p8] at q;cases q
   · rw[uB z] at q;exact (I.bu b u q).kK (λc v _ w=>w) (λc w=>at_ c _ w λ_ z=>by cases z) λc xs w=>at_ c _ w λ_ z=>by cases z
theorem Inv.seen {a:Addr}{φ:Heap->Prop}(I:Inv X pins σ H s)(O:mw X)(h0:X.kM.heap.get? a=none)(fr:H a=none)(nL:a≠X.env.locals)(nC:∀x c,X.env.cells.lookup x=some c->c≠a)(VI:pins=[])(nf:a∉X.fs)(new:bK X.prog X.w (upd H a (.ext φ)) s.heap a (.ext φ)) :
  Inv X pins σ (upd H a (.ext φ)) s:=by
 have at_:∀b u,H b=some u->(upd H a (.ext φ)) b=some u:=λb u q=>by rw[aq (ao q fr)];exact q
 refine⟨I.ok,I.os,I.bare,⟨I.base.keep,I.base.slot,λb o q n hx=>?_,I.base.there,λb xs q=>at_ b _ (I.base.oa b xs q),λb u v q=>at_ b _ (I.base.mX b u v q),λb ps q=>?_⟩,I.loc,I.cell,?_,λx c q=>?_,λp hp=>?_,λb u q=>?_,I.len⟩
 · rw[aq (λz=>by rw[z,h0] at q;cases q)];exact I.base.free b o q n hx
 · obtain⟨m,w⟩:=I.base.og b ps q;exact⟨m,at_ b _ w⟩
 · rw[aq nL.symm];exact I.free
 · rw[aq (nC x c q)];exact I.gp x c q
 · rw[O.pn,VI] at hp;simp at hp
 · by_cases z:b=a
   · subst z;rw[ae] at q;cases q;exact new
   · rw[aq z] at q;exact (I.bu b u q).kK (λc v _ w=>w) (λc w=>at_ c _ w) λc xs w=>at_ c _ w
end
def Kp (C:Addr)(E:XK)(t:TA):TS:=λ_ σ H=>t σ H λvs _=>∃k p,vs=[.int k,.int p]/\Rz C E k p
theorem BU {X:Cx}{C N fI:Addr}{E:XK}{x:Str}{np LK pos:Pos}{e:Expr}{es:List Expr}{t:TA}{j:Nat}{SK:FuncData}(O:mw X)(Z:pC X.K C N fI)(FI:a8 X.prog X.w X.K X.mg X.base bA j fI SK ["self","kind","place"] (GF C))(hr:cN (j+1) X.A)
  (bI:Binds X.K SK ["self","kind","place"] [])(hg:Gl X x)(hm:X.mg x=some (.ref C))(ha:PA (X.iF (XF X C E)) (e::es) t)(Ml:(x==("__debug__":Str))=false:=by decide)
  (he:starEach (e::es) X.env=(false,eval e X.env)::starEach es X.env:=by rfl)(LO:(backTo LK (starEach es X.env)).any (·.1)=false:=by rfl) :
  PS (X.iF (XF X C E)) (.Raise (some (.Call (.Name x np) (e::es) [] LK)) none pos) (Kp C E t):=by
 intro pins s σ H D I h;obtain⟨oC,hC,hF⟩:=Z.cls;rw[arm_exec_Raise];refine Xs (wpAny_standAt (wD hr.hd (Xs (YM ?_ (λv s1 q=>Xs (wpAny_standAt (XA q))) λ_ _ z=>z))));refine ZK (mC (X:=X) I.di hg hm ?_ Ml);refine PySem.W.callWith_K (h₀:=X.base) I.ok.mod.Fm Z.kp (bB (ha LK pins s σ H _ I h) λus s2 ⟨vs,H1,I1,r,k,p,ev,hz⟩=>⟨I1.mV,?_⟩) he LO;subst ev;have I1:Inv X pins σ H1 s2:=I1.di;obtain⟨u1,u2,rfl,r1,r2⟩:=vals2 r;obtain⟨oI,PX,VJ⟩:∃oI,s2.heap.get? fI=some oI/\oI.cls=.type "function":=by
  have z:=Yl.mp Z.fn;unfold PySem.W.typeIn at z;cases q:X.K.lookup fI with
  |none=>simp[q] at z
  |some o =>
   simp[q] at z;exact⟨o,I1.mV _ _ q,z⟩
 obtain⟨nm,q,bs,sn,sub,ab,col,dd,k0,k1,k2,k3,k5,Of⟩:=id hF;obtain⟨hp,ga,d,tk,os⟩:=s2;refine wpAny_call_exc_init F.excBase_Exception (Of ▸ I1.mV _ _ hC) (Ci I1.mV Z.keys) (sX Z.init) PX VJ (λh' a M=>?_) (by show 2<=sizeLine;decide);obtain⟨keep,fresh,t0,Rh,_,_⟩:=M;have I2:Inv X pins σ (upd H1 a (sP a C t0 none)) (⟨h',ga,d,tk,os⟩:Shared):=I1.grown keep fresh (Cr Rh);have rv:Vals [V.ref a,V.int k,V.int p] [Value.ref a,u1,u2]:=.cons rfl r;refine wpAny_call (Z7 (FI.run _ X.stack _ _ ⟨[Value.ref a,u1,u2],[]⟩ [Value.ref a,u1,u2] [V.ref a,V.int k,V.int p]
  (λv H'=>v=.cj/\∃dx,(upd H1 a (sP a C t0 none)) dx=none/\dx≠a/\H'=upd (upd (upd H1 a (sP a C t0 none)) dx (sr dx (ff k p))) a (sP a C t0 (some dx))) E0 (hr.make C [u1,u2] []) (I2.Ho.make C [u1,u2] []) ?_ rv ⟨a,t0,k,p,rfl,ae,λdx h1 h2=>⟨rfl,dx,h1,h2,rfl⟩⟩) λr s3 hq=>?_)
 · have z:=bI (⟨h',ga,d,tk,os⟩:Shared) [Value.ref a,u1,u2] I2.mV rfl;rw[Yx] at z;exact z
 cases r with
 |error e=>exact False.elim hq
 |ok fl =>
  cases fl with
  |next=>exact False.elim hq
  |brk=>exact False.elim hq
  |cont=>exact False.elim hq
  |ret u =>
   obtain⟨v,H',I3,rv,ev,dx,Mn,ne,eH⟩:=I2.after hq;subst ev eH;have ea:(upd (upd (upd H1 a (sP a C t0 none)) dx (sr dx (ff k p))) a (sP a C t0 (some dx))) a=some (sP a C t0 (some dx)):=ae;obtain⟨φ,_,_⟩:=I3.bu a _ ea;refine⟨rv,a,C,N,oC,some dx,_,rfl,⟨_,φ,⟨rfl,rfl⟩,rfl⟩,rfl,I3.mV _ _ hC,hF,σ,_,a,dx,none,k,p,⟨rfl,(I3.dropped ea).mI (pins':=[]) λp hp=>absurd hp (by simp)⟩,⟨_,⟨⟨_,φ,⟨rfl,rfl⟩,rfl⟩,I1.gone O a fresh⟩,rfl⟩,λb hb=>?_,λT fl z=>(nomatch z),?_,hz⟩
   · have:b=a:=by simpa [jQ] using hb
     rw[this];exact p8
   · rw[uB ne,aq ne,ae]
section
variable {X:Cx}{st:Stmt}{rest:List Stmt}{t u:TS}
theorem PS.zero (h:PS X st t):Kl X st t:=λs σ H D I q=>h [] s σ H D I q
theorem qP.zero (h:qP X rest t):BJ X rest t:=λs σ H D I q=>h [] s σ H D I q
theorem ir (h1:Kl X st t)(h2:BJ X rest u):BJ X (st::rest) (HB t u):=by
 intro s σ H D I h;refine wpAny_execs_cons (bB (h1 s σ H {D with nx:=u D} I h) λf s1 q=>?_);cases f with
 |next =>
  obtain⟨σ',H',I',q⟩:=q;exact h2 s1 σ' H' D I' q
 |ret v=>exact q
 |brk=>exact q
 |cont=>exact q
end
section
variable {P:Program}{w:World}{K:aag}{mg:aai}{base:Heap}
theorem dk.KJ {x qual:Str} {st:Stmt} {f:Addr} {fd:FuncData} {N ps:List Str} {k:Nat} {sp:Sp} (F:dk K x qual st f fd) (S:aG N ps (aw st)) (len:∀vs H Q E,sp vs H Q E->vs.length=ps.length)
  (LM:∀(LG:Value) (A:Around) (outer:List Env) (s:Shared) (H:Hp) (vs:List V) (Q:VK) (E:XK),cN k (A.deeper (envOfC qual (aw st) s.heap.objs.size f LG))->sp vs H Q E ->
   ∃t,BJ (mS bA P w K mg base N qual (aw st) f LG A outer s H E).G4 (bZ st) t/\t {nx:=λ_ H'=>Q .cj H',rt:=Q} (start N vs) H):a8 P w K mg base bA (k+1) f fd ps sp:=by
 obtain⟨oc,od,kV,doc,pm,an,LG,ct,My,rfl,lk,Mg⟩:=F.ex;refine Bj lk Mg S len λA outer s H vs Q E hr Mh=>?_;obtain⟨t,h,q⟩:=LM LG A outer s H vs Q E hr Mh;exact⟨t,λs1 σ H1 D I hw=>YM (h s1 σ H1 D (I.iF _) hw) (λ_ _ q=>q.di) λ_ _ z=>False.elim z,q⟩
end
def JZ (a C dx:Addr):HO:=.ext λh=>∃(oe:Obj) (vs:Array Value),h.get? a=some oe/\oe.cls=.ref C/\oe.dict=some dx/\oe.data=.fields vs
theorem HZ {P:Program}{w:World}{H:Hp}{h:Heap}{a C dx:Addr}{oe:Obj}{vs:Array Value}(e:h.get? a=some oe)(c:oe.cls=.ref C)(x:oe.dict=some dx)(d:oe.data=.fields vs):bK P w H h a (JZ a C dx) :=
 ⟨⟨oe,vs,e,c,x,d⟩,⟨_,e⟩,λh1 h2 ⟨o,vs,e,r⟩ k=>⟨o,vs,k _ e,r⟩⟩
def Iq (C:Addr)(ta:TE)(f:Str):TE:=λσ H Q=>ta σ H λx H1=>∃a dx fs v,x=.ref a/\H1 a=some (JZ a C dx)/\H1 dx=some (sr dx fs)/\fs.lookup f=some v/\Q v H1
theorem yf {X:Cx}{C N fI:Addr}{e:Expr}{f:Str}{pos:Pos}{ta:TE}(Z:pC X.K C N fI)(nf:PySem.W.findIn X.K (.ref C) f=some none)(he:PE X e ta)(hb:attributeBase e f X.env (eval e X.env)=eval e X.env):PE X (.Attribute e f pos) (Iq C ta f):=by
 intro pins s σ H Q I h;obtain⟨oC,hC,hF⟩:=Z.cls;refine yx hb (bB (he pins s σ H _ I h) λu s1 ⟨x,H1,I1,rx,a,dx,fs,v,ex,ea,ed,l,q⟩=>?_);subst ex;obtain rfl:u=Value.ref a:=rx;obtain⟨⟨oe,vs,e1,c1,x1,d1⟩,_,_⟩:=I1.bu a _ ea;obtain⟨⟨mA,n1,rl⟩,_,_⟩:=I1.bu dx _ ed;have rv:=rl f;rw[l] at rv;obtain⟨u,hu,ru⟩:=iT.some_of rv;have hK:=I1.mV;obtain⟨hp,ga,d,tk,os⟩:=s1;exact uM hK hC hF Z.ga Z.gt nf ⟨oe,e1,⟨c1,x1⟩,d1⟩ n1 hu (PySem.W.handedOut_of (rP ru)) ⟨v,H1,I1.tok _,ru,q⟩
def EE (R:Int->Int->Prop):XK:=λ_ VL H=>∃dx k p,VL=some dx/\H dx=some (sr dx (ff k p))/\R k p
theorem JF {C:Addr}{R:Int->Int->Prop}{k p:Int}(h:R k p):Rz C (EE R) k p:=λ_ dx e=>⟨dx,k,p,rfl,e,h⟩
abbrev Cx.Fi (X:Cx)(a:Addr):Cx:={X with A:=X.A.mark (some (.ref a)),calm:=false,xe:=λ_ _=>False}
section
variable {X:Cx}{pins:aaj}{σ:St}{H:Hp}{s:Shared}
theorem Inv.Fi (I:Inv X pins σ H s) (a:Addr):Inv (X.Fi a) pins σ H s :=
 ⟨⟨I.ok.mod,I.ok.kind,I.ok.glob,I.ok.blt,I.ok.above,I.ok.inj,I.ok.has,I.ok.Ii,λz=>(by cases z),I.ok.frames,I.ok.Fz,I.ok.IA,I.ok.bs,I.ok.C7,I.ok.Ax,I.ok.zu,I.ok.lX,I.ok.FG⟩,I.os,I.bare,I.base,I.loc,I.cell,I.free,I.gp,I.pin,I.bu,I.len⟩
theorem Inv.Jn {a:Addr}(I:Inv (X.Fi a) pins σ H s)(ok:X.Ok):Inv X pins σ H s:=⟨ok,I.os,I.bare,I.base,I.loc,I.cell,I.free,I.gp,I.pin,I.bu,I.len⟩
theorem Inv.GV {h':Heap}{m':aai}{t':Nat}(I:Inv X [] σ H s)(O:mw X)(hn:h'.Ns X.env.locals m')(sb:Heap.SameBut X.env.locals s.heap h'):Inv X [] (List.replicate X.N.length none) H {s with heap:=h',toks:=t'}:=by
 refine⟨I.ok,I.os,I.bare,⟨λb o e n hb hx=>?_,λb o e n hb hx=>?_,I.base.free,λb o e hx=>?_,I.base.oa,I.base.mX,I.base.og⟩,⟨m',hn,λi x v e1 e2 _=>?_⟩,λx c e=>?_,I.free,I.gp,λp hp=>?_,λb u e=>?_,by simp⟩
 · exact (sb.2 b (X7 (Yb (XH e) I.ok.above))).trans (I.base.keep b o e n hb hx)
 · obtain⟨sl,z⟩:=I.base.slot b o e n hb hx;exact⟨sl,(sb.2 b (X7 (Yb (XH e) I.ok.above))).trans z⟩
 · obtain⟨o',z⟩:=I.base.there b o e hx;exact⟨o',(sb.2 b (X7 (Yb (XH e) I.ok.above))).trans z⟩
 · rw[List.getElem?_replicate] at e2;split at e2 <;> cases e2
 · obtain⟨v,z⟩:=I.cell x c e;exact⟨v,z.sameBut sb (I.Fu x c e)⟩
 · rw[O.pn] at hp;simp at hp
 · refine (I.bu b u e).kK (λc v hc q=>(sb.2 c ?_).trans q) (λ_ q=>q) λ_ _ q=>q;rintro rfl;have fr:=I.free;rcases hc with rfl|hc
   · rw[fr] at e;cases e
   · rw[fr] at hc;cases hc
end
def Lr (X:Cx)(pins:aaj)(D:Ends)(f:Flow)(s':Shared):Prop:=match f with
 |.ret u=>SP X [] D (.ret u) s'
 |f=>SP X pins D f s'
def Lc (X:Cx)(st:Stmt)(t:TS):Prop:=∀(pins:aaj) (s:Shared) (σ:St) (H:Hp) (D:Ends),Inv X pins σ H s->t D σ H->wpAny (model X.prog X.w) X.A (exec st X.env) (Lr X pins D) X.xe s
theorem Dy {X:Cx}{tg iter:Expr}{st:Stmt}{wi:TI}{g:TG}{tb:TS}{pos:Pos}(hp:PassesOwn (model X.prog X.w) X.A X.env X.xe)(hc:X.calm=true)(hi:PI X tg iter wi)(hg:PG X tg g)(hb:Lc X st tb)
  (hs:∀x,foldedSetIterable iter X.env x=pure x:=by intro _;rfl):Kl X (.For tg iter [st] [] pos) (Gw wi g tb):=by
 intro s σ H D I h;refine wpAny_For (bB (hi [] s σ H _ I h) λv s1 h1=>bB h1 λPK s2 h2=>?_) hs;obtain⟨it,fp,tn,J,H2,e,I2,T,N_,f2,W,⟨m0,w0⟩,turn⟩:=h2;subst e;have LZ:∀{H':Hp},(∀b∈fp,H' b=none)->∀b∈fp,mP X [] H' b:=λhn b hb=>⟨hn b hb,(f2 b hb).2⟩;refine codeAny_forLoop_any (λn s'=>∃i σ' H',Inv X [] σ' H' s'/\tn i s'.heap/\(∀b∈fp,H' b=none)/\W i n σ' H') ?_ m0 ⟨0,σ,H2,I2,N_,λb hb=>(f2 b hb).1,w0⟩;rintro n s3 ⟨i,σ3,H3,I3,NL,OK,w3⟩;rcases turn i n σ3 H3 w3 with ⟨stop,qn⟩|⟨go,N,hN,step⟩
 · refine YO hp (bB (T.done X rfl rfl rfl hc i [] s3 σ3 H3 X.xe I3 (LZ OK) NL stop) λr s4 ⟨hr,I4⟩=>?_);subst hr;exact Zs ⟨σ3,H3,I4,qn⟩
 · refine YO hp (bB (T.item X rfl rfl rfl hc i [] s3 σ3 H3 X.xe I3 (LZ OK) NL go) λr s4 ⟨u,hr,h4⟩=>?_);subst hr;refine YO hp (bB h4 λ_ s5 ⟨x,H5,I5,r5,y5,MT,QP⟩=>?_);have QQ:=I5.pinned (LZ QP) (T.obj _ _ MT);refine YO hp (bB (hg _ s5 σ3 H5 x u _ QQ r5 (step x H5 y5)) λ_ s6 ⟨σ6,H6,I6,q6⟩=>?_);refine YO hp (wpAny_execs_cons (bB (hb _ s6 σ6 H6 _ I6 q6) λf s7 q7=>?_));have again:∀{σ7:St} {H7:Hp},Inv X ([]++nG fp s5.heap) σ7 H7 s7->N σ7 H7->∃m,m < n/\∃i σ' H',Inv X [] σ' H' s7/\tn i s7.heap/\(∀b∈fp,H' b=none)/\W i m σ' H':=λ{σ7 H7} I7 n7=>by
    obtain⟨m',hm,w7⟩:=hN σ7 H7 n7;refine⟨m',hm,i+1,σ7,H7,I7.ik,T.keep _ _ _ MT λb hb o e=>(I7.pin (b,o) (Yt _ (Yt _ (gG hb e)))).1,λb hb=>?_,w7⟩;obtain⟨o,e,d⟩:=T.obj _ _ MT b hb;exact (I7.pin (b,o) (Yt _ (Yt _ (gG hb e)))).2.1
   cases f with
   |next=>obtain⟨σ7,H7,I7,n7⟩:=q7;exact Zs (again I7 n7)
   |cont=>obtain⟨σ7,H7,I7,n7⟩:=q7;exact again I7 n7
   |brk=>obtain⟨σ7,H7,I7,q7⟩:=q7;exact⟨σ7,H7,I7.ik,q7⟩
   |ret v=>exact q7
def KD (C:Addr)(i:Nat)(R:Int->Int->Prop)(tb th:TS):TS:=λD σ H=>tb D σ H /\
 ∀(σ':St) (H':Hp) (a dx:Addr) (k p:Int),R k p->σ'[i]?=some (some (.ref a))->H' a=some (JZ a C dx)->H' dx=some (sr dx (ff k p))->th {nx:=λ_ _=>False,rt:=D.rt} σ' H'
theorem Ha {X:Cx}{C N fI:Addr}{R:Int->Int->Prop}{x n:Str}{np Ri pos:Pos}{body Nu:List Stmt}{b0:Stmt}{i:Nat}{tb th:TS}(O:mw X)(Z:pC X.K C N fI)(hg:Gl X x)(hm:X.mg x=some (.ref C))(hN:X.N.Nodup)(hi:X.N[i]?=some n)
  (hl:X.env.scope.names.lookup n=some .local)(hb:qP (X.iF (XF X C (EE R))) body tb)(hh:∀a,qP (X.Fi a) (b0::Nu) th)(Ml:(x==("__debug__":Str))=false:=by decide) :
  Lc X (.Try body [.ExceptHandler (some (.Name x np)) (some n) (b0::Nu) Ri] [] [] pos) (KD C i R tb th):=by
 rintro pins s σ H D I ⟨hq,VM⟩;obtain⟨oC,hC,hF⟩:=Z.cls;refine wpAny_Try_except (YM (hb pins s σ H D (I.iF _) hq) (λf s1 q=>?_) λe s1 z=>?_)
 · cases f with
   |next=>exact Zs q.di
   |brk=>exact q.di
   |cont=>exact q.di
   |ret u =>
    obtain⟨v,σ',H',I',r⟩:=q.di;exact⟨v,σ',H',I'.mI (pins':=[]) λp hp=>absurd hp (by simp),r⟩
 obtain⟨σ1,H1,a,dx,t,k,p,⟨rfl,I1⟩,F1,hH,Nr,hx,hz⟩:=z;obtain⟨MC,k',p',e1,e2,hR⟩:=hz H1 dx hx;cases e1;refine xR O I1 F1 hH Nr λg T I2 F2 H2=>?_;refine lO (v:=none) O I2 F2 H2 λg2 I3 F3=>?_;obtain⟨vs3,⟨⟨oe3,VN,⟨VO,xe3⟩,de3⟩,_⟩,_⟩:=id F3;obtain⟨_,_,_,_,_,_,_,_,_,_,_,_,_,Of⟩:=id hF;refine wpAny_handleBy_cons (codeAny_handlers_test (mC (X:=X.Fi a) (I3.Fi a) hg hm ?_ Ml)) (by intro z;cases z);refine wpAny_excMatches_sub_self (Of ▸ I3.mV _ _ hC) VN VO (by decide) (codeAny_handlers_suite_as ?_);have H3:∀b∈jQ a (some (T,(none:Option Addr).elim Value.none λf=>rawInt f)),H1 b=none:=H2;refine lO (v:=none) O I3 F3 H3 λg4 I4 F4=>?_;obtain⟨vs4,⟨⟨oe4,NT,⟨VP,VQ⟩,Og⟩,z4⟩,_⟩:=id F4;have nL:a≠X.env.locals:=by
  rintro rfl;obtain⟨m,⟨o',es,ep,L1,Md,_⟩,_⟩:=I4.loc;rw[L1] at NT;cases NT;rw[Md] at Og;cases Og
 have nC:∀x c,X.env.cells.lookup x=some c->c≠a:=by
  rintro x c e rfl;obtain⟨v,o',L1,Md⟩:=I4.cell x c e;rw[L1] at NT;cases NT;rw[Md] at Og;cases Og
 have nf:a∉X.fs:=λz=>by
  obtain⟨_,o',L1,Md⟩:=I4.lX.mem z;rw[L1] at NT;cases NT;exact Md _ Og
 have I5:Inv X [] σ1 (upd H1 a (JZ a C dx)) _:=I4.seen O z4 (hH a (Yh ..)) nL nC rfl nf (HZ NT VP VQ Og);have nd:dx≠a:=λz=>by
  have:=hH a (Yh ..);rw[←z,hx] at this;cases this
 refine mH (X:=X.Fi a) (v:=V.ref a) (I5.Fi a) hN hi (.inl hl) rfl (λs6 I6=>?_) (.inr hl);have li:i < σ1.length:=by rw[I4.len];exact (XI.mp hi).1
 refine YM (hh a [] s6 _ _ {nx:=λ_ _=>False,rt:=D.rt} I6 (VM _ _ a dx k' p' hR (ZP li) ae (by rw[aq nd];exact e2))) (λf s7 z=>?_) λ_ _ z=>False.elim z;cases f with
 |next=>obtain⟨_,_,_,z⟩:=z;exact False.elim z
 |brk=>obtain⟨_,_,_,z⟩:=z;exact False.elim z
 |cont=>obtain⟨_,_,_,z⟩:=z;exact False.elim z
 |ret u =>
  obtain⟨v,σ8,H8,I8,rv,z⟩:=z;have I8:Inv X [] σ8 H8 s7:=I8.Jn I.ok;obtain⟨m,hn,_⟩:=id I8.loc;refine wpAny_nameGoes hl hn (by rw[I.ok.kind];rfl) λh' m' MR sb=>?_;exact⟨v,_,H8,I8.GV O MR sb,rv,z⟩
end L2
namespace L2
open PySem PySem.Spec PyProof.Rows
section
variable {X:Cx}
theorem wQ:ie X (.builtin "sorted") (λxs H Q=>∃(t:Addr) (ns:List Int),xs=[.ref t]/\b7 X.K H t (ns.map V.int)/\ns.length < 64 /\
  ∀(ms:List Int) (p:Addr),ms.Perm ns->ms.Pairwise (·<=·)->H p=none->Q (.ref p) (upd H p (.lst (ms.map V.int)))):=by
 rintro pins s σ H xs us Q I r ⟨t,ns,rfl,ht,M0,q⟩;rw[Vals.wj r];obtain⟨LF,rv,⟨o,ho,hc,n,hd⟩,hz⟩:=I.tuple ht;have hi:=rv.ints;have vY:LF.length < 64:=by rw[hi.length];exact M0
 have line:LF.length<=sizeLine:=yO vY;refine PySem.Calls.call_function_entry kind_sorted plain_sorted entry_sorted (args_sorted1 _) ?_;show wpAny _ _ (checkCount "sorted" 1 1 1 >>= λ_=>collect (.ref t) >>= λvs=>newList vs >>= λl=>holding [l] (call (.builtin "list.sort") [l] []) >>= λ_=>ret l) _ _ _;refine Xs (XA (Xs (wpAny_collect_seq t (.inr rfl) ho hc hd (λh1 k1=>Xs (wpAny_newList (Xs (Zw ?_)) ?_)) ?_)))
 ·
  have new:(h1.push {cls:=.type "list",data:=.seq LF.toArray.toList.toArray}).get? h1.objs.size=some (seqObj "list" LF.toArray 0):=XM h1 rfl;refine YR slot_list_sort ⟨_,new,rfl⟩ entry_list_sort (list_sort_tree new hi vY λout ms p1 p2 p3=>⟨.none,rfl,XA ⟨_,rfl,?_⟩⟩) (args_list_sort _);have MK:s.heap.get? h1.objs.size=none:=by
   cases z:s.heap.get? h1.objs.size with
   |none=>rfl
   |some u=>exact absurd (XH (k1 _ _ z)) (YQ _)
  obtain⟨ep,at_⟩:=sortedHeap_at (vs:=LF) (out:=out) new;have keep:∀b u,s.heap.get? b=some u->(sortedHeap (h1.push {cls:=.type "list",data:=.seq LF.toArray.toList.toArray}) h1.objs.size LF out).get? b=some u:=λb u e=>by
   have e1:=Xx {cls:=.type "list",data:=.seq LF.toArray.toList.toArray} (k1 b u e);rw[sortedHeap_old (λz=>by rw[z,MK] at e;cases e) (XH e1)];exact e1
  have len:(ms.map V.int).length<=sizeLine:=by rw[Xu,p2.length_eq];exact yO M0
  exact⟨.ref _,upd H h1.objs.size (.lst (ms.map V.int)),I.grown (t':=s.toks) keep MK ⟨len,out.toList,ep,lZ p1,at_⟩,rfl,q ms _ p2 p3 (I.bu.gone MK)⟩
 · simpa using line
 · simpa using line
end
end L2
namespace BwX
open PySem
section
variable {P:Program}{w:World}{A:Around}{E:aah}{s:Shared}
theorem CI {it t:Addr} {k:Nat} {LF:Array Value} {x:Value} {Q:aah} (hi:s.heap.IsTupleIter it t k) (ht:s.heap.IsTuple t LF) (hx:LF[k]?=some x)
  (q:∀h',h'.IsTupleIter it t (k+1)->Heap.SameBut it s.heap h'->Q x {s with heap:=h'}):wpAny (model P w) A (Builtin.SmallTypes.nextOf (.ref it)) Q E s:=by
 have ty:=hi.typeIs;obtain⟨⟨c1,d1,f1,l1⟩,g1,rfl,rfl⟩:=hi;obtain⟨⟨c2,d2,f2,l2⟩,g2,rfl,n,rfl⟩:=ht;unfold Builtin.SmallTypes.nextOf;refine Xs (YK (name:=Str.ofString "__next__") ty Zy (YR Zy ty F.entry_tuple_iterator_next ?_ (F.args_tuple_iterator_next_1 _)));obtain⟨hp,ga,d,tk,os⟩:=s;show wpAny _ _ (Builtin.«tuple_iterator.__next__» _) _ _ _
 wp_walk
 rw[Yg,hx];refine Xs (wpAny_setField g1 rfl (by simp) (XA ⟨x,rfl,XA (q _ ⟨_,Yu _ g1 rfl,rfl,?_⟩ (XX ..))⟩));simp[Obj.mapFields,rawInt]
theorem A0 {it t:Addr}{k:Nat}{LF:Array Value}{Q:aah}(hh:A.handled=none)(hi:s.heap.IsTupleIter it t k)(ht:s.heap.IsTuple t LF)(hx:LF[k]?=none)
  (q:∀h' e,Heap.ExtBut it s.heap h'->(∃o,h'.get? e=some o/\o.cls=.type "StopIteration")->E (.ref e) {s with heap:=h'}):wpAny (model P w) A (Builtin.SmallTypes.nextOf (.ref it)) Q E s:=by
 have ty:=hi.typeIs;obtain⟨⟨c1,d1,f1,l1⟩,g1,rfl,rfl⟩:=hi;obtain⟨⟨c2,d2,f2,l2⟩,g2,rfl,n,rfl⟩:=ht;unfold Builtin.SmallTypes.nextOf;refine Xs (YK (name:=Str.ofString "__next__") ty Zy (YR Zy ty F.entry_tuple_iterator_next ?_ (F.args_tuple_iterator_next_1 _)));obtain⟨hp,ga,d,tk,os⟩:=s;have h1:A.in1.handled=none:=hh;show wpAny _ _ (Builtin.«tuple_iterator.__next__» _) _ _ _
 wp_walk
 rw[Yg,hx]
 wp_walk
 unfold raiseNew
 wp_walk
 exact q _ _ (((XX ..).extBut.push _).push _) ⟨_,XM _ rfl,rfl⟩
end
structure Src (P:Program)(w:World)(i:Addr)(T:Nat->Heap->Prop)(xs:Array Value)(fp:List Addr):Prop where
 item:∀(A:Around) (k:Nat) (x:Value) (s:Shared) (Q:aah) (E:aah),T k s.heap->xs[k]?=some x->(∀h',T (k+1) h'->Heap.SameBut i s.heap h'->Q x {s with heap:=h'})->wpAny (model P w) A (Builtin.SmallTypes.nextOf (.ref i)) Q E s
 stop:∀(A:Around) (k:Nat) (s:Shared) (Q:aah) (E:aah),A.handled=none->T k s.heap->xs[k]?=none->(∀h' e,Heap.ExtBut i s.heap h'->(∃o,h'.get? e=some o/\o.cls=.type "StopIteration")->E (.ref e) {s with heap:=h'})->wpAny (model P w) A (Builtin.SmallTypes.nextOf (.ref i)) Q E s
 keep:∀k h h',T k h->(∀b∈fp,∀o,h.get? b=some o->h'.get? b=some o)->T k h'
 mem:i∈fp
theorem za {P:Program}{w:World}{it t:Addr}{LF:Array Value}(ne:t≠it):Src P w it (λk h=>h.IsTupleIter it t k/\h.IsTuple t LF) LF [it,t] where
 item:=λA k x s Q E st hx q=>CI st.1 st.2 hx λh' z sb=>q h' ⟨z,st.2.extBut sb.extBut ne⟩ sb
 stop:=λA k s Q E hh st hx q=>A0 hh st.1 st.2 hx q
 keep:=λk h h' st z=>⟨st.1.at λo e=>z it (by simp) o e,by
  obtain⟨o,e,r⟩:=st.2;exact⟨o,z t (by simp) o e,r⟩⟩
 mem:=by simp
theorem zk {P:Program}{w:World}{it t:Addr}{LF:Array Value}(ne:t≠it):Src P w it (λk h=>h.IsListIter it t k/\h.IsList t LF) LF [it,t] where
 item:=λA k x s Q E st hx q=>wpAny_nextOf_list_item st.1 st.2 hx λh' z sb=>q h' ⟨z,st.2.extBut sb.extBut ne⟩ sb
 stop:=λA k s Q E hh st hx q=>wpAny_nextOf_list_end hh st.1 st.2 hx q
 keep:=λk h h' st z=>⟨st.1.at λo e=>z it (by simp) o e,st.2.at λo e=>z t (by simp) o e⟩
 mem:=by simp
structure Zp (z TI TO i1 i2:Addr)(p1 p2:List Addr)(T1 T2:Nat->Heap->Prop)(f0:Value)(k1 k2:Nat)(h:Heap):Prop where
 zp:IsZip h z TI TO f0
 ti:IsPair h TI (.ref i1) (.ref i2)
 to:∃a b,IsPair h TO a b
 s1:T1 k1 h
 s2:T2 k2 h
 n1:¬z∈p1/\¬TO∈p1/\¬i2∈p1
 n2:¬z∈p2/\¬TO∈p2/\¬i1∈p2
 nz:TI≠z/\TO≠z/\TI≠TO/\TI≠i1/\TI≠i2/\TO≠i1/\TO≠i2/\i1≠z/\i2≠z
section
variable {P:Program}{w:World}{A:Around}{E:aah}{s:Shared}{z TI TO i1 i2:Addr}{p1 p2:List Addr}{T1 T2:Nat->Heap->Prop}{k1 k2:Nat}{xs ys:Array Value}
theorem DX {x y:Value} {Q:aah} (S1:Src P w i1 T1 xs p1) (S2:Src P w i2 T2 ys p2) (Z:Zp z TI TO i1 i2 p1 p2 T1 T2 .none k1 k2 s.heap) (hx:xs[k1]?=some x) (hy:ys[k2]?=some y)
  (q:∀h',Zp z TI TO i1 i2 p1 p2 T1 T2 (rawInt s.heap.objs.size) (k1+1) (k2+1) h'->IsPair h' s.heap.objs.size x y->(∀c o,c≠z->c≠TO->c≠i1->c≠i2->s.heap.get? c=some o->h'.get? c=some o)->Q (.ref s.heap.objs.size) {s with heap:=h'}) :
  wpAny (model P w) A (Builtin.«zip.__next__» ⟨[.ref z],[]⟩) (λfin s'=>∃v,fin=.done (.ret v)/\Q v s') E s:=by
 obtain⟨hz,ML,⟨a,b,Mt⟩,t1,t2,n1,n2,nz⟩:=Z;obtain⟨hp,ga,d,tk,os⟩:=s;have d1:∀(h:Heap) (Q:aah) (E:aah),(∀h',T1 (k1+1) h'->Heap.SameBut i1 h h'->Q x ⟨h',ga,d,tk,os⟩)->T1 k1 h->wpAny (model P w) A (Builtin.SmallTypes.nextOf (.ref i1)) Q E ⟨h,ga,d,tk,os⟩:=λh Q E c t=>S1.item A k1 x ⟨h,ga,d,tk,os⟩ Q E t hx c;have d2:∀(h:Heap) (Q:aah) (E:aah),(∀h',T2 (k2+1) h'->Heap.SameBut i2 h h'->Q y ⟨h',ga,d,tk,os⟩)->T2 k2 h->wpAny (model P w) A (Builtin.SmallTypes.nextOf (.ref i2)) Q E ⟨h,ga,d,tk,os⟩:=λh Q E c t=>S2.item A k2 y ⟨h,ga,d,tk,os⟩ Q E t hy c;obtain⟨z1,z2,z3,z4,z5,z6,z7,z8,z9⟩:=nz;have o1:∀b∈p1,b≠z/\b≠TO/\b≠i2:=λb hb=>⟨λe=>n1.1 (e ▸ hb),λe=>n1.2.1 (e ▸ hb),λe=>n1.2.2 (e ▸ hb)⟩;have o2:∀b∈p2,b≠z/\b≠TO/\b≠i1:=λb hb=>⟨λe=>n2.1 (e ▸ hb),λe=>n2.2.1 (e ▸ hb),λe=>n2.2.2 (e ▸ hb)⟩;have z12:i1≠i2:=(o1 i1 S1.mem).2.2
 wp_walk using wpAny_onRaise,d1
 rotate_left
 · exact S1.keep k1 _ _ t1 λb hb o e=>((XX ..).2 b (o1 b hb).1).trans e
 intro h1 SM M7;have Rj:∀b,b≠z->(hp.update z (Obj.mapFields λx=>x.setIfInBounds 0 Value.ellipsis)).get? b=hp.get? b:=λb n=>(XX ..).2 b n;have OZ:IsZip h1 z TI TO .ellipsis:=(M7.2 z z8.symm).trans (Yu _ hz rfl);have O0:IsPair h1 TO a b:=(M7.2 TO z6).trans ((Rj TO z2).trans Mt);have Oh:∀b o,b≠z->b≠i1->hp.get? b=some o->h1.get? b=some o:=λb o n m e=>(M7.2 b m).trans ((Rj b n).trans e);have l1:h1.objs.size=hp.objs.size:=M7.1.trans (XX ..).1;clear Rj M7 d1
 wp_walk using wpAny_onRaise,d2
 rotate_left
 · exact S2.keep k2 _ _ t2 λb hb o e=>((XX ..).2 b (o2 b hb).2.1).trans (Oh b o (o2 b hb).1 (o2 b hb).2.2 e)
 intro h2 VR O1;have up1:∀b,b≠TO->(h1.update TO (Obj.mapSeq λv=>v.setIfInBounds 0 x)).get? b=h1.get? b:=λb n=>(XX ..).2 b n;have Rk:IsZip h2 z TI TO .ellipsis:=(O1.2 z z9.symm).trans ((up1 z z2.symm).trans OZ);have Rl:IsPair h2 TO x b:=(O1.2 TO z7).trans (Yu _ O0 rfl);have PY:∀b o,b≠TO->b≠i2->h1.get? b=some o->h2.get? b=some o:=λb o n m e=>(O1.2 b m).trans ((up1 b n).trans e);have l2:h2.objs.size=hp.objs.size:=(O1.1.trans (XX ..).1).trans l1;clear up1 O1 d2
 wp_walk
 have O2:IsPair (h2.update TO (Obj.mapSeq λx=>x.setIfInBounds (0+1) y)) TO x y:=Yu _ Rl rfl;have O3:∀b o,b≠TO->h2.get? b=some o->(h2.update TO (Obj.mapSeq λx=>x.setIfInBounds (0+1) y)).get? b=some o:=λb o n e=>((XX ..).2 b n).trans e;have l3:(h2.update TO (Obj.mapSeq λx=>x.setIfInBounds (0+1) y)).objs.size=hp.objs.size:=(XX ..).1.trans l2;refine⟨_,rfl,?_⟩;generalize h2.update TO (Obj.mapSeq λx=>x.setIfInBounds (0+1) y)=h3 at O2 O3 l3 ⊢;dsimp only at q;rw[←l3] at q;have zn:z≠h3.objs.size:=X7 (by rw[l3];exact XH hz);have g4:∀b o,h3.get? b=some o->(h3.push {cls:=.type "tuple",data:=.seq #[x,y]}).get? b=some o:=λb o e=>Xx _ e;have gn:(h3.push {cls:=.type "tuple",data:=.seq #[x,y]}).get? h3.objs.size=some {cls:=.type "tuple",data:=.seq #[x,y]}:=XM _ rfl;show Q _ ⟨((h3.push {cls:=.type "tuple",data:=.seq #[x,y]}).update z _).update z _,ga,d,tk,os⟩;generalize h3.push {cls:=.type "tuple",data:=.seq #[x,y]}=h4 at g4 gn ⊢;have VS:IsZip h4 z TI TO .ellipsis:=g4 _ _ (O3 _ _ z2.symm Rk);have kz:∀b o,b≠z->h4.get? b=some o->((h4.update z (Obj.mapFields λv=>v.setIfInBounds 0 (rawInt (h3.objs.size:Nat)))).update z (Obj.mapFields λv=>v.setIfInBounds 1 (.bool false))).get? b=some o:=λb o n e=>((XX ..).2 b n).trans (((XX ..).2 b n).trans e);have kp:∀b o,b≠z->b≠TO->b≠i1->b≠i2->hp.get? b=some o->((h4.update z (Obj.mapFields λv=>v.setIfInBounds 0 (rawInt (h3.objs.size:Nat)))).update z (Obj.mapFields λv=>v.setIfInBounds 1 (.bool false))).get? b=some o:=λb o n1 n2 n3 n4 e=>kz b o n1 (g4 b o (O3 b o n2 (PY b o n2 n4 (Oh b o n1 n3 e))));have VT:IsZip (h4.update z (Obj.mapFields λv=>v.setIfInBounds 0 (rawInt (h3.objs.size:Nat)))) z TI TO (rawInt (h3.objs.size:Nat)):=Yu _ VS rfl;refine q _ ⟨Yu _ VT rfl,kp _ _ z1 z3 z4 z5 ML,⟨x,y,kz _ _ z2 (g4 _ _ O2)⟩,S1.keep _ _ _ SM λb hb o e=>kz b o (o1 b hb).1 (g4 b o (O3 b o (o1 b hb).2.1 (PY b o (o1 b hb).2.1 (o1 b hb).2.2 e))),S2.keep _ _ _ VR λb hb o e=>kz b o (o2 b hb).1 (g4 b o (O3 b o (o2 b hb).2.1 e)),n1,n2,⟨z1,z2,z3,z4,z5,z6,z7,z8,z9⟩⟩ (kz _ _ zn.symm gn) kp
theorem E8 {Q:Fin->Shared->Prop}(hh:A.handled=none)(S1:Src P w i1 T1 xs p1)(S2:Src P w i2 T2 ys p2)(Z:Zp z TI TO i1 i2 p1 p2 T1 T2 .none k1 k2 s.heap)(he:xs[k1]?=none∨ys[k2]?=none)
  (q:∀h' e,(∀c o,c≠z->c≠TO->c≠i1->c≠i2->s.heap.get? c=some o->h'.get? c=some o)->(∃o,h'.get? e=some o/\o.cls=.type "StopIteration")->E (.ref e) {s with heap:=h'}) :
  wpAny (model P w) A (Builtin.«zip.__next__» ⟨[.ref z],[]⟩) Q E s:=by
 obtain⟨hz,ML,⟨a,b,Mt⟩,t1,t2,n1,n2,nz⟩:=Z;obtain⟨hp,ga,d,tk,os⟩:=s;obtain⟨z1,z2,z3,z4,z5,z6,z7,z8,z9⟩:=nz;have o1:∀b∈p1,b≠z:=λb hb e=>n1.1 (e ▸ hb);have o2:∀b∈p2,b≠z/\b≠TO/\b≠i1:=λb hb=>⟨λe=>n2.1 (e ▸ hb),λe=>n2.2.1 (e ▸ hb),λe=>n2.2.2 (e ▸ hb)⟩;have zs:∀(h:Heap) (e:Addr),IsZip h z TI TO .ellipsis->(∃o,h.get? e=some o/\o.cls=.type "StopIteration")->∃o,(h.update z (Obj.mapFields λv=>v.setIfInBounds 0 .none)).get? e=some o/\o.cls=.type "StopIteration":=λh e hz ⟨o,ho,hc⟩=>by
  refine⟨o,((XX ..).2 e ?_).trans ho,hc⟩;rintro rfl;rw[hz] at ho;cases ho;simp at hc
 cases hx:xs[k1]? with
 |none =>
  have d1:∀(h:Heap) (Q:aah) (E:aah),(∀h' e,Heap.ExtBut i1 h h'->(∃o,h'.get? e=some o/\o.cls=.type "StopIteration")->E (.ref e) ⟨h',ga,d,tk,os⟩)->T1 k1 h->wpAny (model P w) A (Builtin.SmallTypes.nextOf (.ref i1)) Q E ⟨h,ga,d,tk,os⟩:=λh Q E c t=>S1.stop A k1 ⟨h,ga,d,tk,os⟩ Q E hh t hx c
  wp_walk using wpAny_onRaise,d1
  rotate_left
  · exact S1.keep k1 _ _ t1 λb hb o e=>((XX ..).2 b (o1 b hb)).trans e
  intro h1 e eb st;have OZ:IsZip h1 z TI TO .ellipsis:=eb z _ z8.symm (Yu _ hz rfl);have kp:∀b o,b≠z->b≠i1->hp.get? b=some o->h1.get? b=some o:=λb o n m q=>eb b o m (((XX ..).2 b n).trans q)
  wp_walk
  exact q _ e (λc o c1 c2 c3 c4 w=>((XX ..).2 c c1).trans (kp c o c1 c3 w)) (zs h1 e OZ st)
 |some x =>
  have hy:ys[k2]?=none:=he.resolve_left (by rw[hx];simp);have d1:∀(h:Heap) (Q:aah) (E:aah),(∀h',T1 (k1+1) h'->Heap.SameBut i1 h h'->Q x ⟨h',ga,d,tk,os⟩)->T1 k1 h->wpAny (model P w) A (Builtin.SmallTypes.nextOf (.ref i1)) Q E ⟨h,ga,d,tk,os⟩:=λh Q E c t=>S1.item A k1 x ⟨h,ga,d,tk,os⟩ Q E t hx c;have d2:∀(h:Heap) (Q:aah) (E:aah),(∀h' e,Heap.ExtBut i2 h h'->(∃o,h'.get? e=some o/\o.cls=.type "StopIteration")->E (.ref e) ⟨h',ga,d,tk,os⟩)->T2 k2 h->wpAny (model P w) A (Builtin.SmallTypes.nextOf (.ref i2)) Q E ⟨h,ga,d,tk,os⟩:=λh Q E c t=>S2.stop A k2 ⟨h,ga,d,tk,os⟩ Q E hh t hy c
  wp_walk using wpAny_onRaise,d1
  rotate_left
  · exact S1.keep k1 _ _ t1 λb hb o e=>((XX ..).2 b (o1 b hb)).trans e
  intro h1 SM M7;have OZ:IsZip h1 z TI TO .ellipsis:=(M7.2 z z8.symm).trans (Yu _ hz rfl);have Oh:∀b o,b≠z->b≠i1->hp.get? b=some o->h1.get? b=some o:=λb o n m e=>(M7.2 b m).trans (((XX ..).2 b n).trans e);have O0:IsPair h1 TO a b:=Oh _ _ z2 z6 Mt;clear M7 d1
  wp_walk using wpAny_onRaise,d2
  rotate_left
  · exact S2.keep k2 _ _ t2 λb hb o e=>((XX ..).2 b (o2 b hb).2.1).trans (Oh b o (o2 b hb).1 (o2 b hb).2.2 e)
  intro h2 e eb st;have Rk:IsZip h2 z TI TO .ellipsis:=eb z _ z9.symm (((XX ..).2 z z2.symm).trans OZ);have PY:∀b o,b≠TO->b≠i2->h1.get? b=some o->h2.get? b=some o:=λb o n m q=>eb b o m (((XX ..).2 b n).trans q)
  wp_walk
  exact q _ e (λc o c1 c2 c3 c4 w=>((XX ..).2 c c1).trans (PY c o c2 c4 (Oh c o c1 c3 w))) (zs h2 e Rk st)
abbrev Zt (z TI TO i1 i2 t l:Addr)(xs ys:Array Value)(f0:Value)(k:Nat)(h:Heap):Prop:=Zp z TI TO i1 i2 [i1,t] [i2,l] (λk h=>h.IsTupleIter i1 t k/\h.IsTuple t xs) (λk h=>h.IsListIter i2 l k/\h.IsList l ys) f0 k k h
theorem Hi (t l:Addr)(xs ys:Array Value):Meets (Builtin.«zip.__new__» ⟨[.type "zip",.ref t,.ref l],[]⟩) (λ_ R s=>s.heap.IsTuple t xs/\s.heap.IsList l ys /\
  ∀h',Zt (s.heap.objs.size+4) (s.heap.objs.size+2) (s.heap.objs.size+3) s.heap.objs.size (s.heap.objs.size+1) t l xs ys .none 0 h'->(∀c o,s.heap.get? c=some o->h'.get? c=some o)->R (.ok (.ret (.ref (s.heap.objs.size+4)))) {s with heap:=h'}):=by
 refine .of_wp λP w A R s c=>?_;obtain⟨ht,hl,q⟩:=c;obtain⟨hp,ga,d,tk,os⟩:=s;have sz:=sub_zip;have t0:(Shared.heap ⟨hp,ga,d,tk,os⟩).IsTuple t xs:=ht;have l0:(Shared.heap ⟨hp.push {cls:=.type "tuple_iterator",data:=.fields #[.ref t,.int 0 0]},ga,d,tk,os⟩).IsList l ys:=hl.push _;have nt:@LT.lt Nat _ t hp.objs.size:=by obtain⟨_,e,_⟩:=ht;exact XH e
 have nl:@LT.lt Nat _ l hp.objs.size:=by obtain⟨_,e,_⟩:=hl;exact XH e
 wp_walk using wpAny_pyIter_tuple t0,wpAny_pyIter_list l0
 refine⟨_,rfl,?_⟩;have z1:(hp.push {cls:=.type "tuple_iterator",data:=.fields #[.ref t,.int 0 0]}).objs.size=hp.objs.size+1:=YD ..;have g1:(hp.push {cls:=.type "tuple_iterator",data:=.fields #[.ref t,.int 0 0]}).get? hp.objs.size=some {cls:=.type "tuple_iterator",data:=.fields #[.ref t,.int 0 0]}:=XM _ rfl;have k1:∀c o,hp.get? c=some o->(hp.push {cls:=.type "tuple_iterator",data:=.fields #[.ref t,.int 0 0]}).get? c=some o:=λc o e=>Xx _ e;dsimp only;generalize hp.push {cls:=.type "tuple_iterator",data:=.fields #[.ref t,.int 0 0]}=h1 at z1 g1 k1 ⊢;have z2:(h1.push {cls:=.type "list_iterator",data:=.fields #[.ref l,.int 0 0]}).objs.size=hp.objs.size+2:=(YD ..).trans (by rw[z1]);have g2:(h1.push {cls:=.type "list_iterator",data:=.fields #[.ref l,.int 0 0]}).get? h1.objs.size=some {cls:=.type "list_iterator",data:=.fields #[.ref l,.int 0 0]}:=XM _ rfl;have k2:∀c o,h1.get? c=some o->(h1.push {cls:=.type "list_iterator",data:=.fields #[.ref l,.int 0 0]}).get? c=some o:=λc o e=>Xx _ e;generalize h1.push {cls:=.type "list_iterator",data:=.fields #[.ref l,.int 0 0]}=h2 at z2 g2 k2 ⊢;rw[z1] at g2 ⊢;show R (.ok (.ret (.ref ((h2.push {cls:=.type "tuple",data:=.seq #[.ref hp.objs.size,.ref (hp.objs.size+1)]}).push {cls:=.type "tuple",data:=.seq #[.none,.none]}).objs.size))) ⟨((h2.push {cls:=.type "tuple",data:=.seq #[.ref hp.objs.size,.ref (hp.objs.size+1)]}).push {cls:=.type "tuple",data:=.seq #[.none,.none]}).push {cls:=.type "zip",data:=.fields #[.none,.bool false,.bool false,.ref h2.objs.size,.ref (h2.push {cls:=.type "tuple",data:=.seq #[.ref hp.objs.size,.ref (hp.objs.size+1)]}).objs.size]},ga,d,tk,os⟩;have z3:(h2.push {cls:=.type "tuple",data:=.seq #[.ref hp.objs.size,.ref (hp.objs.size+1)]}).objs.size=hp.objs.size+3:=(YD ..).trans (by rw[z2]);have g3:(h2.push {cls:=.type "tuple",data:=.seq #[.ref hp.objs.size,.ref (hp.objs.size+1)]}).get? h2.objs.size=some {cls:=.type "tuple",data:=.seq #[.ref hp.objs.size,.ref (hp.objs.size+1)]}:=XM _ rfl;have k3:∀c o,h2.get? c=some o->(h2.push {cls:=.type "tuple",data:=.seq #[.ref hp.objs.size,.ref (hp.objs.size+1)]}).get? c=some o:=λc o e=>Xx _ e;generalize h2.push {cls:=.type "tuple",data:=.seq #[.ref hp.objs.size,.ref (hp.objs.size+1)]}=h3 at z3 g3 k3 ⊢;rw[z2] at g3 ⊢;have z4:(h3.push {cls:=.type "tuple",data:=.seq #[.none,.none]}).objs.size=hp.objs.size+4:=(YD ..).trans (by rw[z3]);have g4:(h3.push {cls:=.type "tuple",data:=.seq #[.none,.none]}).get? h3.objs.size=some {cls:=.type "tuple",data:=.seq #[.none,.none]}:=XM _ rfl;have k4:∀c o,h3.get? c=some o->(h3.push {cls:=.type "tuple",data:=.seq #[.none,.none]}).get? c=some o:=λc o e=>Xx _ e;generalize h3.push {cls:=.type "tuple",data:=.seq #[.none,.none]}=h4 at z4 g4 k4 ⊢;rw[z3] at g4 ⊢;have g5:∀o:Obj,o.isFreed=false->(h4.push o).get? (hp.objs.size+4)=some o:=λo f=>by rw[←z4];exact XM _ f
 rw[z4];have k5:∀c o u,h4.get? c=some o->(h4.push u).get? c=some o:=λc o u e=>Xx _ e;refine q _ ⟨g5 _ rfl,k5 _ _ _ (k4 _ _ g3),⟨_,_,k5 _ _ _ g4⟩,⟨⟨_,k5 _ _ _ (k4 _ _ (k3 _ _ (k2 _ _ g1))),rfl,rfl⟩,?_⟩,⟨⟨_,k5 _ _ _ (k4 _ _ (k3 _ _ g2)),rfl,rfl⟩,?_⟩,?_,?_,?_⟩ λc o e=>k5 _ _ _ (k4 _ _ (k3 _ _ (k2 _ _ (k1 _ _ e))))
 · obtain⟨o,e,r⟩:=ht;exact⟨o,k5 _ _ _ (k4 _ _ (k3 _ _ (k2 _ _ (k1 _ _ e)))),r⟩
 · exact hl.at λo e=>k5 _ _ _ (k4 _ _ (k3 _ _ (k2 _ _ (k1 _ _ e))))
 · refine⟨?_,?_,?_⟩ <;> simp only[Xy,Zh,or_false,not_or] <;> exact⟨by intro e;have e:(_:Nat)=_:=e;omega,by intro e;have e:(_:Nat)=_:=e;omega⟩
 · refine⟨?_,?_,?_⟩ <;> simp only[Xy,Zh,or_false,not_or] <;> exact⟨by intro e;have e:(_:Nat)=_:=e;omega,by intro e;have e:(_:Nat)=_:=e;omega⟩
 · refine⟨?_,?_,?_,?_,?_,?_,?_,?_,?_⟩ <;> intro e <;> have e:(_:Nat)=_:=e <;> omega
theorem Ez {t l:Addr}{xs ys:Array Value}{Q:aah}(ht:s.heap.IsTuple t xs)(hl:s.heap.IsList l ys)
  (q:∀h',Zt (s.heap.objs.size+4) (s.heap.objs.size+2) (s.heap.objs.size+3) s.heap.objs.size (s.heap.objs.size+1) t l xs ys .none 0 h'->(∀c o,s.heap.get? c=some o->h'.get? c=some o)->Q (.ref (s.heap.objs.size+4)) {s with heap:=h'}):wpAny (model P w) A (call (.type "zip") [.ref t,.ref l]) Q E s :=
 callType_new F.called_zip (by decide) (F.typeCall_zip_2 _ _) (F.newCall_zip_2 _ _) (λo=>F.args_object_init_3 o _ _) F.entry_zip_new (Hi t l xs ys) ⟨ht,hl,λh' Z k=>⟨⟨_,Z.zp,rfl⟩,q h' Z k⟩⟩
theorem sS {t l:Addr}{xs ys:Array Value}{k:Nat}{x y:Value}{Q:Option Value->Shared->Prop}(n1:t≠i1)(n2:l≠i2)(Z:Zt z TI TO i1 i2 t l xs ys .none k s.heap)(hx:xs[k]?=some x)(hy:ys[k]?=some y)
  (q:∀h',Zt z TI TO i1 i2 t l xs ys (rawInt s.heap.objs.size) (k+1) h'->IsPair h' s.heap.objs.size x y->(∀c o,c≠z->c≠TO->c≠i1->c≠i2->s.heap.get? c=some o->h'.get? c=some o)->Q (some (.ref s.heap.objs.size)) {s with heap:=h'}):wpAny (model P w) A (pyNext (.ref z)) Q E s:=by
 have ty:s.TypeIs (.ref z) "zip":=⟨_,Z.zp,rfl⟩;unfold pyNext;exact Xs (wpAny_attempt (YK (name:=Str.ofString "__next__") ty F.slot_zip_next (YR F.slot_zip_next ty F.entry_zip_next (DX (za n1) (zk n2) Z hx hy λh' a b c=>XA (q h' a b c)) (F.args_zip_next_1 _))))
theorem uk {t l:Addr}{xs ys:Array Value}{k:Nat}{Q:Option Value->Shared->Prop}(hh:A.handled=none)(n1:t≠i1)(n2:l≠i2)(Z:Zt z TI TO i1 i2 t l xs ys .none k s.heap)(he:xs[k]?=none∨ys[k]?=none)
  (q:∀h',(∀c o,c≠z->c≠TO->c≠i1->c≠i2->s.heap.get? c=some o->h'.get? c=some o)->Q none {s with heap:=h'}):wpAny (model P w) A (pyNext (.ref z)) Q E s:=by
 have ty:s.TypeIs (.ref z) "zip":=⟨_,Z.zp,rfl⟩;unfold pyNext;refine Xs (wpAny_attempt (YK (name:=Str.ofString "__next__") ty F.slot_zip_next (YR F.slot_zip_next ty F.entry_zip_next (E8 hh (za n1) (zk n2) Z he λh' e kp st=>?_) (F.args_zip_next_1 _))));obtain⟨o,e1,e2⟩:=st;exact Xs (wpAny_isInstance (T:="StopIteration") (b:=true) ⟨o,e1,e2⟩ isSubtype_stop (XA (q _ kp)))
end
end BwX
namespace BwX
open PySem PyProof.Rows
section
variable {P:Program}{w:World}{A:Around}{E:aah}{s:Shared}
theorem AG {S t:Addr} {LF:Array Value} {ns:List Int} {R:Result->Shared->Prop} {led:Bool} (hh:A.handled=none) (ht:s.heap.IsTuple t LF) (hi:IntsAre LF.toList ns) (hb:LF.size+1 < scanBound) (ne:t≠S)
  (hS:s.heap.get? S=some {cls:=.type "set",dict:=none,data:=.set #[] 0 (.fresh 0 0 led)})
  (q:∀(h':Heap) (tk:Nat),h'.SetOf (intKind P w) S (λk=>(firstMet (λi=>ns.getD i 0) LF.size).any (·==k)) (firstMet (λi=>ns.getD i 0) LF.size).length->(∀b o,b≠S->s.heap.get? b=some o->h'.get? b=some o)->R (.ok (.ret .none)) {s with heap:=h',toks:=tk}) :
  codeAny (model P w) A (.builtin "set.__init__" ⟨[.ref S,.ref t],[]⟩) R s:=by
 have ty:=ht.typeIs;have hT:s.TypeIs (.ref S) "set":=⟨_,hS,rfl⟩;have b1:=F.sub_tuple_set;have b2:=F.sub_tuple_frozenset;have pl:plainId "set.__init__"=true:=by decide +kernel
 refine codeAny_builtin F.entry_set_init ?_;rw[Around.under_plainId pl _];obtain⟨hp,ga,d,tk,os⟩:=s;have t0:(Shared.heap ⟨hp,ga,d,tk,os⟩).IsTuple t LF:=ht
 wp_walk using wpAny_pyIter_tuple t0
 have lt:t < hp.objs.size:=by obtain⟨_,e,_⟩:=ht;exact XH e
 have lS:S < hp.objs.size:=XH hS;have VU:A.in1.in1.handled=none:=by simp[hh]
 refine codeAny_set_update_loopS ((Walks.tuple VU hp.objs.size t (X7 lt) LF).toS) S (by simp only[Xy,Zh,or_false,not_or];exact⟨X7 lS,ne.symm⟩) (λi=>ns.getD i 0) (λi v hv=>IntsAre.int_at hi i v (by rw[Array.getElem?_toList];exact hv)) hb LF.size 0 _ (by omega) (X2 _) ?_ ?_ ?_
 · exact⟨⟨_,XM _ rfl,rfl,rfl⟩,ht.push _⟩
 · exact SetOf_congr ((setObjOf_fresh led).setOf (Xx _ hS) (by decide)) (λ_=>rfl) rfl
 · rintro⟨h',g',d',Mz,QV⟩ mv hq;obtain rfl:g'=ga:=mv.gens;obtain rfl:d'=d:=mv.drawn;obtain rfl:QV=os:=mv.os
   wp_walk
   refine q h' Mz hq λb o n e=>mv.heap b o ?_ (Xx _ e);simp only[Xy,Zh,or_false,not_or];exact⟨n,X7 (XH e)⟩
def HG (o:Obj):Prop:=∃led:Bool,o={cls:=.type "set",dict:=none,data:=.set #[] 0 (.fresh 0 0 led)}
theorem Ap {t:Addr}{LF:Array Value}{ns:List Int}{Q:aah}(hh:A.handled=none)(ht:s.heap.IsTuple t LF)(hi:IntsAre LF.toList ns)(hb:LF.size+1 < scanBound)
  (q:∀(h':Heap) (tk:Nat),h'.SetOf (intKind P w) s.heap.objs.size (λk=>(firstMet (λi=>ns.getD i 0) LF.size).any (·==k)) (firstMet (λi=>ns.getD i 0) LF.size).length->(∀b o,s.heap.get? b=some o->h'.get? b=some o)->Q (.ref s.heap.objs.size) {s with heap:=h',toks:=tk}) :
  wpAny (model P w) A (call (.type "set") [.ref t]) Q E s:=by
 have c1:=ZT.notType;have c2:=ZT.canCreate;have c3:=ZT.made;have c4:=ZT.sub;have c5:=F.typeCall_set_1 (.ref t);obtain⟨_,_,c6⟩:=ZT.mro;refine wpAny_call (codeAny_of_tree (XA ⟨Code.quiet_builtin _ (by decide +kernel),codeAny_builtin F.entry_type_call ?_⟩));rw[Around.under_plain (weight_type_call_type "set" [.ref t] []) rfl]
 wp_walk
 refine Z7 (code_set_new_1 (.ref t) (E:=E) (Q₁:=λv s1=>∃g o,v=.ref s.heap.objs.size/\s1={s with heap:=g}/\g.get? s.heap.objs.size=some o/\HG o/\∀b u,s.heap.get? b=some u->g.get? b=some u) λled=>⟨_,_,rfl,rfl,XM _ rfl,⟨led,rfl⟩,λb u e=>Xx _ e⟩) λr s1 z=>?_
 match r,z with
 |.error e,z=>exact z
 |.ok (.ret v),z =>
  obtain⟨g,_,rfl,rfl,PZ,⟨led,rfl⟩,kept⟩:=z;have ty:Shared.TypeIs {s with heap:=g} (.ref s.heap.objs.size) "set":=⟨_,PZ,rfl⟩;have c7:=ZT.init.lookup;have c8:=ZT.init.bind (.ref s.heap.objs.size)
  wp_walk
  have there:g.IsTuple t LF:=ht.at λo e=>kept t o e;have apart:t≠s.heap.objs.size:=by obtain⟨_,e,_⟩:=ht;exact X7 (XH e)
  refine codeAny_call_builtin_code (plainId_quiet (by decide +kernel) _) (check_set_init_1 ty (AG (A:=A.in1) (ns:=ns) (by simp[hh]) there hi hb apart PZ λh' tk hq kp=>?_))
  wp_walk
  exact q h' tk hq λb o e=>kp b o (X7 (XH e)) (kept b o e)
end
end BwX
namespace L2
open PySem PySem.Spec PyProof.Rows
section
variable {P:Program}{w:World}{K:aag}{mg:aai}{base:Heap}{x qual:Str}{st:Stmt}{f C:Addr}{fd:FuncData}{N ps:List Str}{k:Nat}{sp:Sp}
theorem dk.om (F:dk K x qual st f fd) (S:aG N ps (aw st))
  (LM:∀(LG:Value) (A:Around) (outer:List Env) (s:Shared) (H:Hp) (vs:List V) (Q:VK) (E:XK),cN k (A.deeper (envOfC qual (aw st) s.heap.objs.size f LG))->sp vs H Q E ->
   ∃t,qP (mS bA P w K mg base N qual (aw st) f LG A outer s H E).G4 (bZ st) t/\t {nx:=λ_ H'=>Q .cj H',rt:=Q} (start N vs) H)
  (len:∀vs H Q E,sp vs H Q E->vs.length=ps.length:=by intro _ _ _ _ h;repeat (first|(obtain⟨rfl,_⟩:=h;exact rfl)|obtain⟨_,h⟩:=h)):a8 P w K mg base bA (k+1) f fd ps sp:=F.ok S len LM
theorem dk.lU (F:dk K x qual st f fd)(S:aG N ps (aw st))
  (LM:∀(LG:Value) (A:Around) (outer:List Env) (s:Shared) (H:Hp) (vs:List V) (Q:VK) (E:XK),cN k (A.deeper (envOfC qual (aw st) s.heap.objs.size f LG))->sp vs H Q E ->
   ∃t,qP (Ld C P w K mg base N qual (aw st) f LG A outer s H E) (bZ st) t/\t {nx:=λ_ H'=>Q .cj H',rt:=Q} (start N vs) H)
  (len:∀vs H Q E,sp vs H Q E->vs.length=ps.length:=by intro _ _ _ _ h;repeat (first|(obtain⟨rfl,_⟩:=h;exact rfl)|obtain⟨_,h⟩:=h)):a8 P w K mg base (eW P w C) (k+1) f fd ps sp:=F.Lu S len LM
end
end L2
namespace Bw
open PySem PySem.Spec PyProof.Rows L2
section
variable {X:Cx}{x:Str}{e:Expr}{te:TE}{p pos pos':Pos}
theorem a7 (i:Nat) (hN:X.N.Nodup) (he:PE X e te) (hi:X.N[i]?=some x:=by rfl) (hx:Loc X.env.scope x:=by exact Or.inl rfl) (hs:swapsWith e (some (.Name x pos')) pos.line X.env=pure false:=by rfl) (hf:X.fn x=true∨X.env.scope.names.lookup x=some .local:=by first|exact .inl rfl|exact .inr rfl):PS X (.Assign [.Name x pos'] e pos) (zY te (fL i)):=oQ hN hi hx he hs hf
theorem bp (i:Nat)(hN:X.N.Nodup)(hi:X.N[i]?=some x:=by rfl)(hx:Loc X.env.scope x:=by exact Or.inl rfl)(hf:X.fn x=true∨X.env.scope.names.lookup x=some .local:=by first|exact .inl rfl|exact .inr rfl):PG X (.Name x pos) (fL i):=tJ hN hi hx hf
theorem bg (hm:X.mg "len"=none)(h:PE X e te)(hg:Gl X "len":=by rfl)(he:starEach [e] X.env=(false,eval e X.env)::starEach [] X.env:=by rfl):PE X (.Call (.Name "len" p) [e] [] pos) (Hn (λxs H Q=>∃p ys,xs=[.ref p]/\(aP X.K H p ys∨b7 X.K H p ys)/\Q (.int ys.length) H) (cM te eV)):=bY uv hg hm PySem.boot_len (aa h ah (hs:=he)) (he:=he)
end
theorem LA {p:aak->Prop}(h:p [])(us:aak)(e:us.length=0):p us:=by
 cases us with
 |nil=>exact h
 |cons a us=>cases e
theorem J2 {p:aak->Prop}(h:∀a,p [a])(us:aak)(e:us.length=1):p us:=by
 cases us with
 |nil=>cases e
 |cons a us=>exact LA (p:=λus=>p (a::us)) (h a) us (Nat.succ.inj e)
theorem Iy {p:aak->Prop}(h:∀a b,p [a,b])(us:aak)(e:us.length=2):p us:=by
 cases us with
 |nil=>cases e
 |cons a us=>exact J2 (p:=λus=>p (a::us)) (h a) us (Nat.succ.inj e)
theorem Ir {p:aak->Prop}(h:∀a b c,p [a,b,c])(us:aak)(e:us.length=3):p us:=by
 cases us with
 |nil=>cases e
 |cons a us=>exact Iy (p:=λus=>p (a::us)) (h a) us (Nat.succ.inj e)
theorem J5 {p:aak->Prop}(h:∀a b c d,p [a,b,c,d])(us:aak)(e:us.length=4):p us:=by
 cases us with
 |nil=>cases e
 |cons a us=>exact Ir (p:=λus=>p (a::us)) (h a) us (Nat.succ.inj e)
theorem J0 {p:aak->Prop}(h:∀a b c d e,p [a,b,c,d,e])(us:aak)(e:us.length=5):p us:=by
 cases us with
 |nil=>cases e
 |cons a us=>exact J5 (p:=λus=>p (a::us)) (h a) us (Nat.succ.inj e)
theorem Lz {p:aak->Prop}(h:∀a b c d e f,p [a,b,c,d,e,f])(us:aak)(e:us.length=6):p us:=by
 cases us with
 |nil=>cases e
 |cons a us=>exact J0 (p:=λus=>p (a::us)) (h a) us (Nat.succ.inj e)
theorem Kz {p:aak->Prop}(h:∀a b c d e f g,p [a,b,c,d,e,f,g])(us:aak)(e:us.length=7):p us:=by
 cases us with
 |nil=>cases e
 |cons a us=>exact Lz (p:=λus=>p (a::us)) (h a) us (Nat.succ.inj e)
def Fn (P:Program)(w:World)(K:aag)(mg:aai)(base:Heap)(CX:my)(k:Nat)(x:Str)(ps:List Str)(sp:Sp):Prop :=
 ∃(f:Addr) (fd:FuncData),mg x=some (.ref f)/\PySem.W.keepIn K (.ref f)=true/\Binds K fd ps []/\a8 P w K mg base CX k f fd ps sp
def h_ (K:aag)(mg:aai)(x:Str)(st:Stmt):Prop:=∃(f:Addr) (fd:FuncData),mg x=some (.ref f)/\dk K x x st f fd
section
variable {X:Cx}{CX:my}{k:Nat}{x:Str}{ps:List Str}{sp:Sp}{E:XK}{p pos:Pos}{e:Expr}{es:List Expr}{t:TA}
theorem aR (F:Fn X.prog X.w X.K X.mg X.base CX k x ps sp) (hr:cN k X.A) (hx:Passes CX X E) (ha:PA X (e::es) t) (hg:Gl X x:=by rfl) (Ml:(x==("__debug__":Str))=false:=by decide) (he:starEach (e::es) X.env=(false,eval e X.env)::starEach es X.env:=by rfl) (LO:(backTo pos (starEach es X.env)).any (·.1)=false:=by rfl) :
  PE X (.Call (.Name x p) (e::es) [] pos) (nQ sp [] E t):=by
 obtain⟨f,fd,hm,hk,hb,F⟩:=F;exact DN F hr hg hm hk hb .nil hx ha Ml he LO
end
section
variable {P:Program}{w:World}{K:aag}{mg:aai}{base:Heap}
theorem h_.mk {CX:my} {x:Str} {st:Stmt} {ps:List Str} {k:Nat} {sp:Sp} (D:h_ K mg x st)
  (ok:∀f fd,dk K x x st f fd->a8 P w K mg base CX k f fd ps sp) (hb:∀(kV doc pm:Value) (an:Option Addr) (LG ct:Value) (us:aak),us.length=ps.length->bindArgs (PySem.W.fnOf x x (cW st) (bZ st) (aw st) .none kV doc pm an LG ct) ⟨us,[]⟩=pure (ps.zip us):=by intro _ _ _ _ _ _;first|exact J2 (λ_=>rfl)|exact Iy (λ_ _=>rfl)|exact Ir (λ_ _ _=>rfl)|exact J5 (λ_ _ _ _=>rfl)|exact J0 (λ_ _ _ _ _=>rfl)|exact Kz (λ_ _ _ _ _ _ _=>rfl)):Fn P w K mg base CX k x ps sp:=by
 obtain⟨f,fd,hm,F⟩:=D;exact⟨f,fd,hm,F.kp,F.binds hb,ok f fd F⟩
theorem Fn.mono {CX:my}{x:Str}{ps:List Str}{j k:Nat}{sp:Sp}(F:Fn P w K mg base CX j x ps sp)(h:j<=k):Fn P w K mg base CX k x ps sp:=by
 obtain⟨f,fd,hm,hk,hb,F⟩:=F;exact⟨f,fd,hm,hk,hb,F.mono h⟩
end
def st (w:W):Str:=⟨w.toArray⟩
theorem qm (w:W):TL.tl (st w)=w:=rfl
theorem b8 (w:W):(st w).length=w.length:=by rw[TL.ll,qm]
theorem jE {v w:W}:st v=st w↔v=w:=⟨λh=>by have:=YB TL.tl h;exact this,λh=>by rw[h]⟩
theorem kU {s:String}:Str.ofString s=st (cd s):=TL.xt (by rw[TL.gO,qm];rfl)
def Gv (mg:aai)(x:Str)(v:V):Prop:=∃u,mg x=some u/\RelV v u
theorem bb {X:Cx}{x:Str}{v:V}{pos:Pos}(h:Gv X.mg x v)(hg:Gl X x:=by rfl)(hd:(x==("__debug__":Str))=false:=by decide):PE X (.Name x pos) (tC v):=by
 obtain⟨u,hm,r⟩:=h;exact Fg hg hm r hd
theorem fs {N P:List Str}{sc:Scope}(a:sc.kind=.function:=by rfl)(b:sc.isCoroutine=false:=by rfl)(c:sc.isGenerator=false:=by rfl)(d:N.Nodup:=by decide +kernel)(e:N.take P.length=P:=by rfl)(f:∀x∈P,sc.names.lookup x=some .local∨sc.names.lookup x=some .cell:=by decide +kernel)(g:∀y∈sc.names,y.2≠.free:=by decide +kernel):aG N P sc:=⟨a,b,c,d,e,f,g⟩
end Bw
namespace L2
open PySem PySem.Spec PyProof.Rows
def Ev (t:TE)(σ:St)(H:Hp)(v:V):Prop:=∀R:VK,R v H->t σ H R
def Tv (t:TT)(σ:St)(H:Hp)(b:Bool):Prop:=∀R:Bool->Hp->Prop,R b H->t σ H R
section
variable {σ:St}{H:Hp}{ta tb tc te:TE}{t u:TT}{x y v:V}{i j k:Int}{b c:Bool}{K:aag}{a p:Addr}{xs ys:List V}
theorem ag {n:Nat} (h:σ[n]?=some (some v)):Ev (cJ n) σ H v:=λ_ r=>⟨v,h,r⟩
theorem aD:Ev (tC v) σ H v:=λ_ r=>r
theorem md {f:Int->Int->V}(ha:Ev ta σ H (.int i))(hb:Ev tb σ H (.int j)):Ev (kJ (qK f) ta tb) σ H (f i j):=λ_ r=>ha _ (hb _ ⟨i,j,rfl,rfl,r⟩)
theorem yw {C:Int->Int->Prop}{f:Int->Int->V}(ha:Ev ta σ H (.int i))(hb:Ev tb σ H (.int j))(h:C i j):Ev (kJ (rI C f) ta tb) σ H (f i j):=λ_ r=>ha _ (hb _ ⟨i,j,rfl,rfl,h,r⟩)
theorem cb (ha:Ev ta σ H x)(hb:Ev tb σ H y)(s:Ex x y=true:=by rfl):Ev (kJ JX ta tb) σ H (.bl (decide (x=y))):=λ_ r=>ha _ (hb _ ⟨s,r⟩)
theorem oV (ha:Ev ta σ H x)(hb:Ev tb σ H y)(s:Ex x y=true:=by rfl):Ev (kJ Lf ta tb) σ H (.bl (!decide (x=y))):=λ_ r=>ha _ (hb _ ⟨s,r⟩)
theorem uq (ha:Ev ta σ H x):Ev (kJ (λx y H Q=>y=.cj/\Q (.bl (decide (x=.cj))) H) ta (tC .cj)) σ H (.bl (decide (x=.cj))):=λ_ r=>ha _ ⟨rfl,r⟩
theorem A1 {n:Nat}{z:Str}(ha:Ev ta σ H (.str ⟨#[n]⟩))(hb:Ev tb σ H (.str z)):Ev (kJ (λx y H Q=>∃(c:Nat) (z:Str),x=.str ⟨#[c]⟩/\y=.str z/\Q (.bl (decide (c∈z.cps.toList))) H) ta tb) σ H (.bl (decide (n∈z.cps.toList))):=λ_ r=>ha _ (hb _ ⟨n,z,rfl,rfl,r⟩)
theorem EI {n:Nat}{z:Str}(ha:Ev ta σ H (.str ⟨#[n]⟩))(hb:Ev tb σ H (.str z)):Ev (kJ (λx y H Q=>∃(c:Nat) (z:Str),x=.str ⟨#[c]⟩/\y=.str z/\Q (.bl (!decide (c∈z.cps.toList))) H) ta tb) σ H (.bl (!decide (n∈z.cps.toList))):=λ_ r=>ha _ (hb _ ⟨n,z,rfl,rfl,r⟩)
theorem mB {neg:Bool}(ha:Ev ta σ H x)(hb:Ev tb σ H (.ref p))(s:aP K H p xs∨b7 K H p xs)(f:dO x=true)(fs:xs.all dO=true):Ev (kJ (Hz K neg) ta tb) σ H (.bl (if neg then !oh x xs else oh x xs)):=λ_ r=>ha _ (hb _ ⟨p,xs,rfl,s,f,fs,r⟩)
theorem sI {z:Str}{n:Nat}(ha:Ev ta σ H (.str z))(hb:Ev tb σ H (.int i))(hz:z.length<=sizeLine)(e:n8 z.cps.toList i=some n):Ev (kJ Iz ta tb) σ H (.str ⟨#[n]⟩):=λ_ r=>ha _ (hb _ ⟨z,i,n,rfl,rfl,hz,e,r⟩)
theorem aX (ha:Ev ta σ H (.ref p))(hb:Ev tb σ H (.int i))(s:aP K H p xs)(e:n8 xs i=some v):Ev (kJ (As K) ta tb) σ H v:=λ_ r=>ha _ (hb _ ⟨p,xs,i,v,rfl,rfl,s,e,r⟩)
theorem Bg (ha:Ev ta σ H (.ref p))(hb:Ev tb σ H (.int i))(s:b7 K H p xs)(e:n8 xs i=some v):Ev (kJ (IP K) ta tb) σ H v:=λ_ r=>ha _ (hb _ ⟨p,xs,i,v,rfl,rfl,s,e,r⟩)
theorem bf {C dx:Addr}{fs:List (Str×V)}{f:Str}(ha:Ev ta σ H (.ref a))(e:H a=some (.ins C dx fs))(c:yg K C)(n:hZ K C f)(l:fs.lookup f=some v):Ev (vk K ta f) σ H v:=λ_ r=>ha _ ⟨a,C,dx,fs,v,rfl,e,c,n,l,r⟩
theorem aU (ha:Ev ta σ H (.ref p))(s:aP K H p xs∨b7 K H p xs):Ev (Hn (λxs H Q=>∃p ys,xs=[.ref p]/\(aP K H p ys∨b7 K H p ys)/\Q (.int ys.length) H) (cM ta eV)) σ H (.int xs.length):=λ_ r=>ha _ ⟨p,xs,rfl,s,r⟩
theorem tG {z:Str}(ha:Ev ta σ H (.str z))(hz:z.length<=sizeLine):Ev (Hn (λxs H Q=>∃z,xs=[.str z]/\z.length<=sizeLine/\Q (.int z.length) H) (cM ta eV)) σ H (.int z.length):=λ_ r=>ha _ ⟨z,rfl,hz,r⟩
theorem Jq (ha:Ev ta σ H (.bl b))(hb:b=false->Ev tb σ H (.bl c)):Ev (Jl ta tb) σ H (.bl (b||c)):=λR r=>ha _ ⟨b,rfl,by
 cases b with
 |false=>exact u6 (hb rfl _ r)
 |true=>exact qj r⟩
theorem aI (h:Ev te σ H (.bl b)):Tv (o4 te) σ H b:=λ_ r=>h _ ⟨b,rfl,r⟩
theorem Kq (h:Ev te σ H (.bl b)):Tv (tB te) σ H b:=λ_ r=>h _ ⟨b,rfl,r⟩
theorem BM {p q:Int->Int->Bool}(ha:Ev ta σ H (.int i))(hb:Ev tb σ H (.int j))(hc:Ev tc σ H (.int k)):Ev (xX (qK λi j=>.bl (p i j)) (qK λi j=>.bl (q i j)) ta tb tc) σ H (.bl (p i j&&q j k)):=λR r=>ha _ (hb _ ⟨i,j,rfl,rfl,p i j,rfl,by
 cases h:p i j with
 |false=>rw[h] at r;exact u6 r
 |true=>rw[h] at r;exact qj (hc _ ⟨j,k,rfl,rfl,r⟩)⟩)
theorem cE {p q:Int->Int->Bool}(ha:Ev ta σ H (.int i))(hb:Ev tb σ H (.int j))(hc:Ev tc σ H (.int k)):Tv (o4 (xX (qK λi j=>.bl (p i j)) (qK λi j=>.bl (q i j)) ta tb tc)) σ H (p i j&&q j k):=aI (BM ha hb hc)
theorem jy {p:Int->Int->Bool}(ha:Ev ta σ H (.int i))(hb:Ev tb σ H (.int j)):Tv (o4 (kJ (qK λi j=>.bl (p i j)) ta tb)) σ H (p i j):=λ_ r=>ha _ (hb _ ⟨i,j,rfl,rfl,_,rfl,r⟩)
theorem fh (h:Tv t σ H b):Tv (Ju t) σ H (!b):=λ_ r=>h _ r
theorem pW (h:Tv t σ H b)(h2:b=true->Tv u σ H c):Tv (Jz t u) σ H (b&&c):=λR r=>h _ (by
 cases b with
 |false=>exact u6 r
 |true=>exact qj (h2 rfl _ r))
theorem gI (h:Tv t σ H b)(h2:b=false->Tv u σ H c):Tv (Le t u) σ H (b||c):=λR r=>h _ (by
 cases b with
 |false=>exact u6 (h2 rfl _ r)
 |true=>exact qj r)
theorem sU (ha:Ev ta σ H (.int i)):Ev (K9 (rU λi=>.int (-i)) ta) σ H (.int (-i)):=λ_ r=>ha _ ⟨i,rfl,r⟩
theorem Jt {z:Str}{r:V->List V->Hp->VK->Prop}(ha:Ev ta σ H (.str z))(h:∀R,R v H->r (.str z) [] H R):Ev (K8 r ta) σ H v:=λR q=>ha _ ⟨⟨z,rfl⟩,h R q⟩
theorem aS {D:Ends}{s1 s2:TS}(h:Tv t σ H b)(q1:b=true->s1 D σ H)(q2:b=false->s2 D σ H):ID t s1 s2 D σ H:=h _ (by
 cases b with
 |false=>exact u6 (q2 rfl)
 |true=>exact qj (q1 rfl))
theorem bU {D:Ends}(h:Ev te σ H v)(q:D.rt v H):Ey te D σ H:=h _ q
theorem cH {D:Ends}{n:Nat}(h:Ev te σ H v)(q:D.nx (σ.set n (some v)) H):zY te (fL n) D σ H:=h _ q
theorem HD {D:Ends}{s1 s2:TS}(q:s1 {D with nx:=s2 D} σ H):HB s1 s2 D σ H:=q
end
theorem au.laid {H H':Hp}{p:Addr}{o:HO}(e:au H H')(h:H p=none):au H (upd H' p o):=λb u q=>by
 rw[aq (ao q h)];exact e b u q
section
variable {σ:St}{H:Hp}{ta tb tc:TE}{i j c:Int}
theorem yR {n:Nat} {R:It->Hp->Prop} (ha:Ev ta σ H (.int i)) (hb:Ev tb σ H (.int j)) (hc:Ev tc σ H (.int c)) (rg:JS i j c n) (q:R (Ic i c n) H):Fx (cM ta (cM tb (cM tc eV))) σ H R:=ha _ (hb _ (hc _ ⟨i,j,c,n,rfl,rg,q⟩))
theorem yt {R:It->Hp->Prop}(ha:Ev ta σ H (.int i))(hb:Ev tb σ H (.int j))(rg:-(2 ^ 62)<=i/\i < 2 ^ 62/\-(2 ^ 62)<=j/\j < 2 ^ 62)(q:R (AB i (j - i).toNat) H):FQ (cM ta (cM tb eV)) σ H R:=ha _ (hb _ ⟨i,j,rfl,rg,q⟩)
theorem tD {R:It->Hp->Prop}(ha:Ev ta σ H (.int j))(h1:-(2 ^ 62)<=j)(h2:j < 2 ^ 62)(q:R (AB 0 j.toNat) H):Cw (cM ta eV) σ H R:=ha _ ⟨j,rfl,h1,h2,q⟩
theorem qF {wi:TI}{g:TG}{tb:TS}{D:Ends}(h:wi σ H λJ H1=>∃W:Nat->Nat->St->Hp->Prop,(∃m,W 0 m σ H1)/\∀i m σ H,W i m σ H ->
  (J.stop i H/\D.nx σ H)∨(J.go i H/\∃N:St->Hp->Prop,(∀σ' H',N σ' H'->∃m',m' < m/\W (i+1) m' σ' H')/\∀x H',J.v_ i H x H'->g x σ H' λσ2 H2=>tb {D with nx:=N,ct:=N,bk:=D.nx} σ2 H2)):Gw wi g tb D σ H:=h
end
theorem Hu {z:Str}{g:TG}{tt:TT}{te:TE}{vs:aaf}{σ:St}{H1:Hp}{D:Addr}{Qd:Hp->Prop}(Pv:Nat->Hp->Prop)(h0:Pv 0 (upd H1 D (.lst [])))
  (hs:∀i c H,z.cps.toList[i]?=some c->Pv i H->g (.str ⟨#[c]⟩) (wipe σ vs) H λσ2 H2=>wipe σ2 vs=wipe σ vs/\tt σ2 H2 λb H3 =>
   if b=true then te σ2 H3 λy H4=>∃acc,H4 D=some (.lst acc)/\acc.length < sizeLine/\Pv (i+1) (upd H4 D (.lst (acc++[y]))) else Pv (i+1) H3) (hd:∀H,Pv z.cps.toList.length H->Qd H) :
  ∃W:Nat->Nat->Hp->Prop,(∃m,W 0 m (upd H1 D (.lst [])))/\∀i m H,W i m H ->
   ((Jf z).stop i H/\Qd H)∨((Jf z).go i H/\∃Nx:Hp->Prop,(∀H',Nx H'->∃m',m' < m/\W (i+1) m' H')/\∀x H',(Jf z).v_ i H x H'->g x (wipe σ vs) H' λσ2 H2=>wipe σ2 vs=wipe σ vs/\tt σ2 H2 λb H3 =>
    if b=true then te σ2 H3 λy H4=>∃acc,H4 D=some (.lst acc)/\acc.length < sizeLine/\Nx (upd H4 D (.lst (acc++[y]))) else Nx H3):=by
 have sz:z.cps.toList.length=z.cps.size:=Zf;refine⟨λi m H=>m=z.cps.size - i/\i<=z.cps.size/\Pv i H,⟨z.cps.size,by simp,X2 _,h0⟩,?_⟩;rintro i m H ⟨rfl,hi,p⟩;by_cases LJ:i < z.cps.size
 · refine .inr ⟨LJ,Pv (i+1),λH' p'=>⟨z.cps.size - (i+1),by omega,rfl,LJ,p'⟩,λx H' y=>?_⟩;obtain⟨e,c,hc,rfl⟩:=y;subst e;exact hs i c _ (by rw[Array.getElem?_toList];exact hc) p
 · have e:i=z.cps.size:=by omega
   subst e;exact .inl ⟨XD _,hd H (by rw[sz];exact p)⟩
end L2
namespace Bw
open PySem PySem.Spec PyProof.Rows L2
abbrev zD:Str:=Str.ofString "abcdefghijklmnopqrstuvwxyz"
abbrev zq:Str:=Str.ofString "0123456789"
structure GW (mg:aai):Prop where
 sM:Gv mg "LETTERS" (.str zD)
 digits:Gv mg "DIGITS" (.str zq)
 most:Gv mg "MOST_NAME" (.int 12)
 JO:Gv mg "MOST_DIGITS" (.int 7)
 len:mg "len"=none
 all:mg "all"=none
 int:mg "int"=none
theorem AL:TL.tl zD=(List.range 26).map (·+97):=by rw[TL.gO];decide +kernel
theorem BC:TL.tl zq=(List.range 10).map (·+48):=by rw[TL.gO];decide +kernel
theorem G1 {c:Nat}(h1:97<=c)(h2:c<=122):n8 (zD.cps.toList) ((c:Int) - 97)=some c:=by
 have e:((c:Int) - 97)=((c - 97:Nat):Int):=by omega
 rw[e];refine cy ?_;have q:zD.cps.toList=(List.range 26).map (·+97):=AL;rw[q,Xz,Ze (by omega)];simp;omega
theorem Gz {c:Nat}(h1:48<=c)(h2:c<=57):n8 (zq.cps.toList) ((c:Int) - 48)=some c:=by
 have e:((c:Int) - 48)=((c - 48:Nat):Int):=by omega
 rw[e];refine cy ?_;have q:zq.cps.toList=(List.range 10).map (·+48):=BC;rw[q,Xz,Ze (by omega)];simp;omega
theorem xZ (c:Nat):decide (c∈zD.cps.toList)=isLet c:=by
 have q:zD.cps.toList=(List.range 26).map (·+97):=AL;rw[q,X9];unfold isLet;simp only[XC,XB,X4,Zi];constructor
 · rintro⟨x,hx,rfl⟩;omega
 · rintro⟨h1,h2⟩;exact⟨c - 97,by omega,by omega⟩
theorem Gr (c:Nat):decide (c∈zq.cps.toList)=bX c:=by
 have q:zq.cps.toList=(List.range 10).map (·+48):=BC;rw[q,X9];unfold bX;simp only[XC,XB,X4,Zi];constructor
 · rintro⟨x,hx,rfl⟩;omega
 · rintro⟨h1,h2⟩;exact⟨c - 48,by omega,by omega⟩
def Cz:Sp:=λvs H Q _=>∃c:Nat,vs=[.int c]/\Q (.str (st [sg c])) H
theorem EZ {c:Nat}(h:97<=c/\c<=122):sg c=c:=by unfold sg t7 isLet;simp[h]
theorem E9 {c:Nat}(h:48<=c/\c<=57):sg c=c:=by unfold sg t7 bX;simp[h]
theorem Jb {c:Nat}(h1:¬(97<=c/\c<=122))(h2:¬(48<=c/\c<=57))(h3:c≠32)(h4:c≠10)(h5:c≠44)(h6:c≠47):sg c=63:=by
 unfold sg t7 isLet bX;have e1:(decide (97<=c)&&decide (c<=122))=false:=by simp;omega
 have e2:(decide (48<=c)&&decide (c<=57))=false:=by simp;omega
 rw[e1,e2];simp[h3,h4,h5,h6]
section
variable {P:Program}{w:World}{K:aag}{mg:aai}{base:Heap}
theorem Ds:aG ["code"] ["code"] (aw ka):=fs
theorem EL (G:GW mg){f:Addr}{fd:FuncData}(F:dk K "sign_of" "sign_of" ka f fd):a8 P w K mg base bA 1 f fd ["code"] Cz:=by
 refine F.ok Ds (λvs H Q E h=>?_) (λLG A outer s H vs Q E hr h=>?_)
 · obtain⟨c,rfl,_⟩:=h;rfl
 · obtain⟨c,rfl,q⟩:=h;refine⟨_,af (aO (cD cf cf ax (pv 0) ax) (ak (az (bo tq (bb G.sM) (bG fJ (pv 0) ax) (λ_ _=>rfl)))) aC)
    (af (aO (cD cf cf ax (pv 0) ax) (ak (az (bo tq (bb G.digits) (bG fJ (pv 0) ax) (λ_ _=>rfl)))) aC)
    (af (aO (aB cp (pv 0) ax (aJ _)) (ak (az bq)) aC)
    (af (aO (aB cp (pv 0) ax (aJ _)) (ak (az bq)) aC)
    (af (aO (aB cp (pv 0) ax (aJ _)) (ak (az bq)) aC)
    (af (aO (aB cp (pv 0) ax (aJ _)) (ak (az bq)) aC)
    (ak (az bq))))))),?_⟩
   refine aS (cE aD (ag rfl) aD) (λh=>?_) (λh1=>?_)
   · simp only[XB,XC] at h;refine bU (sI aD (md (ag rfl) aD) (by decide +kernel) (G1 (c:=c) (by omega) (by omega))) ?_;rw[EZ (by omega)] at q;exact q
   refine aS (cE aD (ag rfl) aD) (λh=>?_) (λh2=>?_)
   · simp only[XB,XC] at h;refine bU (sI aD (md (ag rfl) aD) (by decide +kernel) (Gz (c:=c) (by omega) (by omega))) ?_;rw[E9 (by omega)] at q;exact q
   have step:∀(n:Nat) (b:Bool),b=decide (V.int (c:Int)=V.int (n:Int))->(b=true->c=n)/\(b=false->c≠n):=λn b e=>by
    rw[aZ] at e;subst e;constructor
    · intro z;have:=YZ z;omega
    · intro z z2;subst z2;simp at z
   refine aS (aI (cb (ag rfl) aD)) (λh=>?_) (λh3=>?_)
   · have e:=(step 32 _ rfl).1 h;subst e;exact bU aD q
   refine aS (aI (cb (ag rfl) aD)) (λh=>?_) (λh4=>?_)
   · have e:=(step 10 _ rfl).1 h;subst e;exact bU aD q
   refine aS (aI (cb (ag rfl) aD)) (λh=>?_) (λh5=>?_)
   · have e:=(step 44 _ rfl).1 h;subst e;exact bU aD q
   refine aS (aI (cb (ag rfl) aD)) (λh=>?_) (λh6=>?_)
   · have e:=(step 47 _ rfl).1 h;subst e;exact bU aD q
   rw[Jb (λz=>by simp at h1;omega) (λz=>by simp at h2;omega) ((step 32 _ rfl).2 h3) ((step 10 _ rfl).2 h4) ((step 44 _ rfl).2 h5) ((step 47 _ rfl).2 h6)] at q;exact q
def uo (K:aag):Sp:=λvs H Q _=>∃(a:Addr) (cs:aaf),vs=[.ref a]/\aP K H a (cs.map λc=>V.int (c:Nat))/\cs.length<=70000/\∀H',au H H'->Q (.str (st (cs.map sg))) H'
theorem take_snoc {α:Type}{l:List α}{i:Nat}{x:α}(h:l[i]?=some x):l.take (i+1)=l.take i++[x]:=by
 rw[List.take_add_one,h];rfl
theorem wO (l:aaf):Txt.join (Str.ofString "") (l.map λc=>st [c])=st l:=by
 rw[TL.join_eq];refine TL.xt ?_;rw[TL.yy,TL.gO,qm];show TL.dM [] ((l.map λc=>st [c]).map TL.tl)=l;rw[XY]
 induction l with
 |nil=>rfl
 |cons c l ih =>
  cases l with
  |nil=>rfl
  |cons d l =>
   have ih:TL.dM [] ((d::l).map (TL.tl ∘ λc=>st [c]))=d::l:=ih;show [c]++([]++TL.dM [] ((d::l).map (TL.tl ∘ λc=>st [c])))=c::d::l;rw[ih];rfl
theorem uh:aG ["codes","code"] ["codes"] (aw j3):=fs
theorem D4 {k:Nat}(FS:Fn P w K mg base bA k "sign_of" ["code"] Cz){f:Addr}{fd:FuncData}(F:dk K "text_of" "text_of" j3 f fd):a8 P w K mg base bA (k+1) f fd ["codes"] (uo K):=by
 refine F.ok uh (λvs H Q E h=>?_) (λLG A outer s H vs Q E hr h=>?_)
 · obtain⟨a,cs,rfl,_⟩:=h;rfl
 · obtain⟨a,cs,rfl,hS,hl,q⟩:=h;refine⟨_,ak (az (DH bq (fz rfl uh.nd (bJ (pv 0)) (bz (own:=[("code",1)]) rfl) (λ_ _ _ _ _=>bp 1 uh.nd) (λ_ _ _ _ _=>cu)
    (λ_ _ _ _ _=>aR FS hr a9 (aa (pv 1) ah))))),?_⟩
   refine⟨⟨_,rfl⟩,_,rfl,a,rfl,⟨_,hS⟩,λD hD=>iO (K:=K) (a:=a) (xs:=cs.map λc=>V.int (c:Nat)) (λi H'=>au H H'/\H' D=some (.lst ((cs.take i).map λc=>V.str (st [sg c]))))
    ⟨(au.refl H).laid hD,ae⟩ (λi H' _ h=>h.1.seq hS) ?_ ?_⟩
   · rintro i x H' hi ⟨h1,h2⟩;rw[Xz] at hi;obtain⟨c,hc,rfl⟩:=X6.mp hi;refine⟨rfl,_,rfl,c,rfl,_,h2,?_,?_⟩
     · rw[Xu,XU,XZ];omega
     · refine⟨λb u z=>?_,?_⟩
       · rw[aq (ao z hD)];exact h1 b u z
       · rw[ae,take_snoc hc,XQ];rfl
   · rintro H' ⟨h1,h2⟩;rw[Xu,Ys] at h2;refine⟨_,D,(cs.map sg).map (λc=>st [c]),rfl,rfl,.inl (aP.of ?_),?_,?_⟩
     · rw[h2,XY,XY];rfl
     · have e:(((cs.map sg).map (λc=>st [c])).map (·.length)).sum=cs.length:=by
        rw[XY,XY];clear h2 hS q hl
        induction cs with
        |nil=>rfl
        |cons c cs ih =>
         rw[XN,Y2,ih,XG];show 1+cs.length=_;omega
       have e2:(Str.ofString "").length=0:=by decide +kernel
       rw[e,e2];omega
     · rw[wO];exact q H' h1
def lL:Sp:=λvs H Q _=>∃wd:W,vs=[.str (st wd)]/\wd.length<=70000/\∀H',au H H'->Q (.bl (d_ wd)) H'
theorem yq {wd:W}(h:wd≠[]):n8 (st wd).cps.toList ((0:Int))=some (wd.headD 0):=by
 refine cy (j:=0) ?_;show wd[0]?=some (wd.headD 0);cases wd with
 |nil=>exact absurd rfl h
 |cons c r=>rfl
theorem m7:aG ["word","sign"] ["word"] (aw kh):=fs
theorem zW (G:GW mg){f:Addr}{fd:FuncData}(F:dk K "is_name" "is_name" kh f fd):a8 P w K mg base bA 1 f fd ["word"] lL:=by
 refine F.ok m7 (λvs H Q E h=>?_) (λLG A outer s H vs Q E hr h=>?_)
 · obtain⟨a,rfl,_⟩:=h;rfl
 · obtain⟨wd,rfl,hl,q⟩:=h;have hz:(st wd).length<=sizeLine:=by rw[b8,XZ];omega
   refine⟨_,af (aO (PW.pt (eG (cC (cD cf cf ax (bY fR (by rfl) G.len PySem.boot_len (aa (pv 0) ah)) (bb G.most)))
     (cS (aB qS (bo tq (pv 0) ax (λ_ _=>rfl)) (bb G.sM) (by with_unfolding_all rfl))))) (ak (az mG)) aC)
    (ak (az (bY (xY rfl) (by rfl) G.all PyProof.Rows.boot_all (aa (fz rfl m7.nd (G_ (pv 0)) (bz (own:=[("sign",1)]) rfl) (λ_ _ _ _ _=>bp 1 m7.nd) (λ_ _ _ _ _=>cu)
     (λ_ _ _ _ _=>Jc (fu qo (pv 1) (bb G.sM) (by with_unfolding_all rfl)) (xc (fu qo (pv 1) (bb G.digits) (by with_unfolding_all rfl))))) ah)))),?_⟩
   refine aS (gI (fh (cE aD (tG (ag rfl) hz) aD)) λh0=>aI (EI (sI (ag rfl) aD hz (yq ?_)) aD)) (λh=>?_) (λh=>?_)
   · rintro rfl;simp at h0;rw[b8] at h0;simp at h0
   · rw[xZ] at h;refine bU aD ?_;have e:d_ wd=false:=by
      unfold d_;rw[b8] at h;simp only[Yv,Ym,YT,Yc] at h;rcases h with (h|h)|h
      · have:¬1<=wd.length:=λz=>h (by omega);simp[this]
      · have:¬wd.length<=12:=λz=>h (by omega);simp[this]
      · rw[h];simp
     rw[←e];exact q H (au.refl H)
   · rw[xZ,b8] at h;simp only[YF,Yp,XB,XC] at h;obtain⟨⟨h1,h2⟩,h3⟩:=h;have e:d_ wd=wd.all λc=>isLet c||bX c:=by
      unfold d_;have z1:decide (1<=wd.length)=true:=X_ (by omega);have z2:decide (wd.length<=12)=true:=X_ (by omega);rw[z1,z2,h3];simp
     refine⟨_,rfl,_,rfl,λD hD=>Hu (z:=st wd) (λi H'=>au H H'/\H' D=some (.lst ((wd.take i).map λc=>V.bl (isLet c||bX c)))) ⟨(au.refl H).laid hD,ae⟩ ?_ ?_⟩
     · rintro i c H' hi ⟨k1,k2⟩;have hi:wd[i]?=some c:=hi;refine⟨rfl,?_⟩;refine (Jq (A1 (ag rfl) aD) λ_=>A1 (ag rfl) aD) _ ⟨_,k2,?_,?_⟩
       · rw[Xu,XU,XZ];omega
       · rw[xZ,Gr];refine⟨λb u z=>?_,?_⟩
         · rw[aq (ao z hD)];exact k1 b u z
         · rw[ae,take_snoc hi,XQ];rfl
     · rintro H' ⟨k1,k2⟩;have k2:H' D=some (.lst ((wd.take wd.length).map λc=>V.bl (isLet c||bX c))):=k2;rw[Ys] at k2;refine⟨D,wd.map λc=>isLet c||bX c,rfl,aP.of (by rw[k2,XY];rfl),?_⟩;have e2:((wd.map λc=>isLet c||bX c).all id)=d_ wd:=by rw[e,ZE];rfl
       rw[e2];exact q H' k1
def kO:Sp:=λvs H Q _=>∃wd:W,vs=[.str (st wd)]/\wd.length<=70000/\(∀c∈wd,c < 128)/\Q (.int (ay wd)) H
theorem zh:∀c:Nat,c < 128->Unicode.isDigit c=bX c:=by decide +kernel
theorem oY {wd:W}(h:∀c∈wd,c < 128):Txt.isdigit (st wd)=(!wd.isEmpty&&wd.all bX):=by
 unfold Txt.isdigit;have e:(st wd).cps.all Unicode.isDigit=wd.all bX:=by
  show wd.toArray.all Unicode.isDigit=_;rw[List.all_toArray,X9,X1,X1];exact⟨λz c hc=>by rw[←zh c (h c hc)];exact z c hc,λz c hc=>by rw[zh c (h c hc)];exact z c hc⟩
 rw[e,b8];cases wd with
 |nil=>rfl
 |cons c r=>simp
theorem xC (wd:W):NumText.digitsVal wd=wW wd:=by
 unfold NumText.digitsVal wW;congr 1;funext n c;omega
theorem HQ {wd:W}(h0:wd≠[])(h1:wd.all bX=true)(h2:wd.length<=7):intText? (st wd)=some ((wW wd:Nat):Int):=by
 rw[←xC];refine intText_digits (x:=st wd) (λc hc=>?_) h0 (by rw[b8];omega);have:=X1.mp h1 c hc;unfold bX at this;simpa using this
theorem GQ:aG ["word"] ["word"] (aw gN):=fs
theorem Gg (G:GW mg){f:Addr}{fd:FuncData}(F:dk K "number_of" "number_of" gN f fd):a8 P w K mg base bA 1 f fd ["word"] kO:=by
 refine F.ok GQ (λvs H Q E h=>?_) (λLG A outer s H vs Q E hr h=>?_)
 · obtain⟨a,rfl,_⟩:=h;rfl
 · obtain⟨wd,rfl,hl,ha,q⟩:=h;have hz:(st wd).length<=sizeLine:=by rw[b8,XZ];omega
   refine⟨_,af (aO (PW.pt (eG (aB kX (bY fR (by rfl) G.len PySem.boot_len (aa (pv 0) ah)) (bb G.JO) (aJ _)) (cS (cC (hX (IG PySem.F.slot_str_isdigit PySem.F.type_str_isdigit xP (pv 0))))))) (ak (az (vW qt ax))) aC)
    (af (aO (PW.pt (tE (aB cp (bo tq (pv 0) ax (λ_ _=>rfl)) bq (aJ _)) (ox (aB oZ (pv 0) bq (aJ _))))) (ak (az (vW qt ax))) aC)
    (ak (az (ko uA (by rfl) G.int PyProof.Rows.boot_int (aa (pv 0) ah))))),?_⟩
   refine aS (gI (aI (md (tG (ag rfl) hz) aD)) λh0=>fh (Kq (Jt (ag rfl) λR r=>⟨_,rfl,rfl,trivial,r⟩))) (λh=>?_) (λh=>?_)
   · refine bU (sU aD) ?_;have e:ay wd=-1:=by
      unfold ay;rw[Xw];rw[oY ha,b8] at h;simp only[Yv,Ym,YT,XC] at h;rcases h with h|h|h
      · exact .inl (by omega)
      · exact .inr (.inl (by cases wd with|nil=>rfl|cons c r=>simp at h))
      · exact .inr (.inr h)
     rw[e] at q;exact q
   · rw[oY ha,b8] at h;simp only[YF,Yp,XB,Yc] at h;obtain⟨h1,h2,h3⟩:=h;have LQ:wd≠[]:=by rintro rfl;simp at h2
     have e0:ay wd=if wd.headD 0=48/\wd≠[48] then -1 else (wW wd:Int):=by
      unfold ay;rw[Xv];rintro (z|z|z)
      · exact h1 (by omega)
      · exact LQ z
      · rw[h3] at z;cases z
     refine aS (pW (aI (cb (sI (ag rfl) aD hz (yq LQ)) aD)) λh0=>aI (oV (ag rfl) aD)) (λh=>?_) (λh=>?_)
     · refine bU (sU aD) ?_;rw[Xw] at e0
       · rw[e0] at q;exact q
       · simp only[XB,XC,Ym,Yc] at h;refine⟨?_,λz=>h.2 ?_⟩
         · have:=h.1;injection this with this;have:=YB TL.tl this;have:[wd.headD 0]=[48]:=this;injection this
         · rw[z];rfl
     · rw[Xv] at e0
       · rw[e0] at q;exact⟨_,rfl,_,_,rfl,HQ LQ h3 (by omega),by rw[b8];omega,q⟩
       · rintro⟨z1,z2⟩;simp only[YT,Yc,Yp,XC] at h;rcases h with h|h
         · exact h (by rw[z1];rfl)
         · injection h with h;have h:=YB TL.tl h;exact z2 h
end
end Bw
namespace L2
open PySem PySem.Spec PyProof.Rows
structure yV (P:Program)(w:World)(K:aag)(d:Addr)(vs:List (Key×Value)):Prop where
 dd:∀h:Heap,K.In h->h.DictOf (cz P w) d vs
 ne:(d==sysModules)=false
section
variable {X:Cx}{d:Addr}{vs:List (Key×Value)}{o i:Expr}{td ty:TE}{pos:Pos}
def G6 (d:Addr) (vs:List (Key×Value)) (td ty:TE):TE:=λσ H Q=>td σ H λx H1=>ty σ H1 λy H2=>∃k v u,x=.ref d/\y=kV k/\valueAt vs k=some u/\RelV v u/\Q v H2
def Js (d:Addr)(vs:List (Key×Value))(ty td:TE):TE:=λσ H Q=>ty σ H λy H1=>td σ H1 λx H2=>∃k,x=.ref d/\y=kV k/\Q (.bl (valueAt vs k).isSome) H2
theorem C2 (D:yV X.prog X.w X.K d vs)(ho:PE X o td)(hi:PE X i ty)(hs:IT i):PE X (.Subscript o i pos) (G6 d vs td ty):=by
 intro pins s σ H Q I h;refine E2 PySem.F.slot_dict_getitem.lookup hs (bB (ho pins s σ H _ I h) λu s1 ⟨x,H1,I1,rx,q1⟩=>bB (hi pins s1 σ H1 _ I1 q1) λiv s2 ⟨y,H2,I2,ry,k,v,u',ex,ey,hv,rv,q2⟩=>?_);subst ex ey;obtain rfl:u=Value.ref d:=rx;have dd:=D.dd s2.heap I2.mV;obtain⟨ob,es,ep,e1,e2,_⟩:=id dd;exact⟨⟨ob,e1,e2.1⟩,wpAny_getItem_of (pd ry) dd.mapOf hv ⟨v,H2,I2.tok _,rv,q2⟩⟩
theorem DY (D:yV X.prog X.w X.K d vs)(hi:PE X i ty)(ho:PE X o td):PC X .In i o (Js d vs ty td):=by
 intro pins s σ H Q I h;refine bB (hi pins s σ H _ I h) λiv s1 ⟨y,H1,I1,ry,q1⟩=>bB (ho pins s1 σ H1 _ I1 q1) λu s2 ⟨x,H2,I2,rx,k,ex,ey,q2⟩=>?_;subst ex ey;obtain rfl:u=Value.ref d:=rx;have dd:=D.dd s2.heap I2.mV;exact wpAny_in_of (pd ry) D.ne dd.mapOf ⟨.bl _,H2,I2.tok _,rfl,q2⟩
end
theorem au.tup {K:aag}{H H':Hp}{a:Addr}{xs:List V}(e:au H H')(h:b7 K H a xs):b7 K H' a xs:=by
 rcases h with (h|⟨o,h⟩)|h
 · exact .inl (.inl (e _ _ h))
 · exact .inl (.inr ⟨o,e _ _ h⟩)
 · exact .inr h
section
variable {α β γ:Type}{F G:α->β->Prop}
theorem Paired.qL:∀{l₁:List α} {l₂:List β} {i:Nat} {x:α},Paired F l₁ l₂->l₁[i]?=some x->∃y,l₂[i]?=some y/\F x y
 |_,_,_,_,.nil,e=>by simp at e
 |_,_,0,_,.cons r _,e=>by simp at e;subst e;exact⟨_,rfl,r⟩
 |_,_,i+1,x,.cons _ t,e=>by
  obtain⟨y,h1,h2⟩:=Paired.qL (i:=i) (x:=x) t (by simpa using e);exact⟨y,by simpa using h1,h2⟩
theorem Paired.at2:∀{l₁:List α} {l₂:List β} {i:Nat} {y:β},Paired F l₁ l₂->l₂[i]?=some y->∃x,l₁[i]?=some x/\F x y
 |_,_,_,_,.nil,e=>by simp at e
 |_,_,0,_,.cons r _,e=>by simp at e;subst e;exact⟨_,rfl,r⟩
 |_,_,i+1,y,.cons _ t,e=>by
  obtain⟨x,h1,h2⟩:=Paired.at2 (i:=i) (y:=y) t (by simpa using e);exact⟨x,by simpa using h1,h2⟩
theorem Paired.tk:∀{l₁:List α} {l₂:List β} (n:Nat),Paired F l₁ l₂->Paired F (l₁.take n) (l₂.take n)
 |_,_,0,_=>.nil
 |_,_,_+1,.nil=>.nil
 |_,_,n+1,.cons r t=>.cons r (Paired.tk n t)
theorem Paired.dp:∀{l₁:List α} {l₂:List β} (n:Nat),Paired F l₁ l₂->Paired F (l₁.drop n) (l₂.drop n)
 |_,_,0,r=>r
 |_,_,_+1,.nil=>.nil
 |_,_,n+1,.cons _ t=>Paired.dp n t
theorem Paired.rep {a:α}{b:β}(h:F a b):∀n:Nat,Paired F (List.replicate n a) (List.replicate n b)
 |0=>.nil
 |n+1=>.cons h (Paired.rep h n)
end
end L2
namespace Bw
open PySem PySem.Spec PyProof.Rows L2 Tote
def sV (ws:List W):List V:=ws.map λw=>V.str (st w)
def nV (ns:aaf):List V:=ns.map λn=>V.int (n:Nat)
def g_ (K:aag)(H:Hp)(a:Addr)(ns:aaf):Prop:=aP K H a (nV ns)
def bE (K:aag)(H:Hp)(a:Addr)(rs:aae):Prop:=∃as:List Addr,aP K H a (as.map V.ref)/\Paired (g_ K H) as rs
def lF (H:Hp)(a:Addr)(rs:aae):Prop:=∃as:List Addr,H a=some (.lst (as.map V.ref))/\Paired (λb ns=>H b=some (.lst (nV ns))) as rs
section
variable {K:aag}{H H':Hp}{a:Addr}
theorem lF.lists {rs:aae} (h:lF H a rs):bE K H a rs:=by
 obtain⟨as,h1,h2⟩:=h;exact⟨as,aP.of h1,Paired.d9 h2 λ_ _ z=>aP.of z⟩
theorem lF.same {rs:aae}(h:lF H a rs)(e:au H H'):lF H' a rs:=by
 obtain⟨as,h1,h2⟩:=h;exact⟨as,e _ _ h1,Paired.d9 h2 λ_ _ z=>e _ _ z⟩
theorem g_.same {ns:aaf}(h:g_ K H a ns)(e:au H H'):g_ K H' a ns:=e.seq h
theorem iU {as:List Addr}{rs:aae}(h:Paired (g_ K H) as rs)(e:au H H'):Paired (g_ K H') as rs:=Paired.d9 h λ_ _ z=>z.same e
theorem bE.same {rs:aae}(h:bE K H a rs)(e:au H H'):bE K H' a rs:=by
 obtain⟨as,h1,h2⟩:=h;exact⟨as,e.seq h1,iU h2 e⟩
theorem dI (ws:List W):(sV ws).length=ws.length:=Xu ..
theorem aN (ws:aaf):(nV ws).length=ws.length:=Xu ..
theorem Bi {ws:List W}{i:Nat}{x:W}(h:ws[i]?=some x):(sV ws)[i]?=some (.str (st x)):=by
 unfold sV;rw[Xz,h];rfl
end
structure CK (K:aag)(mg:aai)(x:Str)(fs:List Str)(C:Addr):Prop where
 cl:yg K C
 no:∀f∈fs,hZ K C f
 mg:mg x=some (.ref C)
def Dm (K:aag)(C:Addr)(m qual:Str)(st:Stmt):Prop:=∃(f:Addr) (fd:FuncData),Meth K C m f/\dk K m qual st f fd
def Di (K:aag)(C:Addr)(qual:Str)(st:Stmt):Prop:=∃(f:Addr) (fd:FuncData),Mk K C f/\dk K "__init__" qual st f fd
def xr (P:Program)(w:World)(K:aag)(mg:aai)(base:Heap)(CX:my)(k:Nat)(C:Addr)(ps:List Str)(sp:Sp):Prop :=
 ∃(f:Addr) (fd:FuncData),Mk K C f/\Binds K fd ps []/\a8 P w K mg base CX k f fd ps sp
def nN (P:Program)(w:World)(K:aag)(mg:aai)(base:Heap)(CX:my)(k:Nat)(C:Addr)(m:Str)(ps:List Str)(sp:Sp):Prop :=
 ∃(f:Addr) (fd:FuncData),Meth K C m f/\Binds K fd ps []/\a8 P w K mg base CX k f fd ps sp
section
variable {X:Cx}{CX:my}{k:Nat}{x:Str}{ps:List Str}{sp:Sp}{E:XK}{p pos:Pos}{e:Expr}{es:List Expr}{t:TA}{C:Addr}
theorem o7 (F:xr X.prog X.w X.K X.mg X.base CX k C ps sp) (hr:cN (k+1) X.A) (hm:X.mg x=some (.ref C)) (hx:Passes CX X E) (ha:PA X (e::es) t) (hg:Gl X x:=by rfl) (Ml:(x==("__debug__":Str))=false:=by decide) (he:starEach (e::es) X.env=(false,eval e X.env)::starEach es X.env:=by rfl)
  (LO:(backTo pos (starEach es X.env)).any (·.1)=false:=by rfl):PE X (.Call (.Name x p) (e::es) [] pos) (FV C sp [] E t):=by
 obtain⟨f,fd,M,hb,F⟩:=F;exact DO M F hr hg hm hb .nil hx ha Ml he LO
end
theorem bR {f:Str}{v:V}:ej f v []=[(f,v)]:=rfl
theorem bc {f g:Str}{v x:V}{r:List (Str×V)}(h:g≠f):ej f v ((g,x)::r)=(g,x)::ej f v r:=by
 show (if g=f then (g,v)::r else (g,x)::ej f v r)=_;rw[Xv h]
theorem bS {f:Str}{v:V}{r:List (Str×V)}:List.lookup f ((f,v)::r)=some v:=by simp[List.lookup]
theorem a_ {f g:Str}{v:V}{r:List (Str×V)}(h:f≠g):List.lookup f ((g,v)::r)=List.lookup f r:=by
 have:(f==g)=false:=X3.mpr h;simp[List.lookup,this]
def jo (nm kd fa u:V):List (Str×V):=[("name",nm),("kind",kd),("fields",fa),("unit",u)]
abbrev hU:List Str:=["name","kind","fields","unit"]
theorem k6 {a b c d:V}:(jo a b c d).lookup ("name":Str)=some a:=bS
theorem iZ {a b c d:V}:(jo a b c d).lookup ("kind":Str)=some b:=by unfold jo;rw[a_ (by decide +kernel)];exact bS
theorem mf {a b c d:V}:(jo a b c d).lookup ("fields":Str)=some c:=by unfold jo;rw[a_ (by decide +kernel),a_ (by decide +kernel)];exact bS
theorem xo {a b c d:V}:(jo a b c d).lookup ("unit":Str)=some d:=by unfold jo;rw[a_ (by decide +kernel),a_ (by decide +kernel),a_ (by decide +kernel)];exact bS
def de (K:aag)(C:Addr)(H:Hp)(a:Addr)(p:aK):Prop:=∃dx fa,H a=some (.ins C dx (jo (.str (st p.name)) (.str (st (cd (kindS p.kind)))) (.ref fa) (.int (p.unit:Nat))))/\bE K H fa p.fields
def cV (K:aag)(C:Addr)(H:Hp)(a:Addr)(ps:List aK):Prop:=∃as:List Addr,aP K H a (as.map V.ref)/\Paired (de K C H) as ps
section
variable {K:aag}{H H':Hp}{C a:Addr}
theorem de.same {p:aK} (h:de K C H a p) (e:au H H'):de K C H' a p:=by
 obtain⟨dx,fa,h1,h2⟩:=h;exact⟨dx,fa,e _ _ h1,h2.same e⟩
theorem pO {as:List Addr}{ps:List aK}(h:Paired (de K C H) as ps)(e:au H H'):Paired (de K C H') as ps:=Paired.d9 h λ_ _ z=>z.same e
theorem cV.same {ps:List aK}(h:cV K C H a ps)(e:au H H'):cV K C H' a ps:=by
 obtain⟨as,h1,h2⟩:=h;exact⟨as,e.seq h1,pO h2 e⟩
end
def sZ (C:Addr):Sp:=λvs H Q _=>∃(x dx:Addr) (a b c d:V),vs=[.ref x,a,b,c,d]/\H x=some (.ins C dx [])/\Q .cj (upd H x (.ins C dx (jo a b c d)))
section
variable {P:Program}{w:World}{K:aag}{mg:aai}{base:Heap}
theorem Bv:aG ["self","name","kind","fields","unit"] ["self","name","kind","fields","unit"] (aw gL):=fs
theorem A9 {C:Addr}(T:CK K mg "Pool" hU C){f:Addr}{fd:FuncData}(F:dk K "__init__" "Pool.__init__" gL f fd):a8 P w K mg base bA 1 f fd ["self","name","kind","fields","unit"] (sZ C):=by
 refine F.ok Bv (λvs H Q E h=>?_) (λLG A outer s H vs Q E hr h=>?_)
 · obtain⟨x,dx,a,b,c,d,rfl,_⟩:=h;rfl
 · obtain⟨x,dx,a,b,c,d,rfl,hx,q⟩:=h;refine⟨_,af (cB (pv 0) (pv 1) rfl) (af (cB (pv 0) (pv 2) rfl) (af (cB (pv 0) (pv 3) rfl) (ak (cB (pv 0) (pv 4) rfl)))),?_⟩;refine⟨_,rfl,_,rfl,x,C,dx,[],rfl,hx,T.cl,T.no _ (by simp),(by show 0 < 1000;decide),?_⟩;refine⟨_,rfl,_,rfl,x,C,dx,_,rfl,ae,T.cl,T.no _ (by simp),(by show 1 < 1000;decide),?_⟩;refine⟨_,rfl,_,rfl,x,C,dx,_,rfl,ae,T.cl,T.no _ (by simp),(by repeat (first|rw[bR]|rw[bc (by decide +kernel)]);show 2 < 1000;decide),?_⟩;refine⟨_,rfl,_,rfl,x,C,dx,_,rfl,ae,T.cl,T.no _ (by simp),(by repeat (first|rw[bR]|rw[bc (by decide +kernel)]);show 3 < 1000;decide),?_⟩;rw[cI,cI,cI]
   repeat (first|rw[bR]|rw[bc (by decide +kernel)])
   exact q
end
end Bw
namespace L2
open PySem PySem.Spec PyProof.Rows
theorem j8 {α β:Type}{F:α->β->Prop}:∀{l₁:List α} {l₂:List β},l₁.length=l₂.length->(∀(i:Nat) x y,l₁[i]?=some x->l₂[i]?=some y->F x y)->Paired F l₁ l₂
 |[],[],_,_=>.nil
 |x::l₁,y::l₂,h,g=>.cons (g 0 x y rfl rfl) (j8 (by simpa using h) λi a b h1 h2=>g (i+1) a b (by simpa using h1) (by simpa using h2))
 |[],_::_,h,_=>by simp at h
 |_::_,[],h,_=>by simp at h
section
variable {X:Cx}
end
end L2
namespace HT
open PySem PySem.Spec PyProof.Rows
theorem lW {P:Program}{w:World}{A:Around}{E:aah}{s:Shared}{t sl:Addr}{items:Array Value}{vl vu:Value}{lo hi:Option Int}{Q:aah}(ht:IsTup s.heap t items)(hs:s.heap.IsSliceOf sl vl vu .none)(pl:IsPart vl lo)(pu:IsPart vu hi)
  (hw:cg items.size 0 lo=0/\cg items.size items.size hi=items.size)(h:Q (.ref t) s):wpAny (model P w) A (getItem (.ref t) (.ref sl)) Q E s:=by
 obtain⟨os,M5,NM,NN⟩:=id hs;have ty:s.TypeIs (.ref sl) "slice":=⟨os,M5,NM⟩;unfold getItem
 try with_reducible refine Zw ?_
 first|refine Xs (XA ?_)|skip
 refine Xs (wpAny_sequenceKey ht.typeIs (by decide) ?_);refine Xs (YK (name:=Str.ofString "__getitem__") ht.typeIs YL (YR YL ht.typeIs entry_tuple_getitem ?_ (args_tuple_getitem _ _)));show wpAny _ _ (Builtin.Tuple.tupleItemsOf (.ref t) >>= _) _ _ s;refine Xs (tupleItemsOf_ ht (Xs (wpAny_typeOf ty ?_)));rw[Xw (by decide)];refine Xs (ij hs pl pu ?_);rw[hw.1,hw.2];show wpAny _ _ (if (((0:Nat):Int)==0&&(1:Int)==1&&(items.size - 0)==items.size)=true then _ else _) _ _ s;rw[Xw (by simp)];have t0:s.heap.IsTuple t items:=ht;obtain⟨⟨c,dd,f,l⟩,g,rfl,n,rfl⟩:=ht;obtain⟨hp,ga,d,tk,os⟩:=s
 wp_walk
 exact⟨_,rfl,XA h⟩
end HT
namespace L2
open PySem PySem.Spec PyProof.Rows
section
variable {X:Cx}
def Kb:V->Option Int->Option Int->Hp->VK->Prop:=λx lo hi H Q=>∃a xs,x=.ref a/\H a=some (.tup xs)/\∀p H',au H H'->H' p=some (.tup (fC xs lo hi))->Q (.ref p) H'
theorem DA:Jk X Kb:=by
 intro pins s σ H x v vl vu lo hi sl Q I rx hs pl pu h;obtain⟨a,xs,rfl,hx,q⟩:=h;by_cases hw:HT.cg xs.length 0 lo=0/\HT.cg xs.length xs.length hi=xs.length
 · cases rx;obtain⟨LF,r,ht,hz⟩:=I.tuple (b7.of hx);have hlen:LF.toArray.size=xs.length:=by rw[XS];exact r.length.symm
   refine⟨"tuple",_,YL.lookup,ht.typeIs,HT.lW ht hs pl pu (by rw[hlen];exact hw) ⟨.ref a,H,I,rfl,q a H (au.refl H) ?_⟩⟩;rw[hx];unfold fC;rw[hw.1,hw.2];simp
 · exact G7 pins s σ H _ v vl vu lo hi sl Q I rx hs pl pu ⟨a,xs,rfl,b7.of hx,hw,λp hp=>q p _ ((au.refl H).laid hp) ae⟩
theorem mW:∀(l acc:List Int),(l.foldl step_dedup acc).length<=acc.length+l.length/\((l.foldl step_dedup acc).length=acc.length+l.length↔l.Nodup/\∀x∈l,¬x∈acc)
 |[],acc=>by simp
 |v::l,acc=>by
  rw[Y0];by_cases h:v∈acc
  · have e:step_dedup acc v=acc:=by unfold step_dedup;rw[Xw (by simpa using h)]
    rw[e];have:=(mW l acc).1;rw[XG];refine⟨by omega,λz=>by omega,λz=>absurd h (z.2 v (by simp))⟩
  · have e:step_dedup acc v=acc++[v]:=by unfold step_dedup;rw[Xv (by simpa using h)]
    rw[e];obtain⟨i1,i2⟩:=mW l (acc++[v]);rw[XT,YI] at i1 i2;rw[XG];refine⟨by omega,?_⟩;rw[show acc.length+(l.length+1)=acc.length+1+l.length by omega,i2,YG,Z1];simp only[Yk,XJ,not_or];constructor
    · rintro⟨a,b⟩;exact⟨⟨λm=>(b v m).2 rfl,a⟩,h,λx hx=>(b x hx).1⟩
    · rintro⟨⟨a,b⟩,_,c⟩;exact⟨b,λx hx=>⟨c x hx,λz=>a (z ▸ hx)⟩⟩
theorem E6 (ns:List Int):firstMet (λi=>ns.getD i 0) ns.length=ns.foldl step_dedup []:=by
 unfold firstMet;congr 1;refine ZR λi=>?_;rw[Xz];by_cases h:i < ns.length
 · rw[Ze h,XE h];simp[h]
 · rw[Yy (by simpa using h),Yy (by omega)];rfl
theorem D7 (hc:X.calm=true):ie X (.type "set") (λxs H Q=>∃(t:Addr) (ns:List Int),xs=[.ref t]/\b7 X.K H t (ns.map V.int)/\ns.length<=1000/\∀p S n,H p=none->n<=ns.length->(n=ns.length↔ns.Nodup)->Q (.ref p) (upd H p (.set S n))):=by
 intro pins s σ H xs us Q I r h;obtain⟨t,ns,rfl,ht,hl,q⟩:=h;rw[Vals.wj r];obtain⟨LF,rv,pt,_⟩:=I.tuple ht;have hn:LF.length=ns.length:=by rw[←rv.length,Xu]
 have hi:IntsAre LF.toArray.toList ns:=intsAre_of rv;obtain⟨d1,d2⟩:=mW ns [];rw[Y5,Nat.zero_add] at d1 d2;refine BwX.Ap (I.ok.hd hc) (show s.heap.IsTuple t LF.toArray from pt) hi (by rw[XS,hn];show ns.length+1 < 4096;omega) λh' tk hS kp=>?_;have hz:LF.toArray.size=ns.length:=by rw[XS,hn]
 rw[hz,E6] at hS;refine⟨.ref s.heap.objs.size,_,I.laid (t':=tk) kp (XD _) (show bK X.prog X.w _ h' _ (.set _ _) from hS),rfl,q _ _ _ (I.bu.fresh (XD _)) d1 (d2.trans ⟨λz=>z.1,λz=>⟨z,by simp⟩⟩)⟩
theorem EN:ie X (.builtin "len") (λxs H Q=>∃p S n,xs=[.ref p]/\H p=some (.set S n)/\n<=1000/\Q (.int (n:Nat)) H):=by
 intro pins s σ H xs us Q I r h;obtain⟨p,S,n,rfl,hp,hn,q⟩:=h;rw[Vals.wj r];obtain⟨o,es,ep,t,ho,hx,hd,_,_,_,hf,rfl⟩:=I.bu p _ hp;exact call_len_set ho hx hd hf (by omega) ⟨.int _,H,I.tok _,⟨_,rfl⟩,q⟩
end
def BI (K:aag)(a b:Addr):It :=
 ⟨λi H=>∃(xs ys:List V) (x y:V),b7 K H a xs/\aP K H b ys/\xs[i]?=some x/\ys[i]?=some y,
  λi H v H'=>∃T x y,v=.ref T/\H T=none/\H'=upd H T (.tup [x,y])/\(∀xs,b7 K H a xs->xs[i]?=some x)/\∀ys,aP K H b ys->ys[i]?=some y,
  λi H=>∃xs ys:List V,b7 K H a xs/\aP K H b ys/\(xs.length<=i∨ys.length<=i)⟩
structure ZA (z TI TO i1 i2 a b:Addr):Prop where
 n1:¬z∈[i1,a]/\¬TO∈[i1,a]/\¬i2∈[i1,a]
 n2:¬z∈[i2,b]/\¬TO∈[i2,b]/\¬i1∈[i2,b]
 nz:TI≠z/\TO≠z/\TI≠TO/\TI≠i1/\TI≠i2/\TO≠i1/\TO≠i2/\i1≠z/\i2≠z
 na:a≠i1
 nb:b≠i2
theorem Fb {P:Program}{w:World}{K:aag}{elts:List Expr}{kk:Nat}{LW:Pos}{a b z TI TO i1 i2:Addr}(D:ZA z TI TO i1 i2 a b) :
  Turn P w K (.Tuple elts kk LW) (BI K a b) [z,TI,TO,i1,i2] z (λi h=>IsZip h z TI TO .none/\IsPair h TI (.ref i1) (.ref i2)/\(∃x y,IsPair h TO x y)/\h.IsTupleIter i1 a i/\h.IsListIter i2 b i) where
 mem:=by simp
 obj:=λi h st c hc=>by
  obtain⟨hz,ML,⟨x,y,Mt⟩,⟨o1,e1,_,d1⟩,⟨o2,e2,_,d2⟩⟩:=st;have e':c=z∨c=TI∨c=TO∨c=i1∨c=i2:=by simpa using hc
  rcases e' with q|q|q|q|q
  · rw[q];exact⟨_,hz,λv q=>nomatch q⟩
  · rw[q];exact⟨_,ML,λv q=>nomatch q⟩
  · rw[q];exact⟨_,Mt,λv q=>nomatch q⟩
  · rw[q];exact⟨o1,e1,λv q=>by rw[d1] at q;cases q⟩
  · rw[q];exact⟨o2,e2,λv q=>by rw[d2] at q;cases q⟩
 keep:=λi h h' st k=>by
  obtain⟨hz,ML,⟨x,y,Mt⟩,h1,h2⟩:=st;exact⟨k z (by simp) _ hz,k TI (by simp) _ ML,⟨x,y,k TO (by simp) _ Mt⟩,h1.at λo q=>k i1 (by simp) o q,h2.at λo q=>k i2 (by simp) o q⟩
 item:=by
  intro X hP hw hK hc i pins s σ H E I hf st hg;subst hP hw hK;obtain⟨hz,ML,Mt,h1,h2⟩:=st;obtain⟨xs,ys,x,y,Oi,Oj,hx,hy⟩:=hg;obtain⟨LF,rv,p,_⟩:=I.tuple Oi;obtain⟨L7,P0,p2,_⟩:=I.list Oj;obtain⟨u,hu,ru⟩:=rv.get hx;obtain⟨u2,QZ,Q0⟩:=P0.get hy;have SN:z < s.heap.objs.size:=XH hz;refine BwX.sS (x:=u) (y:=u2) D.na D.nb ⟨hz,ML,Mt,⟨h1,p⟩,⟨h2,p2.isList⟩,D.n1,D.n2,D.nz⟩ (by simpa using hu) (by simpa using QZ) λh' Z hT hk=>?_;refine⟨_,rfl,wpAny_letOwnedTupleGo_zip (s:={s with heap:=h'}) Z.zp λNq VV sb=>?_⟩;have MD:Nq.get? s.heap.objs.size=some {cls:=.type "tuple",data:=.seq #[u,u2]}:=(sb.2 _ (Nat.ne_of_gt SN)).trans hT;have new:bK X.prog X.w (upd H s.heap.objs.size (.tup [x,y])) Nq s.heap.objs.size (.tup [x,y]) :=
   ⟨by show 2<=sizeLine;decide,[u,u2],.cons ru (.cons Q0 .nil),⟨_,MD,rfl,_,rfl⟩⟩
  have I1:Inv X pins σ (upd H s.heap.objs.size (.tup [x,y])) {s with heap:=Nq} :=
   I.rJ (t':=s.toks) (ch:=[z,TI,TO,i1,i2]) (λc o hb q=>(sb.2 c (λq'=>hb (by simp[q']))).trans (hk c o (λq'=>hb (by simp[q'])) (λq'=>hb (by simp[q'])) (λq'=>hb (by simp[q'])) (λq'=>hb (by simp[q'])) q)) hf (XD _) new
  obtain⟨z1,z2,z3,z4,z5,z6,z7,z8,z9⟩:=D.nz;obtain⟨x',y',Rm⟩:=Z.to;refine⟨.ref s.heap.objs.size,_,I1,rfl,⟨_,x,y,rfl,I.bu.fresh (XD _),rfl,λl hl=>by rw[I.rY hl Oi];exact hx,λl hl=>by rw[I.pE hl Oj];exact hy⟩,⟨VV,(sb.2 _ z1).trans Z.ti,⟨x',y',(sb.2 _ z2).trans Rm⟩,Z.s1.1.at λo q=>(sb.2 _ z8).trans q,Z.s2.1.at λo q=>(sb.2 _ z9).trans q⟩,λc P1=>?_⟩;have LJ:c < s.heap.objs.size:=by
   have e':c=z∨c=TI∨c=TO∨c=i1∨c=i2:=by simpa using P1
   obtain⟨_,_,Mt⟩:=Mt;rcases e' with q|q|q|q|q
   · rw[q];exact SN
   · rw[q];exact XH ML
   · rw[q];exact XH Mt
   · rw[q];obtain⟨_,e1,_⟩:=h1;exact XH e1
   · rw[q];obtain⟨_,e2,_⟩:=h2;exact XH e2
  rw[aq (X7 LJ)];exact (hf c P1).1
 done:=by
  intro X hP hw hK hc i pins s σ H E I hf st hg;subst hP hw hK;obtain⟨hz,ML,Mt,h1,h2⟩:=st;obtain⟨xs,ys,Oi,Oj,Rn⟩:=hg;obtain⟨LF,rv,p,_⟩:=I.tuple Oi;obtain⟨L7,P0,p2,_⟩:=I.list Oj;have l1:=rv.length;have l2:=P0.length;have he:LF.toArray[i]?=none∨L7.toArray[i]?=none:=by
   rcases Rn with q|q
   · exact .inl (by simp;omega)
   · exact .inr (by simp;omega)
  exact BwX.uk (I.ok.hd hc) D.na D.nb ⟨hz,ML,Mt,⟨h1,p⟩,⟨h2,p2.isList⟩,D.n1,D.n2,D.nz⟩ he λh' hk=>⟨rfl,I.EY (t':=s.toks) (ch:=[z,TI,TO,i1,i2]) (λc o hb q =>
   hk c o (λq'=>hb (by simp[q'])) (λq'=>hb (by simp[q'])) (λq'=>hb (by simp[q'])) (λq'=>hb (by simp[q'])) q) hf⟩
 self:=λA i s Q E st h=>wpAny_pyIter_zip st.1 h
def IU (K:aag)(ta:TA):TI:=λσ H R=>ta σ H λvs H1=>∃a b xs ys,vs=[.ref a,.ref b]/\b7 K H1 a xs/\aP K H1 b ys/\R (BI K a b) H1
theorem EV {X:Cx}{e e2:Expr}{ta:TA}{p pos LW:Pos}{elts:List Expr}{kk:Nat}(hg:Gl X "zip")(hm:X.mg "zip"=none)(ha:PA X [e,e2] ta)
  (hs:starEach [e,e2] X.env=(false,eval e X.env)::starEach [e2] X.env:=by rfl)(LO:(backTo pos (starEach [e2] X.env)).any (·.1)=false:=by rfl) :
  PI X (.Tuple elts kk LW) (.Call (.Name "zip" p) [e,e2] [] pos) (IU X.K ta):=by
 intro pins s σ H R I h;refine Call_ (lK I hg hm Aq (YW (bB (ha pos pins s σ H _ I h) λus s1 ⟨vs,H1,I1,r1,q1⟩=>?_) hs LO));obtain⟨a,b,xs,ys,ex,Oi,Oj,q⟩:=q1;subst ex;cases r1 with
 |cons r rr =>
  cases rr with
  |cons r' rr =>
   cases rr;cases r;cases r';obtain⟨LF,rv,p1,_⟩:=I1.tuple Oi;obtain⟨L7,P0,p2,_⟩:=I1.list Oj;refine BwX.Ez p1 p2.isList λh' Z hk=>wpAny_pyIter_zip Z.zp ?_;have I2:Inv X pins σ H1 {s1 with heap:=h'}:=I1.kept (t':=s1.toks) hk;have na:a≠s1.heap.objs.size:=by obtain⟨_,e,_⟩:=p1;exact X7 (XH e)
   have nb:b≠s1.heap.objs.size+1:=X7 (Nat.lt_succ_of_lt p2.lt);refine⟨s1.heap.objs.size+4,[s1.heap.objs.size+4,s1.heap.objs.size+2,s1.heap.objs.size+3,s1.heap.objs.size,s1.heap.objs.size+1],_,_,H1,rfl,I2,Fb ⟨Z.n1,Z.n2,Z.nz,na,nb⟩,⟨Z.zp,Z.ti,Z.to,Z.s1.1,Z.s2.1⟩,λc P1=>?_,q⟩;have e':c=s1.heap.objs.size+4∨c=s1.heap.objs.size+2∨c=s1.heap.objs.size+3∨c=s1.heap.objs.size∨c=s1.heap.objs.size+1:=by simpa using P1
   have hle:s1.heap.objs.size<=c:=by
    rcases e' with z|z|z|z|z
    · rw[z];exact ZY _ _
    · rw[z];exact ZY _ _
    · rw[z];exact ZY _ _
    · rw[z];exact XD _
    · rw[z];exact ZY _ _
   exact I1.wG hle (I1.bu.fresh hle)
theorem Jg {K:aag}{a b:Addr}{xs ys:List V}{g:TG}{tt:TT}{te:TE}{vs:aaf}{σ:St}{H1:Hp}{D:Addr}{Qd:Hp->Prop}(hle:xs.length<=ys.length)(Pv:Nat->Hp->Prop)(h0:Pv 0 (upd H1 D (.lst [])))(hl:∀i H,i<=xs.length->Pv i H->b7 K H a xs/\aP K H b ys)
  (hs:∀i x y H T,xs[i]?=some x->ys[i]?=some y->Pv i H->H T=none->g (.ref T) (wipe σ vs) (upd H T (.tup [x,y])) λσ2 H2=>wipe σ2 vs=wipe σ vs/\tt σ2 H2 λb H3 =>
   if b=true then te σ2 H3 λy H4=>∃acc,H4 D=some (.lst acc)/\acc.length < sizeLine/\Pv (i+1) (upd H4 D (.lst (acc++[y]))) else Pv (i+1) H3) (hd:∀H,Pv xs.length H->Qd H) :
  ∃W:Nat->Nat->Hp->Prop,(∃m,W 0 m (upd H1 D (.lst [])))/\∀i m H,W i m H ->
   ((BI K a b).stop i H/\Qd H)∨((BI K a b).go i H/\∃Nx:Hp->Prop,(∀H',Nx H'->∃m',m' < m/\W (i+1) m' H')/\∀x H',(BI K a b).v_ i H x H'->g x (wipe σ vs) H' λσ2 H2=>wipe σ2 vs=wipe σ vs/\tt σ2 H2 λb H3 =>
    if b=true then te σ2 H3 λy H4=>∃acc,H4 D=some (.lst acc)/\acc.length < sizeLine/\Nx (upd H4 D (.lst (acc++[y]))) else Nx H3):=by
 refine⟨λi m H=>m=xs.length - i/\i<=xs.length/\Pv i H,⟨xs.length,by simp,X2 _,h0⟩,?_⟩;rintro i m H ⟨rfl,hi,p⟩;obtain⟨q1,q2⟩:=hl i H hi p;by_cases LJ:i < xs.length
 · refine .inr ⟨⟨xs,ys,xs[i],ys[i],q1,q2,by simp[LJ],by simp⟩,Pv (i+1),λH' p'=>⟨xs.length - (i+1),by omega,rfl,LJ,p'⟩,λx H' w=>?_⟩;obtain⟨T,v,u,rfl,hT,rfl,hx,hy⟩:=w;exact hs i v u _ T (hx xs q1) (hy ys q2) p hT
 · have e:i=xs.length:=by omega
   subst e;exact .inl ⟨⟨xs,ys,q1,q2,.inl (XD _)⟩,hd H p⟩
section
variable {σ:St}{H:Hp}{ta tb te:TE}{t u:TT}{x y v:V}{b c:Bool}
theorem yn {Q:VK} (h:Ev ta σ H (.bl b)) (q1:b=true->tb σ H Q) (q2:b=false->Q (.bl false) H):FY ta tb σ H Q:=h _ ⟨b,rfl,by
 cases b with
 |false=>exact u6 (q2 rfl)
 |true=>exact qj (q1 rfl)⟩
end
end L2
namespace Bw
open PySem PySem.Spec PyProof.Rows L2 Tote
def mR (ws:List W):Prop:=ws.length<=70000/\∀w∈ws,w.length<=70000/\∀c∈w,c < 128
theorem i_ {w:W}{s:String}:decide (V.str (st w)=V.str (Str.ofString s))=decide (w=cd s):=by
 rw[Zg,kU];constructor
 · intro h;injection h with h;exact jE.mp h
 · intro h;rw[h]
theorem Fy {ws:List W}{i:Nat}(h:i < ws.length):ws[i]?=some (ws.getD i []):=by
 rw[Yd,XE h];rfl
theorem dF {ws:List W}{i:Nat}(h:i < ws.length):n8 (sV ws) ((i:Nat):Int)=some (.str (st (ws.getD i []))):=cy (Bi (Fy h))
theorem mR.getD {ws:List W}(o:mR ws)(i:Nat):(ws.getD i []).length<=70000/\∀c∈ws.getD i [],c < 128:=by
 by_cases h:i < ws.length
 · exact o.2 _ (X0 (Fy h))
 · rw[Yd,Yy (by omega)];exact⟨X2 _,λc hc=>by simp at hc⟩
abbrev eY:List (Nat×W):=[(0,cd "pool"),(4,cd "from"),(6,cd "take"),(8,cd "break"),(10,cd "least"),(12,cd "unit"),(14,cd "none")]
abbrev sizeOf:Tote.Kind->Int×Int
 |.place=>(1,4)
 |.order=>(2,4)
 |.any=>(2,3)
 |.legs=>(2,6)
structure GC (P:Program)(w:World)(K:aag)(mg:aai)(dS aF:Addr):Prop where
 races:Gv mg "MOST_RACES" (.int 16)
 pools:Gv mg "MOST_POOLS" (.int 64)
 couples:Gv mg "MOST_COUPLES" (.int 8)
 runners:Gv mg "MOST_RUNNERS" (.int 24)
 words:Gv mg "POOL_WORDS" (.int 16)
 Fw:Gv mg "SIZES" (.ref dS)
 fixed:Gv mg "FIXED" (.ref aF)
 Cq:∃ts:Tote.Kind->Addr,yV P w K dS [(.inr (st (cd "place")),.ref (ts .place)),(.inr (st (cd "order")),.ref (ts .order)),(.inr (st (cd "any")),.ref (ts .any)),(.inr (st (cd "legs")),.ref (ts .legs))]/\∀(k:Tote.Kind) (H:Hp),b7 K H (ts k) [.int (sizeOf k).1,.int (sizeOf k).2]
 HV:∃ts:List Addr,(∀H,b7 K H aF (ts.map V.ref))/\Paired (λt (p:Nat×W)=>∀H,b7 K H t [.int (p.1:Nat),.str (st p.2)]) ts eY
 range:mg "range"=none
section
variable {P:Program}{w:World}{K:aag}{mg:aai}{base:Heap}
def B_ (K:aag):Sp:=λvs H Q _=>∃(a:Addr) (ws:List W),vs=[.ref a]/\aP K H a (sV ws)/\mR ws/\∀H',au H H'->Q (.bl (iG ws)) H'
theorem Hy:aG ["words"] ["words"] (aw mx):=fs
theorem Gn (G:GW mg){k:Nat}(FN:Fn P w K mg base bA k "is_name" ["word"] lL){f:Addr}{fd:FuncData}(F:dk K "is_day" "is_day" mx f fd):a8 P w K mg base bA (k+1) f fd ["words"] (B_ K):=by
 refine F.ok Hy (λvs H Q E h=>?_) (λLG A outer s H vs Q E hr h=>?_)
 · obtain⟨a,ws,rfl,_⟩:=h;rfl
 · obtain⟨a,ws,rfl,hS,ok,q⟩:=h;refine⟨_,ak (az (w_ (fu cp (bg G.len (pv 0)) ax (aJ _)) (w_ (fu cp (bo aM (pv 0) ax (λ_ _=>rfl)) bq (aJ _))
    (xc (aR FN hr a9 (aa (bo aM (pv 0) ax (λ_ _=>rfl)) ah)))))),?_⟩
   refine yn (cb (aU (ag rfl) (.inl hS)) aD) (λh=>?_) (λh=>?_)
   · rw[aZ,dI] at h;have hl:ws.length=2:=by have:=YZ h;omega
     refine yn (cb (aX (ag rfl) aD hS (dF (i:=0) (by omega))) aD) (λh=>?_) (λh=>?_)
     · rw[i_] at h;refine (aX (ag rfl) aD hS (dF (i:=1) (by omega))) _ ⟨_,rfl,(ok.getD 1).1,λH' e=>?_⟩;have:iG ws=d_ (ws.getD 1 []):=by
        unfold iG;rw[hl,XR h];simp
       rw[←this];exact q H' e
     · rw[i_] at h;have:iG ws=false:=by
        unfold iG;have z:(ws.getD 0 []==cd "day")=false:=by
         rw[X3];exact Ye h
        rw[z];simp
       rw[←this];exact q H (au.refl H)
   · rw[aZ,dI] at h;have:iG ws=false:=by
      unfold iG;have z:(ws.length==2)=false:=by
       rw[X3] at h ⊢;exact λz=>h (by rw[z];rfl)
      rw[z];rfl
     rw[←this];exact q H (au.refl H)
def fA (ws:List W):Bool:=ws.length==16&&(eY.all λp=>ws.getD p.1 []==p.2)&&d_ (ws.getD 1 [])&&(dE (ws.getD 2 [])).isSome
def wK (K:aag):Sp:=λvs H Q _=>∃(a:Addr) (ws:List W),vs=[.ref a]/\aP K H a (sV ws)/\mR ws/\∀H',au H H'->Q (.bl (fA ws)) H'
theorem uS {ts:Tote.Kind->Addr}{w:W}:valueAt [((.inr (st (cd "place")):Key),Value.ref (ts .place)),(.inr (st (cd "order")),.ref (ts .order)),(.inr (st (cd "any")),.ref (ts .any)),(.inr (st (cd "legs")),.ref (ts .legs))] (.inr (st w))=(dE w).map λk=>Value.ref (ts k):=by
 have key:∀s:W,((Sum.inr (st s):Key)=Sum.inr (st w))↔s=w:=λs=>⟨λh=>jE.mp (Sum.inr.inj h),λh=>by rw[h]⟩;unfold valueAt dE;simp only[Y9,List.find?_nil,key];by_cases h1:w=cd "place"
 · subst h1;simp
 · rw[Yj (λz=>h1 z.symm),Xv h1];by_cases h2:w=cd "order"
   · subst h2;simp
   · rw[Yj (λz=>h2 z.symm),Xv h2];by_cases h3:w=cd "any"
     · subst h3;simp
     · rw[Yj (λz=>h3 z.symm),Xv h3];by_cases h4:w=cd "legs"
       · subst h4;simp
       · rw[Yj (λz=>h4 z.symm),Xv h4];rfl
theorem oB:aG ["words","at","word"] ["words"] (aw dU):=fs
theorem DG {dS aF:Addr}(G:GW mg)(GC:GC P w K mg dS aF){k:Nat}(FN:Fn P w K mg base bA k "is_name" ["word"] lL){f:Addr}{fd:FuncData}(F:dk K "has_pool_form" "has_pool_form" dU f fd) :
  a8 P w K mg base bA (k+1) f fd ["words"] (wK K):=by
 refine F.ok oB (λvs H Q E h=>?_) (λLG A outer s H vs Q E hr h=>?_)
 · obtain⟨a,ws,rfl,_⟩:=h;rfl
 · obtain⟨a,ws,rfl,hS,ok,q⟩:=h;obtain⟨ts,hD,hT⟩:=GC.Cq;obtain⟨fs,hF,hP⟩:=GC.HV;refine⟨_,af (aO (aB oZ (bg G.len (pv 0)) (bb GC.words) (aJ _)) (ak (az mG)) aC)
    (af (aO (cC (hX (bY (xY rfl) (by rfl) G.all PyProof.Rows.boot_all (aa (fz (g:=DK K 2 (qB (fL 1) (qB (fL 2) DF))) (te:=kJ JX (kJ (As K) (cJ 0) (cJ 1)) (cJ 2)) rfl oB.nd (Gp (bb GC.fixed)) (bz (own:=[("at",1),("word",2)]) rfl)
      (λ_ _ _ _ _=>lH rfl (b_ (bp 1 oB.nd) (b_ (bp 2 oB.nd) iK))) (λ_ _ _ _ _=>cu)
      (λ_ _ _ _ _=>fu cp (bo aM (pv 0) (pv 1) (λ_ _=>rfl)) (pv 2) (aJ _))) ah)))) (ak (az mG)) aC)
    (ak (az (w_ (aR FN hr a9 (aa (bo aM (pv 0) ax (λ_ _=>rfl)) ah)) (xc (Hc (DY hD (bo aM (pv 0) ax (λ_ _=>rfl)) (bb GC.Fw)))))))),?_⟩
   refine aS (aI (oV (aU (ag rfl) (.inl hS)) aD)) (λh=>?_) (λh=>?_)
   · rw[aZ,dI] at h;refine bU aD ?_;have:fA ws=false:=by
      unfold fA;have z:(ws.length==16)=false:=by
       rw[Ym,X3] at h;rw[X3];exact λz=>h (by rw[z];rfl)
      rw[z];rfl
     rw[←this];exact q H (au.refl H)
   · rw[aZ,dI] at h;have hl:ws.length=16:=by
      rw[Yp] at h;have:=YZ h;omega
     have MM:fs.length=7:=by rw[Paired.length hP];rfl
     refine⟨aF,rfl,⟨_,hF H⟩,λD M8=>HI (K:=K) (a:=aF) (xs:=fs.map V.ref) (λi H'=>au H H'/\H' D=some (.lst ((eY.take i).map λp=>V.bl (decide (ws.getD p.1 []=p.2)))))
      ⟨(au.refl H).laid M8,ae⟩ (λi H' _ h=>hF H') ?_ ?_⟩
     · rintro i x H' hi ⟨k1,k2⟩;rw[Xz] at hi;obtain⟨t,ht,rfl⟩:=X6.mp hi;obtain⟨⟨n,wd⟩,hp,hs⟩:=Paired.qL hP ht;have hn:n < 16:=by
        have:=X0 hp;simp at this;omega
       refine⟨t,_,rfl,hs H',rfl,_,_,rfl,_,_,rfl,rfl,rfl,?_⟩;refine (cb (aX (ag rfl) (ag rfl) (k1.seq hS) (dF (i:=n) (by omega))) (ag rfl)) _ ⟨_,k2,?_,?_⟩
       · rw[Xu,XU,XZ];have:eY.length=7:=rfl;omega
       · refine⟨λb u z=>?_,?_⟩
         · rw[aq (ao z M8)];exact k1 b u z
         · rw[ae,take_snoc hp,XQ];have:decide (V.str (st (ws.getD n []))=V.str (st wd))=decide (ws.getD n []=wd):=by
            rw[Zg];exact⟨λh=>jE.mp (by injection h),λh=>by rw[h]⟩
           rw[this];rfl
     · rintro H' ⟨k1,k2⟩;have k2:H' D=some (.lst ((eY.take (fs.map V.ref).length).map λp=>V.bl (decide (ws.getD p.1 []=p.2)))):=k2;rw[Xu,MM] at k2;have eA:((eY.map λp=>decide (ws.getD p.1 []=p.2)).all id)=eY.all λp=>ws.getD p.1 []==p.2:=by
        rw[ZE];congr 1;funext p;show decide (ws.getD p.1 []=p.2)=(ws.getD p.1 []==p.2);rw[X9,XC,Yl]
       refine⟨D,eY.map λp=>decide (ws.getD p.1 []=p.2),rfl,aP.of (by rw[k2,XY];rfl),_,rfl,?_⟩;rw[eA];refine gH (λh=>?_) (λh=>?_)
       · refine bU aD ?_;have:fA ws=false:=by
          unfold fA;rw[Ym] at h;rw[h];simp
         rw[←this];exact q H' k1
       · have hA:(eY.all λp=>ws.getD p.1 []==p.2)=true:=by simpa using h
         refine (aX (ag rfl) aD (k1.seq hS) (dF (i:=1) (by omega))) _ ⟨_,rfl,(ok.getD 1).1,λH2 e2=>⟨_,rfl,?_⟩⟩;have eF:fA ws=(d_ (ws.getD 1 [])&&(dE (ws.getD 2 [])).isSome):=by
          unfold fA;rw[hA,hl];simp
         refine gH (λh=>?_) (λh=>?_)
         · refine (aX (ag rfl) aD ((k1.trans e2).seq hS) (dF (i:=2) (by omega))) _ ⟨Sum.inr (st (ws.getD 2 [])),rfl,rfl,?_⟩;rw[uS];have:((dE (ws.getD 2 [])).map λk=>Value.ref (ts k)).isSome=fA ws:=by
            rw[eF,h,Option.isSome_map];rfl
           rw[this];exact q H2 (k1.trans e2)
         · have:fA ws=false:=by
            rw[eF];have:d_ (ws.getD 1 [])=false:=by simpa using h
            rw[this];rfl
           rw[←this];exact q H2 (k1.trans e2)
end
theorem gq {σ:L2.St}{H:Hp}{te:TE}{wd:W}(h:Ev te σ H (.str (st wd)))(ok:wd.length<=70000/\∀c∈wd,c < 128):Ev (nQ kO [] E0 (cM te eV)) σ H (.int (ay wd)):=λ_ r=>h _ ⟨wd,rfl,ok.1,ok.2,r⟩
theorem zl {xs:List V}{i j:Nat}(h:j<=xs.length):fC xs (some (i:Int)) (some (j:Int))=(xs.drop i).take (j - i):=by
 unfold fC;rw[HT.iH,HT.iH,Zv h];by_cases hi:i<=xs.length
 · rw[Zv hi]
 · rw[Nat.min_eq_right (by omega),Zq (XD _),Zq (by omega)];simp
section
variable {P:Program}{w:World}{K:aag}{mg:aai}{base:Heap}
def fe (ws:List W):Bool :=
 !(!(decide (0<=ay (ws.getD 7 []))&&decide (ay (ws.getD 7 [])<=400))||!(decide (1<=ay (ws.getD 9 []))&&decide (ay (ws.getD 9 [])<=1000))) &&
 (!(!(decide (1<=ay (ws.getD 13 []))&&decide (ay (ws.getD 13 [])<=10000))||!(decide (ay (ws.getD 11 [])=0)||(decide (ay (ws.getD 13 [])<=ay (ws.getD 11 []))&&decide (ay (ws.getD 11 [])<=2*ay (ws.getD 13 []))))) &&
 (if ws.getD 15 []=cd "fewer" then !decide (ws.getD 2 []=cd "place") else decide (ws.getD 15 []=cd "refund")||decide (ws.getD 15 []=cd "carry")))
def s_ (K:aag):Sp:=λvs H Q _=>∃(a:Addr) (ws:List W),vs=[.ref a]/\aP K H a (sV ws)/\mR ws/\ws.length=16/\∀H',au H H'->Q (.bl (fe ws)) H'
theorem pj:aG ["words","least","unit"] ["words"] (aw dz):=fs
theorem B8 {k:Nat}(FN:Fn P w K mg base bA k "number_of" ["word"] kO){f:Addr}{fd:FuncData}(F:dk K "are_terms_good" "are_terms_good" dz f fd):a8 P w K mg base bA (k+1) f fd ["words"] (s_ K):=by
 refine F.ok pj (λvs H Q E h=>?_) (λLG A outer s H vs Q E hr h=>?_)
 · obtain⟨a,ws,rfl,_⟩:=h;rfl
 · obtain⟨a,ws,rfl,hS,ok,hl,q⟩:=h;refine⟨_,af (a7 1 pj.nd (aR FN hr a9 (aa (bo aM (pv 0) ax (λ_ _=>rfl)) ah)))
    (af (a7 2 pj.nd (aR FN hr a9 (aa (bo aM (pv 0) ax (λ_ _=>rfl)) ah)))
    (af (aO (PW.pt (eG (cC (cD cf cf ax (aR FN hr a9 (aa (bo aM (pv 0) ax (λ_ _=>rfl)) ah)) ax)) (cS (cC (cD cf cf ax (aR FN hr a9 (aa (bo aM (pv 0) ax (λ_ _=>rfl)) ah)) ax))))) (ak (az mG)) aC)
    (af (aO (PW.pt (eG (cC (cD cf cf ax (pv 2) ax)) (cS (cC (PW.pt (eG (aB cp (pv 1) ax (aJ _)) (cS (cD cf cf (pv 2) (pv 1) (bG xg ax (pv 2)))))))))) (ak (az mG)) aC)
    (af (aO (aB cp (bo aM (pv 0) ax (λ_ _=>rfl)) bq (aJ _)) (ak (az (fu oZ (bo aM (pv 0) ax (λ_ _=>rfl)) bq (aJ _)))) aC)
    (ak (az (fu gg (bo aM (pv 0) ax (λ_ _=>rfl)) (c_ (aa bq (aa bq ah))) (by with_unfolding_all rfl)))))))),?_⟩
   refine cH (gq (aX (ag rfl) aD hS (dF (i:=11) (by omega))) (ok.getD 11)) ?_;refine cH (gq (aX (ag rfl) aD hS (dF (i:=13) (by omega))) (ok.getD 13)) ?_;refine aS (gI (fh (cE aD (gq (aX (ag rfl) aD hS (dF (i:=7) (by omega))) (ok.getD 7)) aD)) λ_=>fh (cE aD (gq (aX (ag rfl) aD hS (dF (i:=9) (by omega))) (ok.getD 9)) aD)) (λh=>?_) (λh1=>?_)
   · refine bU aD ?_;have:fe ws=false:=by unfold fe;rw[h];rfl
     rw[←this];exact q H (au.refl H)
   refine aS (gI (fh (cE aD (ag rfl) aD)) λ_=>fh (gI (aI (cb (ag rfl) aD)) λ_=>cE (ag rfl) (ag rfl) (yw aD (ag rfl) (.inl ⟨by decide,by decide⟩)))) (λh=>?_) (λh2=>?_)
   · refine bU aD ?_;have:fe ws=false:=by
      unfold fe;have e:decide (V.int (ay (ws.getD 11 []))=V.int 0)=decide (ay (ws.getD 11 [])=0):=by rw[aZ];rfl
      rw[e] at h;rw[h];simp
     rw[←this];exact q H (au.refl H)
   have e2:fe ws=if ws.getD 15 []=cd "fewer" then !decide (ws.getD 2 []=cd "place") else decide (ws.getD 15 []=cd "refund")||decide (ws.getD 15 []=cd "carry"):=by
    unfold fe;have e:decide (V.int (ay (ws.getD 11 []))=V.int 0)=decide (ay (ws.getD 11 [])=0):=by rw[aZ];rfl
    rw[e] at h2;rw[h1,h2];simp
   refine aS (aI (cb (aX (ag rfl) aD hS (dF (i:=15) (by omega))) aD)) (λh=>?_) (λh=>?_)
   · rw[i_] at h;refine bU (oV (aX (ag rfl) aD hS (dF (i:=2) (by omega))) aD) ?_;rw[i_];rw[Xw (XR h)] at e2;rw[←e2];exact q H (au.refl H)
   · rw[i_] at h;refine (aX (ag rfl) aD hS (dF (i:=15) (by omega))) _ ⟨(by show 2<=sizeLine;decide),λt ht=>⟨t,_,rfl,.inr (b7.of ae),rfl,rfl,?_⟩⟩;rw[Xv (Ye h)] at e2;have:oh (V.str (st (ws.getD 15 []))) [V.str (Str.ofString "refund"),V.str (Str.ofString "carry")]=fe ws:=by
      rw[e2];have key:∀s:String,r9 (V.str (Str.ofString s)) (V.str (st (ws.getD 15 [])))=decide (ws.getD 15 []=cd s):=λs=>by
       show (Str.ofString s==st (ws.getD 15 []))=_;rw[X9,Yl,XC,kU,jE];exact⟨λz=>z.symm,λz=>z.symm⟩
      show ([V.str (Str.ofString "refund"),V.str (Str.ofString "carry")].any λy=>r9 y (V.str (st (ws.getD 15 []))))=_;simp only[Y3,List.any_nil,key,ZJ]
     rw[←this] at q;exact q _ ((au.refl H).laid ht)
def mm (kd:Tote.Kind)(k rc:Nat)(rs:aae):Bool:=match kd with
 |.legs=>decide (rc+k<=rs.length+1)
 |_=>decide (k<=(rs.getD (rc - 1) []).length)
def gT {α:Type}(d:α)(kd:Tote.Kind)(k rc:Nat)(as:List α):List α:=match kd with
 |.legs=>(as.drop (rc - 1)).take k
 |.place=>[as.getD (rc - 1) d]
 |_=>List.replicate k (as.getD (rc - 1) d)
theorem wo (kd:Tote.Kind)(k rc:Nat)(rs:aae):gT [] kd k rc rs=fw kd k rc rs:=by cases kd <;> rfl
theorem tM {α β:Type}{F:α->β->Prop}{d:α}{e:β}{kd:Tote.Kind}{k rc:Nat}{as:List α}{rs:List β}(h:Paired F as rs)(h1:1<=rc)(h2:rc<=rs.length):Paired F (gT d kd k rc as) (gT e kd k rc rs):=by
 obtain⟨y,hy⟩:∃y,rs[rc - 1]?=some y:=⟨_,XE (by omega)⟩;obtain⟨x,hx,hf⟩:=Paired.at2 h hy;have ex:as.getD (rc - 1) d=x:=by rw[Yd,hx];rfl
 have ey:rs.getD (rc - 1) e=y:=by rw[Yd,hy];rfl
 unfold gT;cases kd with
 |legs=>exact Paired.tk k (Paired.dp (rc - 1) h)
 |place=>rw[ex,ey];exact .cons hf .nil
 |order=>rw[ex,ey];exact Paired.rep hf k
 |any=>rw[ex,ey];exact Paired.rep hf k
def qh (K:aag):Sp:=λvs H Q _=>∃(kd:Tote.Kind) (k rc:Nat) (a:Addr) (as:List Addr) (rs:aae),vs=[.str (st (cd (kindS kd))),.int (k:Nat),.int (rc:Nat),.ref a]/\aP K H a (as.map V.ref)/\Paired (g_ K H) as rs/\1<=k/\k<=6/\1<=rc/\rc<=rs.length/\rs.length<=70000 /\
 (mm kd k rc rs=false->Q .cj H)/\(mm kd k rc rs=true->∀H' p,au H H'->H p=none->H' p=some (.lst ((gT 0 kd k rc as).map V.ref))->Q (.ref p) H')
theorem iz {kd:Tote.Kind}{s:String}:decide (V.str (st (cd (kindS kd)))=V.str (Str.ofString s))=decide (cd (kindS kd)=cd s):=i_
theorem j1:aG ["kind","size","race","races","interests","place"] ["kind","size","race","races"] (aw gS):=fs
theorem Ao {dS aF:Addr}(G:GW mg)(GC:GC P w K mg dS aF){f:Addr}{fd:FuncData}(F:dk K "fields_of" "fields_of" gS f fd):a8 P w K mg base bA 1 f fd ["kind","size","race","races"] (qh K):=by
 refine F.om j1 λLG A outer s H vs Q E hr h=>?_;obtain⟨kd,k,rc,a,as,rs,rfl,hA,hP,hk1,SO,NU,hr2,hr3,q0,q1⟩:=h;have LH:as.length=rs.length:=Paired.length hP;refine⟨_,af (aO (aB cp (pv 0) bq (aJ _)) (af (aO (aB kX (bG fJ (bG eK (pv 2) (pv 1)) ax) (bg G.len (pv 3)) (aJ _)) (ak (az cA)) aC)
   (ak (az (cK fk (pv 3) (cY (bG fJ (pv 2) ax)) (cY (bG eK (bG fJ (pv 2) ax) (pv 1))))))) aC)
  (af (oQ (i:=4) j1.nd rfl (Or.inr rfl) (bo aM (pv 3) (bG fJ (pv 2) ax) (λ_ _=>rfl)))
  (af (aO (aB nZ (bg G.len (pv 4)) (pv 1) (aJ _)) (ak (az cA)) aC)
  (af (aO (aB cp (pv 0) bq (aJ _)) (ak (az (bV (aa (pv 4) ah)))) aC)
  (ak (az (fz rfl j1.nd (gf rfl GC.range (aa (pv 1) ah)) (bz (own:=[("place",5)]) rfl) (λ_ _ _ _ _=>bp 5 j1.nd) (λ_ _ _ _ _=>cu) (λ_ _ _ _ _=>pv 4))))))),?_⟩
 refine aS (aI (cb (ag rfl) aD)) (λh=>?_) (λh=>?_)
 · rw[iz] at h;have e:kd=.legs:=by
    cases kd <;> first|rfl|(exact absurd (XR h) (by decide))
   subst e;refine aS (jy (md (md (ag rfl) (ag rfl)) aD) (aU (ag rfl) (.inl hA))) (λh=>?_) (λh=>?_)
   · refine bU aD (q0 ?_);rw[Xu,LH] at h;have:=XR h;exact Yj (by omega)
   · rw[Xu,LH] at h;have:=Ye h;refine⟨_,rfl,?_⟩;refine (md (ag rfl) aD) _ ⟨_,rfl,?_⟩;refine (md (md (ag rfl) aD) (ag rfl)) _ ⟨_,rfl,a,as.map V.ref,rfl,hA,λp hp=>?_⟩;have e1:(rc:Int) - 1=((rc - 1:Nat):Int):=by omega
     have e2:(rc:Int) - 1+(k:Int)=((rc - 1+k:Nat):Int):=by omega
     rw[e1,show (((rc - 1:Nat):Int)+(k:Int))=((rc - 1+k:Nat):Int) by omega,zl (by rw[Xu,LH];omega)];refine q1 (X_ (by omega)) _ p ((au.refl H).laid hp) hp ?_;show upd H p _ p=some (.lst (((as.drop (rc - 1)).take k).map V.ref));rw[ae,show rc - 1+k - (rc - 1)=k by omega,List.map_take,ZZ]
 · rw[iz] at h;have SQ:kd≠.legs:=by
    rintro rfl;exact absurd (Ye h) (by decide)
   obtain⟨ns,OT⟩:∃ns,rs[rc - 1]?=some ns:=⟨_,XE (by omega)⟩;obtain⟨ai,L6,hI⟩:=Paired.at2 hP OT;have hg:rs.getD (rc - 1) []=ns:=by rw[Yd,OT];rfl
   have SR:as.getD (rc - 1) 0=ai:=by rw[Yd,L6];rfl
   have VW:n8 (as.map V.ref) ((rc:Int) - 1)=some (.ref ai):=by
    rw[show (rc:Int) - 1=((rc - 1:Nat):Int) by omega];exact cy (by rw[Xz,L6];rfl)
   refine cH (aX (ag rfl) (md (ag rfl) aD) hA VW) ?_;have eO:mm kd k rc rs=decide (k<=ns.length):=by
    unfold mm;rw[hg];cases kd <;> first|rfl|exact absurd rfl SQ
   rw[eO] at q0 q1;refine aS (jy (aU (ag rfl) (.inl hI)) (ag rfl)) (λh=>?_) (λh=>?_)
   · refine bU aD (q0 (Yj ?_));rw[aN] at h;have:=XR h;omega
   · rw[aN] at h;have:=Ye h;have q1:=q1 (X_ (by omega));refine aS (aI (cb (ag rfl) aD)) (λh=>?_) (λh=>?_)
     · rw[iz] at h;have e:kd=.place:=by
        cases kd <;> first|rfl|(exact absurd (XR h) (by decide))
       subst e;refine⟨_,rfl,(by show 1<=sizeLine;decide),λp hp=>q1 _ p ((au.refl H).laid hp) hp ?_⟩;show upd H p _ p=some (.lst [.ref (as.getD (rc - 1) 0)]);rw[SR];exact ae
     · rw[iz] at h;have Ol:kd≠.place:=by
        rintro rfl;exact absurd (Ye h) (by decide)
       have eF:gT 0 kd k rc as=List.replicate k ai:=by
        unfold gT;rw[SR];cases kd <;> first|rfl|exact absurd rfl SQ|exact absurd rfl Ol
       rw[eF] at q1;refine⟨_,rfl,(k:Int),rfl,by omega,by omega,λD hD=>?_⟩;rw[show ((k:Int)).toNat=k by omega];refine lR (lo:=0) (n:=k) (λi H'=>au H H'/\H' D=some (.lst ((List.replicate i ai).map V.ref))) ⟨(au.refl H).laid hD,ae⟩ ?_ ?_
       · rintro i H' hi ⟨k1,k2⟩;refine⟨rfl,_,rfl,_,k2,?_,?_⟩
         · rw[Xu,X5,XZ];omega
         · refine⟨λb u z=>?_,?_⟩
           · rw[aq (ao z hD)];exact k1 b u z
           · rw[ae,List.replicate_succ',XQ];rfl
       · rintro H' ⟨k1,k2⟩;exact q1 H' D k1 hD k2
end
theorem mQ {w:W}{kd:Tote.Kind}(h:dE w=some kd):w=cd (kindS kd):=by
 unfold dE at h;split at h
 · rename_i e;cases h;exact e
 · split at h
   · rename_i e;cases h;exact e
   · split at h
     · rename_i e;cases h;exact e
     · split at h
       · rename_i e;cases h;exact e
       · cases h
theorem rB {ws:List W}(h:fA ws=true):ws.length=16/\∃kd,dE (ws.getD 2 [])=some kd:=by
 unfold fA at h;simp only[XB,Yl] at h;exact⟨h.1.1.1,ZH.mp h.2⟩
theorem FJ {ws:List W}(h:ws.length=16):∃p nm kd k fr rc tk t br b le m un u no z:W,ws=[p,nm,kd,k,fr,rc,tk,t,br,b,le,m,un,u,no,z]:=by
 match ws,h with
 |[p,nm,kd,k,fr,rc,tk,t,br,b,le,m,un,u,no,z],_=>exact⟨p,nm,kd,k,fr,rc,tk,t,br,b,le,m,un,u,no,z,rfl⟩
theorem sf {ws:List W}{rs:aae}(h:¬(fA ws=true/\fe ws=true)):eX ws rs=none:=by
 by_cases hl:ws.length=16
 · obtain⟨p,nm,kd,k,fr,rc,tk,t,br,b,le,m,un,u,no,z,rfl⟩:=FJ hl;show (match dE kd with
    |none=>none
    |some kind=>if dD rs kind p nm k fr rc tk t br b le m un u no z then some (⟨nm,kind,fw kind (ay k).toNat (ay rc).toNat rs,(ay u).toNat⟩:aK) else none)=none
   cases hk:dE kd with
   |none=>rfl
   |some kind =>
    show (if dD rs kind p nm k fr rc tk t br b le m un u no z then _ else none)=none;rw[Xv];rintro⟨c1,c2,c3,c4,c5,c6,c7,c8,c9,Py,Pz,NG,N8,Nh,NH,MG⟩;refine h ⟨?_,?_⟩
    · unfold fA;show (_&&(eY.all λq=>_)&&d_ nm&&(dE kd).isSome)=true;rw[c8,hk];simp[eY,c1,c2,c3,c4,c5,c6,c7]
    · have Nf:=mQ hk;unfold fe;show (!(!(decide (0<=ay t)&&decide (ay t<=400))||!(decide (1<=ay b)&&decide (ay b<=1000)))&&(!(!(decide (1<=ay u)&&decide (ay u<=10000))||!(decide (ay m=0)||(decide (ay u<=ay m)&&decide (ay m<=2*ay u)))) &&
       (if z=cd "fewer" then !decide (kd=cd "place") else decide (z=cd "refund")||decide (z=cd "carry"))))=true
      have d1:(decide (0<=ay t)&&decide (ay t<=400))=true:=by simp[c9]
      have d2:(decide (1<=ay b)&&decide (ay b<=1000))=true:=by simp[Py]
      have d3:(decide (1<=ay u)&&decide (ay u<=10000))=true:=by simp[Pz]
      have d4:(decide (ay m=0)||(decide (ay u<=ay m)&&decide (ay m<=2*ay u)))=true:=by simpa using NG
      rw[d1,d2,d3,d4];by_cases hz:z=cd "fewer"
      · rw[Xw hz];rcases N8 with c|c|c
        · have:kd≠cd "place":=by
           rw[Nf];intro e;exact c.2 (by cases kind <;> first|rfl|exact absurd e (by decide))
          simp[this]
        · rw[hz] at c;exact absurd c (by decide)
        · rw[hz] at c;exact absurd c (by decide)
      · rw[Xv hz];rcases N8 with c|c|c
        · exact absurd c.1 hz
        · simp[c]
        · simp[c]
 · unfold eX;split
   · rename_i e;exact absurd (by rfl) hl
   · rfl
theorem DW {ws:List W}{rs:aae}{kd:Tote.Kind}(hf:fA ws=true)(ht:fe ws=true)(hk:dE (ws.getD 2 [])=some kd) :
  eX ws rs=if ((sizeOf kd).1<=ay (ws.getD 3 [])/\ay (ws.getD 3 [])<=(sizeOf kd).2)/\(1<=ay (ws.getD 5 [])/\ay (ws.getD 5 [])<=(rs.length:Int))/\mm kd (ay (ws.getD 3 [])).toNat (ay (ws.getD 5 [])).toNat rs=true
   then some ⟨ws.getD 1 [],kd,fw kd (ay (ws.getD 3 [])).toNat (ay (ws.getD 5 [])).toNat rs,(ay (ws.getD 13 [])).toNat⟩ else none:=by
 obtain⟨hl,_⟩:=rB hf;obtain⟨p,nm,kw,k,fr,rc,tk,t,br,b,le,m,un,u,no,z,rfl⟩:=FJ hl;have hk:dE kw=some kd:=hk;show (match dE kw with
   |none=>none
   |some kind=>if dD rs kind p nm k fr rc tk t br b le m un u no z then some (⟨nm,kind,fw kind (ay k).toNat (ay rc).toNat rs,(ay u).toNat⟩:aK) else none)=if ((sizeOf kd).1<=ay k/\ay k<=(sizeOf kd).2)/\(1<=ay rc/\ay rc<=(rs.length:Int))/\mm kd (ay k).toNat (ay rc).toNat rs=true
   then some (⟨nm,kd,fw kd (ay k).toNat (ay rc).toNat rs,(ay u).toNat⟩:aK) else none
 rw[hk];show (if dD rs kd p nm k fr rc tk t br b le m un u no z then some (⟨nm,kd,fw kd (ay k).toNat (ay rc).toNat rs,(ay u).toNat⟩:aK) else none)=_;have key:dD rs kd p nm k fr rc tk t br b le m un u no z↔((sizeOf kd).1<=ay k/\ay k<=(sizeOf kd).2)/\(1<=ay rc/\ay rc<=(rs.length:Int))/\mm kd (ay k).toNat (ay rc).toNat rs=true:=by
  have Nf:=mQ hk;have f1:(eY.all λq=>[p,nm,kw,k,fr,rc,tk,t,br,b,le,m,un,u,no,z].getD q.1 []==q.2)=true:=by
   unfold fA at hf;simp only[XB] at hf;exact hf.1.1.2
  have f2:d_ nm=true:=by
   unfold fA at hf;simp only[XB] at hf;exact hf.1.2
  have f1:p=cd "pool"/\fr=cd "from"/\tk=cd "take"/\br=cd "break"/\le=cd "least"/\un=cd "unit"/\no=cd "none":=by
   have g:((p==cd "pool")&&((fr==cd "from")&&((tk==cd "take")&&((br==cd "break")&&((le==cd "least")&&((un==cd "unit")&&((no==cd "none")&&true)))))))=true:=f1;simp only[XB,Yl] at g;obtain⟨g1,g2,g3,g4,g5,g6,g7,_⟩:=g;exact⟨g1,g2,g3,g4,g5,g6,g7⟩
  have f3:(!(!(decide (0<=ay t)&&decide (ay t<=400))||!(decide (1<=ay b)&&decide (ay b<=1000)))&&(!(!(decide (1<=ay u)&&decide (ay u<=10000))||!(decide (ay m=0)||(decide (ay u<=ay m)&&decide (ay m<=2*ay u)))) &&
        (if z=cd "fewer" then !decide (kw=cd "place") else decide (z=cd "refund")||decide (z=cd "carry"))))=true:=ht
  simp only[XB,Ym,YF,Yp,XC,Yv] at f3;obtain⟨⟨t1,t2⟩,⟨t3,t4⟩,t5⟩:=f3;have s1:(leastK kd:Int)=(sizeOf kd).1:=by cases kd <;> rfl
  have s2:(mostK kd:Int)=(sizeOf kd).2:=by cases kd <;> rfl
  have s3:1<=(sizeOf kd).1:=by cases kd <;> decide
  constructor
  · rintro⟨_,_,_,_,_,_,_,_,_,_,_,_,_,Nh,NH,MG⟩;rw[s1,s2] at Nh;refine⟨Nh,NH,?_⟩;unfold mm;rcases MG with ⟨rfl,c⟩|⟨hn,c⟩
    · exact X_ (by omega)
    · have e:(ay rc - 1).toNat=(ay rc).toNat - 1:=by omega
      rw[e] at c;cases kd <;> first|exact X_ (by omega)|exact absurd rfl hn
  · rintro⟨Nh,NH,MG⟩;refine⟨f1.1,f1.2.1,f1.2.2.1,f1.2.2.2.1,f1.2.2.2.2.1,f1.2.2.2.2.2.1,f1.2.2.2.2.2.2,f2,t1,t2,t3,t4,?_,by rw[s1,s2];exact Nh,NH,?_⟩
    · split at t5
      · rename_i hz;simp only[Ym,Yc] at t5;refine .inl ⟨hz,?_⟩;rintro rfl;exact t5 Nf
      · refine .inr ?_;simpa using t5
    · have e:(ay rc - 1).toNat=(ay rc).toNat - 1:=by omega
      rw[e];unfold mm at MG;by_cases hn:kd=.legs
      · subst hn;have:=XR MG;exact .inl ⟨rfl,by omega⟩
      · refine .inr ⟨hn,?_⟩;have:(ay k).toNat<=(rs.getD ((ay rc).toNat - 1) []).length:=by
         cases kd <;> first|exact XR MG|exact absurd rfl hn
        omega
 by_cases hc:dD rs kd p nm k fr rc tk t br b le m un u no z
 · rw[Xw hc,Xw (key.mp hc)]
 · rw[Xv hc,Xv (λz=>hc (key.mpr z))]
section
variable {P:Program}{w:World}{K:aag}{mg:aai}{base:Heap}
def w8 (K:aag) (C:Addr):Sp:=λvs H Q _=>∃(a b:Addr) (ws:List W) (as:List Addr) (rs:aae),vs=[.ref a,.ref b]/\aP K H a (sV ws)/\mR ws/\aP K H b (as.map V.ref)/\Paired (g_ K H) as rs/\rs.length<=16 /\
 (eX ws rs=none->∀H',au H H'->Q .cj H')/\(∀p,eX ws rs=some p->∀H' x dx fa ME,au H H'->H x=none->H fa=none->H' x=some (.ins C dx (jo (.str (st p.name)) (.str (st (cd (kindS p.kind)))) (.ref fa) (.int (p.unit:Nat)))) ->
  H' fa=some (.lst (ME.map V.ref))->(∀F:Addr->aaf->Prop,Paired F as rs->Paired F ME p.fields)->Q (.ref x) H')
theorem j2:aG ["words","races","kind","size","bounds","race","fields"] ["words","races"] (aw gR):=fs
theorem EB {dS aF C:Addr}(G:GW mg)(GC:GC P w K mg dS aF)(T:CK K mg "Pool" hU C){k:Nat}(FF:Fn P w K mg base bA k "has_pool_form" ["words"] (wK K))(FT:Fn P w K mg base bA k "are_terms_good" ["words"] (s_ K))
  (FN:Fn P w K mg base bA k "number_of" ["word"] kO)(FL:Fn P w K mg base bA k "fields_of" ["kind","size","race","races"] (qh K))(FP:xr P w K mg base bA k C ["self","name","kind","fields","unit"] (sZ C))
  {f:Addr}{fd:FuncData}(F:dk K "read_pool" "read_pool" gR f fd):a8 P w K mg base bA (k+2) f fd ["words","races"] (w8 K C):=by
 refine F.ok j2 (λvs H Q E h=>?_) (λLG A outer s H vs Q E NU h=>?_)
 · obtain⟨_,_,_,_,_,rfl,_⟩:=h;rfl
 · obtain⟨a,b,ws,as,rs,rfl,hS,ok,VX,P2,O4,q0,q1⟩:=h;have hr:cN k _:=NU.mono (Nat.le_succ k);obtain⟨ts,hD,hT⟩:=GC.Cq;refine⟨_,af (aO (PW.pt (eG (cC (hX (aR FF hr a9 (aa (pv 0) ah)))) (cS (cC (hX (aR FT hr a9 (aa (pv 0) ah))))))) (ak (az cA)) aC)
    (af (a7 2 j2.nd (bo aM (pv 0) ax (λ_ _=>rfl)))
    (af (a7 3 j2.nd (aR FN hr a9 (aa (bo aM (pv 0) ax (λ_ _=>rfl)) ah)))
    (af (a7 4 j2.nd (C2 hD (bb GC.Fw) (pv 2) (λ_ _=>rfl)))
    (af (a7 5 j2.nd (aR FN hr a9 (aa (bo aM (pv 0) ax (λ_ _=>rfl)) ah)))
    (af (aO (PW.pt (eG (cC (cD cf cf (bo A8 (pv 4) ax (λ_ _=>rfl)) (pv 3) (bo A8 (pv 4) ax (λ_ _=>rfl)))) (cS (cC (cD cf cf ax (pv 5) (bg G.len (pv 1))))))) (ak (az cA)) aC)
    (af (a7 6 j2.nd (aR FL hr a9 (aa (pv 2) (aa (pv 3) (aa (pv 5) (aa (pv 1) ah))))))
    (af (aO (aB tu (pv 6) cA (aJ _)) (ak (az cA)) aC)
    (ak (az (o7 FP NU T.mg a9 (aa (bo aM (pv 0) ax (λ_ _=>rfl)) (aa (pv 2) (aa (pv 6) (aa (aR FN hr a9 (aa (bo aM (pv 0) ax (λ_ _=>rfl)) ah)) ah)))))))))))))),?_⟩
   refine⟨_,rfl,a,ws,rfl,hS,ok,λH1 e1=>⟨_,rfl,?_⟩⟩;refine gH (λh=>?_) (λh=>?_)
   · refine q0 (sf λz=>?_) H1 e1;rw[z.1] at h;cases h
   have hf:fA ws=true:=by simpa using h
   obtain⟨hl,kd,hk⟩:=rB hf;refine⟨_,rfl,a,ws,rfl,e1.seq hS,ok,hl,λH2 e2=>⟨_,rfl,?_⟩⟩;have MS:=e1.trans e2;refine gH (λh=>?_) (λh=>?_)
   · refine q0 (sf λz=>?_) H2 MS;rw[z.2] at h;cases h
   have ht:fe ws=true:=by simpa using h
   have Ro:=MS.seq hS;have pe:=DW (rs:=rs) hf ht hk;have Nf:=mQ hk;refine cH (aX (ag rfl) aD Ro (dF (i:=2) (by omega))) ?_;refine cH (gq (aX (ag rfl) aD Ro (dF (i:=3) (by omega))) (ok.getD 3)) ?_;refine⟨_,rfl,Sum.inr (st (ws.getD 2 [])),V.ref (ts kd),Value.ref (ts kd),rfl,rfl,by rw[uS,hk];rfl,rfl,?_⟩;refine cH (gq (aX (ag rfl) aD Ro (dF (i:=5) (by omega))) (ok.getD 5)) ?_;have hA:=MS.seq VX;have hP:=iU P2 MS;have LH:as.length=rs.length:=Paired.length hP;refine aS (gI (fh (cE (Bg (ag rfl) aD (hT kd H2) (cy (j:=0) rfl)) (ag rfl) (Bg (ag rfl) aD (hT kd H2) (cy (j:=1) rfl)))) λ_=>fh (cE aD (ag rfl) (aU (ag rfl) (.inl hA)))) (λh=>?_) (λh=>?_)
   · refine bU aD (q0 ?_ H2 MS);rw[pe,Xv];rintro⟨z1,z2,_⟩;rw[Xu,LH] at h;simp only[Yv,Ym,YT,Yc] at h;omega
   rw[Xu,LH] at h;simp only[YF,Yp,XB,XC] at h;obtain⟨h1,h2⟩:=h;have s3:1<=(sizeOf kd).1:=by cases kd <;> decide
   have s4:(sizeOf kd).2<=6:=by cases kd <;> decide
   have n3:ay (ws.getD 3 [])=(((ay (ws.getD 3 [])).toNat:Nat):Int):=by omega
   have n5:ay (ws.getD 5 [])=(((ay (ws.getD 5 [])).toNat:Nat):Int):=by omega
   refine⟨_,rfl,_,rfl,_,rfl,_,rfl,kd,(ay (ws.getD 3 [])).toNat,(ay (ws.getD 5 [])).toNat,b,as,rs,by rw[←n3,←n5,←Nf];rfl,hA,hP,by omega,by omega,by omega,by omega,by omega,λhO=>?_,λhO H3 p e3 VY hp=>?_⟩
   ·
    refine⟨_,rfl,rfl,_,rfl,q0 ?_ H2 MS⟩;rw[pe,Xv];rintro⟨_,_,z⟩;rw[hO] at z;cases z
   · refine⟨_,rfl,rfl,_,rfl,?_⟩;have Oz:=MS.trans e3;have SS:=Oz.seq hS;refine (aX (ag rfl) aD SS (dF (i:=1) (by omega))) _ ⟨_,rfl,_,rfl,?_⟩;refine (gq (aX (ag rfl) aD SS (dF (i:=13) (by omega))) (ok.getD 13)) _ ?_;intro x dx nx P4 nex;refine⟨x,dx,_,_,_,_,rfl,ae,rfl,?_⟩;rw[Xw ⟨h1,h2,hO⟩] at pe;have sm:au H3 (upd (upd (upd H3 dx (.own x)) x (.ins C dx [])) x (.ins C dx (jo (V.str (st (ws.getD 1 []))) (V.str (st (ws.getD 2 []))) (V.ref p) (V.int (ay (ws.getD 13 [])))))):=λb u z=>by
      rw[aq (ao z nx),aq (ao z nx),aq (ao z P4)];exact z
     have hu:0<=ay (ws.getD 13 []):=by
      unfold fe at ht;simp only[XB,Ym,YF,Yp,XC] at ht;omega
     have O5:p≠x:=ao hp nx;have npd:p≠dx:=ao hp P4;refine q1 _ pe _ x dx p (gT 0 kd (ay (ws.getD 3 [])).toNat (ay (ws.getD 5 [])).toNat as) (Oz.trans sm) (Oz.free nx) (MS.free VY) ?_ ?_ ?_
     · rw[ae,Nf];rw[Nf] at *;simp only[Int.toNat_of_nonneg hu]
     · exact sm _ _ hp
     · intro F0 VZ;show Paired _ _ (fw _ _ _ rs);rw[←wo];exact tM VZ (by omega) (by omega)
end
end Bw
namespace L2
open PySem PySem.Spec PyProof.Rows
theorem Il {te:TE}{D:Ends}{σ:St}{H:Hp}(h:te σ H D.rt):Ey te D σ H:=h
theorem zc {wi:TI}{g:TG}{tt:TT}{te:TE}{vs:aaf}{σ:St}{H:Hp}{Q:VK}(h:wi σ H λJ H1=>∀D,H1 D=none->∃W:Nat->Nat->Hp->Prop,(∃m,W 0 m (upd H1 D (.lst [])))/\∀i m H,W i m H ->
 (J.stop i H/\Q (.ref D) H)∨(J.go i H/\∃Nx:Hp->Prop,(∀H',Nx H'->∃m',m' < m/\W (i+1) m' H')/\∀x H',J.v_ i H x H'->g x (wipe σ vs) H' λσ2 H2=>wipe σ2 vs=wipe σ vs/\tt σ2 H2 λb H3 =>
  if b=true then te σ2 H3 λy H4=>∃acc,H4 D=some (.lst acc)/\acc.length < sizeLine/\Nx (upd H4 D (.lst (acc++[y]))) else Nx H3)):HK wi g tt te vs σ H Q:=h
theorem jA {σ:St}{H:Hp}{ta tb:TE}{i j:Int}(ha:Ev ta σ H (.int i))(hb:Ev tb σ H (.int j)):Ev (kJ (qK λi j=>.int (i+j)) ta tb) σ H (.int (i+j)):=λ_ r=>ha _ (hb _ ⟨i,j,rfl,rfl,r⟩)
theorem oX {σ:St}{H:Hp}{ta tb:TE}{i j:Int}(ha:Ev ta σ H (.int i))(hb:Ev tb σ H (.int j)):Ev (kJ (qK λi j=>.int (i - j)) ta tb) σ H (.int (i - j)):=λ_ r=>ha _ (hb _ ⟨i,j,rfl,rfl,r⟩)
theorem tR {σ:St}{H:Hp}{ty td:TE}{y:V}{d:Addr}{o:Option V}(hy:Ev ty σ H y)(hd:Ev td σ H (.ref d))(g:gj H d y o):Tv (tB (Iu ty td)) σ H o.isSome:=λ_ r=>hy _ (hd _ ⟨d,o,rfl,g,_,rfl,r⟩)
def Eh (p q r:Int->Int->Bool)(ta tb tc td:TE):TT:=λσ H Q=>∃i j k l,Ev ta σ H (.int i)/\Ev tb σ H (.int j)/\Ev tc σ H (.int k)/\Ev td σ H (.int l)/\Q (p i j&&(q j k&&r k l)) H
theorem zE {X:Cx}{a b c d:Expr}{o1 o2 o3:CmpOp}{p q r:Int->Int->Bool}{ta tb tc td:TE}{pos:Pos}(h1:jT X (compareOp o1) (qK λi j=>.bl (p i j)))(h2:jT X (compareOp o2) (qK λi j=>.bl (q i j)))(h3:jT X (compareOp o3) (qK λi j=>.bl (r i j)))
  (ha:PE X a ta)(hb:PE X b tb)(hc:PE X c tc)(hd:PE X d td)(hm:lastMarks [o1,o2,o3] [b,c,d]=false:=by with_unfolding_all rfl):PT X (.Compare a [o1,o2,o3] [b,c,d] pos) (Eh p q r ta tb tc td):=by
 rintro pins s σ H Q I ⟨i,j,k,l,ea,eb,ec,ed,hq⟩;have get:∀{e:Expr} {te:TE} {v:V},PE X e te->Ev te σ H v->∀s',Inv X pins σ H s'->wpAny (model X.prog X.w) X.A (eval e X.env) (λu s2=>RelV v u/\Inv X pins σ H s2) X.xe s':=λ{e te v} he ev s' I' =>
  bB (he pins s' σ H (λx H1=>x=v/\H1=H) I' (ev _ ⟨rfl,rfl⟩)) λu s2 ⟨x,H1,I2,rx,e1,e2⟩=>by
   subst e1 e2;exact⟨rx,I2⟩
 have cmp:∀{op:CmpOp} {p:Int->Int->Bool} {i j:Int} {u v:Value},jT X (compareOp op) (qK λi j=>.bl (p i j))->RelV (.int i) u->RelV (.int j) v->∀s',Inv X pins σ H s'->wpAny (model X.prog X.w) X.A (compareOp op u v) (λc s2=>c=.bool (p i j)/\Inv X pins σ H s2) X.xe s':=λ{op p i j u v} ho ru rv s' I' =>
  bB (ho pins s' σ H _ _ u v (λx H1=>x=.bl (p i j)/\H1=H) I' ru rv ⟨i,j,rfl,rfl,rfl,rfl⟩) λc s2 ⟨x,H1,I2,rx,e1,e2⟩=>by
   subst e1 e2;exact⟨rx,I2⟩
 refine isTrue_chain (bB (get ha ea s I) λu0 s0 ⟨r0,I0⟩=>test_link (bB (get hb eb s0 I0) λu1 s1 ⟨r1,I1⟩=>bB (cmp h1 r0 r1 s1 I1) λc1 s2 ⟨e1,I2⟩=>?_)) hm;subst e1;refine YJ ?_;cases z1:p i j with
 |false=>rw[z1] at hq;exact ite_ff ⟨H,I2,hq⟩
 |true =>
  rw[z1] at hq;refine ite_tt (test_link (bB (get hc ec s2 I2) λu2 s3 ⟨r2,I3⟩=>bB (cmp h2 r1 r2 s3 I3) λc2 s4 ⟨e2,I4⟩=>?_));subst e2;refine YJ ?_;cases z2:q j k with
  |false=>rw[z2] at hq;exact ite_ff ⟨H,I4,hq⟩
  |true =>
   rw[z2] at hq;refine ite_tt (test_last (bB (get hd ed s4 I4) λu3 s5 ⟨r3,I5⟩=>bB (cmp h3 r2 r3 s5 I5) λc3 s6 ⟨e3,I6⟩=>?_));subst e3;exact YJ ⟨H,I6,hq⟩
end L2
namespace Bw
open PySem PySem.Spec PyProof.Rows L2 Tote
def CY (H:Hp)(d:Addr)(l:aaf):Prop:=∃LD,H d=some (.dK LD)/\LD.length<=l.length/\∀n:Nat,(cQ LD (Sum.inl (n:Int):Key)).isSome=decide (n∈l)
theorem CY.put {LD:List (Key×V)}{l:aaf}{n:Nat}(h:LD.length<=l.length)(hk:∀n:Nat,(cQ LD (Sum.inl (n:Int):Key)).isSome=decide (n∈l)) :
  (putK LD (Sum.inl (n:Int)) (V.bl true)).length<=(l++[n]).length/\∀m:Nat,(cQ (putK LD (Sum.inl (n:Int)) (V.bl true)) (Sum.inl (m:Int):Key)).isSome=decide (m∈l++[n]):=by
 refine⟨?_,λm=>?_⟩
 · have:=gJ LD (Sum.inl (n:Int):Key) (V.bl true);rw[XT];simp;omega
 · rw[pY];by_cases e:m=n
   · subst e;rw[Xw rfl];simp
   · rw[Xv (λz=>e (by have:=Sum.inl.inj z;omega)),hk m];simp[e]
theorem EX {b:Int}(hb:0<=b)(PV:b < 100000):Builtin.Range.small 2 b 3=true:=by
 unfold Builtin.Range.small Builtin.Range.rangeSize;simp only[Builtin.Range.rangeFitsLong,XB,Yv,XC,Yl,show ((3:Int) > 0) by decide,Zd];split <;> omega
theorem HS {m:Nat}:Builtin.Range.rangeSize 2 ((2+3*m:Nat):Int) 3=(m:Int):=by
 unfold Builtin.Range.rangeSize;simp only[show ((3:Int) > 0) by decide,Zd];split <;> omega
theorem Au {R:Nat}{c a b:W}{r:List W}{fs ss:aaf}:dg R (c::a::b::r) fs ss=if c=cd "couple"/\1<=ay a/\ay a < ay b/\ay b<=(R:Int)/\¬(ay a).toNat∈ss/\¬(ay b).toNat∈fs/\¬(ay b).toNat∈ss
  then dg R r (fs++[(ay a).toNat]) (ss++[(ay b).toNat]) else none:=rfl
theorem JR {r:List W}{i:Nat}(h:i+3<=r.length):r.drop i=r.getD i []::r.getD (i+1) []::r.getD (i+2) []::r.drop (i+3):=by
 have g:∀j,j < r.length->r.drop j=r.getD j []::r.drop (j+1):=λj hj=>by
  rw[YS hj,Yd,XE hj];rfl
 rw[g i (by omega),g (i+1) (by omega),g (i+2) (by omega)]
section
variable {P:Program}{w:World}{K:aag}{mg:aai}{base:Heap}
def xa (K:aag):Sp:=λvs H Q _=>∃(a:Addr) (ws:List W),vs=[.ref a]/\aP K H a (sV ws)/\mR ws/\ws≠[] /\
 (bC ws=none->∀H',au H H'->Q .cj H')/\(∀hs,bC ws=some hs->∀H' x,au H H'->H x=none->H' x=some (.lst (nV hs))->Q (.ref x) H')
theorem ub {w0 n:W}{r:List W}:bC (w0::n::r)=if r.length % 3=0/\r.length<=24/\2<=ay n/\ay n<=24 then (dg (ay n).toNat r [] []).map (dC (ay n).toNat) else none:=rfl
theorem xM {ws:List W}(LQ:ws≠[])(h:(!((ws.length:Int)==2+3*(((ws.length:Int) - 2) / 3))||decide (8 < ((ws.length:Int) - 2) / 3))=true):bC ws=none:=by
 match ws,LQ with
 |[w0],_=>rfl
 |w0::n::r,_ =>
  rw[ub,Xv];rintro⟨z1,z2,_⟩;have el:((w0::n::r).length:Int)=2+(r.length:Int):=by simp;omega
  rw[el] at h;simp only[Yv,Ym,X3,XC] at h;omega
theorem Ay {ws:List W}(LQ:ws≠[])(h:(ws.length:Int)=2+3*(((ws.length:Int) - 2) / 3)):∃w0 n r,ws=w0::n::r:=by
 match ws,LQ with
 |[w0],_=>exact absurd h (by show ¬((1:Int)=2+3*((1 - 2) / 3));decide)
 |w0::n::r,_=>exact⟨w0,n,r,rfl⟩
theorem sL (R:Nat)(ss:aaf):dC R ss=((List.range R).map λi=>i+1).filter λn=>!decide (n∈ss):=by
 unfold dC;congr 1;funext n;rw[YC]
theorem fm:aG ["words","couples","runners","firsts","seconds","at","first","second","runner"] ["words"] (aw fE):=fs
theorem Fd {dS aF:Addr}(G:GW mg)(GC:GC P w K mg dS aF){k:Nat}(FN:Fn P w K mg base bA k "number_of" ["word"] kO){f:Addr}{fd:FuncData}(F:dk K "read_race" "read_race" fE f fd):a8 P w K mg base bA (k+1) f fd ["words"] (xa K):=by
 refine F.om fm λLG A outer s H vs Q E hr h=>?_;obtain⟨a,ws,rfl,hS,ok,LQ,q0,q1⟩:=h;have hu:∀{X:Cx},X.A=(A.deeper (envOfC "read_race" (aw fE) s.heap.objs.size f LG))->X.A.units+1 < cLine:=λ{X} e=>by rw[e];have:=hr.un;omega
 refine⟨_,af (a7 1 fm.nd (bG Dh (bG fJ (bg G.len (pv 0)) ax) ax))
  (af (aO (PW.pt (eG (aB oZ (bg G.len (pv 0)) (bG eK ax (bG xg ax (pv 1))) (aJ _)) (cS (aB kX (pv 1) (bb GC.couples) (aJ _))))) (ak (az cA)) aC)
  (af (a7 2 fm.nd (aR FN hr a9 (aa (bo aM (pv 0) ax (λ_ _=>rfl)) ah)))
  (af (aO (cC (cD cf cf ax (pv 2) (bb GC.runners))) (ak (az cA)) aC)
  (af (a7 3 fm.nd qd)
  (af (oQ (i:=4) fm.nd rfl (Or.inr rfl) qd)
  (af (df YA rfl (sy rfl GC.range (aa ax (aa (bg G.len (pv 0)) (aa ax ah)))) (bp 5 fm.nd)
   (af (a7 6 fm.nd (aR FN hr a9 (aa (bo aM (pv 0) (bG eK (pv 5) ax) (λ_ _=>rfl)) ah)))
   (af (a7 7 fm.nd (aR FN hr a9 (aa (bo aM (pv 0) (bG eK (pv 5) ax) (λ_ _=>rfl)) ah)))
   (af (aO (PW.pt (eG (aB oZ (bo aM (pv 0) (pv 5) (λ_ _=>rfl)) bq (aJ _)) (cS (cC (zE cf nZ cf ax (pv 6) (pv 7) (pv 2)))))) (ak (az cA)) aC)
   (af (aO (PW.pt (eG (pS (ui (hu rfl) (pv 6) (pv 4))) (eG (pS (ui (hu rfl) (pv 7) (pv 3))) (cS (pS (ui (hu rfl) (pv 7) (pv 4))))))) (ak (az cA)) aC)
   (af (lY (hu rfl) (pv 3) (pv 6) mG rfl)
   (ak (lY (hu rfl) (pv 4) (pv 7) mG rfl))))))))
  (ak (az (fz rfl fm.nd (rO rfl GC.range (aa ax (aa (bG eK (pv 2) ax) ah))) (bz (own:=[("runner",8)]) rfl) (λ_ _ _ _ _=>bp 8 fm.nd) (λ_ _ _ _ _=>oz (pS (zN (hu rfl) (pv 8) (pv 4)))) (λ_ _ _ _ _=>pv 8)))))))))),?_⟩
 refine cH (yw (md (aU (ag rfl) (.inl hS)) aD) aD ⟨by decide,by decide⟩) ?_;rw[dI];refine aS (gI (aI (oV (aU (ag rfl) (.inl hS)) (md aD (yw aD (ag rfl) (.inl ⟨by decide,by decide⟩))))) λ_=>jy (ag rfl) aD) (λh=>?_) (λh=>?_)
 · refine bU aD (q0 ?_ H (au.refl H));rw[aZ,dI] at h;exact xM LQ h
 · rw[aZ,dI] at h;simp only[YF,Yp,Yl,Yc] at h;obtain⟨h1,h2⟩:=h;obtain⟨w0,n,r,rfl⟩:=Ay LQ h1
   · have el:((w0::n::r).length:Int)=2+(r.length:Int):=by simp;omega
     rw[el] at h1 h2;obtain⟨m,hm⟩:∃m:Nat,r.length=3*m:=⟨r.length / 3,by omega⟩;have hm8:m<=8:=by omega
     have V0:n.length<=70000/\∀c∈n,c < 128:=ok.getD 1;refine cH (gq (wd:=n) (aX (ag rfl) aD hS (dF (i:=1) (by simp))) V0) ?_;refine aS (fh (cE aD (ag rfl) aD)) (λh=>?_) (λh=>?_)
     · refine bU aD (q0 ?_ H (au.refl H));rw[ub,Xv];rintro⟨_,_,z1,z2⟩;simp only[Ym,YT,Yc] at h;omega
     simp only[Yp,XB,XC] at h;have hn:ay n=(((ay n).toNat:Nat):Int):=by omega
     generalize hR:(ay n).toNat=R at hn;have Rp:bC (w0::n::r)=(dg R r [] []).map (dC R):=by
      rw[ub,Xw ⟨by omega,by omega,h.1,h.2⟩,hR]
     rw[hn];intro d1 SU d2 hd2;have P5:d2≠d1:=by
      rintro rfl;rw[ae] at hd2;cases hd2
     have O6:H d2=none:=by rwa [aq P5] at hd2
     have O7:((w0::n::r).length:Int)=((2+3*m:Nat):Int):=by rw[el,hm];omega
     have S0:au H (upd (upd H d1 (.dK [])) d2 (.dK [])):=((au.refl H).laid SU).laid O6;refine qF (yR (n:=m) aD (aU (ag rfl) (.inl (S0.seq hS))) aD ⟨by decide,by decide,?_,?_⟩ ?_)
     · rw[dI,O7];exact EX (by omega) (by omega)
     · rw[dI,O7];exact HS
     refine pZ (lo:=2) (c:=3) (n:=m) (λi σ H'=>∃(v5 v6 v7:Option V) (fs ss:aaf),σ=[some (.ref a),some (.int ((((w0::n::r).length:Int) - 2) / 3)),some (.int (R:Nat)),some (.ref d1),some (.ref d2),v5,v6,v7,none] /\
       au H H'/\CY H' d1 fs/\CY H' d2 ss/\fs.length<=i/\ss.length<=i/\dg R (r.drop (3*i)) fs ss=dg R r [] [])
      ⟨none,none,none,[],[],rfl,S0,⟨[],by rw[aq P5.symm];exact ae,XD _,λ_=>rfl⟩,⟨[],ae,XD _,λ_=>rfl⟩,XD _,XD _,rfl⟩ ?_ ?_
     · rintro i σ H' hi ⟨v5,v6,v7,fs,ss,rfl,S1,⟨k1,e1,l1,p1⟩,⟨k2,e2,l2,p2⟩,lf,ls,hc⟩;have Rq:=S1.seq hS;have d3:r.drop (3*i)=r.getD (3*i) []::r.getD (3*i+1) []::r.getD (3*i+2) []::r.drop (3*(i+1)):=by
        have:=JR (r:=r) (i:=3*i) (by omega);rw[this,show 3*i+3=3*(i+1) by omega]
       have ga:∀j,(w0::n::r).getD (2+j) []=r.getD j []:=λj=>by
        rw[show 2+j=j+1+1 by omega];rfl
       have PZ:n8 (sV (w0::n::r)) (2+(i:Nat)*3)=some (.str (st (r.getD (3*i) []))):=by
        have:=dF (ws:=w0::n::r) (i:=2+3*i) (by simp;omega);rw[ga] at this;rw[show (2:Int)+(i:Nat)*3=((2+3*i:Nat):Int) by omega];exact this
       have qL:n8 (sV (w0::n::r)) (2+(i:Nat)*3+1)=some (.str (st (r.getD (3*i+1) []))):=by
        have:=dF (ws:=w0::n::r) (i:=2+(3*i+1)) (by simp;omega);rw[ga] at this;rw[show (2:Int)+(i:Nat)*3+1=((2+(3*i+1):Nat):Int) by omega];exact this
       have at2:n8 (sV (w0::n::r)) (2+(i:Nat)*3+2)=some (.str (st (r.getD (3*i+2) []))):=by
        have:=dF (ws:=w0::n::r) (i:=2+(3*i+2)) (by simp;omega);rw[ga] at this;rw[show (2:Int)+(i:Nat)*3+2=((2+(3*i+2):Nat):Int) by omega];exact this
       have V1:(r.getD (3*i+1) []).length<=70000/\∀c∈r.getD (3*i+1) [],c < 128:=by rw[←ga];exact ok.getD _
       have V2:(r.getD (3*i+2) []).length<=70000/\∀c∈r.getD (3*i+2) [],c < 128:=by rw[←ga];exact ok.getD _
       rw[d3,Au] at hc;generalize hA:ay (r.getD (3*i+1) [])=na at hc;generalize hB:ay (r.getD (3*i+2) [])=nb at hc;refine cH (gq (aX (ag rfl) (md (ag rfl) aD) Rq qL) V1) ?_;refine cH (gq (aX (ag rfl) (md (ag rfl) aD) Rq at2) V2) ?_;rw[hA,hB];have none_:dg R r [] []=none->Q .cj H':=λz=>q0 (by rw[Rp,z];rfl) H' S1;refine aS (gI (aI (oV (aX (ag rfl) (ag rfl) Rq PZ) aD)) λ_=>fh (λR' r'=>⟨1,na,nb,(R:Int),aD,ag rfl,ag rfl,ag rfl,r'⟩)) (λh=>?_) (λh=>?_)
       · refine bU aD (none_ ?_);rw[←hc,Xv];rintro⟨z1,z2,z3,z4,_⟩;rw[i_] at h;dsimp only at h;rw[X_ z1,X_ z2,X_ z3,X_ z4] at h;cases h
       · rw[i_] at h;simp only[YF,Yp,XB,XC] at h;obtain⟨z1,z2,z3,z4⟩:=h;have ea:na=((na.toNat:Nat):Int):=by omega
         have eb:nb=((nb.toNat:Nat):Int):=by omega
         have V3:gj H' d2 (.int na) (cQ k2 (Sum.inl na)):=gj.k (k:=Sum.inl na) e2;have V4:gj H' d1 (.int nb) (cQ k1 (Sum.inl nb)):=gj.k (k:=Sum.inl nb) e1;have V5:gj H' d2 (.int nb) (cQ k2 (Sum.inl nb)):=gj.k (k:=Sum.inl nb) e2;have s1:(cQ k2 (Sum.inl na)).isSome=decide (na.toNat∈ss):=by rw[←p2,←ea]
         have s2:(cQ k1 (Sum.inl nb)).isSome=decide (nb.toNat∈fs):=by rw[←p1,←eb]
         have s3:(cQ k2 (Sum.inl nb)).isSome=decide (nb.toNat∈ss):=by rw[←p2,←eb]
         refine aS (gI (tR (ag rfl) (ag rfl) V3) λ_=>gI (tR (ag rfl) (ag rfl) V4) λ_=>tR (ag rfl) (ag rfl) V5) (λh=>?_) (λh=>?_)
         · refine bU aD (none_ ?_);rw[←hc,Xv];rintro⟨_,_,_,_,y1,y2,y3⟩;rw[s1,s2,s3,Yj y1,Yj y2,Yj y3] at h;cases h
         · rw[s1,s2,s3] at h;simp only[YF,Yc] at h;obtain⟨y1,y2,y3⟩:=h;rw[Xw ⟨z1,z2,z3,z4,y1,y2,y3⟩] at hc;have V6:d1≠d2:=P5.symm;have SV:=CY.put (n:=na.toNat) l1 p1;have SW:=CY.put (n:=nb.toNat) l2 p2;rw[←ea] at SV;rw[←eb] at SW;refine⟨_,rfl,_,rfl,d1,_,rfl,.inl ⟨k1,Sum.inl na,e1,rfl,by rw[XZ];omega,rfl⟩,?_⟩;refine⟨_,rfl,_,rfl,d2,_,rfl,.inl ⟨k2,Sum.inl nb,by rw[aq P5];exact e2,rfl,by rw[XZ];omega,rfl⟩,?_⟩;refine⟨_,_,_,fs++[na.toNat],ss++[nb.toNat],rfl,λb u z=>?_,⟨_,by rw[aq V6];exact ae,SV⟩,⟨_,ae,SW⟩,by rw[XT];simp;omega,by rw[XT];simp;omega,hc⟩;rw[aq (ao z O6),aq (ao z SU)];exact S1 b u z
     · rintro σ H' ⟨v5,v6,v7,fs,ss,rfl,S1,hF1,⟨k2,e2,l2,p2⟩,lf,ls,hc⟩;rw[Zq (by omega)] at hc;have hc:some ss=dg R r [] []:=hc;rw[←hc] at Rp;dsimp only;refine Il (zc ?_);refine yt (i:=1) (j:=((R:Nat):Int)+1) aD (jA (ag rfl) aD) ⟨by decide,by decide,by omega,by omega⟩ ?_;intro D hD;rw[show (((R:Nat):Int)+1 - 1).toNat=R by omega];refine lR (lo:=1) (n:=R) (λi H2=>au H' H2/\H2 D=some (.lst (nV (((List.range i).map λj=>j+1).filter λn=>!decide (n∈ss))))) ⟨(au.refl H').laid hD,ae⟩ ?_ ?_
       · rintro i H2 hi ⟨m1,m2⟩;refine⟨rfl,?_⟩;have gt:gj H2 d2 (.int (1+(i:Nat))) (cQ k2 (Sum.inl (1+(i:Nat):Int))):=gj.k (k:=Sum.inl (1+(i:Nat):Int)) (m1 _ _ e2);have sg:(cQ k2 (Sum.inl (1+(i:Nat):Int))).isSome=decide (i+1∈ss):=by rw[←p2];congr 3;omega
         refine⟨_,rfl,_,rfl,d2,_,rfl,gt,_,rfl,?_⟩;rw[sg];have fl:((List.range (i+1)).map λj=>j+1).filter (λn=>!decide (n∈ss))=(((List.range i).map λj=>j+1).filter λn=>!decide (n∈ss))++(if (!decide (i+1∈ss))=true then [i+1] else []):=by
          rw[List.range_succ,XQ,Zo];congr 1;by_cases z:i+1∈ss
          · simp[z]
          · simp[z]
         refine gH (λh=>?_) (λh=>?_)
         · refine⟨_,rfl,_,m2,?_,λb u z=>?_,?_⟩
           · rw[aN,XZ];have:=ZV (λn=>!decide (n∈ss)) ((List.range i).map λj=>j+1);rw[Xu,ZN] at this;omega
           · rw[aq (ao z hD)];exact m1 b u z
           · rw[ae,fl,Xw h];unfold nV;rw[XQ];show some (HO.lst (_++[V.int (1+(i:Nat))]))=some (HO.lst (_++[V.int ((i+1:Nat):Int)]));rw[show (1:Int)+(i:Nat)=((i+1:Nat):Int) by omega]
         · refine⟨m1,?_⟩;rw[fl,Xv h,Yx];exact m2
       · rintro H2 ⟨m1,m2⟩;refine q1 (dC R ss) Rp H2 D (S1.trans m1) (S1.free hD) ?_;rw[m2,sL]
end
end Bw
namespace L2
open PySem PySem.Spec PyProof.Rows
theorem zy {X:Cx}(hu:X.A.units+1 < cLine):jT X (compareOp .In) (λx y H Q=>∃p xs,x=.cj/\y=.ref p/\aP X.K H p xs/\(∀v∈xs,v=.cj∨∃a ys,v=.ref a/\aP X.K H a ys)/\Q (.bl (xs.any λv=>decide (v=.cj))) H):=by
 intro pins s σ H x y v u Q I rx ry h;obtain⟨p,xs,rfl,rfl,hq,hx,q⟩:=h;cases ry;cases rx;obtain⟨LF,r,pl,hz⟩:=I.list hq;have key:∀{xs:List V} {us:aak},Vals xs us->(∀v∈xs,v=.cj∨∃a ys,v=.ref a/\aP X.K H a ys)->(∀u∈us,SeqAt.EqAt X.A.in1 s u .none (u==.none))/\us.any (·==.none)=xs.any λv=>decide (v=.cj):=by
  intro xs us r
  induction r with
  |nil=>exact λ_=>⟨λu hu=>by simp at hu,rfl⟩
  |@cons v u xs us r1 r2 ih =>
   intro hx;obtain⟨V7,V8⟩:=ih λv hv=>hx v (XO _ hv);have e1:SeqAt.EqAt X.A.in1 s u .none (u==.none)/\(u==.none)=decide (v=.cj):=by
    rcases hx v (Yh ..) with rfl|⟨a,ys,rfl,hs⟩
    · cases r1;exact⟨SeqAt.EqAt.same _,rfl⟩
    · cases r1;obtain⟨L7,_,Om,_⟩:=I.list hs;refine⟨?_,rfl⟩;exact SeqAt.EqAt.list_none Om.isList (by show X.A.units+1 < cLine;exact hu)
   refine⟨λu' QY=>?_,?_⟩
   · rcases Xy.mp QY with rfl|h
     · exact e1.1
     · exact V7 u' h
   · rw[Y3,Y3,e1.2,V8]
 obtain⟨k1,k2⟩:=key r hx;refine SeqAt.in_listAt (·==.none) pl.isList (λw hw=>k1 w (by simpa using hw)) ⟨.bl _,H,I,rfl,?_⟩;rw[show LF.toArray.any (·==.none)=LF.any (·==.none) by simp,k2];exact q
end L2
namespace Bw
open PySem PySem.Spec PyProof.Rows L2 Tote
def EC (K:aag)(H:Hp)(a:Addr)(ls:List (List W)):Prop:=∃as:List Addr,aP K H a (as.map V.ref)/\Paired (λb ws=>aP K H b (sV ws)) as ls
def DD (LD:List (Key×V))(l:List W):Prop:=LD.length<=l.length/\∀n:W,(cQ LD (Sum.inr (st n):Key)).isSome=l.contains n
theorem DD.put {LD:List (Key×V)}{l:List W}{n:W}(h:DD LD l):DD (putK LD (Sum.inr (st n)) (V.bl true)) (l++[n]):=by
 refine⟨?_,λm=>?_⟩
 · have:=gJ LD (Sum.inr (st n):Key) (V.bl true);have:=h.1;rw[XT];simp;omega
 · rw[pY];by_cases e:m=n
   · subst e;rw[Xw rfl];simp
   · rw[Xv (λz=>e (jE.mp (Sum.inr.inj z))),h.2 m];simp[e]
def IF (K:aag)(C:Addr)(H H':Hp)(pl:Addr)(a:Addr)(p:aK):Prop:=∃dx fa ME,H' a=some (.ins C dx (jo (.str (st p.name)) (.str (st (cd (kindS p.kind)))) (.ref fa) (.int (p.unit:Nat))))/\fa≠pl/\H' fa=some (.lst (ME.map V.ref))/\Paired (g_ K H) ME p.fields
section
variable {P:Program}{w:World}{K:aag}{mg:aai}{base:Heap}
def tj (K:aag) (C:Addr):Sp:=λvs H Q _=>∃(a b:Addr) (ls:List (List W)) (rs:aae),vs=[.ref a,.ref b]/\EC K H a ls/\(∀ws∈ls,mR ws)/\bE K H b rs/\rs.length<=16 /\
 (iN ls rs=none->∀H',au H H'->Q .cj H')/\(∀ps,iN ls rs=some ps->∀H' x,au H H'->cV K C H' x ps->Q (.ref x) H')
theorem jN:aG ["lines","races","pools","names","words","pool"] ["lines","races"] (aw fX):=fs
theorem AX {dS aF C:Addr}(G:GW mg)(GC:GC P w K mg dS aF)(T:CK K mg "Pool" hU C){k:Nat}(FP:Fn P w K mg base bA k "read_pool" ["words","races"] (w8 K C)){f:Addr}{fd:FuncData}(F:dk K "read_pools" "read_pools" fX f fd) :
  a8 P w K mg base bA (k+1) f fd ["lines","races"] (tj K C):=by
 refine F.om jN λLG A outer s H vs Q E hr h=>?_;obtain⟨a,b,ls,rs,rfl,⟨as,hA,hP⟩,ok,⟨V9,V_,O8⟩,O4,q0,q1⟩:=h;have LH:as.length=ls.length:=Paired.length hP;have hu:=uK hr;refine⟨_,af (aO (aB kX (bg G.len (pv 0)) (bb GC.pools) (aJ _)) (ak (az cA)) aC)
  (af (a7 2 jN.nd (bV ah))
  (af (a7 3 jN.nd qd)
  (af (df YA rfl (bJ (pv 0)) (bp 4 jN.nd)
   (af (a7 5 jN.nd (aR FP hr a9 (aa (pv 4) (aa (pv 1) ah))))
   (af (aO (PW.pt (eG (aB tu (pv 5) cA (aJ _)) (cS (pS (ui hu (a6 (pv 5) rfl) (pv 3)))))) (ak (az cA)) aC)
   (af (lY hu (pv 3) (a6 (pv 5) rfl) mG rfl)
   (ak (dP (qu PySem.F.plainAttrs_list PySem.F.slot_list_append PySem.F.type_list_append iA (pv 2) (aa (pv 5) ah))))))))
  (ak (az (pv 2)))))),?_⟩
 refine aS (jy (aU (ag rfl) (.inl hA)) aD) (λh=>?_) (λh=>?_)
 · refine bU aD (q0 ?_ H (au.refl H));rw[Xu,LH] at h;unfold iN;rw[Xw (by have:=XR h;omega)]
 rw[Xu,LH] at h;have hl:¬64 < ls.length:=by have:=Ye h;omega
 have eP:iN ls rs=b6 rs [] ls:=by unfold iN;rw[Xv hl]
 rw[eP] at q0 q1;refine⟨X2 _,λpl LO=>?_⟩;intro dn PQ;have O9:dn≠pl:=by
  rintro rfl;rw[ae] at PQ;cases PQ
 have O_:H dn=none:=by rwa [aq O9] at PQ
 have S0:au H (upd (upd H pl (.lst [])) dn (.dK [])):=((au.refl H).laid LO).laid O_;refine⟨_,rfl,a,rfl,⟨_,S0.seq hA⟩,dq (K:=K) (a:=a) (xs:=as.map V.ref) (λi σ H'=>∃(v4 v5:Option V) (acc:List aK) (pas:List Addr) (LD:List (Key×V)),σ=[some (.ref a),some (.ref b),some (.ref pl),some (.ref dn),v4,v5]/\au H H' /\
   H' pl=some (.lst (pas.map V.ref))/\H' dn=some (.dK LD)/\DD LD (acc.map (·.name))/\Paired (IF K C H H' pl) pas acc/\acc.length<=i/\b6 rs acc (ls.drop i)=b6 rs [] ls)
  ⟨none,none,[],[],[],rfl,S0,by rw[aq O9.symm];exact ae,ae,⟨XD _,λ_=>rfl⟩,.nil,XD _,rfl⟩ (λi σ H' _ ⟨_,_,_,_,_,_,S1,_⟩=>S1.seq hA) ?_ ?_⟩
 · rintro i x σ H' hi ⟨v4,v5,acc,pas,LD,rfl,S1,e1,e2,P6,hI,hlen,hc⟩;rw[Xz] at hi;obtain⟨ai,L6,rfl⟩:=X6.mp hi;obtain⟨ws,L8,Wa⟩:=Paired.qL hP L6;have LN:i < ls.length:=(XI.mp L8).1;have hd:ls.drop i=ws::ls.drop (i+1):=by
    rw[YS LN];congr 1;exact X8 ((XE LN).symm.trans L8)
   rw[hd] at hc;have hc:(match eX ws rs with
    |none=>none
    |some p=>if (acc.map (·.name)).contains p.name=true then none else b6 rs (acc++[p]) (ls.drop (i+1)))=b6 rs [] ls:=hc
   refine⟨_,rfl,_,rfl,ai,b,ws,V9,rs,rfl,S1.seq Wa,ok ws (X0 L8),S1.seq V_,iU O8 S1,O4,λhn H2 e=>?_,λp hp H2 x dx fa ME e nx SY hx Wb Np=>?_⟩
   · refine⟨_,rfl,rfl,_,rfl,?_⟩;rw[hn] at hc;exact q0 hc.symm H2 (S1.trans e)
   · refine⟨_,rfl,rfl,_,rfl,?_⟩;rw[hp] at hc;have hc:(if (acc.map (·.name)).contains p.name=true then none else b6 rs (acc++[p]) (ls.drop (i+1)))=b6 rs [] ls:=hc;have S9:=e _ _ e2;have Px:=e _ _ e1;have S2:=S1.trans e;have gt:gj H2 dn (.str (st p.name)) (cQ LD (Sum.inr (st p.name))):=gj.k (k:=Sum.inr (st p.name)) S9;refine (tR (bf (ag rfl) hx T.cl (T.no _ (by simp)) k6) (ag rfl) gt) _ ?_;rw[P6.2];refine gH (λh=>?_) (λh=>?_)
     · rw[Xw h] at hc;exact q0 hc.symm H2 S2
     · rw[Xv h] at hc;have O5:x≠pl:=(ao e1 nx).symm;have Wc:x≠dn:=(ao e2 nx).symm;have OM:fa≠pl:=(ao e1 SY).symm;have Wd:fa≠dn:=(ao e2 SY).symm;have Pa:pas.length=acc.length:=Paired.length hI;refine⟨_,rfl,?_⟩;refine (bf (ag rfl) hx T.cl (T.no _ (by simp)) k6) _ ⟨dn,_,rfl,.inl ⟨LD,Sum.inr (st p.name),S9,rfl,?_,rfl⟩,?_⟩
       · have:=P6.1;rw[Xu] at this;rw[XZ];omega
       refine⟨_,rfl,.inl ⟨rfl,_,aP.of (by rw[aq O9.symm];exact Px)⟩,_,rfl,pl,_,_,rfl,rfl,by rw[aq O9.symm];exact Px,?_,?_⟩
       · rw[Xu,XZ];omega
       refine⟨_,_,acc++[p],pas++[x],_,rfl,λc u z=>?_,?_,by rw[aq O9];exact ae,?_,?_,by rw[XT];simp;omega,hc⟩
       · rw[aq (ao z LO),aq (ao z O_)];exact S2 c u z
       · rw[ae,XQ];rfl
       · rw[XQ];exact P6.put
       · have keep:∀c u,H2 c=some u->c≠pl->c≠dn->(upd (upd H2 dn (.dK (putK LD (Sum.inr (st p.name)) (V.bl true)))) pl (.lst (pas.map V.ref++[V.ref x]))) c=some u:=λc u z n1 n2=>by
          rw[aq n1,aq n2];exact z
         refine Paired.snoc (Paired.d9 hI λc q z=>?_) ⟨dx,fa,ME,keep _ _ hx O5 Wc,OM,keep _ _ Wb OM Wd,?_⟩
         · obtain⟨MC,P7,NV,z1,z2,z3,z4⟩:=z;have n1:c≠pl:=dG z1 e1 (by intro q;cases q);have n2:c≠dn:=dG z1 e2 (by intro q;cases q);have n3:P7≠dn:=dG z3 e2 (by intro q;cases q);exact⟨MC,P7,NV,keep _ _ (e _ _ z1) n1 n2,z2,keep _ _ (e _ _ z3) z2 n3,z4⟩
         · exact Np _ O8
 · rintro σ H' ⟨v4,v5,acc,pas,LD,rfl,S1,e1,e2,P6,hI,hlen,hc⟩;rw[Xu,LH,Zq (XD _)] at hc;have hc:some acc=b6 rs [] ls:=hc;refine⟨_,rfl,q1 acc hc.symm H' pl S1 ⟨pas,aP.of e1,Paired.d9 hI λc q z=>?_⟩⟩;obtain⟨MC,P7,NV,z1,z2,z3,z4⟩:=z;exact⟨MC,P7,z1,NV,aP.of z3,iU z4 S1⟩
end
theorem tV (c:Nat):∀(l acc:W),TL.nP [c] 0 acc l=aV c acc l
 |[],acc=>by rw[TL.oF];rfl
 |x::r,acc=>by
  by_cases h:x=c
  · subst h;rw[TL.ye (by unfold TL.pre;simp)];show acc::TL.nP [x] 0 [] r=(if x=x then acc::aV x [] r else _);rw[Xw rfl,tV x r []]
  · rw[TL.vj (TL.uN [] r h)];show TL.nP [c] 0 (acc++[x]) r=(if x=c then _ else aV c (acc++[x]) r);rw[Xv h,tV c r (acc++[x])]
theorem lM {c:Nat}(hc:c < 256)(l:W):Txt.split (st l) (st [c])=(aV c [] l).map st:=by
 refine TL.qE ?_;rw[TL.zG (st l) (st [c]) (by rw[qm];simp) (TL.D5 (by show [c].toArray.all (· < 256)=true;simp[hc])),qm,qm,tV,XY];symm;exact (Yo λw _=>qm w).trans (List.map_id _)
theorem jY (c:Nat):∀(l w:W),aV c w l≠[]
 |[],_=>by simp[aV]
 |x::l,w=>by
  unfold aV;split
  · simp
  · exact jY c l _
theorem d8 (c:Nat):∀(l acc:W),∀w∈aV c acc l,w.length<=acc.length+l.length/\∀x∈w,x∈acc∨x∈l
 |[],acc,w,hw=>by
  have:w=acc:=by simpa [aV] using hw
  subst this;exact⟨by simp,λx hx=>.inl hx⟩
 |y::l,acc,w,hw=>by
  unfold aV at hw;split at hw
  · rcases Xy.mp hw with rfl|hw
    · exact⟨by simp,λx hx=>.inl hx⟩
    · obtain⟨h1,h2⟩:=d8 c l [] w hw;refine⟨by simp at h1 ⊢;omega,λx hx=>?_⟩;rcases h2 x hx with h|h
      · simp at h
      · exact .inr (XO _ h)
  · obtain⟨h1,h2⟩:=d8 c l (acc++[y]) w hw;refine⟨by simp at h1 ⊢;omega,λx hx=>?_⟩;rcases h2 x hx with h|h
    · rcases Yk.mp h with h|h
      · exact .inl h
      · have:x=y:=by simpa using h
        exact .inr (by simp[this])
    · exact .inr (XO _ h)
theorem fc (c:Nat):∀(l acc:W),(aV c acc l).length<=l.length+1
 |[],_=>by simp[aV]
 |y::l,acc=>by
  unfold aV;split
  · have:=fc c l [];simp;omega
  · have:=fc c l (acc++[y]);simp;omega
theorem CH:Str.ofString "\n"=st [10]:=by rw[kU];rfl
theorem BQ:Str.ofString " "=st [32]:=by rw[kU];rfl
theorem EK (l:W):Txt.endswith (st l) (st [10])=decide (l.getLast?=some 10):=by
 unfold Txt.endswith;rw[PySem.StrLaws.subAt_eq,b8,b8];show (decide (0+1<=l.length)&&((l.drop (l.length - 1)).take 1==[10]))=_;rcases List.eq_nil_or_concat l with rfl|⟨r,x,rfl⟩
 · rfl
 · rw[List.concat_eq_append,List.getLast?_concat];simp;rw[X9,Yl,XC]
theorem AY (l:W):zx (st l) none (some (-1))=st l.dropLast:=by
 unfold zx;rw[HT.ib];refine YB (λz:aaf=>(⟨z.toArray⟩:Str)) ?_;show (l.drop 0).take (HT.cg (st l).length (st l).length (some (-1)) - 0)=l.dropLast;rw[b8,List.drop_zero,Nat.sub_zero,List.dropLast_eq_take];congr 1;unfold HT.cg;simp;omega
theorem mL {α:Type}(p:α->Bool):∀(l:List α) (n:Nat),n<=l.length->(∀j x,j < n->l[j]?=some x->p x=true)->(∀x,l[n]?=some x->p x=false)->(l.takeWhile p).length=n/\l.takeWhile p=l.take n/\l.dropWhile p=l.drop n
 |[],n,h,_,_=>by
  have:n=0:=by simpa using h
  subst this;exact⟨rfl,rfl,rfl⟩
 |x::l,0,_,_,h2=>by
  have:=h2 x rfl;simp[ZF,Z6,this]
 |x::l,n+1,h,h1,h2=>by
  have hx:=h1 0 x (by omega) rfl;obtain⟨a,b,c⟩:=mL p l n (by simpa using h) (λj y hj hy=>h1 (j+1) y (by omega) hy) (λy hy=>h2 y hy);refine⟨?_,?_,?_⟩
  · rw[ZF,Xw hx,XG,a]
  · rw[ZF,Xw hx,b];rfl
  · rw[Z6,Xw hx,c];rfl
def jx (H:Hp)(D:Addr)(v:V)(ws:List W):Prop:=match bC ws with
 |none=>v=.cj
 |some hs=>∃x,v=.ref x/\x≠D/\H x=some (.lst (nV hs))
theorem rS {H:Hp}{D:Addr}:∀{vs:List V} {ls:List (List W)},Paired (jx H D) vs ls->¬none∈ls.map bC->∃as:List Addr,vs=as.map V.ref/\Paired (λa hs=>H a=some (.lst (nV hs))) as ((ls.map bC).filterMap id)
 |_,_,.nil,_=>⟨[],rfl,.nil⟩
 |v::vs,ws::ls,.cons r t,h=>by
  obtain⟨as,e,p⟩:=rS t λz=>h (by simp at z ⊢;exact .inr z);unfold jx at r;cases hr:bC ws with
  |none=>exact absurd (by simp[hr]) h
  |some hs =>
   rw[hr] at r;obtain⟨x,rfl,_,hx⟩:=r;refine⟨x::as,by rw[e];rfl,?_⟩;rw[XN,hr];exact .cons hx p
theorem nE {H:Hp}{D:Addr}:∀{vs:List V} {ls:List (List W)},Paired (jx H D) vs ls->(vs.any λv=>decide (v=.cj))=decide (none∈ls.map bC)
 |_,_,.nil=>rfl
 |v::vs,ws::ls,.cons r t=>by
  rw[Y3,nE t];unfold jx at r;cases hr:bC ws with
  |none =>
   rw[hr] at r;simp[hr,show v=.cj from r]
  |some hs =>
   rw[hr] at r;obtain⟨x,rfl,_⟩:=r;simp[hr]
theorem nH {K:aag}{H:Hp}{D:Addr}:∀{vs:List V} {ls:List (List W)},Paired (jx H D) vs ls->∀v∈vs,v=.cj∨∃a ys,v=.ref a/\aP K H a ys
 |_,_,.nil,v,hv=>by simp at hv
 |v::vs,ws::ls,.cons r t,u,hu=>by
  rcases Xy.mp hu with rfl|hu
  · unfold jx at r;cases hr:bC ws with
    |none=>rw[hr] at r;exact .inl r
    |some hs =>
     rw[hr] at r;obtain⟨x,rfl,_,hx⟩:=r;exact .inr ⟨x,_,rfl,aP.of hx⟩
  · exact nH t u hu
end Bw
namespace L2
open PySem PySem.Spec PyProof.Rows
theorem Az {c:TT}{tb:TS}{D:Ends}{σ:St}{H:Hp}(Pv:St->Hp->Prop)(μ:St->Hp->Nat)(h0:Pv σ H)
  (hb:∀σ H,Pv σ H->∃b,Tv c σ H b/\(b=true->tb {D with nx:=λσ' H'=>Pv σ' H'/\μ σ' H' < μ σ H,ct:=λσ' H'=>Pv σ' H'/\μ σ' H' < μ σ H,bk:=D.nx} σ H)/\(b=false->D.nx σ H)):wg c tb D σ H:=by
 refine⟨λm σ H=>m=μ σ H/\Pv σ H,⟨_,rfl,h0⟩,?_⟩;rintro m σ H ⟨rfl,p⟩;obtain⟨b,hv,q1,q2⟩:=hb σ H p;refine hv _ ?_;cases b with
 |true=>exact qj ⟨_,λσ' H' ⟨p',l⟩=>⟨_,l,rfl,p'⟩,q1 rfl⟩
 |false=>exact u6 (q2 rfl)
theorem Cs {c:TT}{tb:TS}{D:Ends}{σ:St}{H:Hp}(Pv En:St->Hp->Prop)(μ:St->Hp->Nat)(h0:Pv σ H)(hb:∀σ H,Pv σ H->∃b,Tv c σ H b/\(b=true->tb {D with nx:=λσ' H'=>Pv σ' H'/\μ σ' H' < μ σ H,ct:=λσ' H'=>Pv σ' H'/\μ σ' H' < μ σ H,bk:=D.nx} σ H)/\(b=false->En σ H))
  (aft:∀σ H,En σ H->D.nx σ H):wg c tb D σ H:=Az Pv μ h0 λσ H p=>let ⟨b,v,q1,q2⟩:=hb σ H p;⟨b,v,q1,λe=>aft _ _ (q2 e)⟩
end L2
namespace Bw
open PySem PySem.Spec PyProof.Rows L2 Tote
section
variable {P:Program}{w:World}{K:aag}{mg:aai}{base:Heap}
def xq (K:aag) (C:Addr):Sp:=λvs H Q _=>∃(a:Addr) (cs:aaf),vs=[.ref a]/\aP K H a (nV cs)/\cs.length<=65536 /\
 (dH (cs.map sg)=none->∀H',au H H'->Q .cj H')/\(∀ps,dH (cs.map sg)=some ps->∀H' x,au H H'->cV K C H' x ps->Q (.ref x) H')
theorem Ft (c:Nat):sg c < 128:=by
 unfold sg;split
 · rename_i h;unfold t7 isLet bX at h;simp at h;omega
 · omega
theorem EU {t:W}(h:∀c∈t,c < 128)(hl:t.length<=65536):∀ws∈(aV 10 [] t).map (aV 32 []),mR ws/\ws≠[]:=by
 intro ws L8;obtain⟨l,We,rfl⟩:=X4.mp L8;obtain⟨h1,h2⟩:=d8 10 t [] l We;have h3:=fc 32 l [];refine⟨⟨by simp at h1;omega,λw hw=>?_⟩,jY 32 l []⟩;obtain⟨h4,h5⟩:=d8 32 l [] w hw;refine⟨by simp at h1 h4;omega,λc hc=>?_⟩;rcases h5 c hc with z|z
 · simp at z
 · rcases h2 c z with z|z
   · simp at z
   · exact h c z
theorem gK:aG ["codes","text","lines","behind_races","races","line","words"] ["codes"] (aw gX):=fs
theorem ES {dS aF C:Addr}(G:GW mg)(GC:GC P w K mg dS aF){k:Nat}(FX:Fn P w K mg base bA k "text_of" ["codes"] (uo K))(FD:Fn P w K mg base bA k "is_day" ["words"] (B_ K))(FR:Fn P w K mg base bA k "read_race" ["words"] (xa K))
  (FP:Fn P w K mg base bA k "read_pools" ["lines","races"] (tj K C)){f:Addr}{fd:FuncData}(F:dk K "read_card" "read_card" gX f fd):a8 P w K mg base bA (k+1) f fd ["codes"] (xq K C):=by
 refine F.om gK λLG A outer s H vs Q E hr h=>?_;obtain⟨a,cs,rfl,hS,NM,q0,q1⟩:=h;have hu:=uK hr;refine⟨_,af (a7 1 gK.nd (aR FX hr a9 (aa (pv 0) ah)))
  (af (aO (cC (hX (CL PySem.F.slot_str_endswith PySem.F.type_str_endswith vL (pv 1) bq))) (ak (az cA)) aC)
  (af (oP (i:=2) rfl gK.nd rfl rfl (uf rfl rfl rfl rfl) (bJ (mj (cK Ht (pv 1) ft (cY (vW qt ax))) bq)) (bz (own:=[("line",5)]) rfl) (λ_ _ _ _ _=>bp 5 gK.nd) (λ_ _ _ _ _=>cu) (λ_ _ _ _ _=>mj (pv 5) bq))
  (af (aO (cC (hX (aR FD hr a9 (aa (bo aM (pv 2) ax (λ_ _=>rfl)) ah)))) (ak (az cA)) aC)
  (af (a7 3 gK.nd ax)
  (af (Bo YA (PW.pt (tE (aB nZ (pv 3) (bg G.len (pv 2)) (aJ _)) (ox (aB cp (bo aM (bo aM (pv 2) (pv 3) (λ_ _=>rfl)) ax (λ_ _=>rfl)) bq (aJ _))))) (ak (Bm (i:=3) gK.nd rfl (Or.inl rfl) ax AH)))
  (af (oP (i:=4) rfl gK.nd rfl rfl (uf rfl rfl rfl rfl) (bJ (cK fk (pv 2) (cY ax) (cY (pv 3)))) (bz (own:=[("words",6)]) rfl) (λ_ _ _ _ _=>bp 6 gK.nd) (λ_ _ _ _ _=>cu) (λ_ _ _ _ _=>aR FR hr a9 (aa (pv 6) ah)))
  (af (aO (PW.pt (eG (cC (cD cf cf ax (bg G.len (pv 4)) (bb GC.races))) (cS (aB (zy hu) cA (pv 4) (by with_unfolding_all rfl))))) (ak (az cA)) aC)
  (ak (az (aR FP hr a9 (aa (cK fk (pv 2) (cY (pv 3)) ft) (aa (pv 4) ah)))))))))))),?_⟩
 refine⟨_,rfl,a,cs,rfl,hS,by omega,λH1 S1=>?_⟩;generalize hT:cs.map sg=T at q0 q1;have lenT:T.length=cs.length:=by rw[←hT,Xu]
 have Rr:∀c∈T,c < 128:=λc hc=>by
  rw[←hT] at hc;obtain⟨x,_,rfl⟩:=X4.mp hc;exact Ft x
 have hz:(st T).length<=sizeLine:=by rw[b8,XZ];omega
 refine⟨_,rfl,⟨_,rfl⟩,_,_,rfl,rfl,_,rfl,?_⟩;have eE:Txt.endswith (st T) (Str.ofString "\n")=decide (T.getLast?=some 10):=by rw[CH];exact EK T
 rw[eE];refine gH (λh=>?_) (λh=>?_)
 · refine q0 ?_ H1 S1;unfold dH;rw[Xv (by simpa using h)]
 have hE:T.getLast?=some 10:=by simpa using h
 generalize Oo:aV 10 [] T.dropLast=LL;have eS:Txt.split (zx (st T) none (some (-1))) (Str.ofString "\n")=LL.map st:=by rw[AY,CH,lM (by decide),Oo]
 have MN:T.dropLast.length<=65536:=by rw[List.length_dropLast];omega
 have lenLL:LL.length<=65537:=by rw[←Oo];have:=fc 10 T.dropLast [];omega
 have Wf:∀l∈LL,l.length<=65536:=λl hl=>by
  rw[←Oo] at hl;have:=(d8 10 T.dropLast [] l hl).1;simp at this;omega
 have MO:∀ws∈LL.map (aV 32 []),mR ws/\ws≠[]:=by
  rw[←Oo];exact EU (λc hc=>Rr c ((List.dropLast_sublist T).subset hc)) MN
 generalize P8:LL.map (aV 32 [])=LS at MO;have Wg:qx T=LS:=by unfold qx;rw[Oo,P8]
 have Nv:LS.length=LL.length:=by rw[←P8,Xu]
 refine⟨_,rfl,_,rfl,_,rfl,_,rfl,hz,⟨_,rfl⟩,_,_,rfl,rfl,by decide +kernel,?_,λp1 Pb=>?_⟩
 · have:=n_ (st T) none (some (-1));rw[b8] at this;rw[XZ];omega
 rw[eS];refine⟨p1,rfl,⟨_,aP.of ae⟩,λD hD=>?_⟩;have eM:(LL.map st).map V.str=sV LL:=by unfold sV;rw[XY];rfl
 have S2:au H1 (upd H1 p1 (.lst ((LL.map st).map V.str))):=(au.refl H1).laid Pb;generalize P9:upd H1 p1 (.lst ((LL.map st).map V.str))=H2 at hD S2;have NW:aP K H2 p1 (sV LL):=aP.of (by rw[←P9,ae,eM]);refine iO (K:=K) (a:=p1) (xs:=sV LL) (λi H'=>∃as:List Addr,au H2 H'/\H' D=some (.lst (as.map V.ref))/\Paired (λb ws=>b≠D/\H' b=some (.lst (sV ws))) as (LS.take i)) ⟨[],(au.refl H2).laid hD,ae,.nil⟩ (λi H' _ ⟨_,S,_⟩=>S.seq NW) ?_ ?_
 · rintro i x H' hi ⟨as,S3,e1,hP⟩;unfold sV at hi;rw[Xz] at hi;obtain⟨l,hl,rfl⟩:=X6.mp hi;have LN:i < LL.length:=(XI.mp hl).1;have LH:as.length=i:=by rw[Paired.length hP,XU];omega
   have L8:LS[i]?=some (aV 32 [] l):=by rw[←P8,Xz,hl];rfl
   refine⟨rfl,_,rfl,⟨_,rfl⟩,_,_,rfl,rfl,by decide +kernel,?_,λp hp=>?_⟩
   · have:=Wf l (X0 hl);rw[b8,XZ];omega
   have nD:p≠D:=(ao e1 hp).symm;refine⟨_,by rw[aq nD.symm];exact e1,?_,as++[p],?_,?_,?_⟩
   · rw[Xu,LH,XZ];omega
   · intro c u z;rw[aq (ao z hD),aq (ao (S3 c u z) hp)];exact S3 c u z
   · rw[ae,XQ];rfl
   · rw[take_snoc L8];refine Paired.snoc (Paired.d9 hP λb ws z=>?_) ⟨nD,?_⟩
     · refine⟨z.1,?_⟩;rw[aq z.1,aq (ao z.2 hp)];exact z.2
     · rw[aq nD,ae,BQ,lM (by decide)];unfold sV;rw[XY];rfl
 rintro H3 ⟨as,S3,e1,P2⟩;rw[dI,←Nv,Ys] at P2;have hP:Paired (λb ws=>aP K H3 b (sV ws)) as LS:=Paired.d9 P2 λb ws z=>aP.of z.2;have hA:aP K H3 D (as.map V.ref):=aP.of e1;have Wh:au H H3:=S1.trans (S2.trans S3);have LH:as.length=LS.length:=Paired.length hP;obtain⟨d,ls,MA⟩:∃d ls,LS=d::ls:=by
  cases hq:LS with
  |nil =>
   rw[←P8,Z4,←Oo] at hq;exact absurd hq (jY 10 _ _)
  |cons d ls=>exact⟨d,ls,rfl⟩
 have at_:∀(j:Nat) ws,LS[j]?=some ws->∃b,n8 (as.map V.ref) (j:Int)=some (.ref b)/\aP K H3 b (sV ws):=λj ws hj=>by
  obtain⟨b,hb,hs⟩:=Paired.at2 hP hj;exact⟨b,cy (by rw[Xz,hb];rfl),hs⟩
 have eC:dH T=if iG d=true then eU [] ls else none:=by
  unfold dH;rw[Xw hE,Wg,MA]
 obtain⟨b0,Oy,Rt⟩:=at_ 0 d (by rw[MA];rfl);refine (aX (ag rfl) aD hA Oy) _ ⟨b0,d,rfl,Rt,(MO d (by rw[MA];simp)).1,λH4 S4=>⟨_,rfl,?_⟩⟩;have S_:=Wh.trans S4;refine gH (λh=>?_) (λh=>?_)
 · refine q0 ?_ H4 S_;rw[eC,Xv (by simpa using h)]
 rw[Xw (by simpa using h)] at eC;refine cH aD ?_;have Pc:=S4.seq hA;refine Cs (λσ H'=>∃b:Nat,σ=[some (.ref a),some (.str (st T)),some (.ref D),some (.int (b:Nat)),none,none,none]/\H'=H4/\1<=b/\b<=LS.length/\∀j ws,1<=j->j < b->LS[j]?=some ws->aQ ws=true)
  (λσ H'=>∃b:Nat,σ=[some (.ref a),some (.str (st T)),some (.ref D),some (.int (b:Nat)),none,none,none]/\H'=H4/\1<=b/\b<=LS.length/\(∀j ws,1<=j->j < b->LS[j]?=some ws->aQ ws=true)/\∀ws,LS[b]?=some ws->aQ ws=false)
  (λ(σ:L2.St) (_:Hp)=>match σ[3]? with|some (some (V.int z))=>LS.length - z.toNat|_=>0) ⟨1,rfl,rfl,XD _,by rw[MA];simp,λj ws h1 h2=>by omega⟩ ?_ ?_
 · rintro σ H' ⟨b,rfl,rfl,NC,M9,Pd⟩;have Pe:∀ws,LS[b]?=some ws->∀ba,aP K H' ba (sV ws)->n8 (as.map V.ref) (b:Int)=some (.ref ba)->Ev (kJ JX (kJ (As K) (kJ (As K) (cJ 2) (cJ 3)) (tC (.int 0))) (tC (.str (Str.ofString "race")))) [some (.ref a),some (.str (st T)),some (.ref D),some (.int (b:Nat)),none,none,none] H' (.bl (aQ ws)):=λws L8 ba MP Pf=>by
    have LQ:=(MO ws (X0 L8)).2;have:=cb (aX (aX (ag (n:=2) (σ:=[some (.ref a),some (.str (st T)),some (.ref D),some (.int (b:Nat)),none,none,none]) rfl) (ag (n:=3) rfl) Pc Pf) (aD (v:=.int ((0:Nat):Int))) MP (dF (i:=0) (Yz.mpr LQ))) (aD (v:=.str (Str.ofString "race")));rw[i_] at this;have e:decide (ws.getD 0 []=cd "race")=aQ ws:=by
     unfold aQ;cases ws with
     |nil=>exact absurd rfl LQ
     |cons x r =>
      show decide (x=cd "race")=(x==cd "race");rw[X9,XC,Yl]
    rw[e] at this;exact this
   by_cases LJ:b < LS.length
   · obtain⟨ws,L8⟩:∃ws,LS[b]?=some ws:=⟨_,XE LJ⟩;obtain⟨ba,Pf,MP⟩:=at_ b ws L8;refine⟨_,pW (jy (ag rfl) (aU (ag rfl) (.inl Pc))) λ_=>aI (Pe ws L8 ba (S4.seq MP) Pf),λh=>?_,λh=>?_⟩
     · rw[XB] at h;refine⟨_,rfl,_,_,rfl,rfl,⟨⟨b+1,rfl,rfl,by omega,by omega,λj Pg h1 h2 h3=>?_⟩,?_⟩⟩
       · by_cases e:j=b
         · subst e;rw[L8] at h3;cases h3;exact h.2
         · exact Pd j Pg h1 (by omega) h3
       · show LS.length - ((b:Int)+1).toNat < LS.length - ((b:Nat):Int).toNat;omega
     · have hf:aQ ws=false:=by
        rw[YT] at h;rcases h with h|h
        · rw[Xu,LH] at h;have:=Ye h;omega
        · exact h
       exact⟨b,rfl,rfl,NC,M9,Pd,λPg z=>by rw[L8] at z;cases z;exact hf⟩
   · refine⟨_,pW (c:=false) (jy (ag rfl) (aU (ag rfl) (.inl Pc))) λh=>?_,λh=>?_,λ_=>?_⟩
     · rw[Xu,LH] at h;have:=XR h;omega
     · rw[Bool.and_false] at h;cases h
     · exact⟨b,rfl,rfl,NC,M9,Pd,λPg z=>by rw[Yy (by omega)] at z;cases z⟩
 rintro σ H' ⟨b,rfl,e4,NC,M9,Pd,Wi⟩;subst e4;obtain⟨Wj,Wk,Wl⟩:=mL aQ ls (b - 1) (by rw[MA] at M9;simp at M9;omega) (λj x hj hx=>Pd (j+1) x (by omega) (by omega) (by rw[MA];exact hx)) (λx hx=>Wi x (by rw[MA,show b=b - 1+1 by omega];exact hx));have eR:=ph ls [] (by simp);rw[Wj,Wk,Wl] at eR;refine⟨_,rfl,_,rfl,_,rfl,_,rfl,D,as.map V.ref,rfl,Pc,λp2 NW=>⟨p2,rfl,⟨_,aP.of ae⟩,λR hR=>?_⟩⟩;have Ru:fC (as.map V.ref) (some 1) (some (b:Int))=((as.drop 1).take (b - 1)).map V.ref:=by
  have:=zl (xs:=as.map V.ref) (i:=1) (j:=b) (by rw[Xu,LH];exact M9);rw[List.map_take,ZZ];exact this
 have S5:au H' (upd H' p2 (.lst (fC (as.map V.ref) (some 1) (some (b:Int))))):=(au.refl H').laid NW;have P_:aP K (upd H' p2 (.lst (fC (as.map V.ref) (some 1) (some (b:Int))))) p2 (((as.drop 1).take (b - 1)).map V.ref):=aP.of (by rw[ae,Ru]);generalize upd H' p2 (.lst (fC (as.map V.ref) (some 1) (some (b:Int))))=H5 at hR S5 P_;have O8:Paired (λb ws=>aP K H3 b (sV ws)) ((as.drop 1).take (b - 1)) (ls.take (b - 1)):=by
  have:=Paired.tk (b - 1) (Paired.dp 1 hP);rw[MA] at this;exact this
 have Rv:∀ws∈ls.take (b - 1),mR ws/\ws≠[]:=λws z=>MO ws (by rw[MA];exact XO _ (Zb z));have Rw:((as.drop 1).take (b - 1)).length=(ls.take (b - 1)).length:=Paired.length O8;refine iO (K:=K) (a:=p2) (xs:=((as.drop 1).take (b - 1)).map V.ref) (λi H6=>∃vs:List V,au H5 H6/\H6 R=some (.lst vs)/\Paired (jx H6 R) vs ((ls.take (b - 1)).take i)) ⟨[],(au.refl H5).laid hR,ae,.nil⟩ (λi H6 _ ⟨_,S,_⟩=>S.seq P_) ?_ ?_
 · rintro i x H6 hi ⟨vs,S6,e1,hV⟩;rw[Xz] at hi;obtain⟨ba,Pf,rfl⟩:=X6.mp hi;obtain⟨ws,L8,MP⟩:=Paired.qL O8 Pf;have LN:i < (ls.take (b - 1)).length:=(XI.mp L8).1;have M_:vs.length=i:=by rw[Paired.length hV,XU];omega
   have Mu:=Rv ws (X0 L8);have lenls:ls.length<=65537:=by have:=Nv;rw[MA] at this;simp at this;omega
   have small:vs.length < sizeLine:=by
    rw[M_,XZ];have:=List.length_take_le (b - 1) ls;have:=XU (i:=b - 1) (l:=ls);omega
   have Nw:∀H7,au H6 H7->∀(y:V),Paired (jx (upd H7 R (.lst (vs++[y]))) R) vs ((ls.take (b - 1)).take i):=λH7 e y=>Paired.d9 hV λv Pg z=>by
    unfold jx at z ⊢;cases hr:bC Pg with
    |none=>rw[hr] at z;exact z
    |some hs =>
     rw[hr] at z;obtain⟨x,ex,nx,hx⟩:=z;exact⟨x,ex,nx,by rw[aq nx];exact e _ _ hx⟩
   refine⟨rfl,_,rfl,ba,ws,rfl,S6.seq (S5.seq (S4.seq MP)),Mu.1,Mu.2,λhn H7 e=>?_,λhs hn H7 x e nx hx=>?_⟩
   · refine⟨vs,e _ _ e1,small,vs++[.cj],λc u z=>?_,ae,?_⟩
     · rw[aq (ao z hR)];exact e _ _ (S6 c u z)
     · rw[take_snoc L8];refine Paired.snoc (Nw H7 e _) ?_;unfold jx;rw[hn]
   · have nR:x≠R:=(ao e1 nx).symm;refine⟨vs,e _ _ e1,small,vs++[.ref x],λc u z=>?_,ae,?_⟩
     · rw[aq (ao z hR)];exact e _ _ (S6 c u z)
     · rw[take_snoc L8];refine Paired.snoc (Nw H7 e _) ?_;unfold jx;rw[hn];exact⟨x,rfl,nR,by rw[aq nR];exact hx⟩
 rintro H6 ⟨vs,S6,e1,hV⟩;rw[Xu,Rw,Ys] at hV;have M_:vs.length=b - 1:=by
  rw[Paired.length hV,XU];rw[MA] at M9;simp at M9;omega
 have Rx:au H' H6:=S5.trans S6;have Ry:au H H6:=S_.trans Rx;refine aS (gI (fh (cE aD (aU (ag rfl) (.inl (aP.of e1))) aD)) λ_=>aI (λR' r'=>⟨_,rfl,R,vs,rfl,rfl,aP.of e1,nH hV,r'⟩)) (λh=>?_) (λh=>?_)
 · refine bU aD (q0 ?_ H6 Ry);rw[eC,eR,Xv];rintro⟨z1,z2,z3⟩;rw[M_,nE hV,Yj z3] at h;simp only[ZJ,Ym,YT,Yc] at h;simp only[Y5] at z1 z2;omega
 · rw[M_,nE hV] at h;simp only[YF,Yp,XB,XC,Yc] at h;obtain⟨⟨z1,z2⟩,z3⟩:=h;rw[Xw ⟨by simp only[Y5];omega,by simp only[Y5];omega,z3⟩,Yq] at eR;obtain⟨Wm,ev,Wn⟩:=rS hV z3;subst ev;have Wo:=Rx.seq Pc;refine⟨_,rfl,_,rfl,_,rfl,D,as.map V.ref,rfl,Wo,λp3 Wq=>?_⟩;have S7:au H6 (upd H6 p3 (.lst (fC (as.map V.ref) (some (b:Int)) none))):=(au.refl H6).laid Wq;have Ph:fC (as.map V.ref) (some (b:Int)) none=(as.drop b).map V.ref:=by
    unfold fC;rw[HT.iH,HT.ib,Xu,LH,Zv M9,ZZ];refine Yr ?_;rw[Yn,Xu,LH];exact XD _
   refine⟨_,rfl,p3,R,ls.drop (b - 1),((ls.take (b - 1)).map bC).filterMap id,rfl,⟨as.drop b,aP.of (by rw[ae,Ph]),?_⟩,?_,⟨Wm,S7.seq (aP.of e1),Paired.d9 Wn λc hs z=>S7.seq (aP.of z)⟩,?_,?_,?_⟩
   · have:=Paired.dp b hP;rw[show LS.drop b=ls.drop (b - 1) by rw[MA,show b=b - 1+1 by omega];rfl] at this;exact Paired.d9 this λc ws z=>S7.seq (Rx.seq (S4.seq z))
   · intro ws z;exact (MO ws (by rw[MA];exact XO _ (Y4 z))).1
   · have:=List.length_filterMap_le id ((ls.take (b - 1)).map bC);rw[Xu,XU] at this;omega
   · intro hn H8 S8;exact q0 (by rw[eC,eR];exact hn) H8 (Ry.trans (S7.trans S8))
   · intro ps hs H8 x S8 hx;exact q1 ps (by rw[eC,eR];exact hs) H8 x (Ry.trans (S7.trans S8)) hx
end
end Bw
namespace L2
open PySem PySem.Spec PyProof.Rows
def aL (a:Addr)(H H':Hp):Prop:=∀b o,H b=some o->b≠a->H' b=some o
section
variable {a:Addr}{H H1 H2:Hp}
theorem aL.refl (a:Addr) (H:Hp):aL a H H:=λ_ _ h _=>h
theorem aL.trans (x:aL a H H1)(y:aL a H1 H2):aL a H H2:=λb o h n=>y b o (x b o h n) n
theorem au.x (e:au H H1):aL a H H1:=λb o h _=>e b o h
theorem aL.upd {o:HO}(x:aL a H H1):aL a H (upd H1 a o):=λb u h n=>by rw[aq n];exact x b u h n
theorem aL.laid {p:Addr}{o:HO}(x:aL a H H1)(h:H p=none):aL a H (L2.upd H1 p o):=λb u q n=>by
 rw[aq (ao q h)];exact x b u q n
theorem aL.seq {K:aag}{C dx b:Addr}{fs:List (Str×V)}{xs:List V}(e:aL a H H1)(ha:H a=some (.ins C dx fs))(h:aP K H b xs):aP K H1 b xs:=by
 rcases h with (h|⟨o,h⟩)|h
 · exact .inl (.inl (e _ _ h (dG h ha (by intro z;cases z))))
 · exact .inl (.inr ⟨o,e _ _ h (dG h ha (by intro z;cases z))⟩)
 · exact .inr h
theorem aL.tup {K:aag}{C dx b:Addr}{fs:List (Str×V)}{xs:List V}(e:aL a H H1)(ha:H a=some (.ins C dx fs))(h:b7 K H b xs):b7 K H1 b xs:=by
 rcases h with (h|⟨o,h⟩)|h
 · exact .inl (.inl (e _ _ h (dG h ha (by intro z;cases z))))
 · exact .inl (.inr ⟨o,e _ _ h (dG h ha (by intro z;cases z))⟩)
 · exact .inr h
theorem aL.free (e:aL a H H1){l:Addr}(h:H1 l=none)(hl:l≠a):H l=none:=by
 cases q:H l with
 |none=>rfl
 |some o =>
  rw[e l o q hl] at h;cases h
end
end L2
namespace Bw
open PySem PySem.Spec PyProof.Rows L2 Tote
theorem p_ {f:Str}{v x:V}{r:List (Str×V)}:ej f v ((f,x)::r)=(f,v)::r:=by
 show (if f=f then (f,v)::r else _)=_;rw[Xw rfl]
def Flt (P:Program)(w:World)(K:aag)(mg:aai)(base:Heap)(C:Addr):Prop :=
 ∃(N fI:Addr) (fd:FuncData),pC K C N fI/\Binds K fd ["self","kind","place"] []/\a8 P w K mg base bA 1 fI fd ["self","kind","place"] (GF C)/\mg "Fault"=some (.ref C)
theorem fN {X:Cx}{C:Addr}{E:XK}{np LK pos:Pos}{e:Expr}{es:List Expr}{t:TA}(FL:Flt X.prog X.w X.K X.mg X.base C)(O:mw X)(hr:cN 2 X.A)(ha:PA (X.iF (XF X C E)) (e::es) t)(hg:Gl X "Fault":=by rfl)
  (he:starEach (e::es) X.env=(false,eval e X.env)::starEach es X.env:=by rfl)(LO:(backTo LK (starEach es X.env)).any (·.1)=false:=by rfl):PS (X.iF (XF X C E)) (.Raise (some (.Call (.Name "Fault" np) (e::es) [] LK)) none pos) (Kp C E t):=by
 obtain⟨N,fI,fd,Z,hb,F,hm⟩:=FL;exact BU O Z F hr hb hg hm ha (by decide) he LO
section
variable {P:Program}{w:World}{K:aag}{mg:aai}{base:Heap}
theorem zU:aG ["self","kind","place"] ["self","kind","place"] (aw fY):=fs
theorem Ar {C N fI:Addr}(Z:pC K C N fI){f:Addr}{fd:FuncData}(F:dk K "__init__" "Fault.__init__" fY f fd):a8 P w K mg base bA 1 f fd ["self","kind","place"] (GF C):=by
 refine F.om zU λLG A outer s H vs Q E hr h=>?_;obtain⟨a,t,k,p,rfl,ha,q⟩:=h;refine⟨_,af (yI Z Z.fK Z.KR Ly (pv 0) (pv 1) rfl) (ak (yI Z Z.fP Z.K6 Lo (pv 0) (pv 2) rfl)),?_⟩;refine⟨_,rfl,_,rfl,a,t,rfl,.inl ⟨ha,λdx Mn ne=>?_⟩⟩;refine⟨_,rfl,_,rfl,a,t,rfl,.inr ⟨dx,_,ae,by rw[aq ne];exact ae,ne,by show 1 < 1000;decide,?_⟩⟩;have e:ej "place" (V.int p) [(("kind":Str),V.int k)]=ff k p:=by
  rw[bc (by decide +kernel),bR];rfl
 rw[e];have e2:upd (upd (upd H dx (sr dx [(("kind":Str),V.int k)])) a (sP a C t (some dx))) dx (sr dx (ff k p))=upd (upd H dx (sr dx (ff k p))) a (sP a C t (some dx)):=by
  funext b;by_cases h1:b=dx
  · subst h1;rw[ae,aq ne,ae]
  · rw[aq h1];by_cases h2:b=a
    · subst h2;rw[ae,ae]
    · rw[aq h2,aq h2,aq h1,aq h1]
 rw[e2];exact q dx Mn ne
end
def vm (pl n h s t r m:V):List (Str×V):=[("pool",pl),("pool_number",n),("how",h),("stake",s),("sets",t),("rows",r),("many",m)]
abbrev r8:List Str:=["pool","pool_number","how","stake","sets","rows","many"]
def bT (wl m p np e:V):List (Str×V):=[("words",wl),("met",m),("place",p),("next_place",np),("line_end",e)]
abbrev cw:List Str:=["words","met","place","next_place","line_end"]
section
variable {a b c d e v:V}
theorem iV:(bT a b c d e).lookup ("words":Str)=some a:=bS
theorem jf:(bT a b c d e).lookup ("met":Str)=some b:=by unfold bT;rw[a_ (by decide +kernel)];exact bS
theorem bM:(bT a b c d e).lookup ("place":Str)=some c:=by unfold bT;rw[a_ (by decide +kernel),a_ (by decide +kernel)];exact bS
theorem jI:(bT a b c d e).lookup ("next_place":Str)=some d:=by unfold bT;rw[a_ (by decide +kernel),a_ (by decide +kernel),a_ (by decide +kernel)];exact bS
theorem xh:(bT a b c d e).lookup ("line_end":Str)=some e:=by unfold bT;rw[a_ (by decide +kernel),a_ (by decide +kernel),a_ (by decide +kernel),a_ (by decide +kernel)];exact bS
theorem Dj:ej "met" v (bT a b c d e)=bT a v c d e:=by unfold bT;rw[bc (by decide +kernel),p_]
theorem Av:ej "place" v (bT a b c d e)=bT a b v d e:=by unfold bT;rw[bc (by decide +kernel),bc (by decide +kernel),p_]
theorem BV:ej "next_place" v (bT a b c d e)=bT a b c v e:=by unfold bT;rw[bc (by decide +kernel),bc (by decide +kernel),bc (by decide +kernel),p_]
end
def aT (K:aag)(C:Addr)(H:Hp)(a:Addr)(e:Nat)(l:List Word)(pl:Nat):Prop :=
 ∃(dx wl:Addr) (all:List W) (m np:Nat),H a=some (.ins C dx (bT (.ref wl) (.int (m:Nat)) (.int (pl:Nat)) (.int (np:Nat)) (.int (e:Nat))))/\aP K H wl (sV all)/\(mR all/\all≠[])/\m<=all.length/\all.drop m=ng l/\Placed np l
theorem aT.same {K:aag}{C:Addr}{H H':Hp}{a:Addr}{e:Nat}{l:List Word}{pl:Nat}(h:aT K C H a e l pl)(s:au H H'):aT K C H' a e l pl:=by
 obtain⟨dx,wl,all,m,np,h1,h2,r⟩:=h;exact⟨dx,wl,all,m,np,s _ _ h1,s.seq h2,r⟩
structure GB (K:aag)(mg:aai)(aW:Addr):Prop where
 ended:Gv mg "NOT_ENDED" (.int 1)
 byte:Gv mg "BAD_BYTE" (.int 2)
 word:Gv mg "BAD_WORD" (.int 3)
 num:Gv mg "BAD_NUMBER" (.int 4)
 pool:Gv mg "NO_POOL" (.int 5)
 comb:Gv mg "NO_COMBINATION" (.int 6)
 J9:Gv mg "TOO_DEAR" (.int 7)
 more:Gv mg "MORE_BYTES" (.int 8)
 nl:Gv mg "LINE_END" (.int 10)
 blank:Gv mg "BLANK" (.int 32)
 stake:Gv mg "MOST_STAKE" (.int 1000000)
 cost:Gv mg "MOST_COST" (.int 2147483647)
 on:Gv mg "ON" (.int 0)
 box:Gv mg "BOX" (.int 1)
 IV:Gv mg "WAYS" (.ref aW)
 yJ:∀H,b7 K H aW [.str (Str.ofString "on"),.str (Str.ofString "box"),.str (Str.ofString "key")]
 JB:∃o,K.lookup aW=some o/\o.cls=.type "tuple"/\o.dict=none
 enum:mg "enumerate"=none
 any:mg "any"=none
section
variable {X:Cx}{CX:my}{k:Nat}{m:Str}{ps:List Str}{sp:Sp}{E:XK}{pos apos:Pos}{o e:Expr}{es:List Expr}{ta:TE}{t:TA}{C:Addr}
theorem jg {pl:Sem Bool} (F:nN X.prog X.w X.K X.mg X.base CX k C m ps sp) (c:yg X.K C) (he:PE X o ta) (hr:cN k X.A) (hx:Passes CX X E)
  (ht:eval (.Call (.Attribute o m apos) [] [] pos) X.env=(do
   let ov ←eval o X.env
   standAt apos.atName
   let (f,first) ←holding [ov] (getMethod ov m pl)
   callWith pos f first (backTo pos (starEach [] X.env)) (backToKw pos (keywordEach [] X.env))):=by rfl):PE X (.Call (.Attribute o m apos) [] [] pos) (vO C m sp [] E ta eV):=by
 obtain⟨f,fd,hm,hb,F⟩:=F;exact A7 he c hm F hr hb .nil hx ht
theorem ly {pl:Sem Bool}(F:nN X.prog X.w X.K X.mg X.base CX k C m ps sp)(c:yg X.K C)(he:PE X o ta)(hr:cN k X.A)(hx:Passes CX X E)(ha:PA X (e::es) t)
  (Mj:starEach (e::es) X.env=(false,eval e X.env)::starEach es X.env:=by rfl)(LO:(backTo pos (starEach es X.env)).any (·.1)=false:=by rfl)
  (ht:eval (.Call (.Attribute o m apos) (e::es) [] pos) X.env=(do
   let ov ←eval o X.env
   standAt apos.atName
   let (f,first) ←holding [ov] (getMethod ov m pl)
   callWith pos f first (backTo pos (starEach (e::es) X.env)) (backToKw pos (keywordEach [] X.env))):=by rfl):PE X (.Call (.Attribute o m apos) (e::es) [] pos) (vO C m sp [] E ta t):=by
 obtain⟨f,fd,hm,hb,F⟩:=F;exact Ea he c hm F hr hb .nil hx ha Mj LO ht
end
section
variable {P:Program}{w:World}{K:aag}{mg:aai}{base:Heap}
def oN (K:aag) (C:Addr):Sp:=λvs H Q _=>∃(x dx:Addr) (l:W),vs=[.ref x,.str (st l)]/\H x=some (.ins C dx [])/\l.length<=70000 /\
 ∀H' wl,aL x H H'->H wl=none->H' wl=some (.lst (sV (aV 32 [] l)))->H' x=some (.ins C dx (bT (.ref wl) (.int ((0:Nat):Int)) (.int ((0:Nat):Int)) (.int ((0:Nat):Int)) (.int (l.length:Nat))))->Q .cj H'
theorem Ah:aG ["self","line"] ["self","line"] (aw fQ):=fs
theorem Ak {C:Addr}(G:GW mg)(T:CK K mg "Words" cw C){f:Addr}{fd:FuncData}(F:dk K "__init__" "Words.__init__" fQ f fd):a8 P w K mg base bA 1 f fd ["self","line"] (oN K C):=by
 refine F.om Ah λLG A outer s H vs Q E hr h=>?_;obtain⟨x,dx,l,rfl,hx,hl,q⟩:=h;refine⟨_,af (cB (pv 0) (mj (pv 1) bq) rfl) (af (cB (pv 0) ax rfl) (af (cB (pv 0) ax rfl) (af (cB (pv 0) ax rfl) (ak (cB (pv 0) (bY fR (by rfl) G.len PySem.boot_len (aa (pv 1) ah)) rfl))))),?_⟩;refine⟨_,rfl,⟨_,rfl⟩,_,_,rfl,rfl,by decide +kernel,by rw[b8,XZ];omega,λwl MW=>?_⟩;have nx:wl≠x:=(ao hx MW).symm;rw[BQ,lM (by decide)];refine⟨_,rfl,x,C,dx,[],rfl,by rw[aq nx.symm];exact hx,T.cl,T.no _ (by simp),(by show 0 < 1000;decide),?_⟩;refine⟨_,rfl,x,C,dx,_,rfl,ae,T.cl,T.no _ (by simp),(by show 1 < 1000;decide),?_⟩;refine⟨_,rfl,x,C,dx,_,rfl,ae,T.cl,T.no _ (by simp),(by repeat (first|rw[bR]|rw[bc (by decide +kernel)]);show 2 < 1000;decide),?_⟩;refine⟨_,rfl,x,C,dx,_,rfl,ae,T.cl,T.no _ (by simp),(by repeat (first|rw[bR]|rw[bc (by decide +kernel)]);show 3 < 1000;decide),?_⟩;refine⟨_,rfl,_,rfl,by rw[b8,XZ];omega,_,rfl,x,C,dx,_,rfl,ae,T.cl,T.no _ (by simp),(by repeat (first|rw[bR]|rw[bc (by decide +kernel)]);show 4 < 1000;decide),?_⟩;rw[cI,cI,cI,cI]
 repeat (first|rw[bR]|rw[bc (by decide +kernel)])
 refine q _ wl (λb u z n=>?_) MW ?_ ?_
 · rw[aq n,aq (ao z MW)];exact z
 · rw[aq nx,ae];unfold sV;rw[XY];rfl
 · rw[ae,b8];rfl
def nj (K:aag)(CW CF:Addr):Sp:=λvs H Q E=>∃(a:Addr) (e:Nat) (l:List Word) (pl:Nat),vs=[.ref a]/\aT K CW H a e l pl/\(l=[]->Rz CF E 3 (e:Nat))/\(∀w r,l=w::r->∀H',aL a H H'->aT K CW H' a e r w.at_->((tx w.w).length<=70000/\∀c∈tx w.w,c < 128)->Q (.str (st (tx w.w))) H')
theorem yU:aG ["self","word"] ["self"] (aw fZ):=fs
theorem Df {CW CF aW:Addr}(G:GW mg)(B:GB K mg aW)(T:CK K mg "Words" cw CW)(FL:Flt P w K mg base CF){f:Addr}{fd:FuncData}(F:dk K "take" "Words.take" fZ f fd):a8 P w K mg base (eW P w CF) 3 f fd ["self"] (nj K CW CF):=by
 refine F.lU yU λLG A outer s H vs Q E hr h=>?_;obtain⟨a,e,l,pl,rfl,⟨dx,wl,all,m,np,ha,hw,ok,hm,hd,hp⟩,q0,q1⟩:=h;refine⟨_,af (aO (aB cp (a6 (pv 0) rfl) (bg G.len (a6 (pv 0) rfl)) (aJ _)) (ak (fN FL aH hr (aa (bb B.word) (aa (a6 (pv 0) rfl) ah)))) aC)
  (af (a7 1 yU.nd (bo aM (a6 (pv 0) rfl) (a6 (pv 0) rfl) (λ_ _=>rfl)))
  (af (sx (pv 0) ax CQ)
  (af (cB (pv 0) (a6 (pv 0) rfl) rfl)
  (af (sx (pv 0) (bG eK (bY fR (by rfl) G.len PySem.boot_len (aa (pv 1) ah)) ax) CQ)
  (ak (az (pv 1))))))),?_⟩
 have no:=λf (h:f∈cw)=>T.no f h;refine aS (aI (cb (bf (ag rfl) ha T.cl (no _ (by simp)) jf) (aU (bf (ag rfl) ha T.cl (no _ (by simp)) iV) (.inl hw)))) (λh=>?_) (λh=>?_)
 · rw[aZ,dI] at h;have Nm:m=all.length:=by have:=YZ h;omega
   refine (bf (ag rfl) ha T.cl (no _ (by simp)) xh) _ ⟨3,_,rfl,q0 ?_⟩;rw[Nm,Zm] at hd;cases l with
   |nil=>rfl
   |cons w r=>cases hd
 · rw[aZ,dI] at h;have Nm:m < all.length:=by
    have:m≠all.length:=λz=>by rw[z] at h;simp at h
    omega
   cases l with
   |nil =>
    have:=YB List.length hd;rw[Yn] at this;simp[ng] at this;omega
   |cons wd r =>
    have Md:all[m]?=some (tx wd.w)/\all.drop (m+1)=ng r:=by
     rw[YS Nm] at hd;have hd:all[m]::all.drop (m+1)=tx wd.w::ng r:=hd;injection hd with h1 h2;exact⟨by rw[XE Nm,h1],h2⟩
    obtain⟨Pb,NW⟩:=hp;have Mu:=ok.1.2 _ (X0 Md.1);refine cH (aX (bf (ag rfl) ha T.cl (no _ (by simp)) iV) (bf (ag rfl) ha T.cl (no _ (by simp)) jf) hw (cy (Bi Md.1))) ?_;refine⟨_,rfl,a,CW,dx,_,_,rfl,ha,T.cl,no _ (by simp),jf,_,_,rfl,rfl,dx,_,ha,(by show 5 < 1000;decide),?_⟩;rw[Dj];refine⟨_,rfl,a,CW,dx,_,_,rfl,ae,T.cl,no _ (by simp),jI,_,rfl,a,CW,dx,_,rfl,ae,T.cl,no _ (by simp),(by show 5 < 1000;decide),?_⟩;rw[Av,cI];refine⟨_,rfl,a,CW,dx,_,_,rfl,ae,T.cl,no _ (by simp),jI,?_⟩;refine (jA (tG (ag rfl) (by rw[b8,XZ];omega)) aD) _ ⟨_,_,rfl,rfl,dx,_,ae,(by show 5 < 1000;decide),?_⟩;rw[BV,cI];refine⟨_,rfl,?_⟩;refine q1 wd r rfl _ (aL.refl a H).upd ⟨dx,wl,all,m+1,np+(tx wd.w).length+1,?_,(aL.refl a H).upd.seq ha hw,ok,by omega,Md.2,by rw[ig];exact NW⟩ Mu;rw[ae,Pb,b8];have e1:((m:Nat):Int)+1=((m+1:Nat):Int):=by omega
    have e2:((np:Nat):Int)+(((tx wd.w).length:Nat)+1)=((np+(tx wd.w).length+1:Nat):Int):=by omega
    rw[e1,e2]
end
theorem oy {f:Str}:∀{fs:List (Str×V)},¬f∈fs.map (·.1)->fs.lookup f=none
 |[],_=>rfl
 |(g,v)::r,h=>by
  rw[a_ (λe=>h (by simp[e]))];exact oy λz=>h (by simp at z ⊢;exact .inr z)
theorem cG {a b c d e:V}{f:Str}(h:¬f∈cw):(bT a b c d e).lookup f=none:=oy h
theorem aT.obj {K:aag}{C:Addr}{H:Hp}{a:Addr}{e:Nat}{l:List Word}{pl:Nat}(h:aT K C H a e l pl):∃dx wl m np,H a=some (.ins C dx (bT wl m (.int (pl:Nat)) np (.int (e:Nat)))):=by
 obtain⟨dx,wl,all,m,np,h1,_⟩:=h;exact⟨dx,_,_,_,h1⟩
section
variable {P:Program}{w:World}{K:aag}{mg:aai}{base:Heap}
def m8 (kn:List String) (w:Word):Prop:=∃s∈kn,tx w.w=cd s
def qH (K:aag)(CW CF:Addr):Sp:=λvs H Q E=>∃(a t:Addr) (kn:List String) (e:Nat) (l:List Word) (pl:Nat),vs=[.ref a,.ref t]/\aT K CW H a e l pl/\b7 K H t (kn.map λs=>V.str (Str.ofString s))/\(l=[]->Rz CF E 3 (e:Nat)) /\
 (∀w r,l=w::r->¬m8 kn w->Rz CF E 3 (w.at_:Nat))/\(∀w r,l=w::r->m8 kn w->∀H',aL a H H'->aT K CW H' a e r w.at_->Q (.str (st (tx w.w))) H')
theorem CO {kn:List String}{w:W}:oh (.str (st w)) (kn.map λs=>V.str (Str.ofString s))=decide (∃s∈kn,w=cd s):=by
 rw[X9,XC];unfold oh;rw[ZS,Y8];have key:∀s:String,r9 (V.str (Str.ofString s)) (V.str (st w))=true↔w=cd s:=λs=>by
  show (Str.ofString s==st w)=true↔_;rw[Yl,kU,jE];exact⟨λz=>z.symm,λz=>z.symm⟩
 exact⟨λ⟨s,h1,h2⟩=>⟨s,h1,(key s).mp h2⟩,λ⟨s,h1,h2⟩=>⟨s,h1,(key s).mpr h2⟩⟩
theorem E7 (kn:List String):(kn.map λs=>V.str (Str.ofString s)).all dO=true:=by
 rw[ZE,X1];intro _ _;rfl
theorem B2:aG ["self","known","word"] ["self","known"] (aw cv):=fs
theorem Gj {CW CF aW:Addr}(B:GB K mg aW)(T:CK K mg "Words" cw CW)(FL:Flt P w K mg base CF){k:Nat}(hk:2<=k)(FT:nN P w K mg base (eW P w CF) k CW "take" ["self"] (nj K CW CF)){f:Addr}{fd:FuncData}(F:dk K "take_one_of" "Words.take_one_of" cv f fd) :
  a8 P w K mg base (eW P w CF) (k+1) f fd ["self","known"] (qH K CW CF):=by
 refine F.lU B2 λLG A outer s H vs Q E hr h=>?_;obtain⟨a,t,kn,e,l,pl,rfl,hW,hT,q0,q1,q2⟩:=h;refine⟨_,af (a7 2 B2.nd (jg FT T.cl (pv 0) hr (bQ aH rfl rfl)))
  (af (aO (aB eD (pv 2) (pv 1) (by with_unfolding_all rfl)) (ak (fN FL aH (hr.mono hk) (aa (bb B.word) (aa (a6 (pv 0) rfl) ah)))) aC)
  (ak (az (pv 2)))),?_⟩
 obtain⟨dx,wl,m,np,ha⟩:=hW.obj;refine⟨_,rfl,a,dx,_,rfl,ha,cG (by decide +kernel),a,e,l,pl,rfl,hW,q0,λwd r hl H1 S1 L9 Mu=>?_⟩;obtain⟨Qa,RA,m1,RB,Mf⟩:=L9.obj;refine aS (aI (mB (ag rfl) (ag rfl) (.inr (S1.tup ha hT)) rfl (E7 kn))) (λh=>?_) (λh=>?_)
 · have h:(!oh (.str (st (tx wd.w))) (kn.map λs=>V.str (Str.ofString s)))=true:=h;rw[CO,Ym,Yc] at h;exact (bf (ag rfl) Mf T.cl (T.no _ (by simp)) bM) _ ⟨3,_,rfl,q1 wd r hl h⟩
 · have h:(!oh (.str (st (tx wd.w))) (kn.map λs=>V.str (Str.ofString s)))=false:=h;rw[CO,Yp,XC] at h;exact⟨_,rfl,q2 wd r hl h H1 S1 L9⟩
def AN (K:aag)(CW CF:Addr):Sp:=λvs H Q E=>∃(a:Addr) (e:Nat) (l:List Word) (pl:Nat),vs=[.ref a]/\aT K CW H a e l pl/\(∀w r,l=w::r->Rz CF E 3 (w.at_:Nat))/\(l=[]->Q .cj H)
theorem HW:aG ["self"] ["self"] (aw eN):=fs
theorem Gq {CW CF aW:Addr}(G:GW mg)(B:GB K mg aW)(T:CK K mg "Words" cw CW)(FL:Flt P w K mg base CF){f:Addr}{fd:FuncData}(F:dk K "finish" "Words.finish" eN f fd):a8 P w K mg base (eW P w CF) 3 f fd ["self"] (AN K CW CF):=by
 refine F.lU HW λLG A outer s H vs Q E hr h=>?_;obtain⟨a,e,l,pl,rfl,⟨dx,wl,all,m,np,ha,hw,ok,hm,hd,hp⟩,q1,q0⟩:=h;refine⟨_,ak (aO (aB nZ (a6 (pv 0) rfl) (bg G.len (a6 (pv 0) rfl)) (aJ _)) (ak (fN FL aH hr (aa (bb B.word) (aa (a6 (pv 0) rfl) ah)))) aC),?_⟩;refine aS (jy (bf (ag rfl) ha T.cl (T.no _ (by simp)) jf) (aU (bf (ag rfl) ha T.cl (T.no _ (by simp)) iV) (.inl hw))) (λh=>?_) (λh=>?_)
 · rw[dI] at h;have Nm:m < all.length:=by have:=XR h;omega
   cases l with
   |nil =>
    have:=YB List.length hd;rw[Yn] at this;simp[ng] at this;omega
   |cons wd r =>
    refine (bf (ag rfl) ha T.cl (T.no _ (by simp)) jI) _ ⟨3,_,rfl,?_⟩;rw[←hp.1];exact q1 wd r rfl
 · rw[dI] at h;have Nm:m=all.length:=by have:=Ye h;omega
   refine q0 ?_;rw[Nm,Zm] at hd;cases l with
   |nil=>rfl
   |cons w r=>cases hd
def t8 (K:aag)(CW CF:Addr):Sp:=λvs H Q E=>∃(a:Addr) (u:Nat) (e:Nat) (l:List Word) (pl:Nat),vs=[.ref a,.int (u:Nat)]/\1<=u/\aT K CW H a e l pl/\(l=[]->Rz CF E 3 (e:Nat)) /\
 (∀w r,l=w::r->¬(1<=ay (tx w.w)/\ay (tx w.w)<=1000000/\ay (tx w.w) % (u:Int)=0)->Rz CF E 4 (w.at_:Nat)) /\
 (∀w r,l=w::r->(1<=ay (tx w.w)/\ay (tx w.w)<=1000000/\ay (tx w.w) % (u:Int)=0)->∀H',aL a H H'->aT K CW H' a e r w.at_->Q (.int (ay (tx w.w))) H')
theorem uE:aG ["words","unit","stake"] ["words","unit"] (aw gd):=fs
theorem BR {CW CF aW:Addr}(B:GB K mg aW)(T:CK K mg "Words" cw CW)(FL:Flt P w K mg base CF){k:Nat}(hk:2<=k)(FT:nN P w K mg base (eW P w CF) k CW "take" ["self"] (nj K CW CF))(FN:Fn P w K mg base bA k "number_of" ["word"] kO)
  {f:Addr}{fd:FuncData}(F:dk K "take_stake" "take_stake" gd f fd):a8 P w K mg base (eW P w CF) (k+1) f fd ["words","unit"] (t8 K CW CF):=by
 refine F.lU uE λLG A outer s H vs Q E hr h=>?_;obtain⟨a,u,e,l,pl,rfl,hu1,hW,q0,q1,q2⟩:=h;refine⟨_,af (a7 2 uE.nd (aR FN hr a9 (aa (jg FT T.cl (pv 0) hr (bQ aH rfl rfl)) ah)))
  (af (aO (PW.pt (eG (cC (cD cf cf ax (pv 2) (bb B.stake))) (cS (aB oZ (bG Ib (pv 2) (pv 1)) ax (aJ _))))) (ak (fN FL aH (hr.mono hk) (aa (bb B.num) (aa (a6 (pv 0) rfl) ah)))) aC)
  (ak (az (pv 2)))),?_⟩
 obtain⟨dx,wl,m,np,ha⟩:=hW.obj;refine⟨_,rfl,a,dx,_,rfl,ha,cG (by decide +kernel),a,e,l,pl,rfl,hW,q0,λwd r hl H1 S1 L9 Mu=>?_⟩;obtain⟨Qa,RA,m1,RB,Mf⟩:=L9.obj;refine⟨tx wd.w,rfl,Mu.1,Mu.2,?_⟩;refine aS (gI (fh (cE aD (ag rfl) aD)) λ_=>aI (oV (yw (ag rfl) (ag rfl) (by show (0:Int) < (u:Int);omega)) aD)) (λh=>?_) (λh=>?_)
 · refine (bf (ag rfl) Mf T.cl (T.no _ (by simp)) bM) _ ⟨4,_,rfl,q1 wd r hl λz=>?_⟩;rw[aZ] at h;simp[z.1,z.2.1,z.2.2] at h
 · rw[aZ] at h;simp only[YF,Yp,XB,XC,Yl] at h;exact⟨_,rfl,q2 wd r hl ⟨h.1.1,h.1.2,h.2⟩ H1 S1 L9⟩
end
theorem aT.put {K:aag}{C:Addr}{H:Hp}{a p:Addr}{e:Nat}{l:List Word}{pl:Nat}{xs ys:List V}(h:aT K C H a e l pl)(hp:H p=some (.lst xs))(hn:∀v∈xs,∀s,v≠.str s):aT K C (upd H p (.lst ys)) a e l pl:=by
 obtain⟨dx,wl,all,m,np,h1,h2,⟨ok,ne⟩,r⟩:=h;have RC:a≠p:=dG h1 hp (by intro z;cases z);refine⟨dx,wl,all,m,np,by rw[aq RC];exact h1,?_,⟨ok,ne⟩,r⟩;rcases h2 with (h2|⟨o,h2⟩)|h2
 · refine .inl (.inl ?_);rw[aq]
   · exact h2
   · rintro rfl;rw[hp] at h2;injection h2 with h2;injection h2 with h2;subst h2;cases all with
     |nil=>exact ne rfl
     |cons w r=>exact hn _ (Yh ..) _ rfl
 · refine .inl (.inr ⟨o,?_⟩);rw[aq (dG h2 hp (by intro z;cases z))];exact h2
 · exact .inr h2
theorem Hb {ns:aaf}:∀v∈nV ns,∀s,v≠V.str s:=λv hv s=>by
 obtain⟨n,_,rfl⟩:=X4.mp hv;intro z;cases z
theorem Dn {as:List Addr}:∀v∈as.map V.ref,∀s,v≠V.str s:=λv hv s=>by
 obtain⟨n,_,rfl⟩:=X4.mp hv;intro z;cases z
theorem gc (ns:aaf):(nV ns).all dO=true:=by
 unfold nV;rw[ZE,X1];intro _ _;rfl
theorem nX {ns:aaf}{i:Int}:oh (.int i) (nV ns)=decide (∃n∈ns,i=(n:Int)):=by
 rw[X9,XC];unfold oh nV;rw[ZS,Y8];have key:∀n:Nat,r9 (V.int (n:Nat)) (V.int i)=true↔i=(n:Int):=λn=>by
  show (((n:Nat):Int)==i)=true↔_;rw[Yl];exact⟨λz=>z.symm,λz=>z.symm⟩
 exact⟨λ⟨s,h1,h2⟩=>⟨s,h1,(key s).mp h2⟩,λ⟨s,h1,h2⟩=>⟨s,h1,(key s).mpr h2⟩⟩
theorem DJ {ns:aaf}{x:Nat}(h:ns.getLast?=some x):n8 (nV ns) (-1)=some (.int (x:Nat)):=by
 have LQ:ns≠[]:=by rintro rfl;cases h
 have hl:0 < ns.length:=Yz.mpr LQ;have hx:(nV ns)[ns.length - 1]?=some (.int (x:Nat)):=by
  unfold nV;rw[Xz,←List.getLast?_eq_getElem?,h];rfl
 unfold n8 E5;rw[Xv (by decide),aN,Xw (by omega)];show (nV ns)[_]?=_;rw[←hx];congr 1;omega
theorem yr {t:TT}{σ:L2.St}{H:Hp}{b c:Bool}(h:Tv t σ H b)(e:b=c):Tv t σ H c:=e ▸ h
theorem Am {fld:aaf}{pt:W}:(!decide (∃n∈fld,ay pt=(n:Int)))=!decide (Fits fld [] pt):=by
 congr 1;rw[Zg];exact⟨λ⟨n,h1,h2⟩=>⟨n,h2,h1,λ_ z=>by cases z⟩,λ⟨n,h1,h2,_⟩=>⟨n,h2,h1⟩⟩
theorem zw {fld acc:aaf}{pt:W}{x:Nat}(h:acc.getLast?=some x):(!decide (∃n∈fld,ay pt=(n:Int))||(true&&decide (ay pt<=((x:Nat):Int))))=!decide (Fits fld acc pt):=by
 rw[Bool.true_and,X9];simp only[Yv,Ym,XC,Yc];constructor
 · rintro (z|z) ⟨n,h1,h2,h3⟩
   · exact z ⟨n,h2,h1⟩
   · have:=h3 x h;omega
 · intro z;by_cases q:∃n∈fld,ay pt=(n:Int)
   · obtain⟨n,h1,h2⟩:=q;refine .inr ?_;by_cases q2:ay pt<=((x:Nat):Int)
     · exact q2
     · exact absurd ⟨n,h2,h1,λy hy=>by rw[h] at hy;injection hy with hy;omega⟩ z
   · exact .inl q
theorem Gy:Str.ofString ","=st [44]:=by rw[kU];rfl
section
variable {P:Program}{w:World}{K:aag}{mg:aai}{base:Heap}
def uQ (K:aag) (CW CF:Addr):Sp:=λvs H Q E=>∃(a f:Addr) (fd:aaf) (e:Nat) (l:List Word) (pl:Nat),vs=[.ref a,.ref f]/\aT K CW H a e l pl/\aP K H f (nV fd)/\(∀x∈fd,x<=24) /\
 (∀t,setIn e fd l=.error t->Rz CF E (t.kind:Nat) (t.place:Nat)) /\
 (∀s p r,setIn e fd l=.ok ((s,p),r)->∀H' x,aL a H H'->H x=none->H' x=some (.lst (nV s))->aT K CW H' a e r p->Q (.ref x) H')
theorem tZ:aG ["words","field","numbers","part","number"] ["words","field"] (aw iI):=fs
theorem HR {CW CF aW:Addr}(G:GW mg)(B:GB K mg aW)(T:CK K mg "Words" cw CW)(FL:Flt P w K mg base CF){k:Nat}(hk:2<=k)(FT:nN P w K mg base (eW P w CF) k CW "take" ["self"] (nj K CW CF))(FN:Fn P w K mg base bA k "number_of" ["word"] kO)
  {f:Addr}{fd:FuncData}(F:dk K "take_set" "take_set" iI f fd):a8 P w K mg base (eW P w CF) (k+1) f fd ["words","field"] (uQ K CW CF):=by
 refine F.lU tZ λLG A outer s H vs Q E hr h=>?_;obtain⟨a,fa,fld,e,l,pl,rfl,hW,hF,LX,q0,q1⟩:=h;refine⟨_,af (a7 2 tZ.nd (bV ah))
  (af (df (yQ aH) rfl (bJ (mj (jg FT T.cl (pv 0) hr (bQ aH rfl rfl)) bq)) (bp 3 tZ.nd)
   (af (a7 4 tZ.nd (aR FN hr a9 (aa (pv 3) ah)))
   (af (aO (PW.pt (eG (aB eD (pv 4) (pv 1) (by with_unfolding_all rfl)) (cS (PW.pt (tE (aB kX (bg G.len (pv 2)) ax (aJ _)) (ox (aB cf (pv 4) (bo aM (pv 2) (vW qt ax) (λ_ _=>rfl)) (aJ _)))))))) (ak (fN FL aH (hr.mono hk) (aa (bb B.num) (aa (a6 (pv 0) rfl) ah)))) aC)
   (ak (dP (qu PySem.F.plainAttrs_list PySem.F.slot_list_append PySem.F.type_list_append iA (pv 2) (aa (pv 4) ah)))))))
  (ak (az (pv 2)))),?_⟩
 refine⟨X2 _,λp hp=>?_⟩;have S0:au H (upd H p (.lst [])):=(au.refl H).laid hp;have Qb:=hW.same S0;obtain⟨dx,wl,m,np,ha⟩:=Qb.obj;refine⟨_,rfl,a,dx,_,rfl,ha,cG (by decide +kernel),a,e,l,pl,rfl,Qb,λz=>?_,λwd r hl H1 S1 L9 Mu=>?_⟩
 · subst z;exact q0 _ Ag
 subst hl;rw[pF LX] at q0 q1;refine⟨⟨_,rfl⟩,_,_,rfl,rfl,by decide +kernel,by rw[b8,XZ];have:=Mu.1;omega,λsl NQ=>?_⟩;rw[Gy,lM (by decide)];have RC:a≠p:=ao (hW.obj.choose_spec.choose_spec.choose_spec.choose_spec) hp;have e1:H1 p=some (.lst []):=S1 p _ ae RC.symm;have Ta:sl≠p:=by
  rintro rfl;rw[e1] at NQ;cases NQ
 have Pj:aL a H H1:=S0.x.trans S1;have RD:H sl=none:=Pj.free NQ (by
  rintro rfl;rw[L9.obj.choose_spec.choose_spec.choose_spec.choose_spec] at NQ;cases NQ)
 have eP:List.map (λx=>V.str x) (List.map st (aV 44 [] (tx wd.w)))=sV (aV 44 [] (tx wd.w)):=by
  unfold sV;rw[XY];rfl
 rw[eP];unfold setM at q0 q1;have LO:(aV 44 [] (tx wd.w)).length<=70001:=by
  have:=fc 44 (tx wd.w) [];have:=Mu.1;omega
 have Qc:∀v∈aV 44 [] (tx wd.w),v.length<=70000/\∀c∈v,c < 128:=λv hv=>by
  obtain⟨z1,z2⟩:=d8 44 (tx wd.w) [] v hv;refine⟨by simp at z1;have:=Mu.1;omega,λc hc=>?_⟩;rcases z2 c hc with z|z
  · cases z
  · exact Mu.2 c z
 generalize aV 44 [] (tx wd.w)=ps at q0 q1 LO Qc;obtain⟨dh,wh,mh,nh,Wr⟩:=hW.obj;refine⟨sl,rfl,⟨_,aP.of ae⟩,dq (K:=K) (a:=sl) (xs:=sV ps) (λi σ H'=>∃(v3 v4:Option V) (acc:aaf),σ=[some (.ref a),some (.ref fa),some (.ref p),v3,v4]/\aL a H H'/\aT K CW H' a e r wd.at_ /\
   H' p=some (.lst (nV acc))/\H' sl=some (.lst (sV ps))/\acc.length<=i/\i<=ps.length/\jk fld (ps.drop i) acc=jk fld ps [])
  ⟨none,none,[],rfl,Pj.laid RD,L9.same ((au.refl H1).laid NQ),by rw[aq Ta.symm];exact e1,ae,XD _,X2 _,rfl⟩ (λi σ H' _ ⟨_,_,_,_,_,_,_,z,_⟩=>aP.of z) ?_ ?_⟩
 · rintro i x σ H' hi ⟨v3,v4,acc,rfl,SX,Mv,e2,e3,Qe,LN,hc⟩;have LN:i < ps.length:=by
    have:=(XI.mp hi).1
    rwa [dI] at this
   have hx:x=.str (st ps[i]):=by
    rw[Bi (XE LN)] at hi;exact (X8 hi).symm
   subst hx;have Tb:=Qc ps[i] (Zl LN);rw[YS LN] at hc;generalize ps[i]=pt at hc Tb;have hc:(if Fits fld acc pt then jk fld (ps.drop (i+1)) (acc++[(ay pt).toNat]) else none)=jk fld ps []:=hc;obtain⟨MC,wl',m',np',Q7⟩:=Mv.obj;refine cH (gq (wd:=pt) (ag rfl) Tb) ?_;have Of:=SX.seq Wr hF;have fail:¬Fits fld acc pt->Rz CF E 4 (wd.at_:Nat):=λz=>by
    rw[Xv z] at hc;rw[←hc] at q0;exact q0 _ rfl
   dsimp only;refine aS (b:=!decide (Fits fld acc pt)) ?_ (λh=>?_) (λh=>?_)
   · cases hl:acc.getLast? with
     |none =>
      have:acc=[]:=by simpa using hl
      subst this;refine yr (gI (aI (mB (ag rfl) (ag rfl) (.inl Of) rfl (gc fld))) λ_=>pW (c:=false) (jy (aU (ag rfl) (.inl (aP.of e2))) aD) λz=>absurd z (by decide)) ?_;rw[Bool.and_false,ZJ,←Am,←nX];rfl
     |some y =>
      have LQ:0 < acc.length:=by
       cases acc with
       |nil=>cases hl
       |cons _ _=>exact Nat.succ_pos _
      refine yr (gI (aI (mB (ag rfl) (ag rfl) (.inl Of) rfl (gc fld))) λ_=>pW (jy (aU (ag rfl) (.inl (aP.of e2))) aD) λz=>jy (ag rfl) (aX (ag rfl) (sU aD) (aP.of e2) (DJ hl))) ?_;rw[←zw hl,←nX,aN];rw[show decide ((acc.length:Int) > 0)=true from X_ (by omega)];rfl
   · exact (bf (ag rfl) Q7 T.cl (T.no _ (by simp)) bM) _ ⟨4,_,rfl,fail (by simpa using h)⟩
   · have Pk:Fits fld acc pt:=by simpa using h
     rw[Xw Pk] at hc;obtain⟨n,hn,_⟩:=Pk;have en:(ay pt).toNat=n:=by omega
     rw[en] at hc;have eA:nV acc++[V.int (n:Nat)]=nV (acc++[n]):=by
      unfold nV;rw[XQ];rfl
     rw[hn];refine⟨_,rfl,.inl ⟨rfl,_,aP.of e2⟩,_,rfl,p,_,_,rfl,rfl,e2,by rw[aN,XZ];omega,?_⟩;rw[eA];exact⟨_,_,acc++[n],rfl,SX.laid hp,Mv.put e2 Hb,ae,by rw[aq Ta];exact e3,by rw[XT];simp;omega,LN,hc⟩
 · rintro σ H' ⟨v3,v4,acc,rfl,SX,Mv,e2,e3,Qe,LN,hc⟩;rw[dI,Zm] at hc;have hc:some acc=jk fld ps []:=hc;rw[←hc] at q1;exact⟨_,rfl,q1 _ _ _ rfl _ _ SX hp e2 Mv⟩
end
theorem ju {C:Addr}{E:XK}{tp:TE}{D:Ends}{σ:L2.St}{H:Hp}{k p:Int}(h:Ev tp σ H (.int p))(q:Rz C E k p):Kp C E (cM (tC (.int k)) (cM tp eV)) D σ H:=h _ ⟨k,p,rfl,q⟩
section
variable {P:Program}{w:World}{K:aag}{mg:aai}{base:Heap}
theorem mr {CW CF:Addr} {H:Hp} {Q:VK} {E:XK} {a t:Addr} {e:Nat} {l:List Word} {pl:Nat} {s:String} (hp:plainT s=true) (hW:aT K CW H a e l pl) (hT:b7 K H t [V.str (Str.ofString s)]) (q0:∀x,must e s l=.error x->Rz CF E (x.kind:Nat) (x.place:Nat))
  (q1:∀r,must e s l=.ok r->∀H' v NX,aL a H H'->aT K CW H' a e r NX->Q v H'):qH K CW CF [.ref a,.ref t] H Q E:=by
 have one:∀wd:Word,m8 [s] wd↔wd.w=ascii s:=λwd=>by
  rw[←bh _ hp];unfold m8;exact⟨λ⟨x,h1,h2⟩=>by rw[XJ] at h1;subst h1;exact h2,λh=>⟨s,List.mem_singleton_self s,h⟩⟩
 refine⟨a,t,[s],e,l,pl,rfl,hW,hT,λz=>?_,λwd r hl hn=>?_,λwd r hl ho H' S h'=>?_⟩
 · subst z;exact q0 _ CC
 · subst hl;refine q0 ⟨3,wd.at_⟩ ?_;rw[su,Xv (λz=>hn ((one wd).mpr z))]
 · subst hl;refine q1 r ?_ H' _ _ S h';rw[su,Xw ((one wd).mp ho)]
def ET (K:aag)(CW CF:Addr)(a:Addr)(e:Nat)(H:Hp)(Q:VK)(E:XK)(x:Got):Prop:=(∀t,x=.error t->Rz CF E (t.kind:Nat) (t.place:Nat)) /\
 ∀s r,x=.ok (s,r)->∀H' y pl,aL a H H'->lF H' y s->aT K CW H' a e r pl->Q (.ref y) H'
def AO (K:aag)(CW CF:Addr):Sp:=λvs H Q E=>∃(a f:Addr) (fd:aaf) (k e:Nat) (l:List Word) (pl:Nat),vs=[.ref a,.ref f,.int (k:Nat)]/\aT K CW H a e l pl/\aP K H f (nV fd)/\(∀x∈fd,x<=24)/\ET K CW CF a e H Q E (xi e k fd l)
theorem AJ:aG ["words","field","size","numbers"] ["words","field","size"] (aw iL):=fs
theorem H_ {CW CF aW:Addr}(G:GW mg)(B:GB K mg aW)(T:CK K mg "Words" cw CW)(FL:Flt P w K mg base CF){k:Nat}(hk:2<=k)(FS:Fn P w K mg base (eW P w CF) k "take_set" ["words","field"] (uQ K CW CF))
  {f:Addr}{fd:FuncData}(F:dk K "take_box" "take_box" iL f fd):a8 P w K mg base (eW P w CF) (k+1) f fd ["words","field","size"] (AO K CW CF):=by
 refine F.lU AJ λLG A outer s H vs Q E hr h=>?_;obtain⟨a,fa,fld,sz,e,l,pl,rfl,hW,hF,LX,q0,q1⟩:=h;refine⟨_,af (a7 3 AJ.nd (aR FS hr (bQ aH rfl rfl) (aa (pv 0) (aa (pv 1) ah))))
  (af (aO (aB nZ (bg G.len (pv 3)) (pv 2) (aJ _)) (ak (fN FL aH (hr.mono hk) (aa (bb B.num) (aa (a6 (pv 0) rfl) ah)))) aC)
  (ak (az (bV (aa (pv 3) ah))))),?_⟩
 unfold xi at q0 q1;refine⟨_,rfl,_,rfl,a,fa,fld,e,l,pl,rfl,hW,hF,LX,λt ht=>?_,λst p r Mj H1 x S1 hx Mw L9=>?_⟩
 · rw[ht] at q0;exact q0 _ rfl
 rw[Mj] at q0 q1;obtain⟨Qa,RA,m1,RB,Mf⟩:=L9.obj;obtain⟨_,_,wd,_,LO,_⟩:=dv LX Mj;refine aS (jy (aU (ag rfl) (.inl (aP.of Mw))) (ag rfl)) (λh=>?_) (λh=>?_)
 · rw[aN] at h;have h:=XR h;have q0:=q0 ⟨4,p⟩ (by show (if sz<=st.length then _ else _)=_;rw[Xv (by omega)]);exact (bf (ag rfl) Mf T.cl (T.no _ (by simp)) bM) _ ⟨4,_,rfl,q0⟩
 · rw[aN] at h;have h:=Ye h;have q1:=q1 [st] r (by show (if sz<=st.length then _ else _)=_;rw[Xw (by omega)]);refine⟨_,rfl,(by show 1<=sizeLine;decide),λy hy=>q1 _ y p (λb u z n=>?_) ⟨[x],ae,.cons ?_ .nil⟩ (L9.same ((au.refl H1).laid hy))⟩
   · have:=S1 b u z n;rw[aq (ao this hy)];exact this
   · rw[aq (ao Mw hy)];exact Mw
theorem bH.JN {fd s:aaf}(g:bH fd s)(h:∀x∈fd,x<=24):s.length<=25:=by
 have:=gZ (m:=List.range 25) g.rise.nodup λx hx=>Zi.mpr (by have:=h x (g.sub x hx);omega);simpa using this
def Ca (K:aag)(CW CF:Addr):Sp:=λvs H Q E=>∃(a f:Addr) (fd:aaf) (k e:Nat) (l:List Word) (pl:Nat),vs=[.ref a,.ref f,.int (k:Nat)]/\aT K CW H a e l pl/\aP K H f (nV fd)/\(∀x∈fd,x<=24)/\ET K CW CF a e H Q E (wx e k fd l)
theorem pM:aG ["words","field","size","bankers","others","number"] ["words","field","size"] (aw ja):=fs
theorem Hh {CW CF aW:Addr}(G:GW mg)(B:GB K mg aW)(T:CK K mg "Words" cw CW)(FL:Flt P w K mg base CF){k:Nat}(hk:2<=k)(FS:Fn P w K mg base (eW P w CF) k "take_set" ["words","field"] (uQ K CW CF))(FO:nN P w K mg base (eW P w CF) k CW "take_one_of" ["self","known"] (qH K CW CF))
  {f:Addr}{fd:FuncData}(F:dk K "take_key" "take_key" ja f fd):a8 P w K mg base (eW P w CF) (k+1) f fd ["words","field","size"] (Ca K CW CF):=by
 refine F.lU pM λLG A outer s H vs Q E hr h=>?_;obtain⟨a,fa,fld,sz,e,l,pl,rfl,hW,hF,LX,q0,q1⟩:=h;refine⟨_,af (oQ (i:=3) pM.nd rfl (Or.inr rfl) (aR FS hr (bQ aH rfl rfl) (aa (pv 0) (aa (pv 1) ah))))
  (af (aO (aB kX (bg G.len (pv 3)) (bG fJ (pv 2) ax) (aJ _)) (ak (fN FL aH (hr.mono hk) (aa (bb B.num) (aa (a6 (pv 0) rfl) ah)))) aC)
  (af (dP (ly FO T.cl (pv 0) hr (bQ aH rfl rfl) (aa (c_ (aa bq ah)) ah)))
  (af (a7 4 pM.nd (aR FS hr (bQ aH rfl rfl) (aa (pv 0) (aa (pv 1) ah))))
  (af (aO (PW.pt (eG (hX (bY (C3 rfl) (by rfl) B.any (by decide +kernel) (aa (fz (te:=kJ (Hz K false) (cJ 5) (cJ 3)) rfl pM.nd (bJ (pv 4)) (bz (own:=[("number",5)]) rfl) (λ_ _ _ _ _=>bp 5 pM.nd) (λ_ _ _ _ _=>cu)
    (λ_ _ _ _ _=>fu gg (pv 5) (pv 3) (by with_unfolding_all rfl))) ah)))
    (cS (aB nZ (bG eK (bg G.len (pv 3)) (bg G.len (pv 4))) (pv 2) (aJ _))))) (ak (fN FL aH (hr.mono hk) (aa (bb B.num) (aa (a6 (pv 0) rfl) ah)))) aC)
  (ak (az (bV (aa (pv 3) (aa (pv 4) ah))))))))),?_⟩
 unfold wx at q0 q1;obtain⟨d0,w0,m0,n0,Ma⟩:=hW.obj;refine⟨_,rfl,_,rfl,a,fa,fld,e,l,pl,rfl,hW,hF,LX,λt ht=>?_,λsa p r Tc H1 x S1 hx Mw L9=>?_⟩
 · rw[ht] at q0;exact q0 _ rfl
 rw[Tc] at q0 q1;obtain⟨Qa,RA,m1,RB,Mf⟩:=L9.obj;obtain⟨ga,_⟩:=dv LX Tc;have q0:∀t,sG e sz fld sa p r=.error t->Rz CF E (t.kind:Nat) (t.place:Nat):=q0;have q1:∀s u,sG e sz fld sa p r=.ok (s,u)->_:=q1;unfold sG at q0 q1;have Td:x≠a:=(ao Ma hx).symm;refine aS (jy (aU (ag rfl) (.inl (aP.of Mw))) (oX (ag rfl) aD)) (λh=>?_) (λh=>?_)
 · rw[aN] at h;have h:=XR h;rw[Xv (by omega)] at q0;exact (bf (ag rfl) Mf T.cl (T.no _ (by simp)) bM) _ ⟨4,_,rfl,q0 _ rfl⟩
 rw[aN] at h;have h:=Ye h;rw[Xw (by omega)] at q0 q1;refine⟨_,rfl,a,Qa,_,rfl,Mf,cG (by decide +kernel),(by show 1<=sizeLine;decide),λt ht=>?_⟩;have St:au H1 (upd H1 t (.tup [V.str (Str.ofString "with")])):=(au.refl H1).laid ht;show eV _ _ _;unfold eV;dsimp only [Yx];refine mr (s:="with") (by decide +kernel) (L9.same St) (b7.of ae) (λy hy=>?_) (λm hm H2 v Om S2 Ny=>?_)
 · rw[hy] at q0;exact q0 _ rfl
 rw[hm] at q0 q1;have q0:∀t,rk e sz fld sa m=.error t->Rz CF E (t.kind:Nat) (t.place:Nat):=q0;have q1:∀s u,rk e sz fld sa m=.ok (s,u)->_:=q1;unfold rk at q0 q1;have Qg:aL a H H2:=(S1.trans St.x).trans S2;have Ws:H2 x=some (.lst (nV sa)):=S2 _ _ (St _ _ Mw) Td;refine⟨_,rfl,_,rfl,a,fa,fld,e,m,Om,rfl,Ny,Qg.seq Ma hF,LX,λt ht=>?_,λsb p2 r2 MP H3 y S3 hy RE Oq=>?_⟩
 · rw[ht] at q0;exact q0 _ rfl
 rw[MP] at q0 q1;have q0:∀t,(if (∀x∈sb,¬x∈sa)/\sz<=sa.length+sb.length then (Except.ok ([sa,sb],r2):Got) else .error ⟨4,p2⟩)=.error t->Rz CF E (t.kind:Nat) (t.place:Nat):=q0;have q1:∀s u,(if (∀x∈sb,¬x∈sa)/\sz<=sa.length+sb.length then (Except.ok ([sa,sb],r2):Got) else .error ⟨4,p2⟩)=.ok (s,u)->_:=q1;obtain⟨gb,_⟩:=dv LX MP;have Qh:H3 x=some (.lst (nV sa)):=S3 _ _ Ws Td;have Qi:aL a H H3:=Qg.trans S3;obtain⟨dx3,wl3,m3,np3,Wt⟩:=Oq.obj;have lb:sb.length<=25:=gb.JN LX;refine⟨_,rfl,y,rfl,⟨_,aP.of RE⟩,λD hD=>iO (K:=K) (a:=y) (xs:=nV sb) (λi H'=>au H3 H'/\H' D=some (.lst ((sb.take i).map λn=>V.bl (decide (n∈sa))))) ⟨(au.refl H3).laid hD,ae⟩ (λi H' _ h=>aP.of (h.1 _ _ RE)) ?_ ?_⟩
 · rintro i v H' hi ⟨k1,k2⟩;obtain⟨n,hn,rfl⟩:∃n,sb[i]?=some n/\V.int (n:Nat)=v:=by
    unfold nV at hi;rw[Xz] at hi;exact X6.mp hi
   refine⟨rfl,?_⟩;refine (mB (neg:=false) (ag rfl) (ag rfl) (.inl (aP.of (k1 _ _ Qh))) rfl (gc sa)) _ ⟨_,k2,?_,?_⟩
   · rw[Xu,XU,XZ];omega
   · refine⟨λb u z=>?_,?_⟩
     · rw[aq (ao z hD)];exact k1 b u z
     · have e1:oh (V.int (n:Nat)) (nV sa)=decide (n∈sa):=by
        rw[nX,Zg]
        exact⟨λ⟨m,h1,h2⟩=>by have:n=m:=by omega
                             subst this;exact h1,λh=>⟨n,h,rfl⟩⟩
       rw[ae,take_snoc hn,XQ];show some (HO.lst (_++[V.bl (oh (V.int (n:Nat)) (nV sa))]))=_;rw[e1];rfl
 · rintro H' ⟨k1,k2⟩;have k2:H' D=some (.lst ((sb.take (nV sb).length).map λn=>V.bl (decide (n∈sa)))):=k2;rw[aN,Ys] at k2;refine⟨D,sb.map λn=>decide (n∈sa),rfl,aP.of (by rw[k2,XY];rfl),_,rfl,?_⟩;have eA:((sb.map λn=>decide (n∈sa)).any id)=!decide (∀x∈sb,¬x∈sa):=by
    rw[X9,ZS];simp
   rw[eA];have NY:=k1 _ _ Qh;have RF:=k1 _ _ RE;have Qj:=k1 _ _ Wt;have Qk:=Oq.same k1;refine gH (λh=>?_) (λh=>?_)
   · have h:¬∀x∈sb,¬x∈sa:=by simpa using h
     rw[Xv (λz=>h z.1)] at q0;refine qj ?_;exact ju (bf (ag rfl) Qj T.cl (T.no _ (by simp)) bM) (q0 _ rfl)
   · have LR:∀x∈sb,¬x∈sa:=by simpa using h
     refine aS (jy (jA (aU (ag rfl) (.inl (aP.of NY))) (aU (ag rfl) (.inl (aP.of RF)))) (ag rfl)) (λh=>?_) (λh=>?_)
     · rw[aN,aN] at h;have h:=XR h;rw[Xv (λz=>by have:=z.2;omega)] at q0;exact ju (bf (ag rfl) Qj T.cl (T.no _ (by simp)) bM) (q0 _ rfl)
     · rw[aN,aN] at h;have h:=Ye h;rw[Xw ⟨LR,by omega⟩] at q1;refine⟨_,rfl,_,rfl,(by show 2<=sizeLine;decide),λu hu=>q1 _ _ rfl _ u p2 (λb o z n=>?_) ⟨[x,y],ae,.cons ?_ (.cons ?_ .nil)⟩ (Qk.same ((au.refl H').laid hu))⟩
       · have:=k1 b o (Qi b o z n);rw[aq (ao this hu)];exact this
       · rw[aq (ao NY hu)];exact NY
       · rw[aq (ao RF hu)];exact RF
end
theorem An {e:Nat}{h:aaf}{t acc:aae}{l:List Word}:jq e (h::t) acc l=match (if 0 < acc.length then must e "/" l else .ok l) with
  |.error x=>.error x
  |.ok m=>match setIn e h m with
   |.error x=>.error x
   |.ok s=>jq e t (acc++[s.1.1]) s.2:=rfl
section
variable {P:Program}{w:World}{K:aag}{mg:aai}{base:Heap}
def Gs (K:aag) (CW CF:Addr):Sp:=λvs H Q E=>∃(a f:Addr) (fs:aae) (e:Nat) (l:List Word) (pl:Nat),vs=[.ref a,.ref f]/\aT K CW H a e l pl/\bE K H f fs/\fs.length<=24/\(∀fd∈fs,∀x∈fd,x<=24)/\ET K CW CF a e H Q E (jq e fs [] l)
theorem CS:aG ["words","fields","sets","field"] ["words","fields"] (aw ku):=fs
theorem JA {CW CF aW:Addr}(G:GW mg)(B:GB K mg aW)(T:CK K mg "Words" cw CW)(FL:Flt P w K mg base CF){k:Nat}(hk:2<=k)(FS:Fn P w K mg base (eW P w CF) k "take_set" ["words","field"] (uQ K CW CF))(FO:nN P w K mg base (eW P w CF) k CW "take_one_of" ["self","known"] (qH K CW CF))
  {f:Addr}{fd:FuncData}(F:dk K "take_on" "take_on" ku f fd):a8 P w K mg base (eW P w CF) (k+1) f fd ["words","fields"] (Gs K CW CF):=by
 refine F.lU CS λLG A outer s H vs Q E hr h=>?_;obtain⟨a,fa,fs,e,l,pl,rfl,hW,⟨ME,Ql,Qm⟩,Nr,LX,q0,q1⟩:=h;refine⟨_,af (a7 2 CS.nd (bV ah))
  (af (df (yQ aH) rfl (bJ (pv 1)) (bp 3 CS.nd)
   (af (aO (aB kX (bg G.len (pv 2)) ax (aJ _)) (ak (dP (ly FO T.cl (pv 0) hr (bQ aH rfl rfl) (aa (c_ (aa bq ah)) ah)))) aC)
   (ak (dP (qu PySem.F.plainAttrs_list PySem.F.slot_list_append PySem.F.type_list_append iA (pv 2) (aa (aR FS hr (bQ aH rfl rfl) (aa (pv 0) (aa (pv 3) ah))) ah))))))
  (ak (az (pv 2)))),?_⟩
 obtain⟨d0,w0,m0,n0,Ma⟩:=hW.obj;have MM:ME.length=fs.length:=Paired.length Qm;refine⟨X2 _,λp hp=>?_⟩;have S0:au H (upd H p (.lst [])):=(au.refl H).laid hp;have Te:a≠p:=ao Ma hp;refine⟨_,rfl,fa,rfl,⟨_,S0.seq Ql⟩,dq (K:=K) (a:=fa) (xs:=ME.map V.ref) (λi σ H'=>∃(v3:Option V) (acc:aae) (MX:List Addr) (l':List Word) (NX:Nat),σ=[some (.ref a),some (.ref fa),some (.ref p),v3]/\aL a H H'/\aT K CW H' a e l' NX /\
   H' p=some (.lst (MX.map V.ref))/\Paired (λb ns=>b≠p/\H' b=some (.lst (nV ns))) MX acc/\acc.length=i/\i<=fs.length/\jq e (fs.drop i) acc l'=jq e fs [] l)
  ⟨none,[],[],l,pl,rfl,S0.x,hW.same S0,ae,.nil,rfl,X2 _,rfl⟩ (λi σ H' _ ⟨_,_,_,_,_,_,SX,_⟩=>SX.seq Ma Ql) ?_ ?_⟩
 · rintro i x σ H' hi ⟨v3,acc,MX,l',NX,rfl,SX,Mv,e2,hP,Qe,LN,hc⟩;rw[Xz] at hi;obtain⟨fi,Wu,rfl⟩:=X6.mp hi;obtain⟨fl,NZ,Wv⟩:=Paired.qL Qm Wu;have LN:i < fs.length:=(XI.mp NZ).1;have hd:fs.drop i=fl::fs.drop (i+1):=by
    rw[YS LN];congr 1;exact X8 ((XE LN).symm.trans NZ)
   rw[hd,An] at hc;have Ww:=LX fl (X0 NZ);obtain⟨d1,w1,m1,n1,Mf⟩:=Mv.obj;have Pa:MX.length=acc.length:=Paired.length hP;dsimp only;refine aS (b:=decide (0 < acc.length)) (yr (jy (aU (ag rfl) (.inl (aP.of e2))) aD) ?_) (λh=>?goA) (λh=>?goB)
   · rw[Xu,Pa,Zg];omega
   case' goA =>
    have h:=XR h;rw[Xw h] at hc;refine⟨_,rfl,a,d1,_,rfl,Mf,cG (by decide +kernel),(by show 1<=sizeLine;decide),λt ht=>?_⟩;have St:au H' (upd H' t (.tup [V.str (Str.ofString "/")])):=(au.refl H').laid ht;show eV _ _ _;unfold eV;dsimp only [Yx];refine mr (s:="/") (by decide +kernel) (Mv.same St) (b7.of ae) (λy hy=>?_) (λm hm H2 v Om S2 Ny=>?_)
    · rw[hy] at hc;exact q0 _ hc.symm
    rw[hm] at hc;have Ot:aL a H H2:=(SX.trans St.x).trans S2;have Qn:H2 p=some (.lst (MX.map V.ref)):=S2 _ _ (St _ _ e2) Te.symm;have Tf:Paired (λb ns=>b≠p/\H2 b=some (.lst (nV ns))) MX acc:=Paired.d9 hP λb ns z=>⟨z.1,S2 _ _ (St _ _ z.2) (dG z.2 Mf (by intro q;cases q))⟩;clear e2 hP Mv Mf St S2 SX
   case' goB =>
    have h:=Ye h;rw[Xv h] at hc;obtain⟨H2,P9⟩:∃H2,H2=H':=⟨_,rfl⟩;obtain⟨m,hm⟩:∃m,m=l':=⟨_,rfl⟩;obtain⟨Om,RG⟩:∃m,m=NX:=⟨_,rfl⟩;rw[←hm] at hc Mv;rw[←RG] at Mv;rw[←P9] at Mv e2 hP SX;rw[←P9];have Ny:=Mv;have Ot:=SX;have Qn:=e2;have Tf:=hP
   all_goals
    dsimp only at hc;obtain⟨d2,w2,m2,n2,Pl⟩:=Ny.obj;refine⟨_,rfl,.inl ⟨rfl,_,aP.of Qn⟩,?_⟩;refine⟨_,rfl,_,rfl,a,fi,fl,e,m,Om,rfl,Ny,Ot.seq Ma Wv,Ww,λt ht=>?_,λst q r Mj H3 x S3 hx Qh Oq=>?_⟩
    · rw[ht] at hc;exact q0 _ hc.symm
    rw[Mj] at hc;dsimp only at hc;have O5:x≠p:=(ao Qn hx).symm;have e3:H3 p=some (.lst (MX.map V.ref)):=S3 _ _ Qn Te.symm;refine⟨p,_,_,rfl,rfl,e3,by rw[Xu,XZ];omega,?_⟩;refine⟨_,acc++[st],MX++[x],r,q,rfl,(Ot.trans S3).laid hp,Oq.put e3 Dn,?_,?_,by simp[Qe],LN,hc⟩
    · rw[ae,XQ];rfl
    · refine Paired.snoc (Paired.d9 Tf λb ns z=>⟨z.1,?_⟩) ⟨O5,by rw[aq O5];exact Qh⟩;rw[aq z.1];exact S3 _ _ z.2 (dG z.2 Pl (by intro q;cases q))
 · rintro σ H' ⟨v3,acc,MX,l',NX,rfl,SX,Mv,e2,hP,Qe,LN,hc⟩;rw[Xu,MM,Zm] at hc;exact⟨_,rfl,q1 _ _ hc.symm _ _ NX SX ⟨MX,e2,Paired.d9 hP λb ns z=>z.2⟩ Mv⟩
end
section
variable {P:Program}{w:World}{K:aag}{mg:aai}{base:Heap}
theorem DI {H:Hp} {fa:Addr} {p:aK} (o:Du p) (h:bE K H fa p.fields):∃(as:List Addr) (b:Addr),aP K H fa (as.map V.ref)/\as.length=p.fields.length/\n8 (as.map V.ref) 0=some (V.ref b)/\aP K H b (nV (p.fields.getD 0 []))/\∀x∈p.fields.getD 0 [],x<=24:=by
 obtain⟨as,h1,h2⟩:=h;have hl:0 < p.fields.length:=Yz.mpr o.ne;obtain⟨b,hb,hI⟩:=Paired.at2 h2 (XE hl);have eg:p.fields.getD 0 []=p.fields[0]:=by rw[Yd,XE hl];rfl
 refine⟨as,b,h1,Paired.length h2,?_,by rw[eg];exact hI,by rw[eg];exact o.hi _ (Zl hl)⟩;exact cy (j:=0) (by rw[Xz,hb];rfl)
def xn (K:aag)(CW CF CP:Addr):Sp:=λvs H Q E=>∃(a b:Addr) (p:aK) (how e:Nat) (l:List Word) (pl:Nat),vs=[.ref a,.ref b,.int (how:Nat)]/\aT K CW H a e l pl/\de K CP H b p/\Du p/\ET K CW CF a e H Q E (fD e p how l)
theorem yT:aG ["words","pool","how","size"] ["words","pool","how"] (aw gQ):=fs
theorem EW {CW CF CP aW:Addr}(G:GW mg)(B:GB K mg aW)(TP:CK K mg "Pool" hU CP){k:Nat}(FO:Fn P w K mg base (eW P w CF) k "take_on" ["words","fields"] (Gs K CW CF))(FB:Fn P w K mg base (eW P w CF) k "take_box" ["words","field","size"] (AO K CW CF))(FK:Fn P w K mg base (eW P w CF) k "take_key" ["words","field","size"] (Ca K CW CF))
  {f:Addr}{fd:FuncData}(F:dk K "take_sets" "take_sets" gQ f fd):a8 P w K mg base (eW P w CF) (k+1) f fd ["words","pool","how"] (xn K CW CF CP):=by
 refine F.lU yT λLG A outer s H vs Q E hr h=>?_;obtain⟨a,b,p,how,e,l,pl,rfl,hW,⟨dx,fa,hb,hF⟩,o,g⟩:=h;refine⟨_,af (aO (aB cp (pv 2) (bb B.on) (aJ _)) (ak (az (aR FO hr (bQ aH rfl rfl) (aa (pv 0) (aa (a6 (pv 1) rfl) ah))))) aC)
  (af (a7 3 yT.nd (bg G.len (a6 (pv 1) rfl)))
  (af (aO (aB cp (pv 2) (bb B.box) (aJ _)) (ak (az (aR FB hr (bQ aH rfl rfl) (aa (pv 0) (aa (bo aM (a6 (pv 1) rfl) ax (λ_ _=>rfl)) (aa (pv 3) ah)))))) aC)
  (ak (az (aR FK hr (bQ aH rfl rfl) (aa (pv 0) (aa (bo aM (a6 (pv 1) rfl) ax (λ_ _=>rfl)) (aa (pv 3) ah)))))))),?_⟩
 unfold fD at g;obtain⟨as,b0,h1,h2,h3,h4,h5⟩:=DI o hF;have Qo:∀{σ:L2.St},σ[1]?=some (some (V.ref b))->Ev (vk K (cJ 1) "fields") σ H (.ref fa):=λz=>bf (ag z) hb TP.cl (TP.no _ (by simp)) mf;refine aS (aI (cb (ag rfl) aD)) (λh=>?_) (λh=>?_)
 · rw[aZ] at h;have h:how=0:=by have:=YZ h;omega
   rw[Xw h] at g;refine⟨_,rfl,Qo rfl _ ⟨a,fa,p.fields,e,l,pl,rfl,hW,hF,o.len,o.hi,g⟩⟩
 · rw[aZ] at h;have h:¬how=0:=λz=>by rw[z] at h;cases h
   rw[Xv h] at g;refine cH (aU (Qo rfl) (.inl h1)) ?_;rw[Xu,h2];refine aS (aI (cb (ag rfl) aD)) (λh=>?_) (λh=>?_)
   · rw[aZ] at h;have h:how=1:=by have:=YZ h;omega
     rw[Xw h] at g;refine⟨_,rfl,(aX (Qo rfl) aD h1 h3) _ ⟨_,rfl,⟨a,b0,_,_,e,l,pl,rfl,hW,h4,h5,g⟩⟩⟩
   · rw[aZ] at h;have h:¬how=1:=λz=>by rw[z] at h;cases h
     rw[Xv h] at g;refine⟨_,rfl,(aX (Qo rfl) aD h1 h3) _ ⟨_,rfl,⟨a,b0,_,_,e,l,pl,rfl,hW,h4,h5,g⟩⟩⟩
end
end Bw
namespace L2
open PySem PySem.Spec PyProof.Rows
theorem tH {prog:Program}{w:World}{A:Around}{a:Addr}{u0 u1 u2 uy:Value}{n:Nat}{E:aah}{Q:aah}{s:Shared}{o:Obj}(ho:s.heap.get? a=some o)(hc:o.cls=.type "tuple")(hd:o.data=.seq #[u0,u1,u2] n)
  {b0 b1 b2:Bool}(e0:SeqAt.EqAt A s u0 uy b0)(e1:SeqAt.EqAt A s u1 uy b1)(e2:SeqAt.EqAt A s u2 uy b2){j:Nat}(hj:(b0=true/\j=0)∨(b0=false/\((b1=true/\j=1)∨(b1=false/\b2=true/\j=2))))
  (q:Q (.int (j:Nat) s.toks) {s with toks:=s.toks+1}):wpAny (model prog w) A (Builtin.«tuple.index» {pos:=[.ref a,uy]}) (λfin s'=>∃v,fin=Fin.done (Flow.ret v)/\Q v s') E s:=by
 show wpAny _ _ (selfAndSome "tuple.index" "index" 1 3 {pos:=[.ref a,uy]} >>= _) _ E s;refine Xs (m:=selfAndSome "tuple.index" "index" 1 3 {pos:=[.ref a,uy]}) ?_;have h1:selfAndSome "tuple.index" "index" 1 3 {pos:=[.ref a,uy]}=pure (.ref a,[uy]):=by rfl
 rw[h1];refine XA ?_;refine Xs (m:=Builtin.Tuple.tupleItemsOf (.ref a)) (tupleItemsOf_ (items:=#[u0,u1,u2]) ⟨_,ho,hc,n,hd⟩ ?_);refine Xs (m:=pure 0) (XA ?_);refine Xs (m:=pure 3) (XA ?_);refine Xs ?_;rw[Std.Legacy.Range.forIn_eq_forIn_range'];have hr:List.range' [:min 3 #[u0,u1,u2].size].start [:min 3 #[u0,u1,u2].size].size [:min 3 #[u0,u1,u2].size].step=[0,1,2]:=by
  show List.range' 0 ((min 3 3 - 0+1 - 1) / 1) 1=[0,1,2];decide
 rw[hr];have fin:∀(i:Nat),i=j->∀{R:ForInStep (Option PySem.Fin×Unit)->Shared->Prop},(∀v s',v=Value.int (j:Nat) s.toks->s'={s with toks:=s.toks+1}->R (.done (some (.done (.ret v)),())) s')->wpAny (model prog w) A (do let x ←retInt (i:Nat);pure (ForInStep.done (some x,()))) R E s:=λi hi R hR=>by
  subst hi;exact Xs (Xs (wpAny_mkInt (XA (XA (hR _ _ rfl rfl)))))
 rw[List.forIn_cons];refine Xs (Xs (e0 _ _ _ _ ?_));rcases hj with ⟨rfl,rfl⟩|⟨rfl,hj⟩
 · exact fin 0 rfl λv s' hv hs=>XA (XA ⟨v,rfl,by rw[hv,hs];exact q⟩)
 refine XA ?_;show wpAny _ _ (forIn [1,2] _ _) _ _ _;rw[List.forIn_cons];refine Xs (Xs (e1 _ _ _ _ ?_));rcases hj with ⟨rfl,rfl⟩|⟨rfl,rfl,rfl⟩
 · exact fin 1 rfl λv s' hv hs=>XA (XA ⟨v,rfl,by rw[hv,hs];exact q⟩)
 refine XA ?_;show wpAny _ _ (forIn [2] _ _) _ _ _;rw[List.forIn_cons];refine Xs (Xs (e2 _ _ _ _ ?_));exact fin 2 rfl λv s' hv hs=>XA (XA ⟨v,rfl,by rw[hv,hs];exact q⟩)
section
variable {X:Cx}
def IB (K:aag):V->List V->Hp->VK->Prop:=λx xs H Q=>∃(a:Addr) (y0 y1 y2 y:V) (j:Nat),x=V.ref a/\xs=[y]/\b7 K H a [y0,y1,y2]/\dO y=true/\[y0,y1,y2].all dO=true /\
 ((r9 y0 y=true/\j=0)∨(r9 y0 y=false/\((r9 y1 y=true/\j=1)∨(r9 y1 y=false/\r9 y2 y=true/\j=2))))/\Q (.int (j:Nat)) H
theorem Eo:Br X "tuple.index" (IB X.K):=by
 intro pins s σ H x xs v us Q I rx QX h;obtain⟨a,y0,y1,y2,y,j,rfl,rfl,hs,fy,Nl,hj,q⟩:=h;cases rx;obtain⟨uy,rfl,ry⟩:=QX.one;obtain⟨LF,rv,⟨o,ho,hc,n,hd⟩,hz⟩:=I.tuple hs;have Wx:=rv;cases rv with
 |cons r0 rv=>cases rv with
  |cons r1 rv=>cases rv with
   |cons r2 rv =>
    cases rv;have key:=λ(A:Around) (u:Value) (hu:u∈_)=>gu (A:=A) (s:=s) ry fy Wx Nl u hu;have f0:dO y0=true:=X1.mp Nl _ (by simp);have f1:dO y1=true:=X1.mp Nl _ (by simp);have f2:dO y2=true:=X1.mp Nl _ (by simp);rw[←lJ r0 f0,←lJ r1 f1,←lJ r2 f2] at hj;exact YR PySem.F.slot_tuple_index ⟨_,ho,hc⟩ PySem.F.entry_tuple_index
     (tH ho hc hd (key _ _ (by simp)) (key _ _ (by simp)) (key _ _ (by simp)) hj ⟨.int (j:Nat),H,I.tok _,⟨_,rfl⟩,q⟩) (PySem.F.args_tuple_index_2 _ _)
end
end L2
namespace Bw
open PySem PySem.Spec PyProof.Rows L2 Tote
section
variable {P:Program}{w:World}{K:aag}{mg:aai}{base:Heap}
def C1 (K:aag) (CW CF CP:Addr):Sp:=λvs H Q E=>∃(a b:Addr) (p:aK) (e:Nat) (l:List Word) (pl:Nat),vs=[.ref a,.ref b]/\aT K CW H a e l pl/\de K CP H b p/\(l=[]->Rz CF E 3 (e:Nat)) /\
 (∀w r,l=w::r->jn p w.w=none->Rz CF E 3 (w.at_:Nat))/\(∀w r how,l=w::r->jn p w.w=some how->∀H',aL a H H'->aT K CW H' a e r w.at_->Q (.int (how:Nat)) H')
theorem Hk:aG ["words","pool"] ["words","pool"] (aw jd):=fs
theorem CT {k:Tote.Kind}:oh (.str (st (cd (kindS k)))) [V.str (Str.ofString "order"),V.str (Str.ofString "any")]=(k==.order||k==.any):=by
 have:=CO (kn:=["order","any"]) (w:=cd (kindS k));rw[show [V.str (Str.ofString "order"),V.str (Str.ofString "any")]=(["order","any"].map λs=>V.str (Str.ofString s)) from rfl,this];cases k <;> decide
theorem Hm {CW CF CP aW:Addr}(B:GB K mg aW)(T:CK K mg "Words" cw CW)(TP:CK K mg "Pool" hU CP){k:Nat}(FO:nN P w K mg base (eW P w CF) k CW "take_one_of" ["self","known"] (qH K CW CF))
  {f:Addr}{fd:FuncData}(F:dk K "take_how" "take_how" jd f fd):a8 P w K mg base (eW P w CF) (k+1) f fd ["words","pool"] (C1 K CW CF CP):=by
 refine F.lU Hk λLG A outer s H vs Q E hr h=>?_;obtain⟨a,b,p,e,l,pl,rfl,hW,⟨dx,fa,hb,hF⟩,q0,q1,q2⟩:=h;refine⟨_,af (aO (aB gg (a6 (pv 1) rfl) (c_ (aa bq (aa bq ah))) (by with_unfolding_all rfl))
   (ak (az (qu PySem.F.plainAttrs_tuple PySem.F.slot_tuple_index PySem.F.type_tuple_index Eo (bb B.IV) (aa (ly FO T.cl (pv 0) hr (bQ aH rfl rfl) (aa (bb B.IV) ah)) ah)))) aC)
  (af (dP (ly FO T.cl (pv 0) hr (bQ aH rfl rfl) (aa (c_ (aa bq ah)) ah)))
  (ak (az (bb B.on)))),?_⟩
 obtain⟨d0,w0,m0,n0,Ma⟩:=hW.obj;refine (bf (ag rfl) hb TP.cl (TP.no _ (by simp)) iZ) _ ⟨(by show 2<=sizeLine;decide),λt ht=>⟨t,_,rfl,.inr (b7.of ae),rfl,rfl,?_⟩⟩;have S0:au H (upd H t (.tup [V.str (Str.ofString "order"),V.str (Str.ofString "any")])):=(au.refl H).laid ht;have Qb:=hW.same S0;have Mf:=S0 _ _ Ma;refine⟨_,rfl,?_⟩;show if oh (.str (st (cd (kindS p.kind)))) [V.str (Str.ofString "order"),V.str (Str.ofString "any")]=true then _ else _;rw[CT];refine gH (λh=>?_) (λh=>?_)
 · have Pn:cR p=true:=h;have Ou:∀(x:String) (v:W),r9 (V.str (Str.ofString x)) (V.str (st v))=decide (v=cd x):=λx v=>by
    show (Str.ofString x==st v)=_;rw[X9,Yl,XC,kU,jE];exact⟨λz=>z.symm,λz=>z.symm⟩
   refine⟨.inr (.inl ⟨rfl,B.JB⟩),_,rfl,a,d0,_,rfl,Mf,cG (by decide +kernel),a,aW,["on","box","key"],e,l,pl,rfl,Qb,B.yJ _,q0,λwd r hl hn=>?_,λwd r hl ho H' S h'=>?_⟩
   · refine q1 wd r hl ?_;unfold jn;have no:∀x∈["on","box","key"],plainT x=true->¬wd.w=ascii x:=λx hx hp z=>hn ⟨x,hx,(bh _ hp).mpr z⟩;rw[Xv (no _ (by simp) (by decide +kernel)),Xv (λz=>no _ (by simp) (by decide +kernel) z.1),Xv (λz=>no _ (by simp) (by decide +kernel) z.1)]
   · have Tg:=bh (s:="on") wd.w (by decide +kernel);have Po:=bh (s:="box") wd.w (by decide +kernel);have RH:=bh (s:="key") wd.w (by decide +kernel);have S2:aL a H H':=S0.x.trans S;have q2:=λhow hh=>q2 wd r how hl hh H' S2 h';unfold jn at q2;by_cases c0:wd.w=ascii "on"
     · rw[Xw c0] at q2;exact⟨aW,_,_,_,_,0,rfl,rfl,B.yJ _,rfl,rfl,.inl ⟨by rw[Ou];exact X_ (Tg.mpr c0),rfl⟩,q2 0 rfl⟩
     · rw[Xv c0] at q2;have RI:¬tx wd.w=cd "on":=λz=>c0 (Tg.mp z);by_cases c1:wd.w=ascii "box"
       · rw[Xw ⟨c1,Pn⟩] at q2;exact⟨aW,_,_,_,_,1,rfl,rfl,B.yJ _,rfl,rfl,.inr ⟨by rw[Ou];exact Yj RI,.inl ⟨by rw[Ou];exact X_ (Po.mpr c1),rfl⟩⟩,q2 1 rfl⟩
       · rw[Xv (λz=>c1 z.1)] at q2;have Th:¬tx wd.w=cd "box":=λz=>c1 (Po.mp z);have N6:tx wd.w=cd "key":=by
          obtain⟨x,hx,hw⟩:=ho;simp only[Xy,Zh,or_false] at hx;rcases hx with rfl|rfl|rfl
          · exact absurd hw RI
          · exact absurd hw Th
          · exact hw
         rw[Xw ⟨RH.mp N6,Pn⟩] at q2;exact⟨aW,_,_,_,_,2,rfl,rfl,B.yJ _,rfl,rfl,.inr ⟨by rw[Ou];exact Yj RI,.inr ⟨by rw[Ou];exact Yj Th,by rw[Ou];exact X_ N6,rfl⟩⟩,q2 2 rfl⟩
 · have Pn:cR p=false:=by
    unfold cR;simpa using h
   refine⟨_,rfl,a,d0,_,rfl,Mf,cG (by decide +kernel),(by show 1<=sizeLine;decide),λt2 Wy=>?_⟩;have St:au H (upd (upd H t (.tup [V.str (Str.ofString "order"),V.str (Str.ofString "any")])) t2 (.tup [V.str (Str.ofString "on")])):=S0.trans ((au.refl _).laid Wy);show eV _ _ _;unfold eV;dsimp only [Yx];have one:∀wd:Word,m8 ["on"] wd↔wd.w=ascii "on":=λwd=>by
    rw[←bh _ (by decide +kernel)];unfold m8;exact⟨λ⟨x,h1,h2⟩=>by rw[XJ] at h1;subst h1;exact h2,λh=>⟨_,List.mem_singleton_self _,h⟩⟩
   refine⟨a,t2,["on"],e,l,pl,rfl,hW.same St,b7.of ae,q0,λwd r hl hn=>?_,λwd r hl ho H' S h'=>?_⟩
   · refine q1 wd r hl ?_;unfold jn;rw[Xv (λz=>hn ((one wd).mpr z)),Xv (λz=>by rw[Pn] at z;cases z.2),Xv (λz=>by rw[Pn] at z;cases z.2)]
   · refine q2 wd r 0 hl ?_ H' (St.x.trans S) h';unfold jn;rw[Xw ((one wd).mp ho)]
end
end Bw
namespace L2
open PySem PySem.Spec PyProof.Rows
theorem uF {K:aag}{a:Addr}{xs:List V}{g:TG}{tb:TS}{D:Ends}{σ:L2.St}{H:Hp}(Pv:Nat->L2.St->Hp->Prop)(h0:Pv 0 σ H)(hl:∀i σ H,i<=xs.length->Pv i σ H->aP K H a xs)
  (hs:∀i x σ H T,xs[i]?=some x->Pv i σ H->H T=none->g (.ref T) σ (upd H T (.tup [.int (i:Nat),x])) λσ2 H2=>tb {D with nx:=Pv (i+1),ct:=Pv (i+1),bk:=D.nx} σ2 H2)(hd:∀σ H,Pv xs.length σ H->D.nx σ H) :
  ∃W:Nat->Nat->L2.St->Hp->Prop,(∃m,W 0 m σ H)/\∀i m σ H,W i m σ H ->
   ((Fj K a).stop i H/\D.nx σ H)∨((Fj K a).go i H/\∃N:L2.St->Hp->Prop,(∀σ' H',N σ' H'->∃m',m' < m/\W (i+1) m' σ' H')/\∀x H',(Fj K a).v_ i H x H'->g x σ H' λσ2 H2=>tb {D with nx:=N,ct:=N,bk:=D.nx} σ2 H2):=by
 refine⟨λi m σ H=>m=xs.length - i/\i<=xs.length/\Pv i σ H,⟨xs.length,by simp,X2 _,h0⟩,?_⟩;rintro i m σ H ⟨rfl,hi,p⟩;have q:=hl i σ H hi p;by_cases LJ:i < xs.length
 · refine .inr ⟨⟨xs,xs[i],q,by simp[LJ]⟩,Pv (i+1),λσ' H' p'=>⟨xs.length - (i+1),by omega,rfl,LJ,p'⟩,λx H' y=>?_⟩;obtain⟨T,v,rfl,hT,rfl,hx⟩:=y;exact hs i v σ _ T (hx xs q) p hT
 · have e:i=xs.length:=by omega
   subst e;exact .inl ⟨⟨xs,q,XD _⟩,hd σ H p⟩
end L2
namespace Bw
open PySem PySem.Spec PyProof.Rows L2 Tote
section
variable {K:aag}{CW CP:Addr}{H H':Hp}{a b:Addr}
theorem aL.lists {dx:Addr} {fs:List (Str×V)} {rs:aae} (S:aL a H H') (ha:H a=some (.ins CW dx fs)) (h:bE K H b rs):bE K H' b rs:=by
 obtain⟨as,h1,h2⟩:=h;exact⟨as,S.seq ha h1,Paired.d9 h2 λ_ _ z=>S.seq ha z⟩
theorem B7 {C dx C' MC:Addr}{fs Mb:List (Str×V)}(h:fs.length≠Mb.length):HO.ins C dx fs≠HO.ins C' MC Mb:=by
 intro z;injection z with _ _ z;exact h (by rw[z])
theorem de.jC {dx:Addr}{v0 v1 v2 v3 v4:V}{p:aK}(h:de K CP H b p)(S:aL a H H')(ha:H a=some (.ins CW dx (bT v0 v1 v2 v3 v4))):de K CP H' b p:=by
 obtain⟨d,fa,h1,h2⟩:=h;exact⟨d,fa,S _ _ h1 (dG h1 ha (B7 (by show 4≠5;decide))),aL.lists S ha h2⟩
theorem cV.jC {dx:Addr}{v0 v1 v2 v3 v4:V}{ps:List aK}(h:cV K CP H b ps)(S:aL a H H')(ha:H a=some (.ins CW dx (bT v0 v1 v2 v3 v4))):cV K CP H' b ps:=by
 obtain⟨as,h1,h2⟩:=h;exact⟨as,S.seq ha h1,Paired.d9 h2 λ_ _ z=>de.jC z S ha⟩
end
section
variable {P:Program}{w:World}{K:aag}{mg:aai}{base:Heap}
def sO (K:aag) (CW CF CP:Addr):Sp:=λvs H Q E=>∃(a b:Addr) (ps:List aK) (e:Nat) (l:List Word) (pl:Nat),vs=[.ref b,.ref a]/\aT K CW H a e l pl/\cV K CP H b ps/\(l=[]->Rz CF E 3 (e:Nat)) /\
 (∀w r,l=w::r->dQ ps (tx w.w)=none->Rz CF E 5 (w.at_:Nat))/\(∀w r i,l=w::r->dQ ps (tx w.w)=some i->∀H',aL a H H'->aT K CW H' a e r w.at_->Q (.int (i:Nat)) H')
theorem mD:aG ["pools","words","name","number","pool"] ["pools","words"] (aw gP):=fs
theorem Ce {CW CF CP aW:Addr}(B:GB K mg aW)(T:CK K mg "Words" cw CW)(TP:CK K mg "Pool" hU CP)(FL:Flt P w K mg base CF){k:Nat}(hk:2<=k)(FT:nN P w K mg base (eW P w CF) k CW "take" ["self"] (nj K CW CF))
  {f:Addr}{fd:FuncData}(F:dk K "take_pool" "take_pool" gP f fd):a8 P w K mg base (eW P w CF) (k+1) f fd ["pools","words"] (sO K CW CF CP):=by
 refine F.lU mD λLG A outer s H vs Q E hr h=>?_;obtain⟨a,b,ps,e,l,pl,rfl,hW,MF,q0,q1,q2⟩:=h;refine⟨_,af (a7 2 mD.nd (jg FT T.cl (pv 1) hr (bQ aH rfl rfl)))
  (af (df (yQ aH) rfl (tN rfl B.enum (aa (pv 0) ah)) (lH rfl (b_ (bp 3 mD.nd) (b_ (bp 4 mD.nd) iK)))
   (ak (aO (aB cp (a6 (pv 4) rfl) (pv 2) (aJ _)) (ak (az (pv 3))) aC)))
  (ak (fN FL aH (hr.mono hk) (aa (bb B.pool) (aa (a6 (pv 1) rfl) ah))))),?_⟩
 obtain⟨d0,w0,m0,n0,Ma⟩:=hW.obj;refine⟨_,rfl,a,d0,_,rfl,Ma,cG (by decide +kernel),a,e,l,pl,rfl,hW,q0,λwd r hl H1 S1 L9 Mu=>?_⟩;have RJ:=cV.jC MF S1 Ma;obtain⟨as,hA,hP⟩:=RJ;have q1:=q1 wd r hl;have q2:=λi=>q2 wd r i hl;generalize tx wd.w=nm at q1 q2;refine⟨_,rfl,b,_,rfl,hA,uF (K:=K) (a:=b) (xs:=as.map V.ref) (λi σ H'=>∃(v3 v4:Option V),σ=[some (.ref b),some (.ref a),some (.str (st nm)),v3,v4]/\au H1 H'/\∀j p,j < i->ps[j]?=some p->¬p.name=nm)
  ⟨none,none,rfl,au.refl H1,λj p hj=>absurd hj (Nat.not_lt_zero j)⟩ (λi σ H' _ ⟨_,_,_,S,_⟩=>S.seq hA) ?_ ?_⟩
 · rintro i x σ H' tt hi ⟨v3,v4,rfl,S2,MV⟩ hT;rw[Xz] at hi;obtain⟨ai,L6,rfl⟩:=X6.mp hi;obtain⟨p,hp,d,fa,MY,_⟩:=Paired.qL hP L6;have S3:au H1 (upd H' tt (.tup [.int (i:Nat),.ref ai])):=S2.trans ((au.refl H').laid hT);refine⟨tt,_,rfl,b7.of ae,rfl,_,_,rfl,_,_,rfl,rfl,?_⟩;refine aS (aI (cb (bf (ag rfl) (S3 _ _ MY) TP.cl (TP.no _ (by simp)) k6) (ag rfl))) (λh=>?_) (λh=>?_)
   · have h:p.name=nm:=by
      have:=XR h;injection this with this;exact jE.mp this
     refine⟨_,rfl,q2 i ?_ _ (S1.trans S3.x) (L9.same S3)⟩;unfold dQ;rw[ZL];obtain⟨LN,Wz⟩:=XI.mp hp;refine⟨LN,by rw[Wz,h];exact beq_self_eq_true _,λj hj=>?_⟩;have:=MV j _ hj (XE (by omega));simpa using this
   · have h:¬p.name=nm:=λz=>by
      have:=Ye h;exact this (by rw[z])
     refine⟨_,_,rfl,S3,λj p' hj Pp=>?_⟩;by_cases WA:j=i
     · subst WA;rw[hp] at Pp;injection Pp with Pp;subst Pp;exact h
     · exact MV j p' (by omega) Pp
 · rintro σ H' ⟨v3,v4,rfl,S2,MV⟩;obtain⟨d1,w1,m1,n1,Mf⟩:=L9.obj;dsimp only;refine ju (bf (ag rfl) (S2 _ _ Mf) T.cl (T.no _ (by simp)) bM) (q1 ?_);unfold dQ;rw[List.findIdx?_eq_none_iff];intro p hp;obtain⟨j,hj⟩:=List.mem_iff_getElem?.mp hp;have Oc:=(XI.mp hj).1;have:=MV j p (by rw[Xu,Paired.length hP];exact Oc) hj;simpa using this
end
def qw:Bool->Nat->aaf->Option Nat
 |_,_,[]=>none
 |gap,p,c::r=>if ¬(32<=c/\c<=126) then some p else if c=32/\(gap=true∨r=[]) then some p else qw (c==32) (p+1) r
def va (cs:aaf):Option Nat:=if cs=[] then some 0 else qw true 0 cs
theorem ug:∀(l:Bytes) (gap:Bool) (p:Nat),gap=false∨l≠[]->badByte gap p l=qw gap p (l.map UInt8.toNat)
 |[],gap,p,h=>by
  have:gap=false:=by simpa using h
  subst this;rfl
 |c::r,gap,p,_=>by
  have Ti:c=32↔c.toNat=32:=⟨λz=>by rw[z];rfl,λz=>jt z⟩;have elt:(c < 32∨126 < c)↔¬(32<=c.toNat/\c.toNat<=126):=by
   rw[UInt8.lt_iff_toNat_lt,UInt8.lt_iff_toNat_lt];show c.toNat < 32∨126 < c.toNat↔_;omega
  show (if c < 32∨126 < c then some p else if c=32 then (if gap=true then some p else if r.isEmpty=true then some p else badByte true (p+1) r) else badByte false (p+1) r) =
   if ¬(32<=c.toNat/\c.toNat<=126) then some p else if c.toNat=32/\(gap=true∨r.map UInt8.toNat=[]) then some p else qw (c.toNat==32) (p+1) (r.map UInt8.toNat)
  by_cases h1:c < 32∨126 < c
  · rw[Xw h1,Xw (elt.mp h1)]
  · rw[Xv h1,Xv (λz=>h1 (elt.mpr z))];by_cases h2:c=32
    · have Qp:=Ti.mp h2;rw[Xw h2,Qp];by_cases h3:gap=true
      · rw[Xw h3,Xw ⟨rfl,.inl h3⟩]
      · rw[Xv h3];cases r with
        |nil=>rw[Xw (show ([]:Bytes).isEmpty=true from rfl),Xw ⟨rfl,.inr rfl⟩]
        |cons d r =>
         rw[Xv (by simp),Xv (by rintro⟨_,z|z⟩;exact h3 z;cases z)];exact ug (d::r) true (p+1) (.inr (by simp))
    · have Qp:¬c.toNat=32:=λz=>h2 (Ti.mpr z);rw[Xv h2,Xv (λz=>Qp z.1)];have:(c.toNat==32)=false:=by simpa using Qp
      rw[this];exact ug r false (p+1) (.inl rfl)
theorem E4 (l:Bytes):badByte true 0 l=va (l.map UInt8.toNat):=by
 unfold va;cases l with
 |nil=>rfl
 |cons c r =>
  rw[Xv (by simp)];exact ug (c::r) true 0 (.inr (by simp))
theorem Jm {ns:aaf}{i:Nat}(h:i < ns.length):n8 (nV ns) ((i:Nat):Int)=some (.int (ns[i]:Nat)):=cy (by unfold nV;rw[Xz,XE h];rfl)
section
variable {P:Program}{w:World}{K:aag}{mg:aai}{base:Heap}
def wV (K:aag) (CF:Addr):Sp:=λvs H Q E=>∃(a:Addr) (cs:aaf),vs=[.ref a]/\aP K H a (nV cs)/\(∀i,va cs=some i->Rz CF E 2 (i:Nat))/\(va cs=none->∀H',au H H'->Q .cj H')
theorem tU:aG ["line","place","code"] ["line"] (aw f7):=fs
theorem Dt {CF aW:Addr}(G:GW mg)(B:GB K mg aW)(FL:Flt P w K mg base CF)
  {f:Addr}{fd:FuncData}(F:dk K "check_line" "check_line" f7 f fd):a8 P w K mg base (eW P w CF) 3 f fd ["line"] (wV K CF):=by
 refine F.lU tU λLG A outer s H vs Q E hr h=>?_;obtain⟨a,cs,rfl,hS,q0,q1⟩:=h;refine⟨_,af (aO (aB cp (bg G.len (pv 0)) ax (aJ _)) (ak (fN FL aH hr (aa (bb B.byte) (aa ax ah)))) aC)
  (ak (df (yQ aH) rfl (tN rfl B.enum (aa (pv 0) ah)) (lH rfl (b_ (bp 1 tU.nd) (b_ (bp 2 tU.nd) iK)))
   (af (aO (cC (cD cf cf ax (pv 2) ax)) (ak (fN FL aH hr (aa (bb B.byte) (aa (pv 1) ah)))) aC)
   (ak (aO (PW.pt (tE (aB cp (pv 2) (bb B.blank) (aJ _)) (ox (PW.pt (eG (aB gg (pv 1) (c_ (aa ax (aa (bG fJ (bg G.len (pv 0)) ax) ah))) (by with_unfolding_all rfl))
    (cS (aB cp (bo aM (pv 0) (bG fJ (pv 1) ax) (λ_ _=>rfl)) (bb B.blank) (aJ _)))))))) (ak (fN FL aH hr (aa (bb B.byte) (aa (pv 1) ah)))) aC))))),?_⟩
 refine aS (aI (cb (aU (ag rfl) (.inl hS)) aD)) (λh=>?_) (λh=>?_)
 · rw[aZ,aN] at h;have h:cs=[]:=by
    have:=YZ h;exact Zk.mp (by omega)
   exact ju aD (q0 0 (by unfold va;rw[Xw h]))
 rw[aZ,aN] at h;have LQ:cs≠[]:=λz=>by rw[z] at h;cases h
 have eL:va cs=qw true 0 cs:=by unfold va;rw[Xv LQ]
 rw[eL] at q0 q1;refine⟨_,rfl,a,_,rfl,hS,uF (K:=K) (a:=a) (xs:=nV cs) (λi σ H'=>∃(v1 v2:Option V) (gap:Bool),σ=[some (.ref a),v1,v2]/\au H H'/\(gap=true↔i=0∨cs[i - 1]?=some 32)/\qw gap i (cs.drop i)=qw true 0 cs)
  ⟨none,none,true,rfl,au.refl H,by simp,rfl⟩ (λi σ H' _ ⟨_,_,_,_,S,_⟩=>S.seq hS) ?_ ?_⟩
 · rintro i x σ H' tt hi ⟨v1,v2,gap,rfl,S2,hg,hc⟩ hT;have LN:i < cs.length:=by
    have:=(XI.mp hi).1
    rwa [aN] at this
   have hx:x=.int (cs[i]:Nat):=by
    unfold nV at hi;rw[Xz,XE LN] at hi;exact (X8 hi).symm
   subst hx;have Tj:cs[i]?=some cs[i]:=XE LN;rw[YS LN] at hc;have Nz:cs.drop (i+1)=[]↔i=cs.length - 1:=by
    rw[List.drop_eq_nil_iff];omega
   generalize QO:cs[i]=c at hc Tj;have hc:(if ¬(32<=c/\c<=126) then some i else if c=32/\(gap=true∨cs.drop (i+1)=[]) then some i else qw (c==32) (i+1) (cs.drop (i+1)))=qw true 0 cs:=hc;have S3:au H (upd H' tt (.tup [.int (i:Nat),.int (c:Nat)])):=S2.trans ((au.refl H').laid hT);refine⟨tt,_,rfl,b7.of ae,rfl,_,_,rfl,_,_,rfl,rfl,?_⟩;refine aS (fh (cE aD (ag rfl) aD)) (λh=>?_) (λh=>?_)
   · simp only[Ym,YT,Yc] at h;rw[Xw (by omega)] at hc;exact ju (ag rfl) (q0 i hc.symm)
   simp only[Yp,XB,XC] at h;rw[Xv (by omega)] at hc;have go:c=32->(gap=true∨cs.drop (i+1)=[])->Rz CF E 2 (i:Nat):=λz1 z2=>by
    rw[Xw ⟨z1,z2⟩] at hc;exact q0 i hc.symm
   have on:∀H4,au H H4->¬(c=32/\(gap=true∨cs.drop (i+1)=[]))->∃(v1 v2:Option V) (gap:Bool),[some (V.ref a),some (V.int (i:Nat)),some (V.int (c:Nat))]=[some (V.ref a),v1,v2]/\au H H4/\(gap=true↔i+1=0∨cs[i+1 - 1]?=some 32)/\qw gap (i+1) (cs.drop (i+1))=qw true 0 cs:=λH4 S4 hn=>by
    rw[Xv hn] at hc;refine⟨_,_,(c==32),rfl,S4,?_,hc⟩;rw[show i+1 - 1=i by omega,Tj,Yl];constructor
    · intro z;exact .inr (by rw[z])
    · rintro (z|z)
      · omega
      · exact X8 z
   refine (aI (cb (ag rfl) aD)) _ ?_;refine gH (λh1=>?_) (λh1=>?_)
   · have h1:c=32:=by
      rw[aZ] at h1;have:=YZ h1;omega
     refine⟨_,rfl,(oX (aU (ag rfl) (.inl (S3.seq hS))) aD) _ ⟨(by show 2<=sizeLine;decide),λt ht=>⟨t,_,rfl,.inr (b7.of ae),rfl,rfl,_,rfl,?_⟩⟩⟩;rw[aN];have S4:=S3.trans ((au.refl _).laid ht (o:=.tup [V.int 0,V.int ((cs.length:Int) - 1)]));have eI:oh (V.int (i:Nat)) [V.int 0,V.int ((cs.length:Int) - 1)]=decide (i=0∨i=cs.length - 1):=by
      show ((0:Int)==(i:Nat)||((cs.length:Int) - 1==(i:Nat)||false))=_;rw[X9];simp only[Yv,Yl,XC,ZJ];omega
     show if oh (V.int (i:Nat)) [V.int 0,V.int ((cs.length:Int) - 1)]=true then _ else _;rw[eI];refine gH (λh2=>?_) (λh2=>?_)
     · refine qj ?_;refine ju (ag rfl) (go h1 ?_);rcases XR h2 with z|z
       · exact .inl (hg.mpr (.inl z))
       · exact .inr (Nz.mpr z)
     · have h2:¬(i=0∨i=cs.length - 1):=λz=>h2 (X_ z);have hi0:0 < i:=by omega
       refine aS (aI (cb (aX (ag rfl) (oX (ag rfl) aD) (S4.seq hS) (by rw[show (((i:Nat):Int) - 1)=((i - 1:Nat):Int) by omega];exact Jm (by omega))) aD)) (λh3=>?_) (λh3=>?_)
       · refine ju (ag rfl) (go h1 (.inl (hg.mpr (.inr ?_))));rw[aZ] at h3;have:=YZ h3;rw[XE (by omega)];congr 1;omega
       · refine on _ S4 ?_;rintro⟨_,z|z⟩
         · rcases hg.mp z with z|z
           · omega
           · rw[XE (by omega)] at z;have z:=X8 z;rw[aZ,z] at h3;cases h3
         · have:=Nz.mp z;omega
   · have h1:¬c=32:=λz=>by
      rw[aZ,z] at h1;exact h1 rfl
     refine u6 ?_;exact on _ S3 λz=>h1 z.1
 · rintro σ H' ⟨v1,v2,gap,rfl,S2,hg,hc⟩;rw[aN,Zm] at hc;exact q1 hc.symm H' S2
end
end Bw
namespace L2
open PySem PySem.Spec PyProof.Rows
theorem ou {K:aag}{a:Addr}{xs:List V}{g:TG}{te:TE}{vs:aaf}{σ:St}{H1:Hp}{D:Addr}{Qd:Hp->Prop}(F:Nat->V->Hp->Prop)(mono:∀i y H H',(∀b u,b≠D->H b=some u->H' b=some u)->F i y H->F i y H')(hA:aP K H1 a xs)(hD:H1 D=none)(hz:xs.length<=100000)
  (hs:∀i x H',xs[i]?=some x->au H1 H'->(∃acc,H' D=some (.lst acc))->∀R:VK,(∀y H4,au H' H4->F i y H4->R y H4)->g x (wipe σ vs) H' λσ2 H2=>wipe σ2 vs=wipe σ vs/\te σ2 H2 R)
  (hd:∀ys H',au H1 H'->H' D=some (.lst ys)->ys.length=xs.length->(∀i y,ys[i]?=some y->F i y H')->Qd H') :
  ∃W:Nat->Nat->Hp->Prop,(∃m,W 0 m (upd H1 D (.lst [])))/\∀i m H,W i m H ->
   ((By K a).stop i H/\Qd H)∨((By K a).go i H/\∃Nx:Hp->Prop,(∀H',Nx H'->∃m',m' < m/\W (i+1) m' H')/\∀x H',(By K a).v_ i H x H'->g x (wipe σ vs) H' λσ2 H2=>wipe σ2 vs=wipe σ vs/\Ct σ2 H2 λb H3 =>
    if b=true then te σ2 H3 λy H4=>∃acc,H4 D=some (.lst acc)/\acc.length < sizeLine/\Nx (upd H4 D (.lst (acc++[y]))) else Nx H3):=by
 refine iO (tt:=Ct) (xs:=xs) (λi H'=>au H1 H'/\∃ys,H' D=some (.lst ys)/\ys.length=i/\∀j y,ys[j]?=some y->F j y H') ⟨(au.refl H1).laid hD,[],ae,rfl,λj y h=>by simp at h⟩ (λi H' _ h=>h.1.seq hA) ?_ ?_
 · rintro i x H' hx ⟨S,ys,e,l,f⟩;refine hs i x H' hx S ⟨ys,e⟩ _ λy H4 S4 fy=>⟨ys,S4 _ _ e,?_,?_,ys++[y],ae,by rw[XT,l];rfl,?_⟩
   · have:=(XI.mp hx).1;rw[XZ];omega
   · intro b u z;rw[aq (ao z hD)];exact S4 b u (S b u z)
   · have up:∀b u,b≠D->H4 b=some u->(upd H4 D (.lst (ys++[y]))) b=some u:=λb u n z=>by rw[aq n];exact z
     intro j v h;by_cases z:j < ys.length
     · rw[List.getElem?_append_left z] at h;exact mono j v _ _ (λb u n z=>up b u n (S4 b u z)) (f j v h)
     · rw[aac (by omega)] at h;have:j - ys.length=0:=by
        have:=(XI.mp h).1;rw[YI] at this;omega
       rw[this] at h;cases h;have:j=i:=by omega
       subst this;exact mono j _ _ _ up fy
 · rintro H' ⟨S,ys,e,l,f⟩;exact hd ys H' S e l f
theorem oW {xs:List V}{n:Nat}:fC xs (some ((n:Nat):Int)) none=xs.drop n:=by
 unfold fC;rw[HT.iH,HT.ib];by_cases h:n<=xs.length
 · rw[Zv h];exact Yr (by rw[Yn];omega)
 · rw[Nat.min_eq_right (by omega),Zq (by omega:xs.length<=n),Zm];simp
theorem p9 {xs:List V}{n:Nat}:fC xs none (some ((n:Nat):Int))=xs.take n:=by
 unfold fC;rw[HT.iH,HT.ib,List.drop_zero,Nat.sub_zero];by_cases h:n<=xs.length
 · rw[Zv h]
 · rw[Nat.min_eq_right (by omega),Yr (XD _),Yr (by omega)]
end L2
namespace Bw
open PySem PySem.Spec PyProof.Rows L2 Tote
structure GN (mg:aai):Prop where
 range:mg "range"=none
 list:mg "list"=none
 tuple:mg "tuple"=none
 sorted:mg "sorted"=none
 sum:mg "sum"=none
 runners:Gv mg "MOST_RUNNERS" (.int 24)
 zip:mg "zip"=none
 set:mg "set"=none
theorem zJ (l:aaf)(x:Nat):product (l++[x])=product l*x:=by
 unfold product;rw[List.foldl_append];rfl
theorem B9 {n:Nat}{l:aaf}:oh (V.int (n:Nat)) (nV l)=l.contains n:=by
 rw[nX,X9,XC,YC,XC]
 exact⟨λ⟨m,h1,h2⟩=>by have:n=m:=by omega
                      subst this;exact h1,λh=>⟨n,h,rfl⟩⟩
theorem DL {l:aaf}{x:Nat}:nV (l++[x])=nV l++[V.int (x:Nat)]:=by
 unfold nV;rw[XQ];rfl
theorem yl {l:aaf}{i:Nat}{v:V}(h:(nV l)[i]?=some v):∃n,l[i]?=some n/\v=V.int (n:Nat):=by
 unfold nV at h;rw[Xz] at h;obtain⟨n,h1,h2⟩:=X6.mp h;exact⟨n,h1,h2.symm⟩
theorem jV {l:List Addr}{i:Nat}{v:V}(h:(l.map V.ref)[i]?=some v):∃n,l[i]?=some n/\v=V.ref n:=by
 rw[Xz] at h;obtain⟨n,h1,h2⟩:=X6.mp h;exact⟨n,h1,h2.symm⟩
section
variable {P:Program}{w:World}{K:aag}{mg:aai}{base:Heap}
def Cy (K:aag):Sp:=λvs H Q _=>∃(a:Addr) (ns:aaf),vs=[.ref a]/\aP K H a (nV ns)/\(∀n∈ns,n < 1000000)/\∀H',au H H'->Q (.int (product ns:Nat)) H'
theorem oG:aG ["numbers","product","number"] ["numbers"] (aw fW):=fs
theorem DT {f:Addr}{fd:FuncData}(F:dk K "product_of" "product_of" fW f fd):a8 P w K mg base bA 1 f fd ["numbers"] (Cy K):=by
 refine F.om oG λLG A outer s H vs Q E hr h=>?_;obtain⟨a,ns,rfl,hS,hn,q⟩:=h;refine⟨_,af (a7 1 oG.nd ax)
  (af (df YA rfl (bJ (pv 0)) (bp 2 oG.nd) (ak (Bm (i:=1) oG.nd rfl (Or.inl rfl) (pv 2) DM)))
  (ak (az (pv 1)))),?_⟩
 refine cH aD ?_;refine⟨_,rfl,a,rfl,⟨_,hS⟩,dq (K:=K) (a:=a) (xs:=nV ns) (λi σ H'=>∃v2:Option V,σ=[some (.ref a),some (.int (product (ns.take i):Nat)),v2]/\au H H') ⟨none,rfl,au.refl H⟩ (λi σ H' _ ⟨_,_,S⟩=>S.seq hS) ?_ ?_⟩
 · rintro i x σ H' hi ⟨v2,rfl,S⟩;obtain⟨n,Tn,rfl⟩:=yl hi;have:=hn n (X0 Tn);refine⟨_,rfl,_,rfl,_,_,rfl,rfl,.inr ⟨by omega,by omega⟩,some (.int (n:Nat)),?_,S⟩;rw[take_snoc Tn,zJ,Int.natCast_mul];rfl
 · rintro σ H' ⟨v2,rfl,S⟩;rw[aN,Ys];exact⟨_,rfl,q H' S⟩
def ua (K:aag):Sp:=λvs H Q _=>∃(a t:Addr) (ns s:aaf),vs=[.ref a,.ref t]/\aP K H a (nV ns)/\b7 K H t (nV s)/\ns.length<=1000/\∀H' x,au H H'->H x=none->H' x=some (.lst (nV (gm s ns)))->Q (.ref x) H'
theorem tK:aG ["numbers","taken","number"] ["numbers","taken"] (aw kl):=fs
theorem D_ {f:Addr}{fd:FuncData}(F:dk K "without" "without" kl f fd):a8 P w K mg base bA 1 f fd ["numbers","taken"] (ua K):=by
 refine F.om tK λLG A outer s H vs Q E hr h=>?_;obtain⟨a,t,ns,s,rfl,hA,hT,hl,q⟩:=h;refine⟨_,ak (az (fz (te:=cJ 2) (tt:=o4 (kJ (Hz K true) (cJ 2) (cJ 1))) rfl tK.nd (bJ (pv 0)) (bz (own:=[("number",2)]) rfl) (λ_ _ _ _ _=>bp 2 tK.nd) (λ_ _ _ _ _=>oz (aB eD (pv 2) (pv 1) (by with_unfolding_all rfl))) (λ_ _ _ _ _=>pv 2))),?_⟩;refine⟨_,rfl,a,rfl,⟨_,hA⟩,λD hD=>iO (K:=K) (a:=a) (xs:=nV ns) (λi H'=>au H H'/\H' D=some (.lst (nV (gm s (ns.take i))))) ⟨(au.refl H).laid hD,ae⟩ (λi H' _ h=>h.1.seq hA) ?_ ?_⟩
 · rintro i v H' hi ⟨k1,k2⟩;obtain⟨n,hn,rfl⟩:=yl hi;refine⟨rfl,?_⟩;refine (aI (mB (neg:=true) (ag rfl) (ag rfl) (.inr (k1.tup hT)) rfl (gc s))) _ ?_;show if (!oh (V.int (n:Nat)) (nV s))=true then _ else _;rw[B9];have e:gm s (ns.take (i+1))=gm s (ns.take i)++if (!s.contains n)=true then [n] else []:=by
    unfold gm;rw[take_snoc hn,Zo];congr 1;simp[YH]
   refine gH (λh=>?_) (λh=>?_)
   · rw[Xw h] at e;refine⟨_,rfl,_,k2,?_,?_,?_⟩
     · have:(gm s (ns.take i)).length<=(ns.take i).length:=ZV ..;rw[XU] at this;rw[aN,XZ];omega
     · intro b u z;rw[aq (ao z hD)];exact k1 b u z
     · rw[ae,e,DL]
   · rw[Xv h,Yx] at e;exact⟨k1,by rw[e];exact k2⟩
 · rintro H' ⟨k1,k2⟩;have k2:H' D=some (.lst (nV (gm s (ns.take (nV ns).length)))):=k2;rw[aN,Ys] at k2;exact q H' D k1 hD k2
def sY (K:aag):Sp:=λvs H Q _=>∃(a t:Addr) (ss:aae) (s:aaf),vs=[.ref a,.ref t]/\bE K H a ss/\b7 K H t (nV s)/\ss.length<=6/\s.length<=ss.length/\∀H',au H H'->Q (.bl (iE ss s)) H'
theorem oE:aG ["sets","start","number","numbers"] ["sets","start"] (aw oM):=fs
theorem D3 (G:GW mg)(N:GN mg){f:Addr}{fd:FuncData}(F:dk K "is_of" "is_of" oM f fd):a8 P w K mg base bA 1 f fd ["sets","start"] (sY K):=by
 refine F.om oE λLG A outer s H vs Q E hr h=>?_;obtain⟨a,t,ss,s,rfl,⟨as,hA,hP⟩,hT,h6,hl,q⟩:=h;refine⟨_,ak (az (bY (xY rfl) (by rfl) G.all PyProof.Rows.boot_all (aa (fz (g:=DK K 2 (qB (fL 2) (qB (fL 3) DF))) (te:=kJ (Hz K false) (cJ 2) (cJ 3)) rfl oE.nd (EV rfl N.zip (aa (pv 1) (aa (pv 0) ah))) (bz (own:=[("number",2),("numbers",3)]) rfl)
  (λ_ _ _ _ _=>lH rfl (b_ (bp 2 oE.nd) (b_ (bp 3 oE.nd) iK))) (λ_ _ _ _ _=>cu) (λ_ _ _ _ _=>fu gg (pv 2) (pv 3) (by with_unfolding_all rfl))) ah))),?_⟩
 have LH:as.length=ss.length:=Paired.length hP;refine⟨_,rfl,_,rfl,t,a,nV s,as.map V.ref,rfl,hT,hA,λD hD=>Jg (K:=K) (a:=t) (b:=a) (xs:=nV s) (ys:=as.map V.ref) (by rw[aN,Xu];omega) (λi H'=>au H H'/\H' D=some (.lst (((s.zip ss).take i).map λz=>V.bl (z.2.contains z.1)))) ⟨(au.refl H).laid hD,ae⟩ (λi H' _ h=>⟨h.1.tup hT,h.1.seq hA⟩) ?_ ?_⟩
 · rintro i x y H' T hx hy ⟨k1,k2⟩ To;obtain⟨n,hn,rfl⟩:=yl hx;obtain⟨ai,L6,rfl⟩:=jV hy;obtain⟨si,NA,hI⟩:=Paired.qL hP L6;have MD:au H' (upd H' T (.tup [.int (n:Nat),.ref ai])):=(au.refl H').laid To;have Qq:D≠T:=ao k2 To;refine⟨T,_,rfl,b7.of ae,rfl,_,_,rfl,_,_,rfl,rfl,rfl,?_⟩;refine (mB (neg:=false) (ag rfl) (ag rfl) (.inl ((k1.trans MD).seq hI)) rfl (gc si)) _ ⟨_,by rw[aq Qq];exact k2,?_,?_,?_⟩
   · have:=(XI.mp hn).1;rw[Xu,XU,XZ];omega
   · intro b u z;rw[aq (ao z hD)];exact MD b u (k1 b u z)
   · have ez:(s.zip ss)[i]?=some (n,si):=by rw[List.getElem?_zip_eq_some];exact⟨hn,NA⟩
     rw[ae,take_snoc ez,XQ];show some (HO.lst (_++[V.bl (oh (V.int (n:Nat)) (nV si))]))=_;rw[B9];rfl
 · rintro H' ⟨k1,k2⟩;have k2:H' D=some (.lst (((s.zip ss).take (nV s).length).map λz=>V.bl (z.2.contains z.1))):=k2;rw[aN,Yr (by rw[List.length_zip];omega)] at k2;refine⟨D,(s.zip ss).map λz=>z.2.contains z.1,rfl,aP.of (by rw[k2,XY];rfl),?_⟩;have e:((s.zip ss).map λz=>z.2.contains z.1).all id=iE ss s:=by unfold iE;rw[ZE];rfl
   rw[e];exact q H' k1
end
end Bw
namespace L2
open PySem PySem.Spec PyProof.Rows
def Ip (K:aag):V->V->Hp->VK->Prop:=λo i H Q=>∃(p:Addr) (xs:List V) (k:Nat) (v:V),o=.ref p/\i=.int (k:Nat)/\aP K H p xs/\xs[k]?=some v/\Q v H
theorem B6 {X:Cx}:Iv X (Ip X.K):=by
 intro pins s σ H o i ov iv Q I ro ri h;obtain⟨p,xs,k,v,rfl,rfl,hq,he,q⟩:=h;cases ro;obtain⟨t,rfl⟩:=ri;obtain⟨LF,r,pl,hz⟩:=I.list hq;obtain⟨w,ew,NO⟩:=r.get he;have hl:=r.length;have hk:=(XI.mp he).1;have hn:=lG;exact wpAny_getItem_list pl.isList (by omega) (by omega) (by simpa using ew) ⟨v,H,I,NO,q⟩
theorem Ew {K:aag}{a:Addr}{xs:List V}{g:TG}{tt:TT}{te:TE}{vs:aaf}{σ:L2.St}{H1:Hp}{D:Addr}{Qd:Hp->Prop}(Pv:Nat->Hp->Prop)(h0:Pv 0 (upd H1 D (.lst [])))(hl:∀i H,i<=xs.length->Pv i H->aP K H a xs)
  (hs:∀i x H T,xs[i]?=some x->Pv i H->H T=none->g (.ref T) (wipe σ vs) (upd H T (.tup [.int (i:Nat),x])) λσ2 H2=>wipe σ2 vs=wipe σ vs/\tt σ2 H2 λb H3 =>
   if b=true then te σ2 H3 λy H4=>∃acc,H4 D=some (.lst acc)/\acc.length < sizeLine/\Pv (i+1) (upd H4 D (.lst (acc++[y]))) else Pv (i+1) H3) (hd:∀H,Pv xs.length H->Qd H) :
  ∃W:Nat->Nat->Hp->Prop,(∃m,W 0 m (upd H1 D (.lst [])))/\∀i m H,W i m H ->
   ((Fj K a).stop i H/\Qd H)∨((Fj K a).go i H/\∃Nx:Hp->Prop,(∀H',Nx H'->∃m',m' < m/\W (i+1) m' H')/\∀x H',(Fj K a).v_ i H x H'->g x (wipe σ vs) H' λσ2 H2=>wipe σ2 vs=wipe σ vs/\tt σ2 H2 λb H3 =>
    if b=true then te σ2 H3 λy H4=>∃acc,H4 D=some (.lst acc)/\acc.length < sizeLine/\Nx (upd H4 D (.lst (acc++[y]))) else Nx H3):=by
 refine⟨λi m H=>m=xs.length - i/\i<=xs.length/\Pv i H,⟨xs.length,by simp,X2 _,h0⟩,?_⟩;rintro i m H ⟨rfl,hi,p⟩;have q:=hl i H hi p;by_cases LJ:i < xs.length
 · refine .inr ⟨⟨xs,xs[i],q,by simp[LJ]⟩,Pv (i+1),λH' p'=>⟨xs.length - (i+1),by omega,rfl,LJ,p'⟩,λx H' y=>?_⟩;obtain⟨T,v,rfl,hT,rfl,hx⟩:=y;exact hs i v _ T (hx xs q) p hT
 · have e:i=xs.length:=by omega
   subst e;exact .inl ⟨⟨xs,q,XD _⟩,hd H p⟩
end L2
namespace Bw
open PySem PySem.Spec PyProof.Rows L2 Tote
theorem Bu {σ:L2.St}{H:Hp}{ta tb:TE}{i j:Int}(ha:Ev ta σ H (.int i))(hb:Ev tb σ H (.int j))(h:Ei i j):Ev (kJ (rI Ei λi j=>.int (i*2 ^ j.toNat)) ta tb) σ H (.int (i*2 ^ j.toNat)):=λ_ r=>ha _ (hb _ ⟨i,j,rfl,rfl,h,r⟩)
theorem pX:∀l:aaf,(l.map λn=>((n:Nat):Int)).sum=((l.sum:Nat):Int)
 |[]=>rfl
 |n::l=>by rw[XN,Y2,Y2,pX l,Int.natCast_add]
section
variable {P:Program}{w:World}{K:aag}{mg:aai}{base:Heap}
def F6 (K:aag):Sp:=λvs H Q _=>∃(a:Addr) (ss:aae),vs=[.ref a]/\bE K H a ss/\C4 ss/\∀H',au H H'->Q (.int (dj ss lq:Nat)) H'
theorem fH:aG ["sets","full","ways","number","bits","mask","place","numbers","bit"] ["sets"] (aw cU):=fs
theorem GR {aW:Addr}(G:GW mg)(B:GB K mg aW)(N:GN mg){f:Addr}{fd:FuncData}(F:dk K "count_different" "count_different" cU f fd):a8 P w K mg base bA 1 f fd ["sets"] (F6 K):=by
 refine F.om fH λLG A outer s H vs Q E hr h=>?_;obtain⟨a,ss,rfl,hL,hS,q⟩:=h;refine⟨_,af (a7 1 fH.nd (bG fJ (bG B0 ax (bg G.len (pv 0))) ax))
  (af (oQ (i:=2) fH.nd rfl (Or.inr rfl) (bG wF (bV (aa ax ah)) (fz rfl fH.nd (gf rfl N.range (aa (pv 1) ah)) (bz (own:=[("mask",5)]) rfl) (λ_ _ _ _ _=>bp 5 fH.nd) (λ_ _ _ _ _=>cu) (λ_ _ _ _ _=>ax))))
  (af (df YA rfl (rO rfl N.range (aa ax (aa (bG eK (bb N.runners) ax) ah))) (tJ (i:=3) fH.nd rfl (Or.inr rfl))
   (af (oP (i:=4) (te:=kJ (rI Ei λi j=>.int (i*2 ^ j.toNat)) (tC (.int 1)) (cJ 6)) (tt:=o4 (kJ (Hz K false) (cJ 3) (cJ 7))) (g:=DK K 2 (qB (fL 6) (qB (fL 7) DF))) rfl fH.nd rfl rfl (uf rfl rfl rfl rfl) (tN rfl B.enum (aa (pv 0) ah)) (bz (own:=[("place",6),("numbers",7)]) rfl) (λ_ _ _ _ _=>lH rfl (b_ (bp 6 fH.nd) (b_ (bp 7 fH.nd) iK)))
     (λ_ _ _ _ _=>oz (aB gg (pv 3) (pv 7) (by with_unfolding_all rfl))) (λ_ _ _ _ _=>bG B0 ax (pv 6)))
   (ak (df YA rfl (sy rfl N.range (aa (pv 1) (aa ax (aa (vW qt ax) ah)))) (tJ (i:=5) fH.nd rfl (Or.inr rfl))
    (ak (D9 (pv 2) (pv 5) B6 (bY (wH rfl) (by rfl) N.sum (by decide +kernel) (aa (fz (te:=kJ (As K) (cJ 2) (kJ (qK λi j=>.int (i - j)) (cJ 5) (cJ 8))) rfl fH.nd (bJ (pv 4)) (bz (own:=[("bit",8)]) rfl) (λ_ _ _ _ _=>bp 8 fH.nd)
     (λ_ _ _ _ _=>oz (aB oZ (bG Gk (pv 5) (pv 8)) ax (aJ _))) (λ_ _ _ _ _=>bo aM (pv 2) (bG fJ (pv 5) (pv 8)) (λ_ _=>rfl))) ah)) AH set_list))))))
  (ak (az (bo aM (pv 2) (pv 1) (λ_ _=>rfl)))))),?_⟩
 obtain⟨as,hA,hP⟩:=hL;have LH:as.length=ss.length:=Paired.length hP;have h6:=hS.len;have hpow:0 < 2 ^ ss.length:=Nat.pow_pos (by decide);have hp64:2 ^ ss.length<=64:=Yi (Zx (by decide) h6) (by decide);obtain⟨f,hf⟩:∃f,f=2 ^ ss.length - 1:=⟨_,rfl⟩;have ef:(1:Int)*2 ^ ((as.map V.ref).length:Int).toNat - 1=((f:Nat):Int):=by
  rw[Xu,LH,Yg,hf,Int.one_mul];have:((2 ^ ss.length:Nat):Int)=2 ^ ss.length:=by rw[Int.natCast_pow];rfl
  omega
 have nd:∀s∈ss,s.Nodup:=λs hs=>(hS.good s hs).1.nodup;refine cH (oX (Bu aD (aU (ag rfl) (.inl hA)) ⟨by omega,by rw[Xu];omega,by decide⟩) aD) ?_;rw[ef];refine⟨by show 1<=sizeLine;decide,λp1 Pb=>?_⟩;refine zc (tD (ag rfl) (by omega) (by omega) λD0 M8=>?_);have RK:p1≠D0:=by
  rintro rfl;rw[ae] at M8;cases M8
 have Pq:H D0=none:=by rwa [aq RK.symm] at M8
 rw[Yg];refine lR (lo:=0) (n:=f) (λi H'=>au H H'/\H' p1=some (.lst [V.int 1])/\H' D0=some (.lst (nV (List.replicate i 0)))) ⟨((au.refl H).laid Pb).laid Pq,by rw[aq RK];exact ae,ae⟩ ?_ ?_
 · rintro i H' hi ⟨k0,k1,k2⟩;refine⟨rfl,?_⟩;refine⟨_,k2,by rw[aN,X5,XZ];omega,λb u z=>?_,by rw[aq RK];exact k1,?_⟩
   · rw[aq (ao z Pq)];exact k0 b u z
   · rw[ae,List.replicate_succ'];unfold nV;rw[XQ];rfl
 rintro H1 ⟨S1,e1,e0⟩;refine⟨p1,D0,_,_,rfl,rfl,e1,e0,?_,λwy Tp=>?_⟩
 · show 1+_<=_;rw[aN,X5,XZ];omega
 have WB:[V.int 1]++nV (List.replicate f 0)=nV (tab ss 1 f):=by
  rw[hf,←zL];unfold nV;rw[XQ];rfl
 rw[WB];have Pr:H wy=none:=by
  cases hz:H wy with
  |none=>rfl
  |some o=>rw[S1 wy o hz] at Tp;cases Tp
 have S2:au H (upd H1 wy (.lst (nV (tab ss 1 f)))):=λb u z=>by
  rw[aq (ao z Pr)];exact S1 b u z
 refine qF (yt aD (jA aD aD) (by omega) ?_);refine m9 (lo:=1) (n:=((24:Int)+1 - 1).toNat) (λi σ H'=>∃v3 v4 v5:Option V,σ=[some (.ref a),some (.int (f:Nat)),some (.ref wy),v3,v4,v5,none,none,none]/\au H H'/\H' wy=some (.lst (nV (tab ss (i+1) f))))
  ⟨none,none,none,rfl,S2,ae⟩ ?_ ?_
 · rintro i σ H2 hi ⟨v3,v4,v5,rfl,S3,e3⟩;have hi:i < 24:=hi;have ex:(1:Int)+(i:Nat)=((i+1:Nat):Int):=by omega
   rw[ex];obtain⟨x,hx⟩:∃x,x=i+1:=⟨_,rfl⟩;rw[←hx] at e3 ⊢;refine⟨_,rfl,a,_,rfl,S3.seq hA,λD hD=>Ew (K:=K) (a:=a) (xs:=as.map V.ref) (λj H'=>au H2 H'/\H' D=some (.lst (nV (bitsOf x 1 (ss.take j))))) ⟨(au.refl H2).laid hD,ae⟩ (λj H' _ h=>(S3.trans h.1).seq hA) ?_ ?_⟩
   · rintro j v H' T hj ⟨k1,k2⟩ hT;rw[Xz] at hj;obtain⟨aj,WC,rfl⟩:=X6.mp hj;obtain⟨sj,N0,hI⟩:=Paired.qL hP WC;have Oc:j < ss.length:=(XI.mp N0).1;have Qq:D≠T:=ao k2 hT;have RM:au H2 (upd H' T (.tup [.int (j:Nat),.ref aj])):=k1.trans ((au.refl H').laid hT);have eb:=qZ x (ss.take j) 1 sj;rw[←take_snoc N0] at eb;refine⟨T,_,rfl,b7.of ae,rfl,_,_,rfl,_,_,rfl,rfl,rfl,?_⟩;refine (aI (mB (neg:=false) (ag rfl) (ag rfl) (.inl ((S3.trans RM).seq hI)) rfl (gc sj))) _ ?_;have eI:oh (V.int (x:Nat)) (nV sj)=sj.contains x:=by
      rw[nX,X9,XC,YC,XC]
      exact⟨λ⟨m,h1,h2⟩=>by have:x=m:=by omega
                           subst this;exact h1,λh=>⟨x,h,rfl⟩⟩
     show if oh (V.int (x:Nat)) (nV sj)=true then _ else _;rw[eI];refine gH (λh=>?_) (λh=>?_)
     · rw[Xw h] at eb;refine (Bu aD (ag rfl) ⟨by omega,by omega,by decide⟩) _ ⟨_,by rw[aq Qq];exact k2,?_,?_,?_⟩
       · rw[aN];have:=pR x (ss.take j) 1;rw[XU] at this;rw[XZ];omega
       · intro b u z;rw[aq (ao z hD)];exact RM b u z
       · rw[ae,eb];have e2:(1:Int)*2 ^ ((j:Nat):Int).toNat=((1*2 ^ (ss.take j).length:Nat):Int):=by
          rw[Yg,XU,Zv (by omega),Int.one_mul,Nat.one_mul,Int.natCast_pow];rfl
         rw[e2];unfold nV;rw[XQ];rfl
     · rw[Xv h,Yx] at eb;exact⟨RM,by rw[aq Qq,eb];exact k2⟩
   rintro H3 ⟨k1,k2⟩;have k2:H3 D=some (.lst (nV (bitsOf x 1 (ss.take (as.map V.ref).length)))):=k2;rw[Xu,LH,Ys] at k2;obtain⟨bits,Mx⟩:∃bits,bits=bitsOf x 1 ss:=⟨_,rfl⟩;rw[←Mx] at k2;have WD:D≠wy:=by
    rintro rfl;rw[e3] at hD;cases hD
   have e4:=k1 _ _ e3;have S4:=S3.trans k1;have hDH:H D=none:=by
    cases hz:H D with
    |none=>rfl
    |some o=>rw[S3 D o hz] at hD;cases hD
   refine qF (yR (n:=f) (ag rfl) aD (sU aD) ?_ ?_)
   · have:=JS.neg (i:=(f:Int)) (j:=0) (by omega) (by omega) (by omega) (by omega);rw[show ((f:Int) - 0).toNat=f by omega] at this;exact this
   refine pZ (lo:=(f:Nat)) (c:=-1) (n:=f) (λj σ H'=>∃v5:Option V,σ=[some (.ref a),some (.int (f:Nat)),some (.ref wy),some (.int (x:Nat)),some (.ref D),v5,none,none,none]/\au H H'/\H' wy=some (.lst (nV (js ss x f j)))/\H' D=some (.lst (nV bits)))
    ⟨v5,rfl,S4,by rw[Bd];exact e4,k2⟩ ?_ ?_
   · rintro j σ H4 hj ⟨v5,rfl,S5,e5,e6⟩;obtain⟨m,hm⟩:∃m,m=f - j:=⟨_,rfl⟩;have em:((f:Nat):Int)+((j:Nat):Int)*(-1)=((m:Nat):Int):=by omega
     rw[em];have WE:m<=f:=by omega
     have old:(nV (js ss x f j))[m]?=some (.int (cF ss x m:Nat)):=by
      unfold nV;rw[Xz,tw WE,Xv (by omega)];rfl
     refine⟨_,rfl,_,rfl,wy,_,m,_,rfl,rfl,aP.of e5,old,?_⟩;refine⟨_,rfl,D,rfl,⟨_,aP.of e6⟩,λD2 Tq=>iO (K:=K) (a:=D) (xs:=nV bits) (λt H'=>au H4 H'/\H' D2=some (.lst (nV (((bits.take t).filter (bF m)).map λb=>cF ss x (m - b))))) ⟨(au.refl H4).laid Tq,ae⟩ (λt H' _ h=>aP.of (h.1 _ _ e6)) ?_ ?_⟩
     · rintro t v H' ht ⟨k3,k4⟩;unfold nV at ht;rw[Xz] at ht;obtain⟨b,hb,rfl⟩:=X6.mp ht;obtain⟨pw,hpw,RN⟩:=vA x ss 1 b (by rw[←Mx];exact X0 hb);rw[Nat.one_mul] at RN;have Oy:0 < b:=by rw[RN];exact Nat.pow_pos (by decide)
       refine⟨rfl,?_⟩;refine (aI (oV (md (f:=λi j=>.int (Builtin.bitAnd i j)) (ag rfl) (ag rfl)) aD)) _ ?_;have eA:(!decide (V.int (Builtin.bitAnd ((m:Nat):Int) ((b:Nat):Int))=V.int 0))=bF m b:=by
        rw[aZ];have e1:Builtin.bitAnd ((m:Nat):Int) ((b:Nat):Int)=((m &&& b:Nat):Int):=by
         unfold Builtin.bitAnd;rw[X_ (by omega:(0:Int)<=((m:Nat):Int)),X_ (by omega:(0:Int)<=((b:Nat):Int))];rfl
        rw[e1,X9,RN,←Dq,Ym,X3];omega
       rw[eA];refine gH (λh=>?_) (λh=>?_)
       · have hbm:=GL h Oy;have at2:n8 (nV (js ss x f j)) (((m:Nat):Int) - ((b:Nat):Int))=some (.int (cF ss x (m - b):Nat)):=by
          rw[show ((m:Nat):Int) - ((b:Nat):Int)=((m - b:Nat):Int) by omega];refine cy ?_;unfold nV;rw[Xz,tw (by omega),Xv (by omega)];rfl
         refine (aX (ag rfl) (oX (ag rfl) (ag rfl)) (aP.of (k3 _ _ e5)) at2) _ ⟨_,k4,?_,?_,?_⟩
         · rw[aN,Xu,XZ];have l1:=ZV (bF m) (bits.take t);have l2:=pR x ss 1;rw[←Mx] at l2;rw[XU] at l1;omega
         · intro c u z;rw[aq (ao z Tq)];exact k3 c u z
         · rw[ae,take_snoc hb,Zo,XQ];have:[b].filter (bF m)=[b]:=by rw[YH,Xw h];rfl
           rw[this];unfold nV;rw[XQ];rfl
       · refine⟨k3,?_⟩;have:[b].filter (bF m)=[]:=by rw[YH,Xv h];rfl
         rw[take_snoc hb,Zo,this,Yx];exact k4
     rintro H5 ⟨k3,k4⟩;have k4:H5 D2=some (.lst (nV (((bits.take (nV bits).length).filter (bF m)).map λb=>cF ss x (m - b)))):=k4;rw[aN,Ys] at k4;refine⟨D2,((bits.filter (bF m)).map λb=>cF ss x (m - b)).map λn=>((n:Nat):Int),rfl,aP.of (by rw[k4];unfold nV;rw[XY,XY,XY];rfl),?_⟩;rw[pX];refine⟨_,_,rfl,rfl,wy,_,_,m,rfl,rfl,k3 _ _ e5,?_,?_⟩
     · unfold E5;rw[Xw (by omega),aN,Xw (by unfold js;rw[Xu,ZN];omega)];rfl
     have ew:((cF ss x m:Nat):Int)+((((bits.filter (bF m)).map λb=>cF ss x (m - b)).sum:Nat):Int)=((cF ss (x+1) m:Nat):Int):=by
      rw[Bl nd (by omega),←Mx,Int.natCast_add]
     refine⟨_,rfl,λc u z=>?_,?_,?_⟩
     · rw[aq (ao z Pr)];exact k3 c u (S5 c u z)
     · rw[ae];show some (HO.lst ((nV (js ss x f j)).set m (V.int (((cF ss x m:Nat):Int)+((((bits.filter (bF m)).map λb=>cF ss x (m - b)).sum:Nat):Int)))))=_;rw[ew,←BB (by omega),hm];unfold nV;rw[List.map_set]
     · rw[aq WD];exact k3 _ _ e6
   · rintro σ H4 ⟨v5,rfl,S5,e5,e6⟩;rw[Be] at e5;exact⟨_,_,_,rfl,S5,e5⟩
 · rintro σ H2 ⟨v3,v4,v5,rfl,S3,e3⟩;have e3:H2 wy=some (.lst (nV (tab ss 25 f))):=e3;refine bU (aX (ag rfl) (ag rfl) (aP.of e3) (cy (v:=.int (dj ss lq:Nat)) ?_)) (q H2 S3);unfold nV;rw[Xz,AI (XD _),←CM,hf];rfl
end
end Bw
namespace L2
open PySem PySem.Spec PyProof.Rows
section
variable {P:Program}{w:World}{d:Addr}{o:Obj}{es:Array DictEntry}{ep:Nat}
theorem Ae {A:Around} (hh:A.handled=none) (it:Addr) (ne:d≠it) (dt:o.data=.dict es ep) :
  Walks P w A it [it,d] [it] es.size (λi v=>∃en,es[i]?=some en/\v=en.key) (λi h=>h.IsKeyIter it d i es.size ep/\h.get? d=some o) where
 sub:=λb hb=>Xy.mpr (.inl (XJ.mp hb))
 frame:=λi h h' st k=>⟨st.1.at λob e=>k it (Yh ..) ob e,k d (by simp) o st.2⟩
 item:=λi s Q E hi st hQ=>by
  obtain⟨en,Od⟩:∃en,es[i]?=some en:=⟨es[i],Array.getElem?_eq_getElem hi⟩;refine qQ st.1 st.2 dt rfl Od λh' WG sb=>?_;exact hQ _ h' s.toks ⟨en,Od,rfl⟩ ⟨WG,(sb.2 d ne).trans st.2⟩ λb ob hb e=>(sb.2 b λz=>hb (by simp[z])).trans e
 done:=λs Q E st hQ=>tf hh st.1 st.2 dt rfl (XD _) λh' eb=>hQ h' s.toks λb ob hb e=>eb b ob (λz=>hb (by simp[z])) e
 self:=λi s Q E st hQ=>wpAny_pyIter_keyiter st.1 hQ
theorem BL (lo:(d==sysModules)=false)(hx:o.ExactDict)(dt:o.data=.dict es ep):W.KdlSrc P w "dict" d d es.size (λi v=>∃en,es[i]?=some en/\v=en.key) (λh=>h.get? d=some o) where
 type:=λs e=>⟨o,e,hx.1⟩
 there:=λh e=>⟨XH e,XH e⟩
 keep:=λh h' e k=>k d (.inl rfl) o e
 notList:=by decide
 notTuple:=by decide
 hint:=λA E s Q e q=>W.kdl_hint_dict ⟨o,e,hx.1⟩ q
 iter:=λA s hh e=>⟨_,_,(λE Q q=>zr lo e hx dt q),Ae hh _ (X7 (XH e)) dt,⟨⟨_,XM _ rfl,rfl,rfl⟩,Xx _ e⟩⟩
end
section
variable {X:Cx}
theorem xk (hc:X.calm=true):ie X (.type "list") (λxs H Q=>∃(d:Addr) (LD:List (List Key×V)),xs=[.ref d]/\H d=some (.dT LD) /\
  ∀(qs:List Addr) (l:Addr),Paired (λq (kv:List Key×V)=>H q=some (.tup (kv.1.map kV))) qs LD->H l=none->Q (.ref l) (upd H l (.lst (qs.map V.ref)))):=by
 intro pins s σ H xs us Q I r h;obtain⟨d,LD,rfl,hd,q⟩:=h;rw[Vals.wj r];obtain⟨z,lo,ys,pr,ob,es,ep,ho,hx,dt,he,_⟩:=I.bu d _ hd;have l1:es.size=ys.length:=size_of_entries he;have l2:LD.length=ys.length:=Paired.length pr;refine W.kdl_call (BL lo hx dt) (I.ok.hd hc) ho (by omega) λh' tk acc c' kp hl it=>?_;have pq:Paired (λq (kv:List Key×V)=>H q=some (.tup (kv.1.map kV))) (ys.map λy=>y.2.1) LD:=by
  refine j8 (by rw[Xu,l2]) λi a b ha hb=>?_;rw[Xz] at ha;obtain⟨y,hy,rfl⟩:=X6.mp ha;obtain⟨y',Nn,e1,e2,_⟩:=we pr hb;rw[hy] at Nn;injection Nn with Nn;subst Nn;exact e2
 have rv:Vals ((ys.map λy=>y.2.1).map V.ref) acc.toList:=by
  have l3:acc.toList.length=es.size:=by rw[Zf];exact it.1
  refine j8 (by rw[Xu,Xu];omega) λi a b ha hb=>?_;obtain⟨en,Od,rfl⟩:=it.2 i b (by simpa using hb);rw[Xz,Xz] at ha;have qe:=entry_at he i;cases hy:ys[i]? with
  |none=>rw[hy] at ha;cases ha
  |some y =>
   rw[hy] at ha qe;have ha:some (V.ref y.2.1)=some a:=ha;injection ha with ha;subst ha;rw[Od] at qe;injection qe with qe;rw[qe];rfl
 have hlen:((ys.map λy=>y.2.1).map V.ref).length<=sizeLine:=by rw[Xu,Xu];omega
 exact⟨.ref s.heap.objs.size,_,I.laid (t':=tk) kp (XD _) (show bK X.prog X.w _ h' _ (.lst _) from ⟨hlen,acc.toList,c',rv,by simpa using hl⟩),rfl,q _ _ pq (I.bu.fresh (XD _))⟩
end
section
variable {P:Program}{w:World}{A:Around}{E:aah}{s:Shared}
theorem Bt {t b:Addr} {ws:aak} {R:aah} (ht:IsTup s.heap t #[]) (hb:IsTup s.heap b ws.toArray) (hR:R (.ref b) s):wpAny (model P w) A (binaryOp .Add (.ref t) (.ref b)) R E s:=by
 obtain⟨⟨c1,d1,f1,l1⟩,g1,k1,n1,e1⟩:=id ht;obtain⟨⟨c2,d2,f2,l2⟩,g2,k2,n2,e2⟩:=id hb;simp only at k1 e1 k2 e2;subst k1 e1 k2 e2;have m:=tuple_addW0 t b #[] ws.toArray n1 n2 d1 d2 l1 l2 rfl;exact concat_meets ⟨_,g1,rfl⟩ ⟨_,g2,rfl⟩ noFill_tuple_add seq_tuple_add F.slot_tuple_add F.entry_tuple_add (F.args_tuple_add_2 _ _) m ⟨g1,g2,hR⟩
end
section
variable {X:Cx}
def JJ (K:aag):R2:=λx y H Q=>∃a b xs ys,x=.ref a/\y=.ref b/\b7 K H a xs/\H b=some (.tup ys)/\ys≠[]/\xs.length+ys.length<=sizeLine/\∀p H',au H H'->H' p=some (.tup (xs++ys))->Q (.ref p) H'
theorem C_:jT X (binaryOp .Add) (JJ X.K):=by
 intro pins s σ H x y v u Q I rx ry h;obtain⟨a,b,xs,ys,rfl,rfl,ha,hb,hy,hz,q⟩:=h;by_cases e:xs=[]
 · subst e;cases rx;cases ry;obtain⟨LF,r1,p1,_⟩:=I.tuple ha;obtain⟨L7,r2,p2,_⟩:=I.tuple (b7.of hb);have:LF=[]:=r1.ow.mpr rfl;subst this;exact Bt p1 p2 ⟨.ref b,H,I,rfl,q b H (au.refl H) hb⟩
 · exact Dl pins s σ H _ _ v u Q I rx ry ⟨a,b,xs,ys,rfl,rfl,ha,b7.of hb,e,hz,λz=>absurd z hy,λ_ p hp=>q p _ ((au.refl H).laid hp) ae⟩
end
end L2
namespace Bw
open PySem PySem.Spec PyProof.Rows L2 Tote
def kL (l:aaf):List Key:=l.map λn=>Sum.inl ((n:Nat):Int)
theorem EF (l:aaf):(kL l).map kV=nV l:=by
 unfold kL nV;rw[XY];rfl
theorem CJ {l m:aaf}(h:kL l=kL m):l=m:=by
 unfold kL at h;refine List.map_inj_right (λa b e=>?_) |>.mp h;have:=Sum.inl.inj e;omega
theorem ve {LD:List (List Key×V)}{K:aae}{k:aaf}{v:V}(h:LD.map (·.1)=K.map kL):(putK LD (kL k) v).map (·.1)=(jS K k).map kL:=by
 have RO:(LD.any λkv=>decide (kv.1=kL k))=K.contains k:=by
  have e1:(LD.any λkv=>decide (kv.1=kL k))=(LD.map (·.1)).any λz=>decide (z=kL k):=by rw[ZS];rfl
  rw[e1,h,ZS,X9,Y8,YC,XC];constructor
  · rintro⟨x,h1,h2⟩;have:=CJ (XR h2);rw[←this];exact h1
  · intro hk;exact⟨k,hk,X_ rfl⟩
 unfold putK jS;rw[RO];by_cases c:K.contains k=true
 · rw[Xw c,Xw c,←h,XY];refine Yo λkv _=>?_;show (if kv.1=kL k then (kv.1,v) else kv).1=kv.1;split <;> rfl
 · rw[Xv c,Xv c,XQ,XQ,h];rfl
theorem xH {pick:aaf}{n:Nat}{ms:List Int}(hp:cq pick)(hn:¬n∈pick)(h1:ms.Perm ((pick++[n]).map λx=>((x:Nat):Int)))(h2:ms.Pairwise (·<=·)):ms=(fS n pick).map λx=>((x:Nat):Int):=by
 have hr:=lh hp hn;have nd:(pick++[n]).Nodup:=by
  rw[Za];refine⟨hp.nodup,by simp,λa ha b hb=>?_⟩;rw[XJ] at hb;subst hb;exact λz=>hn (z ▸ ha)
 have pm:(fS n pick).Perm (pick++[n]):=(aaa hr.nodup nd).mpr λx=>by
  rw[lP];simp[or_comm]
 refine List.Perm.eq_of_pairwise (le:=(·<=·)) (λa b _ _ x y=>by omega) h2 ?_ (h1.trans (pm.map _).symm);rw[List.pairwise_map];exact hr.imp λh=>by omega
theorem lu {pick:aaf}:∀(s:aaf) (K:aae),(cT s K pick).length<=K.length+s.length
 |[],K=>XD _
 |n::s,K=>by
  show (cT s (cx pick K n) pick).length<=_;have:=lu (pick:=pick) s (cx pick K n);have h2:(cx pick K n).length<=K.length+1:=by
   unfold cx jS;split
   · omega
   · split
     · omega
     · simp
  rw[XG];omega
theorem pL {s:aaf}{c:Nat}(hs:s.length<=c):∀(ps K:aae),(ps.foldl (cT s) K).length<=K.length+ps.length*c
 |[],K=>by simp
 |p::ps,K=>by
  rw[Y0,XG];have h1:=pL hs ps (cT s K p);have h2:=lu (pick:=p) s K;rw[Nat.add_mul];omega
theorem qp {α β:Type}(f:β->α->β)(b:β)(l:List α)(x:α):(l++[x]).foldl f b=f (l.foldl f b) x:=by rw[List.foldl_append];rfl
theorem mZ:∀(i:Nat) (ss:aae),(∀s∈ss,s.length<=25)->(bx (ss.take i)).length<=25 ^ i
 |0,ss,_=>by show 1<=1;decide
 |i+1,ss,h=>by
  have ih:=mZ i ss h;by_cases hi:i < ss.length
  · rw[List.take_add_one,XE hi];show (bx (ss.take i++[ss[i]])).length<=_;rw[iQ];have:=pL (h _ (Zl hi)) (bx (ss.take i)) [];unfold fj;rw[Zz];have h2:(bx (ss.take i)).length*25<=25 ^ i*25:=Nat.mul_le_mul_right _ ih;simp only[Y5] at this;omega
  · have:ss.take (i+1)=ss.take i:=by rw[Yr (by omega),Yr (by omega)]
    rw[this,Zz];omega
section
variable {P:Program}{w:World}{K:aag}{mg:aai}{base:Heap}
def Bb (H:Hp) (x:Addr) (R:aae):Prop:=∃qs:List Addr,H x=some (.lst (qs.map V.ref))/\Paired (λq l=>H q=some (.tup (nV l))) qs R
def rC (K:aag):Sp:=λvs H Q _=>∃(a:Addr) (ss:aae),vs=[.ref a]/\bE K H a ss/\C4 ss/\ss.length<=3/\∀H' x,au H H'->Bb H' x (bx ss)->Q (.ref x) H'
theorem lC:aG ["sets","picks","numbers","longer","pick","number"] ["sets"] (aw i6):=fs
theorem Hq (N:GN mg){f:Addr}{fd:FuncData}(F:dk K "picks_of" "picks_of" i6 f fd):a8 P w K mg base bA 1 f fd ["sets"] (rC K):=by
 refine F.om lC λLG A outer s H vs Q E hr h=>?_;obtain⟨a,ss,rfl,⟨as,hA,hP⟩,hS,h3,q⟩:=h;have hu:=uK hr;refine⟨_,af (a7 1 lC.nd (bV (aa (c_ ah) ah)))
  (af (df YA rfl (bJ (pv 0)) (bp 2 lC.nd)
   (af (a7 3 lC.nd pU)
   (af (df YA rfl (bJ (pv 1)) (bp 4 lC.nd)
    (ak (df YA rfl (bJ (pv 2)) (bp 5 lC.nd)
     (ak (aO (aB eD (pv 5) (pv 4) (by with_unfolding_all rfl)) (ak (lY hu (pv 3) (ko qU (by rfl) N.tuple (by decide +kernel) (aa (bY wQ (by rfl) N.sorted PyProof.Rows.boot_sorted (aa (bG C_ (pv 4) (c_ (aa (pv 5) ah))) ah)) ah)) mG rfl)) aC)))))
   (ak (a7 1 lC.nd (ko (xk rfl) (by rfl) N.list (by decide +kernel) (aa (pv 3) ah)))))))
  (ak (az (pv 1)))),?_⟩
 have LH:as.length=ss.length:=Paired.length hP;have Tr:∀s∈ss,s.length<=25:=λs hs=>mn (hS.good s hs).1 (hS.good s hs).2;refine⟨X2 _,λt0 WH=>⟨by show 1<=sizeLine;decide,λp0 OC=>?_⟩⟩;have n0:p0≠t0:=by
  rintro rfl;rw[ae] at OC;cases OC
 have S0:au H (upd (upd H t0 (.tup [])) p0 (.lst [V.ref t0])):=((au.refl H).laid WH).trans ((au.refl _).laid OC);refine⟨_,rfl,a,rfl,⟨_,S0.seq hA⟩,dq (K:=K) (a:=a) (xs:=as.map V.ref) (λi σ H'=>∃(pk:Addr) (qs:List Addr) (v2 v3 v4 v5:Option V),σ=[some (.ref a),some (.ref pk),v2,v3,v4,v5]/\au H H'/\H' pk=some (.lst (qs.map V.ref))/\Paired (λq l=>H' q=some (.tup (nV l))) qs (bx (ss.take i)))
  ⟨p0,[t0],none,none,none,none,rfl,S0,ae,.cons (by rw[aq n0.symm];exact ae) .nil⟩ (λi σ H' _ ⟨_,_,_,_,_,_,_,S,_⟩=>S.seq hA) ?_ ?_⟩
 · rintro i x σ H1 hi ⟨pk,qs,v2,v3,v4,v5,rfl,S1,e1,hQ⟩;rw[Xz] at hi;obtain⟨ai,L6,rfl⟩:=X6.mp hi;obtain⟨sj,N0,hI⟩:=Paired.qL hP L6;have LN:i < ss.length:=(XI.mp N0).1;have gs:=hS.good sj (X0 N0);have WI:=Tr sj (X0 N0);have lp:=mZ i ss Tr;have WJ:(bx (ss.take i)).length<=625:=Yi lp (Yi (Zx (by decide) (show i<=2 by omega)) (by decide));have Pt:∀l∈bx (ss.take i),cq l/\l.length<=6:=λl hl=>by
    obtain⟨z1,z2⟩:=(j4 (ss.take i) l).mp hl;refine⟨z1,?_⟩;have:=(ke z2).1;rw[XU] at this;omega
   have NB:bx (ss.take (i+1))=fj (bx (ss.take i)) sj:=by rw[take_snoc N0,iQ]
   generalize bx (ss.take i)=Na at hQ WJ Pt NB;have N2:qs.length=Na.length:=Paired.length hQ;intro lg Ts;have S2:au H1 (upd H1 lg (.dT [])):=(au.refl H1).laid Ts;refine⟨_,rfl,pk,rfl,⟨_,S2.seq (aP.of e1)⟩,dq (K:=K) (a:=pk) (xs:=qs.map V.ref) (λj σ H'=>∃(v4 v5:Option V) (LD:List (List Key×V)),σ=[some (.ref a),some (.ref pk),some (.ref ai),some (.ref lg),v4,v5]/\au H1 H'/\H' lg=some (.dT LD)/\LD.map (·.1)=((Na.take j).foldl (cT sj) []).map kL)
    ⟨v4,v5,[],rfl,S2,ae,rfl⟩ (λj σ H' _ ⟨_,_,_,_,S,_⟩=>aP.of (S _ _ e1)) ?_ ?_⟩
   · rintro j x σ H2 hj ⟨v4,v5,LD,rfl,S3,e3,hk⟩;rw[Xz] at hj;obtain⟨qa,RP,rfl⟩:=X6.mp hj;obtain⟨pick,MQ,hT⟩:=Paired.qL hQ RP;have Oc:j < Na.length:=(XI.mp MQ).1;obtain⟨NU,hr6⟩:=Pt pick (X0 MQ);have lk:=pL WI (Na.take j) [];rw[XU,Y5] at lk;have Tt:(Na.take (j+1)).foldl (cT sj) []=cT sj ((Na.take j).foldl (cT sj) []) pick:=by rw[take_snoc MQ,qp]
     generalize (Na.take j).foldl (cT sj) []=K2 at hk lk Tt;refine⟨_,rfl,ai,rfl,⟨_,(S1.trans S3).seq hI⟩,dq (K:=K) (a:=ai) (xs:=nV sj) (λm σ H'=>∃(v5:Option V) (LD:List (List Key×V)),σ=[some (.ref a),some (.ref pk),some (.ref ai),some (.ref lg),some (.ref qa),v5]/\au H1 H'/\H' lg=some (.dT LD)/\LD.map (·.1)=((sj.take m).foldl (cx pick) K2).map kL)
      ⟨v5,LD,rfl,S3,e3,hk⟩ (λm σ H' _ ⟨_,_,_,S,_⟩=>(S1.trans S).seq hI) ?_ ?_⟩
     · rintro m x σ H3 hm ⟨v5,LD,rfl,S4,e4,hk⟩;unfold nV at hm;rw[Xz] at hm;obtain⟨n,hn,rfl⟩:=X6.mp hm;have lk3:LD.length<=K2.length+25:=by
        have z1:LD.length=(cT (sj.take m) K2 pick).length:=by
         have:=YB List.length hk;rw[Xu,Xu] at this;exact this
        have z2:=lu (pick:=pick) (sj.take m) K2;rw[XU] at z2;omega
       have RQ:(sj.take (m+1)).foldl (cx pick) K2=cx pick ((sj.take m).foldl (cx pick) K2) n:=by rw[take_snoc hn,qp]
       generalize (sj.take m).foldl (cx pick) K2=K3 at hk RQ;have Tu:=S4 _ _ hT;have eI:(!oh (V.int (n:Nat)) (nV pick))=!decide (n∈pick):=by
        congr 1;rw[nX,Zg]
        exact⟨λ⟨y,h1,h2⟩=>by have:n=y:=by omega
                             subst this;exact h1,λh=>⟨n,h,rfl⟩⟩
       refine aS (b:=!decide (n∈pick)) (yr (aI (mB (neg:=true) (ag rfl) (ag rfl) (.inr (b7.of Tu)) rfl (gc pick))) eI) (λh=>?_) (λh=>?_)
       · have Ol:¬n∈pick:=by simpa using h
         refine⟨_,rfl,_,rfl,_,rfl,by show 1<=sizeLine;decide,λt1 WK=>?_⟩;have S5:au H3 (upd H3 t1 (.tup [V.int (n:Nat)])):=(au.refl H3).laid WK;refine⟨qa,t1,nV pick,[V.int (n:Nat)],rfl,rfl,b7.of (S5 _ _ Tu),ae,by simp,by rw[aN,XZ];simp;omega,λp4 H4 S6 WL=>?_⟩;have RR:nV pick++[V.int (n:Nat)]=((pick++[n]).map λx=>((x:Nat):Int)).map V.int:=by
          unfold nV;rw[XQ,XQ,XY];rfl
         refine⟨p4,(pick++[n]).map λx=>((x:Nat):Int),rfl,b7.of (by rw[WL,RR]),by rw[Xu,XT];simp;omega,λms p5 WM WN P_=>?_⟩;have WO:=xH NU Ol WM WN;subst WO;have e7:((fS n pick).map λx=>((x:Nat):Int)).map V.int=(kL (fS n pick)).map kV:=by
          rw[EF];unfold nV;rw[XY];rfl
         rw[e7];refine⟨p5,_,rfl,.inl ⟨aP.of ae,λp6 WQ=>?_⟩⟩;have S7:au H3 (upd (upd H4 p5 (.lst ((kL (fS n pick)).map kV))) p6 (.tup ((kL (fS n pick)).map kV))):=(S5.trans S6).trans (((au.refl H4).laid P_).trans ((au.refl _).laid WQ));have RT:=S7 _ _ e4;refine⟨lg,_,rfl,.inr ⟨LD,kL (fS n pick),p6,RT,rfl,ae,by rw[XZ];omega,rfl⟩,some (.int (n:Nat)),putK LD (kL (fS n pick)) (V.bl true),rfl,?_,ae,?_⟩
         · intro c u z;rw[aq (ao z Ts)];exact S7 c u (S4 c u z)
         · rw[RQ,ve hk];unfold cx;rw[Xv (by rw[YC,XC];exact Ol)]
       · have Ol:n∈pick:=by simpa using h
         refine⟨_,LD,rfl,S4,e4,?_⟩;rw[RQ,hk];unfold cx;rw[Xw (by rw[YC,XC];exact Ol)]
     · rintro σ H3 ⟨v5,LD,rfl,S4,e4,hk⟩;rw[aN,Ys] at hk;exact⟨_,_,LD,rfl,S4,e4,by rw[Tt];exact hk⟩
   · rintro σ H2 ⟨v4,v5,LD,rfl,S3,e3,hk⟩;rw[Xu,N2,Ys] at hk;refine⟨_,rfl,lg,LD,rfl,e3,λrs l Tw hl=>?_⟩;refine⟨l,rs,_,_,_,_,rfl,(S1.trans S3).laid ?_,ae,?_⟩
     · cases hz:H l with
       |none=>rfl
       |some o=>rw[S3 l o (S1 l o hz)] at hl;cases hl
     · rw[NB];have hk:LD.map (·.1)=(fj Na sj).map kL:=hk;have RU:LD.length=(fj Na sj).length:=by
        have:=YB List.length hk
        rwa [Xu,Xu] at this
       refine j8 (by rw[Paired.length Tw,RU]) λt q' l' MU OE=>?_;obtain⟨kv,WR,hH⟩:=Paired.qL Tw MU;have WS:kv.1=kL l':=by
        have z1:(LD.map (·.1))[t]?=some kv.1:=by rw[Xz,WR];rfl
        rw[hk,Xz,OE] at z1;exact (X8 z1).symm
       rw[aq (ao hH hl),hH,WS,EF]
 · rintro σ H1 ⟨pk,qs,v2,v3,v4,v5,rfl,S1,e1,hQ⟩;rw[Xu,LH,Ys] at hQ;exact⟨_,rfl,q H1 pk S1 ⟨qs,e1,hQ⟩⟩
end
theorem xJ {α:Type}{ys zs:List α}(l:ys.length=zs.length)(f:∀(i:Nat) y,ys[i]?=some y->zs[i]?=some y):ys=zs:=ZR λi=>by
 cases h:ys[i]? with
 |some y=>exact (f i y h).symm
 |none =>
  rw[List.getElem?_eq_none_iff] at h;exact (Yy (by omega)).symm
theorem zb {β:Type}{G:Addr->β->Prop}:∀{ys:List V} {zs:List β},ys.length=zs.length->(∀(i:Nat) (y:V),ys[i]?=some y->∃b z,zs[i]?=some z/\y=V.ref b/\G b z)->∃bs:List Addr,ys=bs.map V.ref/\Paired G bs zs
 |[],[],_,_=>⟨[],rfl,.nil⟩
 |y::ys,z::zs,l,f=>by
  obtain⟨b,z',h1,h2,h3⟩:=f 0 y rfl;obtain⟨bs,e,p⟩:=zb (ys:=ys) (zs:=zs) (G:=G) (by simpa using l) λi v h=>f (i+1) v h;cases h1;exact⟨b::bs,by rw[h2,e];rfl,.cons h3 p⟩
 |[],_::_,l,_=>by simp at l
 |_::_,[],l,_=>by simp at l
theorem nJ {α β γ:Type}{F:α->β->Prop}{G:α->γ->Prop}{f:β->γ}:∀{l:List α} {m:List β},Paired F l m->(∀a b,F a b->G a (f b))->Paired G l (m.map f)
 |_,_,.nil,_=>.nil
 |_,_,.cons h t,k=>.cons (k _ _ h) (nJ t k)
theorem xG {s:aaf}:(s.map λn=>((n:Nat):Int)).Nodup↔s.Nodup:=by
 unfold List.Nodup;rw[List.pairwise_map];exact⟨λh=>h.imp λn e=>n (by rw[e]),λh=>h.imp λn e=>n (by omega)⟩
theorem Er {s:aaf}:nV s=(s.map λn=>((n:Nat):Int)).map V.int:=by
 unfold nV;rw[XY];rfl
section
variable {P:Program}{w:World}{K:aag}{mg:aai}{base:Heap}
def i5 (K:aag) (r:aae->aaf->Nat):Sp:=λvs H Q _=>∃(a t:Addr) (ss:aae) (s:aaf),vs=[.ref a,.ref t]/\bE K H a ss/\b7 K H t (nV s)/\C4 ss/\s.length<=ss.length/\∀H',au H H'->Q (.int (r ss s:Nat)) H'
theorem ue:aG ["sets","start","numbers"] ["sets","start"] (aw f_):=fs
theorem Eb (G:GW mg){k:Nat}(FI:Fn P w K mg base bA k "is_of" ["sets","start"] (sY K))(FP:Fn P w K mg base bA k "product_of" ["numbers"] (Cy K)){f:Addr}{fd:FuncData}(F:dk K "count_legs" "count_legs" f_ f fd):a8 P w K mg base bA (k+1) f fd ["sets","start"] (i5 K kW):=by
 refine F.om ue λLG A outer s H vs Q E hr h=>?_;obtain⟨a,t,ss,s,rfl,hL,hT,hS,hl,q⟩:=h;refine⟨_,af (aO (cC (hX (aR FI hr a9 (aa (pv 0) (aa (pv 1) ah))))) (ak (az ax)) aC)
  (ak (az (aR FP hr a9 (aa (fz (te:=Hn (λxs H Q=>∃p ys,xs=[.ref p]/\(aP K H p ys∨b7 K H p ys)/\Q (.int ys.length) H) (cM (cJ 2) eV)) rfl ue.nd (bJ (cK fk (pv 0) (cY (bg G.len (pv 1))) ft)) (bz (own:=[("numbers",2)]) rfl)
   (λ_ _ _ _ _=>bp 2 ue.nd) (λ_ _ _ _ _=>cu) (λ_ _ _ _ _=>bg G.len (pv 2))) ah)))),?_⟩
 refine⟨_,rfl,_,rfl,a,t,ss,s,rfl,hL,hT,hS.len,hl,λH1 S1=>⟨_,rfl,?_⟩⟩;obtain⟨as,hA,hP⟩:=hL;have LH:as.length=ss.length:=Paired.length hP;unfold kW at q;refine gH (λh=>?_) (λh=>?_)
 · have h:¬iE ss s=true:=by simpa using h
   rw[Xv h] at q;exact q H1 S1
 have h:iE ss s=true:=by simpa using h
 rw[Xw h] at q;refine⟨_,rfl,_,rfl,t,_,rfl,.inr (S1.tup hT),_,rfl,a,_,rfl,S1.seq hA,λp hp=>?_⟩;rw[aN,oW,←ZZ];have S2:au H (upd H1 p (.lst ((as.drop s.length).map V.ref))):=S1.trans ((au.refl H1).laid hp);refine⟨p,rfl,⟨_,aP.of ae⟩,λD hD=>ou (K:=K) (a:=p) (xs:=(as.drop s.length).map V.ref) (λi y _=>∃si,(ss.drop s.length)[i]?=some si/\y=.int (si.length:Nat)) (λi y H H' _ z=>z) (aP.of ae) hD (by rw[Xu,Yn];have:=hS.len;omega) ?_ ?_⟩
 · rintro i x H' hx S _ R hR;obtain⟨ai,L6,rfl⟩:=jV hx;obtain⟨si,NA,hI⟩:=Paired.qL (Paired.dp s.length hP) L6;exact⟨rfl,_,rfl,ai,nV si,rfl,.inl ((S2.trans S).seq hI),hR _ _ (au.refl _) ⟨si,NA,by rw[aN]⟩⟩
 · rintro ys H' S e l f;have ey:ys=nV ((ss.drop s.length).map List.length):=by
    refine xJ (by rw[l,aN,Xu,Xu,Yn,Yn,LH]) λi y hy=>?_;obtain⟨si,NA,rfl⟩:=f i y hy;unfold nV;rw[Xz,Xz,NA];rfl
   subst ey;refine⟨D,_,rfl,aP.of e,λn hn=>?_,λH2 S3=>q H2 ((S2.trans S).trans S3)⟩;obtain⟨s0,Rt,rfl⟩:=X4.mp hn;have g:=hS.good s0 (Y4 Rt);have:=mn g.1 g.2;omega
theorem C4.out {ss:aae}{s:aaf}(o:C4 ss)(n:Nat):C4 ((ss.drop n).map (gm s)):=by
 refine⟨by rw[Xu,Yn];have:=o.len;omega,λu hu=>?_,λu hu x hx=>?_⟩
 · obtain⟨v,hv,rfl⟩:=X4.mp hu;have g:=o.good v (Y4 hv);exact⟨List.Pairwise.filter _ g.1,λx hx=>g.2 x (YE.mp hx).1⟩
 · obtain⟨v,hv,rfl⟩:=X4.mp hu;exact o.lo v (Y4 hv) x (YE.mp hx).1
theorem tL:aG ["sets","start","numbers"] ["sets","start"] (aw eJ):=fs
theorem DZ (G:GW mg)(N:GN mg){k:Nat}(FI:Fn P w K mg base bA k "is_of" ["sets","start"] (sY K))(FD:Fn P w K mg base bA k "count_different" ["sets"] (F6 K))(FW:Fn P w K mg base bA k "without" ["numbers","taken"] (ua K)){f:Addr}{fd:FuncData}(F:dk K "count_orders" "count_orders" eJ f fd):a8 P w K mg base bA (k+1) f fd ["sets","start"] (i5 K uw):=by
 refine F.om tL λLG A outer s H vs Q E hr h=>?_;obtain⟨a,t,ss,s,rfl,hL,hT,hS,hl,q⟩:=h;refine⟨_,af (aO (PW.pt (eG (cC (hX (aR FI hr a9 (aa (pv 0) (aa (pv 1) ah))))) (cS (aB nZ (bY EN (by rfl) G.len PySem.boot_len (aa (ko (D7 rfl) (by rfl) N.set (by decide +kernel) (aa (pv 1) ah)) ah)) (bg G.len (pv 1)) (aJ _))))) (ak (az ax)) aC)
  (ak (az (aR FD hr a9 (aa (fz (te:=nQ (ua K) [] E0 (cM (cJ 2) (cM (cJ 1) eV))) rfl tL.nd (bJ (cK fk (pv 0) (cY (bg G.len (pv 1))) ft)) (bz (own:=[("numbers",2)]) rfl)
   (λ_ _ _ _ _=>bp 2 tL.nd) (λ_ _ _ _ _=>cu) (λ_ _ _ _ _=>aR FW (by first|exact hr|exact hr.qI) a9 (aa (pv 2) (aa (pv 1) ah)))) ah)))),?_⟩
 refine⟨_,rfl,_,rfl,a,t,ss,s,rfl,hL,hT,hS.len,hl,λH1 S1=>⟨_,rfl,?_⟩⟩;obtain⟨as,hA,hP⟩:=hL;have LH:as.length=ss.length:=Paired.length hP;have h6:=hS.len;unfold uw at q;refine gH (λh=>?_) (λh=>?_)
 · have h:¬iE ss s=true:=by simpa using h
   rw[Xv λz=>h z.1] at q;exact qj (q H1 S1)
 have h:iE ss s=true:=by simpa using h
 refine⟨_,rfl,t,s.map λn=>((n:Nat):Int),rfl,by rw[←Er];exact S1.tup hT,by rw[Xu];omega,λp S n hp hn Nb=>?_⟩;rw[Xu] at hn Nb;rw[xG] at Nb;have Sp:au H (upd H1 p (.set S n)):=S1.trans ((au.refl H1).laid hp);refine⟨p,S,n,rfl,ae,by omega,_,rfl,t,_,rfl,.inr (Sp.tup hT),_,_,rfl,rfl,_,rfl,?_⟩;rw[aN];refine gH (λh2=>?_) (λh2=>?_)
 · have h2:=XR h2;rw[Xv λz=>by have:=Nb.mpr z.2;omega] at q;exact q _ Sp
 have h2:s.Nodup:=Nb.mp (by have:¬((n:Nat):Int) < ((s.length:Nat):Int):=by simpa using h2
                            omega)
 rw[Xw ⟨h,h2⟩] at q;refine⟨_,rfl,_,rfl,t,_,rfl,.inr (Sp.tup hT),_,rfl,a,_,rfl,Sp.seq hA,λp2 NW=>?_⟩;rw[aN,oW,←ZZ];have S2:au H (upd (upd H1 p (.set S n)) p2 (.lst ((as.drop s.length).map V.ref))):=Sp.trans ((au.refl _).laid NW);refine⟨p2,rfl,⟨_,aP.of ae⟩,λD hD=>ou (K:=K) (a:=p2) (xs:=(as.drop s.length).map V.ref) (λi y H=>∃b si,(ss.drop s.length)[i]?=some si/\y=.ref b/\b≠D/\H b=some (.lst (nV (gm s si)))) (λi y H H' z ⟨b,si,z1,z2,z3,z4⟩=>⟨b,si,z1,z2,z3,z b _ z3 z4⟩) (aP.of ae) hD (by rw[Xu,Yn];omega) ?_ ?_⟩
 · rintro i x H' hx S3 ⟨acc,RV⟩ R hR;obtain⟨ai,L6,rfl⟩:=jV hx;obtain⟨si,NA,hI⟩:=Paired.qL (Paired.dp s.length hP) L6;have g:=hS.good si (Y4 (X0 NA));have:=mn g.1 g.2;refine⟨rfl,_,rfl,_,rfl,ai,t,si,s,rfl,(S2.trans S3).seq hI,(S2.trans S3).tup hT,by omega,λH4 x S4 Tx NY=>hR _ _ S4 ⟨x,si,NA,rfl,?_,NY⟩⟩;rintro rfl;rw[RV] at Tx;cases Tx
 · rintro ys H' S3 e l f;obtain⟨bs,rfl,hB⟩:=zb (zs:=ss.drop s.length) (G:=λb si=>b≠D/\H' b=some (.lst (nV (gm s si)))) (by rw[l,Xu,Yn,Yn,LH]) f;refine⟨D,(ss.drop s.length).map (gm s),rfl,⟨bs,aP.of e,nJ hB λb si z=>aP.of z.2⟩,hS.out _,λH2 S4=>q H2 ((S2.trans S3).trans S4)⟩
end
structure o_ (LD:List (List Key×V))(f:aaf->Nat):Prop where
 val:∀s,cQ LD (kL s)=if f s=0 then none else some (.int (f s:Nat))
 keys:∃ks:aae,LD.map (·.1)=ks.map kL/\ks.Nodup
theorem o_.get {LD:List (List Key×V)}{f:aaf->Nat}(h:o_ LD f)(s:aaf):(cQ LD (kL s)).getD (.int 0)=.int (f s:Nat):=by
 rw[h.val s];by_cases z:f s=0
 · rw[Xw z,z];rfl
 · rw[Xv z];rfl
theorem o_.put {LD:List (List Key×V)}{f g:aaf->Nat}(h:o_ LD f)(s:aaf)(hg:∀r,g r=if r=s then f s+1 else f r):o_ (putK LD (kL s) (.int (f s+1:Nat))) g:=by
 refine⟨λr=>?_,?_⟩
 · rw[pY,hg r];by_cases e:r=s
   · subst e;rw[Xw rfl,Xw rfl,Xv (by omega)]
   · rw[Xv λz=>e (CJ z),Xv e,h.val r]
 · obtain⟨ks,e,nd⟩:=h.keys;exact⟨_,ve e,mN nd⟩
theorem AU {LD:List (List Key×V)}{k:List Key}{v:V}:(putK LD k v).length<=LD.length+1:=by
 unfold putK;split
 · rw[Xu];omega
 · rw[XT];exact XD _
def sR (R:aae)(row:aaf)(j:Nat)(s:aaf):Nat:=pre R s+if s.length < j/\s.isPrefixOf row=true then 1 else 0
theorem zT (R:aae)(row s:aaf):sR R row 0 s=pre R s:=by
 unfold sR;rw[Xv (by omega),Nat.add_zero]
theorem BK (R:aae)(row s:aaf):sR R row (row.length+1) s=pre (R++[row]) s:=by
 unfold sR pre;rw[List.countP_append,List.countP_singleton];congr 1;refine j5 ⟨λh=>h.2,λh=>⟨?_,h⟩⟩;have:=(aab.mp h).length_le;omega
theorem Aa {R:aae}{row:aaf}{j:Nat}(hj:j<=row.length)(s:aaf):sR R row (j+1) s=if s=row.take j then sR R row j (row.take j)+1 else sR R row j s:=by
 have l:(row.take j).length=j:=by rw[XU];omega
 unfold sR;by_cases e:s=row.take j
 · subst e;rw[Xw rfl,Xw ⟨by omega,aab.mpr (List.take_prefix ..)⟩,Xv (by omega)]
 · rw[Xv e];congr 1;refine j5 ⟨λh=>⟨?_,h.2⟩,λh=>⟨by omega,h.2⟩⟩;have:s.length≠j:=λz=>e (by rw[(List.prefix_iff_eq_take.mp (aab.mp h.2)),z]);omega
section
variable {P:Program}{w:World}{K:aag}{mg:aai}{base:Heap}
def F5:Sp:=λvs H Q _=>∃(a:Addr) (R:aae),vs=[.ref a]/\Bb H a R/\(∀r∈R,r.length<=3)/\R.length<=20000/\∀H' x LD,au H H'->H x=none->H' x=some (.dT LD)->o_ LD (pre R)->Q (.ref x) H'
theorem o9:aG ["rows","counts","row","size","start"] ["rows"] (aw eh):=fs
theorem HP (G:GW mg)(N:GN mg){f:Addr}{fd:FuncData}(F:dk K "count_starts" "count_starts" eh f fd):a8 P w K mg base bA 1 f fd ["rows"] F5:=by
 refine F.om o9 λLG A outer s H vs Q E hr h=>?_;obtain⟨a,R,rfl,⟨qs,hA,hP⟩,h3,hl,q⟩:=h;have hu:=uK hr;refine⟨_,af (a7 1 o9.nd pU)
  (af (df YA rfl (bJ (pv 0)) (bp 2 o9.nd)
   (ak (df YA rfl (gf rfl N.range (aa (bG eK (bg G.len (pv 2)) ax) ah)) (bp 3 o9.nd)
    (af (a7 4 o9.nd (cK DA (pv 2) ft (cY (pv 3))))
    (ak (lY hu (pv 1) (pv 4) (bG eK (vM hu (pv 1) (pv 4) ax ⟨rfl,rfl,rfl,rfl⟩) ax) rfl))))))
  (ak (az (pv 1)))),?_⟩
 have N2:qs.length=R.length:=Paired.length hP;intro dc RW;have S0:au H (upd H dc (.dT [])):=(au.refl H).laid RW;refine⟨_,rfl,a,rfl,⟨_,aP.of (S0 _ _ hA)⟩,dq (K:=K) (a:=a) (xs:=qs.map V.ref) (λi σ H'=>∃(v2 v3 v4:Option V) (LD:List (List Key×V)),σ=[some (.ref a),some (.ref dc),v2,v3,v4]/\au H H'/\H' dc=some (.dT LD)/\o_ LD (pre (R.take i))/\LD.length<=4*i)
  ⟨none,none,none,[],rfl,S0,ae,⟨λs=>rfl,[],rfl,by simp⟩,by simp⟩ (λi σ H' _ ⟨_,_,_,_,_,S,_⟩=>aP.of (S _ _ hA)) ?_ ?_⟩
 · rintro i x σ H1 hi ⟨v2,v3,v4,LD,rfl,S1,e1,k1,l1⟩;obtain⟨qa,RP,rfl⟩:=jV hi;obtain⟨row,N3,hT⟩:=Paired.qL hP RP;have LN:i < R.length:=(XI.mp N3).1;have r3:=h3 row (X0 N3);refine qF (tD (jA (aU (ag rfl) (.inr (b7.of (S1 _ _ hT)))) aD) (by omega) (by rw[aN];omega) ?_);rw[aN,show (((row.length:Nat):Int)+1).toNat=row.length+1 by omega];refine m9 (lo:=0) (n:=row.length+1) (λj σ H'=>∃(v3 v4:Option V) (LD:List (List Key×V)),σ=[some (.ref a),some (.ref dc),some (.ref qa),v3,v4]/\au H H'/\H' dc=some (.dT LD)/\o_ LD (sR (R.take i) row j)/\LD.length<=4*i+j)
    ⟨v3,v4,LD,rfl,S1,e1,⟨λs=>by rw[zT];exact k1.val s,k1.keys⟩,l1⟩ ?_ ?_
   · rintro j σ H2 hj ⟨v3,v4,LD,rfl,S2,e2,k2,l2⟩;rw[Int.zero_add];refine⟨_,rfl,_,rfl,_,rfl,qa,_,rfl,S2 _ _ hT,λp H3 S3 hp=>?_⟩;rw[p9] at hp;have et:(nV row).take j=(kL (row.take j)).map kV:=by rw[EF];unfold nV;rw[List.map_take]
     rw[et] at hp;have e3:=S3 _ _ e2;refine⟨_,rfl,dc,rfl,.inr ⟨LD,.inl e3⟩,_,rfl,_,gj.t e3 hp,_,_,k2.get _,rfl,_,rfl,_,rfl,dc,_,rfl,.inr ⟨LD,_,p,e3,rfl,hp,by rw[XZ];omega,rfl⟩,_,_,_,rfl,?_,ae,?_,?_⟩
     · intro b u z;rw[aq (ao z RW)];exact S3 b u (S2 b u z)
     · have:=k2.put (row.take j) (Aa (R:=R.take i) (row:=row) (j:=j) (by omega));exact this
     · exact Yi AU (by omega)
   · rintro σ H2 ⟨v3,v4,LD,rfl,S2,e2,k2,l2⟩;refine⟨_,_,_,LD,rfl,S2,e2,⟨λs=>?_,k2.keys⟩,by omega⟩;rw[k2.val s,BK,←take_snoc N3]
 · rintro σ H1 ⟨v2,v3,v4,LD,rfl,S1,e1,k1,l1⟩;rw[Xu,N2,Ys] at k1;exact⟨_,rfl,q H1 dc LD S1 RW e1 k1⟩
end
def mE (k g p:V):List (Str×V):=[("kind",k),("grids",g),("picks",p)]
abbrev jM:List Str:=["kind","grids","picks"]
section
variable {a b c:V}
theorem wN:(mE a b c).lookup ("kind":Str)=some a:=bS
theorem vB:(mE a b c).lookup ("grids":Str)=some b:=by unfold mE;rw[a_ (by decide +kernel)];exact bS
theorem vh:(mE a b c).lookup ("picks":Str)=some c:=by unfold mE;rw[a_ (by decide +kernel),a_ (by decide +kernel)];exact bS
theorem Cd {f:Str}(h:¬f∈jM):(mE a b c).lookup f=none:=oy h
end
def dA (K:aag)(H:Hp)(a:Addr)(gs:List (aae)):Prop:=∃as:List Addr,aP K H a (as.map V.ref)/\Paired (bE K H) as gs
def dY (K:aag)(CR:Addr)(H:Hp)(x:Addr)(kd:Tote.Kind)(gs:List (aae)):Prop :=
 ∃dx ga pa LD,H x=some (.ins CR dx (mE (.str (st (cd (kindS kd)))) (.ref ga) (.ref pa)))/\dA K H ga gs/\uD kd gs/\H pa=some (.dT LD)/\(kd=.any->o_ LD (pre (bx (gs.headD []))))
section
variable {K:aag}{H H':Hp}{CR a x:Addr}{kd:Tote.Kind}{gs:List (aae)}
theorem dA.same (h:dA K H a gs) (e:au H H'):dA K H' a gs:=by
 obtain⟨as,h1,h2⟩:=h;exact⟨as,e.seq h1,Paired.d9 h2 λ_ _ z=>z.same e⟩
theorem dA.jC {C dx:Addr}{fs:List (Str×V)}(h:dA K H a gs)(S:aL x H H')(hx:H x=some (.ins C dx fs)):dA K H' a gs:=by
 obtain⟨as,h1,h2⟩:=h;exact⟨as,S.seq hx h1,Paired.d9 h2 λ_ _ z=>aL.lists S hx z⟩
theorem dA.first (h:dA K H a gs)(ne:gs≠[]):∃(as:List Addr) (a0:Addr),aP K H a (as.map V.ref)/\n8 (as.map V.ref) 0=some (V.ref a0)/\bE K H a0 (gs.headD [])/\gs.headD []∈gs:=by
 obtain⟨as,h1,h2⟩:=h;cases h2 with
 |nil=>exact absurd rfl ne
 |@cons a0 g as gs h t=>exact⟨_,a0,h1,cy (j:=0) rfl,h,by simp⟩
theorem dY.same (h:dY K CR H x kd gs)(e:au H H'):dY K CR H' x kd gs:=by
 obtain⟨dx,ga,pa,LD,h1,h2,h3,h4,h5⟩:=h;exact⟨dx,ga,pa,LD,e _ _ h1,h2.same e,h3,e _ _ h4,h5⟩
theorem dY.jC {y C dy:Addr}{fs:List (Str×V)}(h:dY K CR H x kd gs)(S:aL y H H')(hy:H y=some (.ins C dy fs))(hl:fs.length≠3):dY K CR H' x kd gs:=by
 obtain⟨dx,ga,pa,LD,h1,h2,h3,h4,h5⟩:=h;exact⟨dx,ga,pa,LD,S _ _ h1 (dG h1 hy (B7 λz=>hl z.symm)),h2.jC S hy,h3,S _ _ h4 (dG h4 hy (by intro z;cases z)),h5⟩
end
theorem kind_any {kd:Tote.Kind}:decide (V.str (st (cd (kindS kd)))=V.str (Str.ofString "any"))=decide (kd=.any):=by
 rw[iz];cases kd <;> decide
theorem kind_ord {kd:Tote.Kind}:decide (V.str (st (cd (kindS kd)))=V.str (Str.ofString "order"))=decide (kd=.order):=by
 rw[iz];cases kd <;> decide
section
variable {P:Program}{w:World}{K:aag}{mg:aai}{base:Heap}
def j6 (K:aag) (CR:Addr):Sp:=λvs H Q _=>∃(x dx ga:Addr) (kd:Tote.Kind) (gs:List (aae)),vs=[.ref x,.str (st (cd (kindS kd))),.ref ga]/\H x=some (.ins CR dx [])/\dA K H ga gs/\uD kd gs/\∀H',aL x H H'->dY K CR H' x kd gs->Q .cj H'
theorem Cv:aG ["self","kind","grids"] ["self","kind","grids"] (aw gY):=fs
theorem Bc {CR:Addr}(T:CK K mg "Rows" jM CR){k:Nat}(FC:Fn P w K mg base bA k "count_starts" ["rows"] F5)(FP:Fn P w K mg base bA k "picks_of" ["sets"] (rC K)){f:Addr}{fd:FuncData}(F:dk K "__init__" "Rows.__init__" gY f fd):a8 P w K mg base bA (k+1) f fd ["self","kind","grids"] (j6 K CR):=by
 refine F.om Cv λLG A outer s H vs Q E hr h=>?_;obtain⟨x,dx,ga,kd,gs,rfl,hx,hG,o,q⟩:=h;refine⟨_,af (cB (pv 0) (pv 1) rfl) (af (cB (pv 0) (pv 2) rfl) (ak (cB (pv 0) (Bs (aB cp (pv 1) bq (aJ _)) (aR FC hr a9 (aa (aR FP hr a9 (aa (bo aM (pv 2) ax (λ_ _=>rfl)) ah)) ah)) pU) rfl))),?_⟩;refine⟨_,rfl,_,rfl,x,CR,dx,[],rfl,hx,T.cl,T.no _ (by simp),(by show 0 < 1000;decide),?_⟩;refine⟨_,rfl,_,rfl,x,CR,dx,_,rfl,ae,T.cl,T.no _ (by simp),(by show 1 < 1000;decide),?_⟩;rw[cI]
 repeat (first|rw[bR]|rw[bc (by decide +kernel)])
 have S1:aL x H (upd H x (.ins CR dx [("kind",.str (st (cd (kindS kd)))),("grids",.ref ga)])):=(aL.refl x H).upd;have Mw:(upd H x (.ins CR dx [("kind",.str (st (cd (kindS kd)))),("grids",.ref ga)])) x=some (.ins CR dx [("kind",.str (st (cd (kindS kd)))),("grids",.ref ga)]):=ae;generalize upd H x (.ins CR dx [("kind",.str (st (cd (kindS kd)))),("grids",.ref ga)])=H1 at S1 Mw;have WT:=hG.jC S1 hx;have fin:∀(H2:Hp) (pa:Addr) (LD:List (List Key×V)),au H1 H2->H2 pa=some (.dT LD)->(kd=.any->o_ LD (pre (bx (gs.headD []))))->Q .cj (upd H2 x (.ins CR dx (mE (.str (st (cd (kindS kd)))) (.ref ga) (.ref pa)))):=λH2 pa LD S2 hp hk=>by
  have SX:aL x H (upd H2 x (.ins CR dx (mE (.str (st (cd (kindS kd)))) (.ref ga) (.ref pa)))):=(S1.trans S2.x).upd;exact q _ SX ⟨dx,ga,pa,LD,ae,hG.jC SX hx,o,by rw[aq (dG hp (S2 _ _ Mw) (by intro z;cases z))];exact hp,hk⟩
 have last:∀(H2:Hp) (pa:Addr) (LD:List (List Key×V)),au H1 H2->H2 pa=some (.dT LD)->(kd=.any->o_ LD (pre (bx (gs.headD []))))->Q .cj (upd H2 x (.ins CR dx (ej "picks" (.ref pa) [("kind",.str (st (cd (kindS kd)))),("grids",.ref ga)]))):=λH2 pa LD S2 hp hk=>by
  rw[bc (by decide +kernel),bc (by decide +kernel),bR];exact fin H2 pa LD S2 hp hk
 refine (aI (cb (ag rfl) aD)) _ ?_;rw[kind_any];refine gH (λh=>?_) (λh=>?_)
 · have h:=XR h;obtain⟨as,a0,hA,h0,hL,hm⟩:=WT.first o.ne
   have sg:=o.ok _ hm;have l3:=o.any h _ hm;generalize gs.headD []=g at hL sg l3 last;refine (aX (ag rfl) aD hA h0) _ ⟨a0,g,rfl,hL,sg,l3,λH2 xp S2 MD=>⟨xp,_,rfl,MD,λr hm=>?_,?_,λH3 xd LD S3 hxd e3 k3=>?_⟩⟩
   · rw[(ke ((j4 g r).mp hm).2).1];exact l3
   · have:=mZ 3 g λs hs=>mn (sg.good s hs).1 (sg.good s hs).2;rw[Yr l3] at this;exact Yi this (by decide)
   · exact⟨_,rfl,x,CR,dx,_,rfl,S3 _ _ (S2 _ _ Mw),T.cl,T.no _ (by simp),(by show 2 < 1000;decide),last H3 xd LD (S2.trans S3) e3 λ_=>k3⟩
 · have h:=Ye (by simpa using h);intro d hd;exact⟨_,rfl,x,CR,dx,_,rfl,((au.refl H1).laid hd) _ _ Mw,T.cl,T.no _ (by simp),(by show 2 < 1000;decide),last _ d [] ((au.refl H1).laid hd) ae λz=>absurd z h⟩
def t_ (K:aag)(CR:Addr):Sp:=λvs H Q _=>∃(x t:Addr) (kd:Tote.Kind) (gs:List (aae)) (s:aaf),vs=[.ref x,.ref t]/\dY K CR H x kd gs/\H t=some (.tup (nV s))/\(∀g∈gs,s.length<=g.length)/\∀H',au H H'->Q (.int (pre (sH kd gs) s:Nat)) H'
theorem jJ:aG ["self","start","grid"] ["self","start"] (aw dR):=fs
theorem CN {CR:Addr}(N:GN mg)(T:CK K mg "Rows" jM CR){k:Nat}(FO:Fn P w K mg base bA k "count_orders" ["sets","start"] (i5 K uw))(FL:Fn P w K mg base bA k "count_legs" ["sets","start"] (i5 K kW)){f:Addr}{fd:FuncData}(F:dk K "starting" "Rows.starting" dR f fd):a8 P w K mg base bA (k+1) f fd ["self","start"] (t_ K CR):=by
 refine F.om jJ λLG A outer s H vs Q E hr h=>?_;obtain⟨x,t,kd,gs,s,rfl,⟨dx,ga,pa,LD,hx,hG,o,hp,hk⟩,hT,hl,q⟩:=h;have hu:=uK hr;refine⟨_,af (aO (aB cp (a6 (pv 0) rfl) bq (aJ _)) (ak (az (vM hu (a6 (pv 0) rfl) (pv 1) ax ⟨rfl,rfl,rfl,rfl⟩))) aC)
  (af (aO (aB cp (a6 (pv 0) rfl) bq (aJ _)) (ak (az (bY (wH rfl) (by rfl) N.sum (by decide +kernel) (aa (fz (te:=nQ (i5 K uw) [] E0 (cM (cJ 2) (cM (cJ 1) eV))) rfl jJ.nd (bJ (a6 (pv 0) rfl)) (bz (own:=[("grid",2)]) rfl) (λ_ _ _ _ _=>bp 2 jJ.nd) (λ_ _ _ _ _=>cu) (λ_ _ _ _ _=>aR FO (by first|exact hr|exact hr.qI) a9 (aa (pv 2) (aa (pv 1) ah)))) ah)))) aC)
  (ak (az (bY (wH rfl) (by rfl) N.sum (by decide +kernel) (aa (fz (te:=nQ (i5 K kW) [] E0 (cM (cJ 2) (cM (cJ 1) eV))) rfl jJ.nd (bJ (a6 (pv 0) rfl)) (bz (own:=[("grid",2)]) rfl) (λ_ _ _ _ _=>bp 2 jJ.nd) (λ_ _ _ _ _=>cu) (λ_ _ _ _ _=>aR FL (by first|exact hr|exact hr.qI) a9 (aa (pv 2) (aa (pv 1) ah)))) ah))))),?_⟩
 have Tz:∀{σ:L2.St},σ[0]?=some (some (V.ref x))->Ev (vk K (cJ 0) "kind") σ H (.str (st (cd (kindS kd)))):=λz=>bf (ag z) hx T.cl (T.no _ (by simp)) wN;have WU:∀{σ:L2.St},σ[0]?=some (some (V.ref x))->Ev (vk K (cJ 0) "grids") σ H (.ref ga):=λz=>bf (ag z) hx T.cl (T.no _ (by simp)) vB;have many:∀(r:aae->aaf->Nat) (R:VK),(∀H',au H H'->R (.int (((gs.map λg=>r g s).sum:Nat))) H')->(HK (Fl K (vk K (cJ 0) "grids")) (fL 2) Ct (nQ (i5 K r) [] E0 (cM (cJ 2) (cM (cJ 1) eV))) [2]) [some (.ref x),some (.ref t),none] H λv H'=>IC K [v] H' R:=by
  intro r R hR;obtain⟨as,hA,hP⟩:=hG;have LH:as.length=gs.length:=Paired.length hP;refine zc ?_;show vk _ _ _ _ _ _;refine WU rfl _ ⟨ga,rfl,⟨_,hA⟩,λD hD=>ou (K:=K) (a:=ga) (xs:=as.map V.ref) (λi y _=>∃g,gs[i]?=some g/\y=.int (r g s:Nat)) (λi y H H' _ z=>z) hA hD (by rw[Xu,LH];have:=o.vY;omega) ?_ ?_⟩
  · rintro i v H' hi S _ R hR;obtain⟨ai,L6,rfl⟩:=jV hi;obtain⟨g,hg,hL⟩:=Paired.qL hP L6;have mg:=X0 hg;exact⟨rfl,_,rfl,_,rfl,ai,t,g,s,rfl,hL.same S,b7.of (S _ _ hT),o.ok g mg,hl g mg,λH4 S4=>hR _ _ S4 ⟨g,hg,rfl⟩⟩
  · rintro ys H' S e l f;have ey:ys=((gs.map λg=>r g s).map λn=>((n:Nat):Int)).map V.int:=by
     refine xJ (by rw[l];simp[LH]) λi y hy=>?_;obtain⟨g,hg,rfl⟩:=f i y hy;rw[Xz,Xz,Xz,hg];rfl
    subst ey;refine⟨D,_,rfl,aP.of e,?_⟩;rw[pX];exact hR H' S
 refine aS (aI (cb (Tz rfl) aD)) (λh=>?_) (λh=>?_)
 · rw[kind_any] at h;have h:=XR h;have SO:=hk h;subst h;show vk _ _ _ _ _ _;refine (bf (ag rfl) hx T.cl (T.no _ (by simp)) vh) _ ⟨pa,rfl,.inr ⟨LD,.inl hp⟩,_,rfl,_,gj.t hp (k:=kL s) (by rw[EF];exact hT),?_⟩;show Q ((cQ LD (kL s)).getD (.int 0)) H;rw[SO.get s];exact q H (au.refl H)
 rw[kind_any] at h;have na:=Ye h;refine aS (aI (cb (Tz rfl) aD)) (λh=>?_) (λh=>?_)
 · rw[kind_ord] at h;have h:=XR h;subst h;refine many uw _ λH' S=>?_;rw[Ac o hl];exact q H' S
 rw[kind_ord] at h;have no:=Ye h;refine many kW _ λH' S=>?_;rw[Cp no na o hl];exact q H' S
end
abbrev dN (s:aaf):List PyData:=s.map λn=>.int (n:Nat)
theorem uU:∀s t:aaf,PyData.eqvAll (dN s) (dN t)=(s==t)
 |[],[]=>by simp[PyData.eqvAll]
 |[],_::_=>by simp[PyData.eqvAll]
 |_::_,[]=>by simp[PyData.eqvAll]
 |x::s,y::t=>by
  have ih:=uU s t;have e:(((x:Nat):Int)==((y:Nat):Int))=(x==y):=by rw[X9,Yl,Yl];omega
  show (PyData.eqv (.int (x:Nat)) (.int (y:Nat))&&PyData.eqvAll (dN s) (dN t))=_;rw[ih];simp only[PyData.eqv];rw[e];rfl
theorem shaped_ints (s:aaf):SeqAt.shaped (.list (dN s))=true:=by
 have h1:∀s:aaf,PyData.canLayAll0 (dN s)=true:=λs=>by
  induction s with
  |nil=>simp[PyData.canLayAll0]
  |cons x s ih=>show (PyData.canLay0 (.int (x:Nat))&&PyData.canLayAll0 (dN s))=true;rw[ih];simp[PyData.canLay0]
 have h2:∀s:aaf,PyData.depthAll (dN s)=0:=λs=>by
  induction s with
  |nil=>simp[PyData.depthAll]
  |cons x s ih=>show max (PyData.depth (.int (x:Nat))) (PyData.depthAll (dN s))=0;rw[ih];simp[PyData.depth]
 unfold SeqAt.shaped;rw[XB,XC];refine⟨?_,?_⟩
 · simp only[PyData.canLay0];exact h1 s
 · simp only[PyData.depth];rw[h2];decide
theorem yY {K:aag}{H:Hp}{c:Addr}{s:aaf}(h:aP K H c (nV s)):Dp K H (.ref c) (.list (dN s)):=by
 refine .lst h ?_;clear h
 induction s with
 |nil=>exact .nil
 |cons x s ih=>exact .cons (.int _) ih
def RS (K:aag)(sd:Addr)(H:Hp)(c:Addr)(xs:List V):Prop:=∀H',aL sd H H'->aP K H' c xs
def RL (K:aag)(sd:Addr)(H:Hp)(b:Addr)(g:aae):Prop:=∃as:List Addr,RS K sd H b (as.map V.ref)/\Paired (λc s=>RS K sd H c (nV s)) as g
section
variable {K:aag}{sd b c:Addr}{H H':Hp}{xs:List V}{g:aae}
theorem RS.of (h:H c=some (.lst xs)) (n:c≠sd):RS K sd H c xs:=λ_ S=>aP.of (S _ _ h n)
theorem RS.old (h:aP K H c xs)(n:H sd=none)(S:au H H'):RS K sd H' c xs:=λ_ SX=>au.seq (λb u z=>SX b u (S b u z) (ao z n)) h
theorem RS.step (h:RS K sd H c xs)(S:aL sd H H'):RS K sd H' c xs:=λ_ T=>h _ (S.trans T)
theorem RL.step (h:RL K sd H b g)(S:aL sd H H'):RL K sd H' b g:=by
 obtain⟨as,h1,h2⟩:=h;exact⟨as,h1.step S,Paired.d9 h2 λ_ _ z=>z.step S⟩
theorem RL.lists (h:RL K sd H b g):bE K H b g:=by
 obtain⟨as,h1,h2⟩:=h;exact⟨as,h1 _ (aL.refl sd H),Paired.d9 h2 λ_ _ z=>z _ (aL.refl sd H)⟩
end
theorem gC {α β:Type}{F:α->β->Prop}:∀{l:List α} {m:List β} {l':List α} {m':List β},Paired F l m->Paired F l' m'->Paired F (l++l') (m++m')
 |_,_,_,_,.nil,h=>h
 |_,_,_,_,.cons h t,k=>.cons h (gC t k)
section
variable {P:Program}{w:World}{K:aag}{mg:aai}{base:Heap}
def pD (K:aag) (CR:Addr):Sp:=λvs H Q _=>∃(a:Addr) (kd:Tote.Kind) (ss:aae),vs=[.str (st (cd (kindS kd))),.ref a]/\bE K H a ss/\uD kd [ss]/\∀H' x,au H H'->dY K CR H' x kd [ss]->Q (.ref x) H'
theorem GJ:aG ["kind","sets"] ["kind","sets"] (aw kg):=fs
theorem made {CR:Addr}{H H1:Hp}{Q:VK}{ga:Addr}{kd:Tote.Kind}{gs:List (aae)}(S:au H H1)(hG:dA K H1 ga gs)(o:uD kd gs)(q:∀H' x,au H H'->dY K CR H' x kd gs->Q (.ref x) H')(x dx:Addr)(hx:H1 x=none)(Mn:H1 dx=none)(nx:dx≠x) :
  j6 K CR [.ref x,.str (st (cd (kindS kd))),.ref ga] (upd (upd H1 dx (.own x)) x (.ins CR dx [])) (λv H2=>v=.cj/\Q (.ref x) H2) E0:=by
 have S1:au H1 (upd (upd H1 dx (.own x)) x (.ins CR dx [])):=((au.refl H1).laid Mn).laid hx;exact⟨x,dx,ga,kd,gs,rfl,ae,hG.same S1,o,λH' SX hR=>⟨rfl,q H' x (λb u z=>SX b u (S1 b u (S b u z)) (ao (S b u z) hx)) hR⟩⟩
theorem Gx {CR:Addr}(T:CK K mg "Rows" jM CR){k:Nat}(FR:xr P w K mg base bA k CR ["self","kind","grids"] (j6 K CR)){f:Addr}{fd:FuncData}(F:dk K "rows_on" "rows_on" kg f fd):a8 P w K mg base bA (k+2) f fd ["kind","sets"] (pD K CR):=by
 refine F.om GJ λLG A outer s H vs Q E hr h=>?_;obtain⟨a,kd,ss,rfl,hL,o,q⟩:=h;refine⟨_,ak (az (o7 FR hr T.mg a9 (aa (pv 0) (aa (bV (aa (pv 1) ah)) ah)))),?_⟩;refine⟨_,rfl,_,rfl,by show 1<=sizeLine;decide,λl hl=>?_⟩;have S1:au H (upd H l (.lst [V.ref a])):=(au.refl H).laid hl;exact λx dx hx Mn nx=>made S1 ⟨[a],aP.of ae,.cons (hL.same S1) .nil⟩ o q x dx hx Mn nx
def rQ (K:aag)(CR:Addr):Sp:=λvs H Q _=>∃(a:Addr) (k:Nat) (kd:Tote.Kind) (s:aaf),vs=[.str (st (cd (kindS kd))),.int (k:Nat),.ref a]/\aP K H a (nV s)/\k<=6/\uD kd [List.replicate k s]/\∀H' x,au H H'->dY K CR H' x kd [List.replicate k s]->Q (.ref x) H'
theorem sQ:aG ["kind","size","numbers","place"] ["kind","size","numbers"] (aw i8):=fs
theorem yd {te:TE}{σ:L2.St}{H:Hp}{Q:VK}(h:te σ H λx H1=>1<=sizeLine/\∀p,H1 p=none->Q (.ref p) (upd H1 p (.lst [x]))):Je (cM te eV) σ H Q:=h
theorem GI {te:TE}{n:Nat}{D:Ends}{σ:L2.St}{H:Hp}(h:te σ H λv H'=>D.nx (σ.set n (some v)) H'):zY te (fL n) D σ H:=h
theorem yL {k n m:Nat}{vs:aaf}{a:Addr}{σ:L2.St}{H:Hp}{Q:VK}{ta:TA}{g:TG}(hk:k<=6)(ha:∀R:List V->Hp->Prop,R [.int (k:Nat)] H->ta σ H R)(hg:g=fL n)(WV:vs=[n])(hv:∀i:Int,((wipe σ [n]).set n (some (.int i)))[m]?=some (some (.ref a))/\wipe ((wipe σ [n]).set n (some (.int i))) [n]=wipe σ [n])
  (q:∀D H',H D=none->au H H'->H' D=some (.lst (List.replicate k (V.ref a)))->Q (.ref D) H'):(HK (Cw ta) g Ct (cJ m) vs) σ H Q:=by
 subst hg WV;refine zc (ha _ ⟨_,rfl,by omega,by omega,λD hD=>?_⟩);rw[Yg];refine lR (lo:=0) (n:=k) (λi H'=>au H H'/\H' D=some (.lst (List.replicate i (V.ref a)))) ⟨(au.refl H).laid hD,ae⟩ ?_ ?_
 · rintro i H' hi ⟨k1,k2⟩;refine⟨(hv _).2,_,(hv _).1,_,k2,by rw[X5,XZ];omega,λb u z=>?_,?_⟩
   · rw[aq (ao z hD)];exact k1 b u z
   · rw[ae,List.replicate_succ']
 · rintro H' ⟨k1,k2⟩;exact q D H' hD k1 k2
theorem rM {H:Hp}{D a:Addr}{k:Nat}{s:aaf}(h:H D=some (.lst (List.replicate k (V.ref a))))(hs:aP K H a (nV s)):bE K H D (List.replicate k s):=⟨List.replicate k a,aP.of (by rw[h,List.map_replicate]),Paired.rep (F:=g_ K H) hs k⟩
theorem DS {CR:Addr}(N:GN mg)(T:CK K mg "Rows" jM CR){k:Nat}(FR:xr P w K mg base bA k CR ["self","kind","grids"] (j6 K CR)){f:Addr}{fd:FuncData}(F:dk K "rows_box" "rows_box" i8 f fd):a8 P w K mg base bA (k+2) f fd ["kind","size","numbers"] (rQ K CR):=by
 refine F.om sQ λLG A outer s H vs Q E hr h=>?_;obtain⟨a,n,kd,ss,rfl,hS,h6,o,q⟩:=h;refine⟨_,ak (az (o7 FR hr T.mg a9 (aa (pv 0) (aa (bV (aa (fz (te:=cJ 2) rfl sQ.nd (gf rfl N.range (aa (pv 1) ah)) (bz (own:=[("place",3)]) rfl) (λ_ _ _ _ _=>bp 3 sQ.nd) (λ_ _ _ _ _=>cu) (λ_ _ _ _ _=>pv 2)) ah)) ah)))),?_⟩;refine⟨_,rfl,yd (yL h6 (λR r=>⟨_,rfl,r⟩) rfl rfl (λi=>⟨rfl,rfl⟩) λD H1 hD S1 e1=>⟨by show 1<=sizeLine;decide,λl hl=>?_⟩)⟩;have S2:au H1 (upd H1 l (.lst [V.ref D])):=(au.refl H1).laid hl;exact λx dx hx Mn nx=>made (S1.trans S2) ⟨[D],aP.of ae,.cons ((rM e1 (S1.seq hS)).same S2) .nil⟩ o q x dx hx Mn nx
end
section
variable {P:Program}{w:World}{K:aag}{mg:aai}{base:Heap}
def K7 (K:aag) (H:Hp) (a:Addr) (gs:List (aae)):Prop:=∃bs:List Addr,H a=some (.lst (bs.map V.ref))/\Paired (bE K H) bs gs
def xS (K:aag):Sp:=λvs H Q _=>∃(a b:Addr) (k:Nat) (A B:aaf),vs=[.int (k:Nat),.ref a,.ref b]/\aP K H a (nV A)/\aP K H b (nV B)/\k<=4/\A.length<=3/\∀H' x,au H H'->K7 K H' x (bD B A [List.replicate k B])->Q (.ref x) H'
theorem f9:aG ["size","bankers","others","grids","banker","seated","grid","place"] ["size","bankers","others"] (aw gF):=fs
theorem DQ (N:GN mg){f:Addr}{fd:FuncData}(F:dk K "seatings" "seatings" gF f fd):a8 P w K mg base bA 1 f fd ["size","bankers","others"] (xS K):=by
 refine F.om f9 λLG A outer s H vs Q E hr h=>?_;obtain⟨a,b,k,Bk,B,rfl,hA,hB,h4,h3,q⟩:=h;have hu:(A.deeper (envOfC "seatings" (aw gF) s.heap.objs.size f LG)).units+64 < cLine:=by have:=hr.un;omega
 refine⟨_,af (a7 3 f9.nd (bV (aa (fz (te:=cJ 2) rfl f9.nd (gf rfl N.range (aa (pv 0) ah)) (bz (own:=[("place",7)]) rfl) (λ_ _ _ _ _=>bp 7 f9.nd) (λ_ _ _ _ _=>cu) (λ_ _ _ _ _=>pv 2)) ah)))
  (af (df YA rfl (bJ (pv 1)) (bp 4 f9.nd)
   (af (a7 5 f9.nd (bV ah))
   (af (df YA rfl (bJ (pv 3)) (bp 6 f9.nd)
    (ak (df YA rfl (gf rfl N.range (aa (pv 0) ah)) (bp 7 f9.nd)
     (ak (aO (aB (Hl hu) (bo aM (pv 6) (pv 7) (λ_ _=>rfl)) (pv 2) (aJ _))
      (ak (dP (qu PySem.F.plainAttrs_list PySem.F.slot_list_append PySem.F.type_list_append iA (pv 5) (aa (bG wF (bG wF (cK fk (pv 6) ft (cY (pv 7))) (bV (aa (bV (aa (pv 4) ah)) ah))) (cK fk (pv 6) (cY (bG eK (pv 7) ax)) ft)) ah)))) aC)))))
   (ak (a7 3 f9.nd (pv 5))))))
  (ak (az (pv 3)))),?_⟩
 refine HD (GI (yd (yL (by omega) (λR r=>⟨_,rfl,r⟩) rfl rfl (λi=>⟨rfl,rfl⟩) λD0 H0 M8 S0 e0=>⟨by show 1<=sizeLine;decide,λg0 WW=>?_⟩)));have S1:au H0 (upd H0 g0 (.lst [V.ref D0])):=(au.refl H0).laid WW;have gk:∀i,∀g∈bD B (Bk.take i) [List.replicate k B],g.length=k:=λi=>yu λg hg=>by rw[XJ.mp hg,X5]
 have gn:∀i,(bD B (Bk.take i) [List.replicate k B]).length<=64:=λi=>by
  have z:=mY (B:=B) (A:=Bk.take i) (k:=k) (gs:=[List.replicate k B]) (λg hg=>by rw[XJ.mp hg,X5]);have pw:k ^ (Bk.take i).length<=4 ^ 3:=Yi (Nat.pow_le_pow_left h4 _) (Zx (by decide) (by rw[XU];omega));rw[YI,Nat.one_mul] at z;omega
 refine⟨_,rfl,a,rfl,⟨_,(S0.trans S1).seq hA⟩,dq (K:=K) (a:=a) (xs:=nV Bk) (λi σ H'=>∃(gr:Addr) (v4 v5 v6 v7:Option V),σ=[some (.int (k:Nat)),some (.ref a),some (.ref b),some (.ref gr),v4,v5,v6,v7]/\au H H'/\K7 K H' gr (bD B (Bk.take i) [List.replicate k B]))
  ⟨g0,none,none,none,none,rfl,S0.trans S1,[D0],ae,.cons ((rM e0 (S0.seq hB)).same S1) .nil⟩ (λi σ H' _ ⟨_,_,_,_,_,_,S,_⟩=>S.seq hA) ?_ ?_⟩
 · rintro i x σ H1 hi ⟨gr,v4,v5,v6,v7,rfl,SH,bs,eg,hP⟩;obtain⟨bk,WX,rfl⟩:=yl hi;have k1:=gk i;have n1:=gn i;have en:bD B (Bk.take (i+1)) [List.replicate k B]=(bD B (Bk.take i) [List.replicate k B]).flatMap (jr bk B):=by rw[take_snoc WX,xN]
   generalize bD B (Bk.take i) [List.replicate k B]=gs at hP k1 n1 en;have RX:bs.length=gs.length:=Paired.length hP;refine⟨X2 _,λsd RY=>?_⟩;have S2:au H1 (upd H1 sd (.lst [])):=(au.refl H1).laid RY;refine⟨_,rfl,gr,rfl,⟨_,S2.seq (aP.of eg)⟩,dq (K:=K) (a:=gr) (xs:=bs.map V.ref) (λj σ H'=>∃(v6 v7:Option V) (cs:List Addr),σ=[some (.int (k:Nat)),some (.ref a),some (.ref b),some (.ref gr),some (.int (bk:Nat)),some (.ref sd),v6,v7]/\au H1 H'/\H' sd=some (.lst (cs.map V.ref))/\Paired (RL K sd H') cs ((gs.take j).flatMap (jr bk B)))
    ⟨v6,v7,[],rfl,S2,ae,.nil⟩ (λj σ H' _ ⟨_,_,_,_,S,_⟩=>aP.of (S _ _ eg)) ?_ ?_⟩
   · rintro j x σ H2 hj ⟨v6,v7,cs,rfl,S3,e3,hC⟩;obtain⟨bj,WY,rfl⟩:=jV hj;obtain⟨g,hg,as,RZ,MF⟩:=Paired.qL hP WY;have Oc:j < gs.length:=(XI.mp hg).1;have gl:=k1 g (X0 hg);have LH:as.length=g.length:=Paired.length MF;have TC:(gs.take (j+1)).flatMap (jr bk B)=(gs.take j).flatMap (jr bk B)++kN bk B g k:=by
      rw[take_snoc hg,List.flatMap_append,←gl,rH];simp
     have ln:((gs.take j).flatMap (jr bk B)).length<=256:=by
      have z:=pG (f:=jr bk B) (c:=4) (l:=gs.take j) λg' WZ=>Yi (sT g') (by rw[k1 g' (Zb WZ)];exact h4);rw[XU] at z;have:min j gs.length<=64:=by omega
      omega
     generalize (gs.take j).flatMap (jr bk B)=had at hC TC ln;refine qF (tD (ag rfl) (by omega) (by omega) ?_);rw[Yg];refine m9 (lo:=0) (n:=k) (λp σ H'=>∃(v7:Option V) (cs:List Addr),σ=[some (.int (k:Nat)),some (.ref a),some (.ref b),some (.ref gr),some (.int (bk:Nat)),some (.ref sd),some (.ref bj),v7]/\au H1 H'/\H' sd=some (.lst (cs.map V.ref))/\Paired (RL K sd H') cs (had++kN bk B g p))
      ⟨v7,cs,rfl,S3,e3,by simpa [kN] using hC⟩ ?_ ?_
     · rintro p σ H3 hp ⟨v7,cs,rfl,S4,e4,hC⟩;rw[Int.zero_add];have hpg:p < g.length:=by omega
       have MY:p < as.length:=by omega
       have ha:as[p]?=some as[p]:=XE MY;obtain⟨sp,Mh,hI⟩:=Paired.qL MF ha;have W0:g.getD p []=sp:=by rw[Yd,Mh];rfl
       have eS:=xA bk B g p;rw[W0] at eS;have lc:cs.length<=300:=by
        have z:=Paired.length hC;rw[XT] at z;have:=zS (a:=bk) (B:=B) (g:=g) (j:=p);omega
       refine (aX (ag rfl) (ag rfl) (S4.seq RZ) (cy (by rw[Xz,ha];rfl))) _ ⟨_,rfl,_,_,yY (S4.seq hI),yY ((SH.trans S4).seq hB),shaped_ints sp,shaped_ints B,_,rfl,?_⟩;have ee:PyData.eqv (.list (dN sp)) (.list (dN B))=(sp==B):=by simp only[PyData.eqv];exact uU sp B
       rw[ee];refine gH (λh=>?_) (λh=>?_)
       · rw[Xw h] at eS;refine⟨_,rfl,.inl ⟨rfl,_,aP.of e4⟩,_,rfl,_,rfl,_,rfl,bj,_,rfl,S4.seq RZ,λq1 W2=>?_⟩;rw[p9];refine⟨_,rfl,by show 1<=sizeLine;decide,λq2 R0=>⟨by show 1<=sizeLine;decide,λq3 R1=>?_⟩⟩;have T1:au H3 (upd H3 q1 (.lst ((as.map V.ref).take p))):=(au.refl H3).laid W2;have f1:(upd H3 q1 (.lst ((as.map V.ref).take p))) q1=some (.lst ((as.map V.ref).take p)):=ae;generalize upd H3 q1 (.lst ((as.map V.ref).take p))=h1 at T1 f1 R0 R1 ⊢;have T2:au h1 (upd h1 q2 (.lst [V.int (bk:Nat)])):=(au.refl h1).laid R0;have f2:(upd h1 q2 (.lst [V.int (bk:Nat)])) q2=some (.lst [V.int (bk:Nat)]):=ae;generalize upd h1 q2 (.lst [V.int (bk:Nat)])=h2 at T2 f2 R1 ⊢;have T3:au h2 (upd h2 q3 (.lst [V.ref q2])):=(au.refl h2).laid R1;have f3:(upd h2 q3 (.lst [V.ref q2])) q3=some (.lst [V.ref q2]):=ae;generalize upd h2 q3 (.lst [V.ref q2])=h3 at T3 f3 ⊢;refine⟨q1,q3,_,_,rfl,rfl,T3 _ _ (T2 _ _ f1),f3,by rw[XU,Xu,XZ];show _+1<=_;omega,λq4 W3=>?_⟩;have T4:au h3 (upd h3 q4 (.lst ((as.map V.ref).take p++[V.ref q2]))):=(au.refl h3).laid W3;have f4:(upd h3 q4 (.lst ((as.map V.ref).take p++[V.ref q2]))) q4=some (.lst ((as.map V.ref).take p++[V.ref q2])):=ae;generalize upd h3 q4 (.lst ((as.map V.ref).take p++[V.ref q2]))=Ov at T4 f4 ⊢;have T:au H3 Ov:=((T1.trans T2).trans T3).trans T4;refine⟨_,rfl,(jA (ag rfl) aD) _ ⟨_,rfl,bj,_,rfl,(S4.trans T).seq RZ,λq5 W4=>?_⟩⟩;rw[show ((p:Nat):Int)+1=((p+1:Nat):Int) by omega,oW];have T5:au Ov (upd Ov q5 (.lst ((as.map V.ref).drop (p+1)))):=(au.refl Ov).laid W4;have f5:(upd Ov q5 (.lst ((as.map V.ref).drop (p+1)))) q5=some (.lst ((as.map V.ref).drop (p+1))):=ae;generalize upd Ov q5 (.lst ((as.map V.ref).drop (p+1)))=h5 at T5 f5 ⊢;refine⟨q4,q5,_,_,rfl,rfl,T5 _ _ f4,f5,by rw[XT,XU,Yn,Xu,XZ];show _+1+_<=_;omega,λq6 TF=>?_⟩;have T6:au h5 (upd h5 q6 (.lst ((as.map V.ref).take p++[V.ref q2]++(as.map V.ref).drop (p+1)))):=(au.refl h5).laid TF;have f6:(upd h5 q6 (.lst ((as.map V.ref).take p++[V.ref q2]++(as.map V.ref).drop (p+1)))) q6=some (.lst ((as.map V.ref).take p++[V.ref q2]++(as.map V.ref).drop (p+1))):=ae;have W5:q6≠sd:=(ao (T5 _ _ (T _ _ e4)) TF).symm;have W6:q2≠sd:=(ao (T1 _ _ e4) R0).symm;generalize upd h5 q6 (.lst ((as.map V.ref).take p++[V.ref q2]++(as.map V.ref).drop (p+1)))=h6 at T6 f6 ⊢;have TT:au H3 h6:=(T.trans T5).trans T6;have W7:h6 q2=some (.lst [V.int (bk:Nat)]):=T6 _ _ (T5 _ _ (T4 _ _ (T3 _ _ f2)));refine⟨sd,_,_,rfl,rfl,TT _ _ e4,by rw[Xu,XZ];omega,some (.int (p:Nat)),cs++[q6],rfl,?_,by rw[ae,XQ];rfl,?_⟩
         · intro c u z;rw[aq (ao z RY)];exact TT c u (S4 c u z)
         · have SX:aL sd H3 (upd h6 sd (.lst (cs.map V.ref++[V.ref q6]))):=(TT.x).upd;have Ow:aL sd h6 (upd h6 sd (.lst (cs.map V.ref++[V.ref q6]))):=(aL.refl sd h6).upd;have S6:au H1 h6:=S4.trans TT;rw[eS,←YY];refine gC (Paired.d9 hC λ_ _ z=>z.step SX) (.cons ⟨as.take p++[q2]++as.drop (p+1),?_,?_⟩ .nil)
           · refine RS.step (RS.of ?_ W5) Ow;rw[f6,XQ,XQ,List.map_take,ZZ];rfl
           · have old:Paired (λc s=>RS K sd (upd h6 sd (.lst (cs.map V.ref++[V.ref q6]))) c (nV s)) as g:=Paired.d9 MF λc s z=>RS.step (RS.old z RY S6) Ow;exact gC (gC (Paired.tk p old) (.cons (RS.step (RS.of W7 W6) Ow) .nil)) (Paired.dp (p+1) old)
       · rw[Xv h,Yx] at eS;exact⟨_,cs,rfl,S4,e4,by rw[eS];exact hC⟩
     · rintro σ H3 ⟨v7,cs,rfl,S4,e4,hC⟩;exact⟨_,_,cs,rfl,S4,e4,by rw[TC];exact hC⟩
   · rintro σ H2 ⟨v6,v7,cs,rfl,S3,e3,hC⟩;rw[Xu,RX,Ys,←en] at hC;exact⟨_,rfl,sd,_,_,_,_,rfl,SH.trans S3,cs,e3,Paired.d9 hC λ_ _ z=>z.lists⟩
 · rintro σ H1 ⟨gr,v4,v5,v6,v7,rfl,SH,hG⟩;rw[aN,Ys] at hG;exact⟨_,rfl,q H1 gr SH hG⟩
end
theorem um {sp:Sp}{LY:List V}{E:XK}{te:TE}{t:TA}{D:Ends}{σ:L2.St}{H:Hp}{v:V}(h:Ev te σ H v)(q:t σ H λxs H2=>sp ((v::xs)++LY) H2 D.rt E):Ey (nQ sp LY E (cM te t)) D σ H:=h _ q
section
variable {P:Program}{w:World}{K:aag}{mg:aai}{base:Heap}
abbrev Ee (kd:Tote.Kind) (k:Nat) (A B:aaf):List (aae):=if kd=.any then (bD B A [List.replicate k B]).take 1 else bD B A [List.replicate k B]
def sC (K:aag)(CR:Addr):Sp:=λvs H Q _=>∃(a b:Addr) (k:Nat) (kd:Tote.Kind) (A B:aaf),vs=[.str (st (cd (kindS kd))),.int (k:Nat),.ref a,.ref b]/\aP K H a (nV A)/\aP K H b (nV B)/\k<=4/\A.length<=3/\uD kd (Ee kd k A B)/\∀H' x,au H H'->dY K CR H' x kd (Ee kd k A B)->Q (.ref x) H'
theorem zi:aG ["kind","size","bankers","others","grids"] ["kind","size","bankers","others"] (aw iM):=fs
theorem Ed {CR:Addr}(T:CK K mg "Rows" jM CR){k:Nat}(FS:Fn P w K mg base bA (k+1) "seatings" ["size","bankers","others"] (xS K))(FR:xr P w K mg base bA k CR ["self","kind","grids"] (j6 K CR)){f:Addr}{fd:FuncData}(F:dk K "rows_key" "rows_key" iM f fd):a8 P w K mg base bA (k+2) f fd ["kind","size","bankers","others"] (sC K CR):=by
 refine F.om zi λLG A outer s H vs Q E hr h=>?_;obtain⟨a,b,n,kd,Bk,B,rfl,hA,hB,h4,h3,o,q⟩:=h;refine⟨_,af (a7 4 zi.nd (aR FS hr a9 (aa (pv 1) (aa (pv 2) (aa (pv 3) ah)))))
  (af (aO (aB cp (pv 0) bq (aJ _)) (ak (az (o7 FR hr T.mg a9 (aa (pv 0) (aa (cK fk (pv 4) ft (cY ax)) ah))))) aC)
  (ak (az (o7 FR hr T.mg a9 (aa (pv 0) (aa (pv 4) ah)))))),?_⟩
 refine⟨_,rfl,_,rfl,_,rfl,a,b,n,Bk,B,rfl,hA,hB,h4,h3,λH1 x S1 ⟨bs,e1,hP⟩=>?_⟩;refine aS (aI (cb (ag rfl) aD)) (λh=>?_) (λh=>?_)
 · rw[kind_any] at h;have h:=XR h;unfold Ee at o q;rw[Xw h] at o q;refine⟨_,rfl,_,rfl,_,rfl,x,_,rfl,aP.of e1,λl hl=>?_⟩;have ec:fC (bs.map V.ref) none (some 1)=(bs.take 1).map V.ref:=by rw[show (1:Int)=((1:Nat):Int) from rfl,p9,List.map_take]
   rw[ec];have S2:au H1 (upd H1 l (.lst ((bs.take 1).map V.ref))):=(au.refl H1).laid hl;exact λy dy hy R3 ny=>made (S1.trans S2) ⟨bs.take 1,aP.of ae,Paired.d9 (Paired.tk 1 hP) λ_ _ z=>z.same S2⟩ o q y dy hy R3 ny
 · rw[kind_any] at h;have h:=Ye h;unfold Ee at o q;rw[Xv h] at o q;refine⟨_,rfl,_,rfl,?_⟩;exact λy dy hy R3 ny=>made S1 ⟨bs,aP.of e1,hP⟩ o q y dy hy R3 ny
def yZ (K:aag)(CP CR:Addr):Sp:=λvs H Q _=>∃(pa sa:Addr) (p:aK) (how:Nat) (sets:aae),vs=[.ref pa,.int (how:Nat),.ref sa]/\de K CP H pa p/\bE K H sa sets/\uC p how sets/\∀H' x,au H H'->dY K CR H' x p.kind (jK p.kind (ck how) p.fields.length sets)->Q (.ref x) H'
theorem AR:aG ["pool","how","sets","size"] ["pool","how","sets"] (aw j_):=fs
theorem G5 {CP CR aW:Addr}(G:GW mg)(B:GB K mg aW)(TP:CK K mg "Pool" hU CP){k:Nat}(FO:Fn P w K mg base bA k "rows_on" ["kind","sets"] (pD K CR))(FB:Fn P w K mg base bA k "rows_box" ["kind","size","numbers"] (rQ K CR))(FK:Fn P w K mg base bA k "rows_key" ["kind","size","bankers","others"] (sC K CR))
  {f:Addr}{fd:FuncData}(F:dk K "rows_of" "rows_of" j_ f fd):a8 P w K mg base bA (k+1) f fd ["pool","how","sets"] (yZ K CP CR):=by
 refine F.om AR λLG A outer s H vs Q E hr h=>?_;obtain⟨pa,sa,p,how,sets,rfl,⟨dp,fa,MY,⟨ME,Ql,Qm⟩⟩,Pu,m,q⟩:=h;refine⟨_,af (aO (aB cp (pv 1) (bb B.on) (aJ _)) (ak (az (aR FO hr a9 (aa (a6 (pv 0) rfl) (aa (pv 2) ah))))) aC)
  (af (a7 3 AR.nd (bg G.len (a6 (pv 0) rfl)))
  (af (aO (aB cp (pv 1) (bb B.box) (aJ _)) (ak (az (aR FB hr a9 (aa (a6 (pv 0) rfl) (aa (pv 3) (aa (bo aM (pv 2) ax (λ_ _=>rfl)) ah)))))) aC)
  (ak (az (aR FK hr a9 (aa (a6 (pv 0) rfl) (aa (pv 3) (aa (bo aM (pv 2) ax (λ_ _=>rfl)) (aa (bo aM (pv 2) ax (λ_ _=>rfl)) ah))))))))),?_⟩
 have MM:ME.length=p.fields.length:=Paired.length Qm;have o:=m.IE;obtain⟨_,_,mb,mk⟩:=m.all;refine aS (aI (cb (ag rfl) aD)) (λh=>?_) (λh=>?_)
 · rw[aZ] at h;have h:how=0:=by have:=YZ h;omega
   rw[vU.mpr h] at q o;exact um (bf (ag rfl) MY TP.cl (TP.no _ (by simp)) iZ) ⟨_,rfl,sa,p.kind,sets,rfl,Pu,o,q⟩
 rw[aZ] at h;have h0:how≠0:=λz=>by rw[z] at h;cases h
 obtain⟨as,hA,hP⟩:=Pu;refine cH (aU (bf (ag rfl) MY TP.cl (TP.no _ (by simp)) mf) (.inl Ql)) ?_;rw[Xu,MM];refine aS (aI (cb (ag rfl) aD)) (λh=>?_) (λh=>?_)
 · rw[aZ] at h;have h:how=1:=by have:=YZ h;omega
   obtain⟨t,e,h2⟩:=mb h;rw[AS.mpr h] at q o;rw[e] at hP q o;cases hP with
   |cons hI hn =>
    cases hn;rename_i a0;exact um (bf (ag rfl) MY TP.cl (TP.no _ (by simp)) iZ) ⟨_,rfl,(aX (ag rfl) aD hA (v:=.ref a0) rfl) _ ⟨a0,p.fields.length,p.kind,t,rfl,hI,m.ok.six,o,q⟩⟩
 rw[aZ] at h;have h1:how≠1:=λz=>by rw[z] at h;cases h
 obtain⟨t,u,e,h2,h3,h4⟩:=mk h0 h1;have k4:=m.k4 h0;rw[B3.mpr ⟨h0,h1⟩] at q o;rw[e] at hP q o;cases hP with
 |cons hI hn =>
  cases hn with
  |cons hJ hn =>
   cases hn;rename_i a0 a1;exact um (bf (ag rfl) MY TP.cl (TP.no _ (by simp)) iZ) ⟨_,rfl,(aX (ag rfl) aD hA (v:=.ref a0) rfl) _ ((aX (ag rfl) aD hA (v:=.ref a1) rfl) _ ⟨a0,a1,p.fields.length,p.kind,t,u,rfl,hI,hJ,k4,by omega,o,q⟩)⟩
def xT (K:aag)(CB CR:Addr):Sp:=λvs H Q _=>∃(x dx r:Addr) (a b c d e:V) (kd:Tote.Kind) (gs:List (aae)),vs=[.ref x,a,b,c,d,e,.ref r]/\H x=some (.ins CB dx [])/\dY K CR H r kd gs/\∀H',aL x H H'->H' x=some (.ins CB dx (vm a b c d e (.ref r) (.int ((sH kd gs).length:Nat))))->Q .cj H'
theorem DV:aG ["self","pool","pool_number","how","stake","sets","rows"] ["self","pool","pool_number","how","stake","sets","rows"] (aw i7):=fs
theorem Dc {CB CR:Addr}(T:CK K mg "Bet" r8 CB)(TR:CK K mg "Rows" jM CR){k:Nat}(FS:nN P w K mg base bA k CR "starting" ["self","start"] (t_ K CR)){f:Addr}{fd:FuncData}(F:dk K "__init__" "Bet.__init__" i7 f fd):a8 P w K mg base bA (k+1) f fd ["self","pool","pool_number","how","stake","sets","rows"] (xT K CB CR):=by
 refine F.om DV λLG A outer s H vs Q E hr h=>?_;obtain⟨x,dx,r,a,b,c,d,e,kd,gs,rfl,hx,hR,q⟩:=h;refine⟨_,af (cB (pv 0) (pv 1) rfl) (af (cB (pv 0) (pv 2) rfl) (af (cB (pv 0) (pv 3) rfl) (af (cB (pv 0) (pv 4) rfl) (af (cB (pv 0) (pv 5) rfl) (af (cB (pv 0) (pv 6) rfl) (ak (cB (pv 0) (ly FS TR.cl (pv 6) hr a9 (aa (c_ ah) ah)) rfl))))))),?_⟩;refine⟨_,rfl,_,rfl,x,CB,dx,[],rfl,hx,T.cl,T.no _ (by simp),(by show 0 < 1000;decide),?_⟩;refine⟨_,rfl,_,rfl,x,CB,dx,_,rfl,ae,T.cl,T.no _ (by simp),(by show 1 < 1000;decide),?_⟩;refine⟨_,rfl,_,rfl,x,CB,dx,_,rfl,ae,T.cl,T.no _ (by simp),(by repeat (first|rw[bR]|rw[bc (by decide +kernel)]);show 2 < 1000;decide),?_⟩;refine⟨_,rfl,_,rfl,x,CB,dx,_,rfl,ae,T.cl,T.no _ (by simp),(by repeat (first|rw[bR]|rw[bc (by decide +kernel)]);show 3 < 1000;decide),?_⟩;refine⟨_,rfl,_,rfl,x,CB,dx,_,rfl,ae,T.cl,T.no _ (by simp),(by repeat (first|rw[bR]|rw[bc (by decide +kernel)]);show 4 < 1000;decide),?_⟩;refine⟨_,rfl,_,rfl,x,CB,dx,_,rfl,ae,T.cl,T.no _ (by simp),(by repeat (first|rw[bR]|rw[bc (by decide +kernel)]);show 5 < 1000;decide),?_⟩;rw[cI,cI,cI,cI,cI]
 repeat (first|rw[bR]|rw[bc (by decide +kernel)])
 have S1:aL x H (upd H x (.ins CB dx [("pool",a),("pool_number",b),("how",c),("stake",d),("sets",e),("rows",.ref r)])):=(aL.refl x H).upd;have Mw:(upd H x (.ins CB dx [("pool",a),("pool_number",b),("how",c),("stake",d),("sets",e),("rows",.ref r)])) x=some (.ins CB dx [("pool",a),("pool_number",b),("how",c),("stake",d),("sets",e),("rows",.ref r)]):=ae;generalize upd H x (.ins CB dx [("pool",a),("pool_number",b),("how",c),("stake",d),("sets",e),("rows",.ref r)])=H1 at S1 Mw;have TH:=hR.jC S1 hx (by decide);obtain⟨dr,_,_,_,NU,_⟩:=id TH;refine⟨_,rfl,r,dr,_,rfl,NU,Cd (by decide +kernel),X2 _,λt ht=>?_⟩;have S2:au H1 (upd H1 t (.tup [])):=(au.refl H1).laid ht;show eV _ _ _;unfold eV;dsimp only [Yx];refine⟨r,t,kd,gs,[],rfl,TH.same S2,ae,λg _=>X2 _,λH2 S3=>?_⟩;rw[mq];refine⟨_,rfl,x,CB,dx,_,rfl,S3 _ _ (S2 _ _ Mw),T.cl,T.no _ (by simp),(by show 6 < 1000;decide),?_⟩;rw[bc (by decide +kernel),bc (by decide +kernel),bc (by decide +kernel),bc (by decide +kernel),bc (by decide +kernel),bc (by decide +kernel),bR];exact q _ ((S1.trans (S2.trans S3).x).upd) ae
end
def jH (K:aag)(CB CP CR:Addr)(H:Hp)(x:Addr)(p:aK)(b:bO):Prop:=∃dx pa sa ra,H x=some (.ins CB dx (vm (.ref pa) (.int (b.pool:Nat)) (.int (b.how:Nat)) (.int (b.stake:Nat)) (.ref sa) (.ref ra) (.int (countM p.kind (ck b.how) p.fields.length b.sets:Nat))))/\de K CP H pa p/\lF H sa b.sets/\dY K CR H ra p.kind (jK p.kind (ck b.how) p.fields.length b.sets)/\b.stake<=1000000/\uC p b.how b.sets
section
variable {a b c d e r m:V}
theorem xO:(vm a b c d e r m).lookup ("stake":Str)=some d:=by unfold vm;rw[a_ (by decide +kernel),a_ (by decide +kernel),a_ (by decide +kernel)];exact bS
theorem rR:(vm a b c d e r m).lookup ("many":Str)=some m:=by unfold vm;rw[a_ (by decide +kernel),a_ (by decide +kernel),a_ (by decide +kernel),a_ (by decide +kernel),a_ (by decide +kernel),a_ (by decide +kernel)];exact bS
theorem yj {f:Str}(h:¬f∈r8):(vm a b c d e r m).lookup f=none:=oy h
end
theorem GS {σ:L2.St}{H:Hp}{ta tb:TE}{i j:Int}(ha:Ev ta σ H (.int i))(hb:Ev tb σ H (.int j))(h:zo i j):Ev (kJ (rI zo λi j=>.int (i*j)) ta tb) σ H (.int (i*j)):=λ_ r=>ha _ (hb _ ⟨i,j,rfl,rfl,h,r⟩)
section
variable {K:aag}{CB CP CR CW:Addr}{H H':Hp}{a x:Addr}{p:aK}{b:bO}
theorem jH.same (h:jH K CB CP CR H x p b) (e:au H H'):jH K CB CP CR H' x p b:=by
 obtain⟨dx,pa,sa,ra,h1,h2,h3,h5,h4⟩:=h;exact⟨dx,pa,sa,ra,e _ _ h1,h2.same e,h3.same e,h5.same e,h4⟩
end
section
variable {P:Program}{w:World}{K:aag}{mg:aai}{base:Heap}
def jW (K:aag) (CB CP CR:Addr):Sp:=λvs H Q _=>∃(x:Addr) (p:aK) (b:bO),vs=[.ref x]/\jH K CB CP CR H x p b/\Q (.int ((b.stake:Int)*(countM p.kind (ck b.how) p.fields.length b.sets:Nat))) H
theorem Es:aG ["self"] ["self"] (aw iY):=fs
theorem yp {CB CP CR:Addr}(TB:CK K mg "Bet" r8 CB){f:Addr}{fd:FuncData}(F:dk K "cost" "Bet.cost" iY f fd):a8 P w K mg base bA 1 f fd ["self"] (jW K CB CP CR):=by
 refine F.om Es λLG A outer s H vs Q E hr h=>?_;obtain⟨x,p,b,rfl,⟨dx,pa,sa,ra,h1,_,_,_,h4,_⟩,q⟩:=h;refine⟨_,ak (az (bG xg (a6 (pv 0) rfl) (a6 (pv 0) rfl))),?_⟩;exact (GS (bf (ag rfl) h1 TB.cl (TB.no _ (by simp)) xO) (bf (ag rfl) h1 TB.cl (TB.no _ (by simp)) rR) (.inl ⟨by omega,by omega⟩)) _ q
def xy (K:aag)(CW CF CB CP CR:Addr):Sp:=λvs H Q E=>∃(a b:Addr) (ps:List aK) (e:Nat) (l:List Word) (pl:Nat),vs=[.ref b,.ref a]/\aT K CW H a e l pl/\cV K CP H b ps/\(∀p∈ps,Du p) /\
 (∀t,AQ e ps l=.error t->Rz CF E (t.kind:Nat) (t.place:Nat))/\(∀y,AQ e ps l=.ok y->∀H' x p,aL a H H'->jH K CB CP CR H' x p y->ps[y.pool]?=some p->Q (.ref x) H')
theorem fO:aG ["pools","words","pool_number","pool","stake","stake_place","how","how_place","sets","bet"] ["pools","words"] (aw fV):=fs
theorem Dg {CW CF CB CP CR aW:Addr}(B:GB K mg aW)(T:CK K mg "Words" cw CW)(TP:CK K mg "Pool" hU CP)(TB:CK K mg "Bet" r8 CB)(FL:Flt P w K mg base CF){k:Nat}(hk:5<=k)
  (FO:nN P w K mg base (eW P w CF) k CW "take_one_of" ["self","known"] (qH K CW CF))(W8:Fn P w K mg base (eW P w CF) k "take_pool" ["pools","words"] (sO K CW CF CP))(FS:Fn P w K mg base (eW P w CF) k "take_stake" ["words","unit"] (t8 K CW CF))
  (FH:Fn P w K mg base (eW P w CF) k "take_how" ["words","pool"] (C1 K CW CF CP))(W9:Fn P w K mg base (eW P w CF) k "take_sets" ["words","pool","how"] (xn K CW CF CP))(FB:xr P w K mg base bA 4 CB ["self","pool","pool_number","how","stake","sets","rows"] (xT K CB CR))
  (FF:nN P w K mg base (eW P w CF) k CW "finish" ["self"] (AN K CW CF))(FM:Fn P w K mg base bA k "rows_of" ["pool","how","sets"] (yZ K CP CR))(FC:nN P w K mg base bA k CB "cost" ["self"] (jW K CB CP CR))
  {f:Addr}{fd:FuncData}(F:dk K "read_words" "read_words" fV f fd):a8 P w K mg base (eW P w CF) (k+1) f fd ["pools","words"] (xy K CW CF CB CP CR):=by
 refine F.lU fO λLG A outer s H vs Q E hr h=>?_;obtain⟨a,b,ps,e,l,pl,rfl,hW,MF,bu,q0,q1⟩:=h;refine⟨_,af (dP (ly FO T.cl (pv 1) hr (bQ aH rfl rfl) (aa (c_ (aa bq ah)) ah)))
  (af (a7 2 fO.nd (aR W8 hr (bQ aH rfl rfl) (aa (pv 0) (aa (pv 1) ah))))
  (af (a7 3 fO.nd (bo aM (pv 0) (pv 2) (λ_ _=>rfl)))
  (af (dP (ly FO T.cl (pv 1) hr (bQ aH rfl rfl) (aa (c_ (aa bq ah)) ah)))
  (af (a7 4 fO.nd (aR FS hr (bQ aH rfl rfl) (aa (pv 1) (aa (a6 (pv 3) rfl) ah))))
  (af (a7 5 fO.nd (a6 (pv 1) rfl))
  (af (a7 6 fO.nd (aR FH hr (bQ aH rfl rfl) (aa (pv 1) (aa (pv 3) ah))))
  (af (a7 7 fO.nd (a6 (pv 1) rfl))
  (af (a7 8 fO.nd (aR W9 hr (bQ aH rfl rfl) (aa (pv 1) (aa (pv 3) (aa (pv 6) ah)))))
  (af (dP (jg FF T.cl (pv 1) hr (bQ aH rfl rfl)))
  (af (a7 9 fO.nd (o7 FB (hr.mono hk) TB.mg a9 (aa (pv 3) (aa (pv 2) (aa (pv 6) (aa (pv 4) (aa (pv 8) (aa (aR FM hr a9 (aa (pv 3) (aa (pv 6) (aa (pv 8) ah)))) ah))))))))
  (af (aO (aB cp (a6 (pv 9) rfl) ax (aJ _)) (ak (fN FL aH (hr.mono (by omega)) (aa (bb B.comb) (aa (pv 7) ah)))) aC)
  (af (aO (aB kX (jg FC TB.cl (pv 9) hr a9) (bb B.cost) (aJ _)) (ak (fN FL aH (hr.mono (by omega)) (aa (bb B.J9) (aa (pv 5) ah)))) aC)
  (ak (az (pv 9))))))))))))))),?_⟩
 obtain⟨d0,w0,m0,n0,Ma⟩:=hW.obj;unfold AQ at q0 q1;refine⟨_,rfl,a,d0,_,rfl,Ma,cG (by decide +kernel),(by show 1<=sizeLine;decide),λt ht=>?_⟩;have St:au H (upd H t (.tup [V.str (Str.ofString "bet")])):=(au.refl H).laid ht;show eV _ _ _;unfold eV;dsimp only [Yx];refine mr (s:="bet") (by decide +kernel) (hW.same St) (b7.of ae) (λy hy=>?_) (λm hm H1 v W_ S1 L9=>?_)
 · rw[hy] at q0;exact q0 _ rfl
 rw[hm] at q0 q1;have q0:∀t,I_ e ps m=.error t->Rz CF E (t.kind:Nat) (t.place:Nat):=q0;have q1:∀y,I_ e ps m=.ok y->_:=q1;have Pj:aL a H H1:=St.x.trans S1;refine⟨_,rfl,_,rfl,a,b,ps,e,m,W_,rfl,L9,cV.jC MF Pj Ma,λz=>?_,λwn r hl hn=>?_,λwn r i hl hi H2 S2 Ny=>?_⟩
 · subst z;exact q0 ⟨3,e⟩ rfl
 · subst hl;refine q0 ⟨5,wn.at_⟩ ?_;show (match dQ ps (tx wn.w) with
    |none=>(Except.error ⟨5,wn.at_⟩:Except Fault bO)
    |some i=>match ps[i]? with
     |none=>.error ⟨5,wn.at_⟩
     |some p=>AV e i p r)=_
   rw[hn]
 subst hl;have Ot:=Pj.trans S2;have LN:=wL hi;have eB:I_ e ps (wn::r)=AV e i ps[i] r:=by
  show (match dQ ps (tx wn.w) with
   |none=>(Except.error ⟨5,wn.at_⟩:Except Fault bO)
   |some i=>match ps[i]? with
    |none=>.error ⟨5,wn.at_⟩
    |some p=>AV e i p r)=_
  rw[hi];show (match ps[i]? with
    |none=>(Except.error ⟨5,wn.at_⟩:Except Fault bO)
    |some p=>AV e i p r)=_
  rw[XE LN]
 rw[eB] at q0 q1;have hO:=bu _ (Zl LN);have TJ:∃(as:List Addr) (pa:Addr),aP K H b (as.map V.ref)/\as[i]?=some pa/\de K CP H pa ps[i]:=by
  obtain⟨as,h1,h2⟩:=MF;obtain⟨pa,h3,h4⟩:=Paired.at2 h2 (XE LN);exact⟨as,pa,h1,h3,h4⟩
 have TK:ps[i]?=some ps[i]:=XE LN;generalize ps[i]=p at q0 q1 hO TJ TK;obtain⟨as,pa,hA,MY,Xa⟩:=TJ;have pool:∀{H'},aL a H H'->de K CP H' pa p:=λS=>de.jC Xa S Ma;refine cH (aX (ag rfl) (ag rfl) (Ot.seq Ma hA) (cy (by rw[Xz,MY];rfl))) ?_;unfold AV at q0 q1;obtain⟨d2,w2,m2,n2,Pl⟩:=Ny.obj;refine⟨_,rfl,a,d2,_,rfl,Pl,cG (by decide +kernel),(by show 1<=sizeLine;decide),λt3 Xb=>?_⟩;have TM:au H2 (upd H2 t3 (.tup [V.str (Str.ofString "for")])):=(au.refl H2).laid Xb;dsimp only [Yx];refine mr (s:="for") (by decide +kernel) (Ny.same TM) (b7.of ae) (λy hy=>?_) (λm3 Xc H3 v3 Xd S3 Oq=>?_)
 · rw[hy] at q0;exact q0 _ rfl
 rw[Xc] at q0 q1;have q0:∀t,JC e i p m3=.error t->Rz CF E (t.kind:Nat) (t.place:Nat):=q0;have q1:∀y,JC e i p m3=.ok y->_:=q1;have TN:aL a H H3:=(Ot.trans TM.x).trans S3;obtain⟨dp,fap,Qc,LO⟩:=pool TN;refine⟨_,rfl,(bf (ag rfl) Qc TP.cl (TP.no _ (by simp)) xo) _ ⟨a,p.unit,e,m3,Xd,rfl,hO.unit,Oq,λz=>?_,λws r4 hl hn=>?_,λws r4 hl hs H4 S4 Qk=>?_⟩⟩
 · subst z;exact q0 ⟨3,e⟩ rfl
 · subst hl;refine q0 ⟨4,ws.at_⟩ ?_;show (if eQ p.unit (tx ws.w) then _ else _)=_;rw[Xv (show ¬eQ p.unit (tx ws.w) from hn)]
 subst hl;have eB:JC e i p (ws::r4)=IQ e i p (ay (tx ws.w)).toNat ws.at_ r4:=by
  show (if eQ p.unit (tx ws.w) then _ else _)=_;rw[Xw (show eQ p.unit (tx ws.w) from hs)]
 rw[eB] at q0 q1;have Mj:ay (tx ws.w)=(((ay (tx ws.w)).toNat:Nat):Int):=by have:=hs.1;omega
 have MP:(ay (tx ws.w)).toNat<=1000000:=by have:=hs.2.1;omega
 generalize (ay (tx ws.w)).toNat=stake at q0 q1 Mj MP;rw[Mj];have TQ:=TN.trans S4;obtain⟨d4,w4,m4,n4,Qj⟩:=Qk.obj;refine cH (bf (ag rfl) Qj T.cl (T.no _ (by simp)) bM) ?_;refine⟨_,rfl,_,rfl,a,pa,p,e,r4,ws.at_,rfl,Qk,pool TQ,λz=>?_,λwh r5 hl hn=>?_,λwh r5 how hl hh H5 S5 TU=>?_⟩
 · subst z;exact q0 ⟨3,e⟩ rfl
 · subst hl;refine q0 ⟨3,wh.at_⟩ ?_;show (match jn p wh.w with
    |none=>(Except.error ⟨3,wh.at_⟩:Except Fault bO)
    |some how=>wZ e i how stake wh.at_ ws.at_ p (fD e p how r5))=_
   rw[hn]
 subst hl;have eB:IQ e i p stake ws.at_ (wh::r5)=wZ e i how stake wh.at_ ws.at_ p (fD e p how r5):=by
  show (match jn p wh.w with
   |none=>(Except.error ⟨3,wh.at_⟩:Except Fault bO)
   |some how=>wZ e i how stake wh.at_ ws.at_ p (fD e p how r5))=_
  rw[hh]
 rw[eB] at q0 q1;have TV:=TQ.trans S5;obtain⟨d5,w5,m5,n5,Xe⟩:=TU.obj;refine cH (bf (ag rfl) Xe T.cl (T.no _ (by simp)) bM) ?_;have R4:how=0∨cR p=true:=by
  unfold jn at hh;split at hh
  · exact .inl (X8 hh).symm
  · split at hh
    · rename_i z;exact .inr z.2
    · split at hh
      · rename_i z;exact .inr z.2
      · cases hh
 refine⟨_,rfl,_,rfl,_,rfl,a,pa,p,how,e,r5,wh.at_,rfl,TU,pool TV,hO,λt ht=>?_,λsets r6 TX H6 sa Xf S6 Pu TY=>?_⟩
 · rw[ht] at q0;exact q0 t rfl
 rw[TX] at q0 q1;have Ow:=TV.trans S6;obtain⟨d6,w6,m6,n6,Xg⟩:=TY.obj;refine⟨_,rfl,a,d6,_,rfl,Xg,cG (by decide +kernel),a,e,r6,Xf,rfl,TY,λwr r7 hl=>?_,λhl=>?_⟩
 · subst hl;exact q0 ⟨3,wr.at_⟩ rfl
 subst hl;have q0:∀t,G9 i how stake wh.at_ ws.at_ p sets=.error t->Rz CF E (t.kind:Nat) (t.place:Nat):=q0;have q1:∀y,G9 i how stake wh.at_ ws.at_ p sets=.ok y->_:=q1;unfold G9 at q0 q1;have hM:uC p how sets:=⟨hO,R4,e,r5,[],TX⟩;refine⟨_,rfl,_,rfl,_,rfl,_,rfl,_,rfl,_,rfl,_,rfl,_,rfl,pa,sa,p,how,sets,rfl,pool Ow,Pu.lists,hM,λH7 ra S7 hR=>?_⟩;have TZ:aL a H H7:=Ow.trans S7.x;intro x dx hx Mn P4;have Sn:au H7 (upd (upd H7 dx (.own x)) x (.ins CB dx [])):=((au.refl H7).laid Mn).laid hx;refine⟨x,dx,ra,_,_,_,_,_,p.kind,_,rfl,ae,hR.same Sn,λH8 SX Pw=>⟨rfl,?_⟩⟩;have Pw:H8 x=some (.ins CB dx (vm (.ref pa) (.int (i:Nat)) (.int (how:Nat)) (.int (stake:Nat)) (.ref sa) (.ref ra) (.int (countM p.kind (ck how) p.fields.length sets:Nat)))):=Pw;have S8:au H7 H8:=λb u z=>SX b u (Sn b u z) (ao z hx);have T7:jH K CB CP CR H8 x p ⟨i,how,stake,sets⟩:=⟨dx,pa,sa,ra,Pw,(pool TZ).same S8,(Pu.same S7).same S8,hR.same S8,MP,hM⟩;have Xh:aL a H H8:=TZ.trans S8.x;refine aS (aI (cb (bf (ag rfl) Pw TB.cl (TB.no _ (by simp)) rR) aD)) (λh=>?_) (λh=>?_)
 · rw[aZ] at h;rw[Xw (by have:=YZ h;omega)] at q0;exact ju (ag rfl) (q0 _ rfl)
 have Xi:¬countM p.kind (ck how) p.fields.length sets=0:=λz=>by rw[z] at h;cases h
 rw[Xv Xi] at q0 q1;have Xj:∀{σ:L2.St},σ[9]?=some (some (V.ref x))->Ev (vO CB "cost" (jW K CB CP CR) [] E0 (cJ 9) λ_ H Q=>Q [] H) σ H8 (.int ((stake:Int)*(countM p.kind (ck how) p.fields.length sets:Nat))):=λz _ r =>
  ⟨_,z,x,dx,_,rfl,Pw,yj (by decide +kernel),x,p,⟨i,how,stake,sets⟩,rfl,T7,r⟩
 refine aS (jy (Xj rfl) aD) (λh=>?_) (λh=>?_)
 · have h:=XR h;have h:2147483647 < stake*countM p.kind (ck how) p.fields.length sets:=by
    have e1:((stake:Int)*(countM p.kind (ck how) p.fields.length sets:Int))=((stake*countM p.kind (ck how) p.fields.length sets:Nat):Int):=by rw[Int.natCast_mul]
    rw[e1] at h;omega
   rw[Xw h] at q0;exact ju (ag rfl) (q0 _ rfl)
 · have h:=Ye h;have h:¬2147483647 < stake*countM p.kind (ck how) p.fields.length sets:=by
    have e1:((stake:Int)*(countM p.kind (ck how) p.fields.length sets:Int))=((stake*countM p.kind (ck how) p.fields.length sets:Nat):Int):=by rw[Int.natCast_mul]
    rw[e1] at h;omega
   rw[Xv h] at q1;exact⟨_,rfl,q1 _ rfl H8 x p Xh T7 TK⟩
end
def ia (b:Bytes):aaf:=b.map UInt8.toNat
theorem yC {b:Bytes}:10∈ia b↔(10:UInt8)∈b:=by
 unfold ia;rw[X4]
 exact⟨λ⟨x,h1,h2⟩=>by have:x=10:=jt h2
                      rwa [←this],λh=>⟨10,h,rfl⟩⟩
theorem p9 {xs:List V}{j:Nat}(h:j<=xs.length):fC xs none (some (j:Int))=xs.take j:=by
 unfold fC;rw[HT.iH,HT.ib,Zv h];simp
section
variable {P:Program}{w:World}{K:aag}{mg:aai}{base:Heap}
def CU (K:aag) (CF CB CP CR:Addr):Sp:=λvs H Q E=>∃(c b:Addr) (ps:List aK) (bs:Bytes),vs=[.ref b,.ref c]/\aP K H c (nV (ia bs))/\bs.length<=4096/\cV K CP H b ps/\(∀p∈ps,Du p) /\
 (∀t,dw ps bs=.error t->Rz CF E (t.kind:Nat) (t.place:Nat))/\(∀y,dw ps bs=.ok y->∀H' x p,au H H'->jH K CB CP CR H' x p y->ps[y.pool]?=some p->Q (.ref x) H')
theorem tI:aG ["pools","codes","line_end","line","bet"] ["pools","codes"] (aw je):=fs
theorem HL {CW CF CB CP CR aW:Addr}(G:GW mg)(B:GB K mg aW)(T:CK K mg "Words" cw CW)(FL:Flt P w K mg base CF){k:Nat}(hk:2<=k)
  (FC:Fn P w K mg base (eW P w CF) k "check_line" ["line"] (wV K CF))(FR:Fn P w K mg base (eW P w CF) k "read_words" ["pools","words"] (xy K CW CF CB CP CR))(FX:Fn P w K mg base bA k "text_of" ["codes"] (uo K))(FW:xr P w K mg base bA 1 CW ["self","line"] (oN K CW))
  {f:Addr}{fd:FuncData}(F:dk K "read_bet" "read_bet" je f fd):a8 P w K mg base (eW P w CF) (k+1) f fd ["pools","codes"] (CU K CF CB CP CR):=by
 refine F.lU tI λLG A outer s H vs Q E hr h=>?_;obtain⟨c,b,ps,bs,rfl,hS,hlen,MF,bu,q0,q1⟩:=h;refine⟨_,af (aO (aB eD (bb B.nl) (pv 1) (by with_unfolding_all rfl)) (ak (fN FL aH (hr.mono hk) (aa (bb B.ended) (aa (bg G.len (pv 1)) ah)))) aC)
  (af (a7 2 tI.nd (qu PySem.F.plainAttrs_list PySem.F.slot_list_index PySem.F.type_list_index BZ (pv 1) (aa (bb B.nl) ah)))
  (af (a7 3 tI.nd (cK fk (pv 1) ft (cY (pv 2))))
  (af (dP (aR FC hr (bQ aH rfl rfl) (aa (pv 3) ah)))
  (af (a7 4 tI.nd (aR FR hr (bQ aH rfl rfl) (aa (pv 0) (aa (o7 FW (hr.mono hk) T.mg a9 (aa (aR FX hr a9 (aa (pv 3) ah)) ah)) ah))))
  (af (aO (aB nZ (bG eK (pv 2) ax) (bg G.len (pv 1)) (aJ _)) (ak (fN FL aH (hr.mono hk) (aa (bb B.more) (aa (bG eK (pv 2) ax) ah)))) aC)
  (ak (az (pv 4)))))))),?_⟩
 have Qr:(ia bs).length=bs.length:=by unfold ia;rw[Xu]
 refine aS (aI (mB aD (ag rfl) (.inl hS) rfl (gc _))) (λh=>?_) (λh=>?_)
 · have h:(!oh (V.int 10) (nV (ia bs)))=true:=h;rw[nX,Ym,Yc] at h;have hn:¬(10:UInt8)∈bs:=λz=>h ⟨10,yC.mpr z,rfl⟩;have hu:upTo bs=none:=by
    cases hu:upTo bs with
    |none=>rfl
    |some x =>
     obtain⟨l,r⟩:=x;obtain⟨e,_⟩:=kj hu;exact absurd (by rw[e];simp) hn
   rw[yb hu] at q0;refine ju (p:=(bs.length:Nat)) ?_ (q0 _ rfl);have:=aU (K:=K) (σ:=L2.start ["pools","codes","line_end","line","bet"] [V.ref b,V.ref c]) (H:=H) (ag (n:=1) rfl) (.inl hS);rw[aN,Qr] at this;exact this
 have h:(!oh (V.int 10) (nV (ia bs)))=false:=h;rw[nX,Yp,XC] at h;have Xk:(10:UInt8)∈bs:=by
  obtain⟨n,h1,h2⟩:=h;have:n=10:=by omega
  subst this;exact yC.mp h1
 cases hu:upTo bs with
 |none=>exact absurd Xk (rm hu)
 |some x =>
 obtain⟨l,r⟩:=x;obtain⟨T8,R5⟩:=kj hu;rw[wA hu] at q0 q1;have R6:nV (ia bs)=nV (ia l)++V.int 10::nV (ia r):=by
  rw[T8];unfold nV ia;rw[XQ,XQ];rfl
 have Xl:(nV (ia l)).length=l.length:=by rw[aN];unfold ia;rw[Xu]
 have R7:bs.length=l.length+1+r.length:=by rw[T8];simp;omega
 refine⟨_,rfl,.inl ⟨rfl,_,hS⟩,c,nV (ia bs),.int 10,l.length,.int 10,rfl,rfl,hS,rfl,gc _,?_,rfl,?_,?_⟩
 · rw[R6,aac (by omega),Xl];simp
 · intro m z hm hz;rw[R6,List.getElem?_append_left (by omega)] at hz;unfold nV ia at hz;rw[Xz,Xz,Option.map_map] at hz;obtain⟨y,hy,rfl⟩:=X6.mp hz
   have hny:¬y.toNat=10:=λq=>R5 (by have:y=10:=jt q
                                    rw[←this];exact X0 hy)
   show ((y.toNat:Int)==10)=false;rw[X3];omega
 refine⟨_,rfl,_,rfl,_,rfl,c,_,rfl,hS,λp hp=>?_⟩;rw[p9 (by rw[aN,Qr,R7];omega),R6,List.take_append_of_le_length (by omega),Yr (by omega)];have S1:au H (upd H p (.lst (nV (ia l)))):=(au.refl H).laid hp;have e1:(upd H p (.lst (nV (ia l)))) p=some (.lst (nV (ia l))):=ae;generalize upd H p (.lst (nV (ia l)))=H1 at S1 e1;have Nc:badByte true 0 l=va (ia l):=E4 l;unfold F8 at q0 q1;rw[Nc] at q0 q1;refine⟨_,rfl,p,ia l,rfl,aP.of e1,λi hi=>?_,λhi H2 S2=>?_⟩
 · rw[hi] at q0;exact q0 ⟨2,i⟩ rfl
 rw[hi] at q0 q1 Nc;have q0:∀t,(match AQ l.length ps (wordsFrom 0 [] l) with
  |.error t=>(Except.error t:Except Fault bO)
  |.ok x=>if r=[] then .ok x else .error ⟨8,l.length+1⟩)=.error t->Rz CF E (t.kind:Nat) (t.place:Nat):=q0
 have q1:∀y,(match AQ l.length ps (wordsFrom 0 [] l) with
  |.error t=>(Except.error t:Except Fault bO)
  |.ok x=>if r=[] then .ok x else .error ⟨8,l.length+1⟩)=.ok y->_:=q1
 have Qg:=S1.trans S2;have Qs:(ia l).map sg=tx l:=by
  unfold ia tx;rw[XY];rfl
 have hl4:l.length<=4096:=by omega
 refine⟨_,rfl,_,rfl,p,ia l,rfl,aP.of (S2 _ _ e1),by unfold ia;rw[Xu];omega,λH3 S3=>?_⟩;rw[Qs];intro x dx hx Mn P4;have Xm:(tx l).length=l.length:=ig l;refine⟨x,dx,tx l,rfl,ae,by omega,λH4 wl S4 MW R8 NY=>⟨rfl,?_⟩⟩;have Qi:=Qg.trans S3;have R9:au H H4:=λd o z=>by
  have z3:=Qi d o z;have n1:d≠x:=ao z3 hx;have n2:d≠dx:=ao z3 Mn;exact S4 d o (by rw[aq n1,aq n2];exact z3) n1
 have Xn:H x=none:=by
  cases hz:H x with
  |none=>rfl
  |some o=>rw[Qi x o hz] at hx;cases hx
 have R_:∀c∈tx l,c < 128:=λc hc=>by
  unfold tx at hc;obtain⟨d,_,rfl⟩:=X4.mp hc;exact Ft _
 have Sa:mR (aV 32 [] (tx l)):=by
  have h3:=fc 32 (tx l) [];refine⟨by omega,λv hv=>?_⟩;obtain⟨z1,z2⟩:=d8 32 (tx l) [] v hv;refine⟨by simp at z1;omega,λc hc=>?_⟩;rcases z2 c hc with z|z
  · simp at z
  · exact R_ c z
 have N4:=(words_of l [] 0 0 (XD _) Nc).2;have Xo:aT K CW H4 x l.length (wordsFrom 0 [] l) 0:=by
  refine⟨dx,wl,aV 32 [] (tx l),0,0,?_,aP.of R8,⟨Sa,jY 32 _ []⟩,X2 _,?_,N4⟩
  · rw[NY,Xm]
  · rw[qg 0 Nc];rfl
 have Sb:cV K CP H4 b ps:=by
  obtain⟨as,h1,h2⟩:=MF;exact⟨as,R9.seq h1,pO h2 R9⟩
 refine⟨x,b,ps,l.length,wordsFrom 0 [] l,0,rfl,Xo,Sb,bu,λt ht=>?_,λy hy H5 xb pp S5 hB N5=>?_⟩
 · rw[ht] at q0;exact q0 t rfl
 rw[hy] at q0 q1;have q0:∀t,(if r=[] then (Except.ok y:Except Fault bO) else .error ⟨8,l.length+1⟩)=.error t->Rz CF E (t.kind:Nat) (t.place:Nat):=q0;have q1:∀y',(if r=[] then (Except.ok y:Except Fault bO) else .error ⟨8,l.length+1⟩)=.ok y'->_:=q1;have T9:au H H5:=λd o z=>S5 d o (R9 d o z) (ao z Xn);refine aS (jy (jA (ag rfl) aD) (aU (ag rfl) (.inl (T9.seq hS)))) (λh=>?_) (λh=>?_)
 · rw[aN,Qr,R7] at h;have h:=XR h;rw[Xv (λz=>by rw[z] at h;simp at h)] at q0;have e8:((l.length+1:Nat):Int)=(l.length:Int)+1:=by omega
   have q8:=q0 _ rfl;dsimp only at q8;rw[e8] at q8;exact ju (jA (ag rfl) aD) q8
 · rw[aN,Qr,R7] at h;have h:=Ye h;rw[Xw (Zk.mp (by omega))] at q1;exact⟨_,rfl,q1 _ rfl H5 xb pp T9 hB N5⟩
end
end Bw
namespace L2
open PySem PySem.Spec PyProof.Rows
def yE (K:aag)(H:Hp):Prop:=∀b o,K.lookup b=some o->H b=none
def BE (K:aag):V->List V->Hp->VK->Prop:=λx vs H Q=>∃l xs y,x=.ref l/\vs=[y]/\H l=some (.lst xs)/\xs.length < sizeLine/\(yE K H->Q .cj (upd H l (.lst (xs++[y]))))
theorem wM {X:Cx}:Lb X "list.append" (BE X.K):=by
 intro pins s σ H x vs v us Q I rx rv h;obtain⟨l,xs,y,e1,e2,hH,hz,q⟩:=h;exact iA pins s σ H x vs v us Q I rx rv ⟨l,xs,y,e1,e2,hH,hz,q λb o hb=>(I.bs b o (I.ok.mod.Fm _ _ hb)).2⟩
end L2
namespace Bw
open PySem PySem.Spec PyProof.Rows L2 Tote
section
variable {K:aag}{H:Hp}{c fo a x:Addr}{ys zs:List V}{o:HO}{xs:List Addr}
theorem xf (h:aP K H c ys) (hf:H fo=some (.lst zs)) (ne:ys≠zs):aP K (upd H fo o) c ys:=by
 rcases h with (h|⟨u,h⟩)|h
 · exact .inl (.inl (by rw[aq (dG h hf (by intro z;cases z;exact ne rfl))];exact h))
 · exact .inl (.inr ⟨u,by rw[aq (dG h hf (by intro z;cases z))];exact h⟩)
 · exact .inr h
theorem Gf (hK:yE K H)(h:aP K H c ys){C dx:Addr}{fs:List (Str×V)}(hi:H c=some (.ins C dx fs)):False:=by
 rcases h with (h|⟨u,h⟩)|⟨u,_,_,h,_⟩
 · rw[hi] at h;cases h
 · rw[hi] at h;cases h
 · rw[hK _ _ h] at hi;cases hi
def J8 (H:Hp)(xs:List Addr):Prop:=∀x∈xs,∃C dx fs,H x=some (.ins C dx fs)
theorem yS {s:aaf}(h:s≠[]):nV s≠xs.map V.ref:=λe=>by
 cases s with
 |nil=>exact h rfl
 |cons n s =>
  cases xs with
  |nil=>cases e
  |cons x xs=>cases e
theorem sW {bs:List Addr}(ne:bs≠[])(hK:yE K H)(hG:∀b∈bs,∃ys,aP K H b ys)(hi:J8 H xs):bs.map V.ref≠xs.map V.ref:=λe=>by
 cases bs with
 |nil=>exact ne rfl
 |cons b bs =>
  cases xs with
  |nil=>cases e
  |cons x xs =>
   injection e with e1 e2;injection e1 with e1;subst e1;obtain⟨ys,h⟩:=hG b (by simp);obtain⟨C,dx,fs,hx⟩:=hi b (by simp);exact Gf hK h hx
theorem gE {α β:Type}{F:α->β->Prop}{G:α->Prop}(k:∀a b,F a b->G a):∀{l:List α} {m:List β},Paired F l m->∀a∈l,G a
 |_,_,.nil,_,h=>by cases h
 |_,_,.cons h t,a,hm=>by
  rcases Xy.mp hm with rfl|hm
  · exact k _ _ h
  · exact gE k t a hm
theorem j9 {α β:Type}{F G:α->β->Prop}:∀{l:List α} {m:List β},Paired F l m->(∀a b,b∈m->F a b->G a b)->Paired G l m
 |_,_,.nil,_=>.nil
 |_,_,.cons h t,k=>.cons (k _ _ (by simp) h) (j9 t λa b hb z=>k a b (by simp[hb]) z)
theorem mU {α β:Type}{F:α->β->Prop}{l:List α}{m:List β}(h:Paired F l m)(n:m≠[]):l≠[]:=λe=>by
 subst e;cases h;exact n rfl
variable (hK:yE K H)(hf:H fo=some (.lst (xs.map V.ref)))(hi:J8 H xs)
include hK hf hi
theorem rj {g:aae}(h:bE K H a g)(ne:g≠[])(hs:∀s∈g,s≠[]):bE K (upd H fo o) a g:=by
 obtain⟨as,h1,h2⟩:=h;exact⟨as,xf h1 hf (sW (mU h2 ne) hK (gE (λ_ _ z=>⟨_,z⟩) h2) hi),j9 h2 λ_ s m z=>xf z hf (yS (hs s m))⟩
theorem zM {gs:List (aae)}(h:dA K H a gs)(ne:gs≠[])(hs:∀g∈gs,g≠[]/\∀s∈g,s≠[]):dA K (upd H fo o) a gs:=by
 obtain⟨as,h1,h2⟩:=h;exact⟨as,xf h1 hf (sW (mU h2 ne) hK (gE (λ_ _ ⟨_,z,_⟩=>⟨_,z⟩) h2) hi),j9 h2 λ_ g m z=>rj hK hf hi z (hs g m).1 (hs g m).2⟩
theorem yX {CB CP CR:Addr}{p:aK}{y:bO}(h:jH K CB CP CR H x p y):jH K CB CP CR (upd H fo o) x p y:=by
 obtain⟨dx,pa,sa,ra,h1,⟨dp,fa,h2,h3⟩,⟨as,h4,h5⟩,⟨dr,ga,qa,LD,h6,h7,h8,h9,Qy⟩,QA,m⟩:=h;have ins:∀{b C d:Addr} {fs:List (Str×V)},H b=some (.ins C d fs)->(upd H fo o) b=some (.ins C d fs):=λz=>by rw[aq (dG z hf (by intro z;cases z))];exact z
 have Xp:y.sets≠[]:=λz=>by
  obtain⟨_,m0,m1,m2⟩:=m.all;have pos:0 < p.fields.length:=Yz.mpr m.ok.ne;by_cases z0:y.how=0
  · have:=(m0 z0).1;rw[z] at this;have:0=p.fields.length:=this;omega
  · by_cases z1:y.how=1
    · obtain⟨t,e,_⟩:=m1 z1;rw[e] at z;cases z
    · obtain⟨t,u,e,_⟩:=m2 z0 z1;rw[e] at z;cases z
 refine⟨dx,pa,sa,ra,ins h1,⟨dp,fa,ins h2,rj hK hf hi h3 m.ok.ne m.Kr⟩,⟨as,?_,j9 h5 λb s hm z=>?_⟩,⟨dr,ga,qa,LD,ins h6,zM hK hf hi h7 h8.ne m.LC,h8,?_,Qy⟩,QA,m⟩
 · rw[aq (dG h4 hf (by
    intro z;injection z with z;exact sW (mU h5 Xp) hK (gE (λ_ _ z=>⟨_,aP.of z⟩) h5) hi z))]
   exact h4
 · rw[aq (dG z hf (by intro q;injection q with q;exact yS (m.all.1 s hm).1 q))];exact z
 · rw[aq (dG h9 hf (by intro z;cases z))];exact h9
end
structure GD (mg:aai):Prop where
 long:Gv mg "TOO_LONG" (.int (-2))
 HY:Gv mg "FAULTY_BET" (.int (-6))
 Hx:Gv mg "NO_CARD" (.int (-8))
 JK:Gv mg "MOST_CARD" (.int 65536)
 IS:Gv mg "MOST_BET" (.int 4096)
theorem ED {zs:List Int}:fC (zs.map V.int) none (some ((1:Nat):Int))=(zs.take 1).map V.int:=by
 unfold fC;rw[HT.iH,HT.ib];cases zs <;> simp
def readAll (ps:List aK):List Bytes->Except Fault (List bO)
 |[]=>.ok []
 |b::bs=>match dw ps b with
  |.error f=>.error f
  |.ok y=>match readAll ps bs with
   |.error f=>.error f
   |.ok ys=>.ok (y::ys)
theorem jU {ps:List aK}:∀{l m:List Bytes} {ys:List bO},readAll ps l=.ok ys->readAll ps (l++m)=match readAll ps m with
  |.error f=>.error f
  |.ok zs=>.ok (ys++zs)
 |[],m,ys,h=>by
  injection h with h;subst h;cases h2:readAll ps m with
  |error f=>exact h2
  |ok zs=>exact h2
 |b::l,m,ys,h=>by
  show (match dw ps b with
   |.error f=>(Except.error f:Except Fault (List bO))
   |.ok y=>match readAll ps (l++m) with
    |.error f=>.error f
    |.ok ys=>.ok (y::ys))=_
  have h:(match dw ps b with
   |.error f=>(Except.error f:Except Fault (List bO))
   |.ok y=>match readAll ps l with
    |.error f=>.error f
    |.ok ys=>.ok (y::ys))=.ok ys:=h
  cases hb:dw ps b with
  |error f=>rw[hb] at h;cases h
  |ok y =>
   rw[hb] at h;cases hl:readAll ps l with
   |error f=>rw[hl] at h;cases h
   |ok xs =>
    rw[hl] at h;injection h with h;subst h;show (match readAll ps (l++m) with
     |.error f=>(Except.error f:Except Fault (List bO))
     |.ok ys=>.ok (y::ys))=_
    rw[jU hl];cases readAll ps m <;> rfl
theorem nU {ps:List aK}{b:Bytes}:readAll ps [b]=match dw ps b with
  |.error f=>.error f
  |.ok y=>.ok [y]:=by
 show (match dw ps b with
   |.error f=>(Except.error f:Except Fault (List bO))
   |.ok y=>.ok [y])=_
 cases dw ps b <;> rfl
def ki (t:Bytes)(bs:List Bytes):Except (List Int) (List bO):=if 65536 < t.length∨(bs.any λb=>decide (4096 < b.length))=true then .error [-2] else match dH (tx t) with
 |none=>.error [-8]
 |some ps=>match readAll ps bs with
  |.error f=>.error [-6,(f.kind:Nat),(f.place:Nat)]
  |.ok ys=>.ok ys
theorem vf {t b:Bytes}:ki t [b]=match fM t b with
  |.error z=>.error z
  |.ok y=>.ok [y]:=by
 unfold ki fM;have e:([b].any λb=>decide (4096 < b.length))=true↔4096 < b.length:=by simp
 rw[j5 (p:=65536 < t.length∨([b].any λb=>decide (4096 < b.length))=true) (q:=65536 < t.length∨4096 < b.length) ⟨λh=>h.imp id e.mp,λh=>h.imp id e.mpr⟩];by_cases h:65536 < t.length∨4096 < b.length
 · rw[Xw h,Xw h]
 · rw[Xv h,Xv h];cases dH (tx t) with
   |none=>rfl
   |some ps =>
    show (match readAll ps [b] with
     |.error f=>(Except.error [-6,((f.kind:Nat):Int),((f.place:Nat):Int)]:Except (List Int) (List bO))
     |.ok ys=>.ok ys)=_
    rw[nU];show _=(match (match dw ps b with
     |.error f=>(Except.error [-6,((f.kind:Nat):Int),((f.place:Nat):Int)]:Except (List Int) bO)
     |.ok y=>.ok y) with
     |.error z=>(Except.error z:Except (List Int) (List bO))
     |.ok y=>.ok [y])
    cases dw ps b <;> rfl
section
variable {P:Program}{w:World}{K:aag}{mg:aai}{base:Heap}
theorem yP {CX:my} {N:List Str} {qual:Str} {scope:Scope} {f:Addr} {cd:Value} {A:Around} {outer:List Env} {s:Shared} {H:Hp} {E:XK}:mw (mS CX P w K mg base N qual scope f cd A outer s H E).G4:=⟨rfl,rfl,rfl,rfl⟩
def uj (K:aag)(CB CP CR:Addr)(ps:List aK)(H:Hp)(x:Addr)(y:bO):Prop:=∃p,jH K CB CP CR H x p y/\ps[y.pool]?=some p
def tO (K:aag)(CB CP CR:Addr):Sp:=λvs H Q _=>∃(c d:Addr) (ds:List Addr) (t:Bytes) (bs:List Bytes),vs=[.ref c,.ref d]/\aP K H c (nV (ia t))/\aP K H d (ds.map V.ref)/\Paired (λa b=>aP K H a (nV (ia b))) ds bs/\bs.length<=2 /\
 (∀zs,ki t bs=.error zs->∀H' T L F,H' T=some (.tup [.ref L,.ref F])->H' L=some (.lst (zs.map V.int))->H' F=some (.lst [])->Q (.ref T) H') /\
 (∀ys,ki t bs=.ok ys->∀H' T L F xs ps,H' T=some (.tup [.ref L,.ref F])->H' L=some (.lst [])->H' F=some (.lst (xs.map V.ref))->Paired (uj K CB CP CR ps H') xs ys->dH (tx t)=some ps->Q (.ref T) H')
theorem gD:aG ["card","bets","bet","pools","found","fault"] ["card","bets"] (aw fq):=fs
theorem A4 {CF CB CP CR aW N fI:Addr}(Sd:∀t ps,dH (tx t)=some ps->∀p∈ps,Du p)(G:GW mg)(B:GB K mg aW)(D:GD mg)(Z:pC K CF N fI)(hF:mg "Fault"=some (.ref CF)){k:Nat}
  (FC:Fn P w K mg base bA k "read_card" ["codes"] (xq K CP))(FB:Fn P w K mg base (eW P w CF) k "read_bet" ["pools","codes"] (CU K CF CB CP CR))
  {f:Addr}{fd:FuncData}(F:dk K "look_at_all" "look_at_all" fq f fd):a8 P w K mg base bA (k+1) f fd ["card","bets"] (tO K CB CP CR):=by
 refine F.KJ gD (λvs H Q E h=>?_) (λLG A outer s H vs Q E hr h=>?_)
 · obtain⟨_,_,_,_,_,rfl,_⟩:=h;rfl
 · obtain⟨c,d,ds,t,bs,rfl,hC,hD,hP,h2,q0,q1⟩:=h
   refine⟨_,ir (PS.zero (aO (PW.pt (eG (aB kX (bg G.len (pv 0)) (bb D.JK) (aJ _)) (cS (hX (bY (C3 rfl) (by rfl) B.any (by decide +kernel) (aa (fz (te:=kJ (qK λi j=>.bl (decide (j < i))) (Hn (λxs H Q=>∃p ys,xs=[.ref p]/\(aP K H p ys∨b7 K H p ys)/\Q (.int ys.length) H) (cM (cJ 2) eV)) (tC (.int 4096))) rfl gD.nd (bJ (pv 1)) (bz (own:=[("bet",2)]) rfl)
         (λ_ _ _ _ _=>bp 2 gD.nd) (λ_ _ _ _ _=>cu) (λ_ _ _ _ _=>fu kX (bg G.len (pv 2)) (bb D.IS) (aJ _))) ah))))))
     (ak (az (c_ (aa (bV (aa (bb D.long) ah)) (aa (bV ah) ah))))) aC))
    (ir (PS.zero (a7 3 gD.nd (aR FC hr a9 (aa (pv 0) ah))))
    (ir (PS.zero (aO (aB tu (pv 3) cA (aJ _)) (ak (az (c_ (aa (bV (aa (bb D.Hx) ah)) (aa (bV ah) ah))))) aC))
    (ir (PS.zero (a7 4 gD.nd (bV ah)))
    (ir (Dy YA rfl (bJ (pv 1)) (bp 2 gD.nd)
      (Ha (i:=5) (R:=λk p=>∃ps y,dH (tx t)=some ps/\readAll ps bs=.error y/\k=(y.kind:Nat)/\p=(y.place:Nat)) yP Z (by rfl) hF gD.nd rfl rfl
       (ak (dP (qu PySem.F.plainAttrs_list PySem.F.slot_list_append PySem.F.type_list_append wM (pv 4) (aa (aR FB hr (bQ yP rfl rfl) (aa (pv 3) (aa (pv 2) ah))) ah))))
       (λ_=>ak (az (c_ (aa (bV (aa (bb D.HY) (aa (yf Z Z.fK (pv 5) rfl) (aa (yf Z Z.fP (pv 5) rfl) ah)))) (aa (bV ah) ah)))))))
    (qP.zero (ak (az (c_ (aa (bV ah) (aa (pv 4) ah)))))))))),?_⟩
   have MN:ds.length=bs.length:=Paired.length hP;have tl:(ia t).length=t.length:=by unfold ia;rw[Xu]
   have bl:∀b:Bytes,(ia b).length=b.length:=λb=>by unfold ia;rw[Xu]
   have Qs:(ia t).map sg=tx t:=by
    unfold ia tx;rw[XY];rfl
   have no:∀(zs:List Int) (H1:Hp) (L:Addr),ki t bs=.error zs->H1 L=none->∀F,(upd H1 L (.lst (zs.map V.int))) F=none->∀T,(upd (upd H1 L (.lst (zs.map V.int))) F (.lst [])) T=none->Q (.ref T) (upd (upd (upd H1 L (.lst (zs.map V.int))) F (.lst [])) T (.tup [.ref L,.ref F])):=λzs H1 L e hL F hF T hT=>by
    have nF:L≠F:=λz=>by rw[←z,ae] at hF;cases hF
    have nT:L≠T:=λz=>by rw[←z,aq nF,ae] at hT;cases hT
    have Xq:F≠T:=λz=>by rw[←z,ae] at hT;cases hT
    exact q0 zs e _ T L F ae (by rw[aq nT,aq nF];exact ae) (by rw[aq Xq];exact ae)
   unfold ki at no q1;refine (jy (aU (ag rfl) (.inl hC)) aD) _ ?_;rw[aN,tl];refine gH (λh=>?_) (λh=>?_)
   · have h:65536 < t.length:=by have:=XR h;omega
     rw[Xw (.inl h)] at no;exact qj ⟨by show 1<=sizeLine;decide,λL hL=>⟨X2 _,λF hF=>⟨by show 2<=sizeLine;decide,λT hT=>no [-2] _ L rfl hL F hF T hT⟩⟩⟩
   have h1:¬65536 < t.length:=λz=>h (X_ (by omega));refine⟨_,rfl,d,rfl,⟨_,hD⟩,λD0 M8=>ou (K:=K) (a:=d) (xs:=ds.map V.ref) (λi y _=>∃b,bs[i]?=some b/\y=.bl (decide (4096 < b.length))) (λi y H H' _ z=>z) hD M8 (by rw[Xu,MN];omega) ?_ ?_⟩
   · rintro i v H' hi S _ R hR;obtain⟨ai,L6,rfl⟩:=jV hi;obtain⟨b,hb,hI⟩:=Paired.qL hP L6;refine⟨rfl,_,rfl,ai,_,rfl,.inl (S.seq hI),_,_,rfl,rfl,hR _ _ (au.refl _) ⟨b,hb,?_⟩⟩;rw[aN,bl];show V.bl (decide _)=V.bl (decide _);congr 1;rw[Zg];omega
   rintro ys H1 S1 e1 l1 f1;have ey:ys=(bs.map λb=>decide (4096 < b.length)).map V.bl:=by
    refine xJ (by rw[l1];simp[MN]) λi y hy=>?_;obtain⟨b,hb,rfl⟩:=f1 i y hy;rw[Xz,Xz,hb];rfl
   subst ey;refine⟨D0,_,rfl,aP.of e1,_,rfl,?_⟩;have ea:(bs.map λb=>decide (4096 < b.length)).any id=bs.any λb=>decide (4096 < b.length):=by rw[ZS];rfl
   rw[ea];refine gH (λh=>?_) (λh=>?_)
   · rw[Xw (.inr h)] at no;exact⟨by show 1<=sizeLine;decide,λL hL=>⟨X2 _,λF hF=>⟨by show 2<=sizeLine;decide,λT hT=>no [-2] _ L rfl hL F hF T hT⟩⟩⟩
   rw[Xv λz=>z.elim h1 h] at no q1;have small:∀b∈bs,b.length<=4096:=λb hb=>by
    have:¬4096 < b.length:=λz=>h (Y8.mpr ⟨b,hb,X_ z⟩);omega
   refine⟨_,rfl,c,ia t,rfl,S1.seq hC,by omega,λhn H2 S2=>?_,λps Nd H2 x S2 MF=>?_⟩
   · rw[Qs] at hn;rw[hn] at no;refine aS (aI (uq (ag rfl))) (λh=>?_) (λh=>absurd h (by decide));exact⟨by show 1<=sizeLine;decide,λL hL=>⟨X2 _,λF hF=>⟨by show 2<=sizeLine;decide,λT hT=>no [-8] _ L rfl hL F hF T hT⟩⟩⟩
   rw[Qs] at Nd;rw[Nd] at no q1;have no:∀(zs:List Int) (H1:Hp) (L:Addr),(match readAll ps bs with
    |.error f=>(Except.error [-6,((f.kind:Nat):Int),((f.place:Nat):Int)]:Except (List Int) (List bO))
    |.ok ys=>.ok ys)=.error zs->_:=no
   have q1:∀ys,(match readAll ps bs with
    |.error f=>(Except.error [-6,((f.kind:Nat):Int),((f.place:Nat):Int)]:Except (List Int) (List bO))
    |.ok ys=>.ok ys)=.ok ys->_:=q1
   refine aS (aI (uq (ag rfl))) (λh=>absurd (XR h) (by intro z;cases z)) (λh=>?_);refine⟨X2 _,λfo PX=>?_⟩;have SH:au H H2:=S1.trans S2;have Sf:au H2 (upd H2 fo (.lst [])):=(au.refl H2).laid PX;refine⟨_,rfl,d,rfl,⟨_,(SH.trans Sf).seq hD⟩,dq (K:=K) (a:=d) (xs:=ds.map V.ref) (λi σ H'=>∃(v2:Option V) (xs:List Addr) (ys:List bO),σ=[some (.ref c),some (.ref d),v2,some (.ref x),some (.ref fo),none]/\au H2 H'/\H' fo=some (.lst (xs.map V.ref))/\readAll ps (bs.take i)=.ok ys/\Paired (uj K CB CP CR ps H') xs ys)
    ⟨none,[],[],rfl,Sf,ae,rfl,.nil⟩ (λi σ H' _ ⟨_,_,_,_,S,_⟩=>(SH.trans S).seq hD) ?_ ?_⟩
   · rintro i v σ H3 hi ⟨v2,xs,ys,rfl,S3,e3,r3,Qt⟩;obtain⟨ai,L6,rfl⟩:=jV hi;obtain⟨b,hb,hI⟩:=Paired.qL hP L6;have LN:i < bs.length:=(XI.mp hb).1;have hs:=small b (X0 hb);have ed:bs=bs.take i++b::bs.drop (i+1):=by
      rw[←(XI.mp hb).2,List.getElem_cons_drop,List.take_append_drop]
     refine⟨?_,?_⟩
     · refine⟨_,rfl,.inl ⟨rfl,_,aP.of e3⟩,_,rfl,_,rfl,ai,x,ps,b,rfl,(SH.trans S3).seq hI,hs,MF.same S3,Sd t ps Nd,λy hy=>JF ⟨ps,y,Nd,?_,rfl,rfl⟩,λy hy H4 xb p S4 Xr N5=>?_⟩
       · rw[ed,jU r3];show (match (match dw ps b with
          |.error f=>(Except.error f:Except Fault (List bO))
          |.ok y=>match readAll ps (bs.drop (i+1)) with
           |.error f=>.error f
           |.ok ys=>.ok (y::ys)) with
          |.error f=>(Except.error f:Except Fault (List bO))
          |.ok zs=>.ok (ys++zs))=_
         rw[hy]
       · have lx:xs.length<=2:=by
          have z1:=Paired.length Qt;have z2:∀{l:List Bytes} {zs:List bO},readAll ps l=.ok zs->zs.length=l.length:=λ{l}=>by
           induction l with
           |nil=>intro zs h;injection h with h;subst h;rfl
           |cons b l ih =>
            intro zs h;have h:(match dw ps b with
             |.error f=>(Except.error f:Except Fault (List bO))
             |.ok y=>match readAll ps l with
              |.error f=>.error f
              |.ok ys=>.ok (y::ys))=.ok zs:=h
            cases hb:dw ps b with
            |error f=>rw[hb] at h;cases h
            |ok y =>
             rw[hb] at h;cases hl:readAll ps l with
             |error f=>rw[hl] at h;cases h
             |ok xs =>
              rw[hl] at h;injection h with h;subst h;rw[XG,XG,ih hl]
          have z3:=z2 r3;rw[XU] at z3;omega
         refine⟨fo,_,_,rfl,rfl,S4 _ _ e3,by rw[Xu,XZ];omega,λhK=>⟨some (.ref ai),xs++[xb],ys++[y],rfl,?_,by rw[ae,XQ];rfl,?_,?_⟩⟩
         · intro b' u z;rw[aq (ao z PX)];exact S4 b' u (S3 b' u z)
         · rw[take_snoc hb,jU r3,nU,hy]
         · have old:Paired (uj K CB CP CR ps H4) xs ys:=Paired.d9 Qt λ_ _ ⟨p,z1,z2⟩=>⟨p,z1.same S4,z2⟩;have hi:J8 H4 xs:=gE (λ_ _ ⟨p,⟨dx,_,_,_,z,_⟩,_⟩=>⟨_,dx,_,z⟩) old;exact gC (Paired.d9 old λ_ _ ⟨p,z1,z2⟩=>⟨p,yX hK (S4 _ _ e3) hi z1,z2⟩) (.cons ⟨p,yX hK (S4 _ _ e3) hi Xr,N5⟩ .nil)
     · rintro σ' H' a dx k' p' ⟨ps',y,h1,h2,rfl,rfl⟩ hσ ha Mn;rw[Nd] at h1;injection h1 with h1;subst h1;rw[h2] at no;refine⟨_,hσ,a,dx,_,_,rfl,ha,Mn,bS,_,hσ,a,dx,_,_,rfl,ha,Mn,(a_ (by decide +kernel)).trans bS,by show 3<=sizeLine;decide,λL hL=>⟨X2 _,λF hF=>⟨by show 2<=sizeLine;decide,λT hT=>?_⟩⟩⟩;exact no [-6,((y.kind:Nat):Int),((y.place:Nat):Int)] _ L rfl hL F hF T hT
   · rintro σ H3 ⟨v2,xs,ys,rfl,S3,e3,r3,Qt⟩;rw[Xu,MN,Ys] at r3;rw[r3] at q1;refine⟨X2 _,λL hL=>⟨_,rfl,by show 2<=sizeLine;decide,λT hT=>?_⟩⟩;have S4:au H3 (upd H3 L (.lst [])):=(au.refl H3).laid hL;have S5:au (upd H3 L (.lst [])) (upd (upd H3 L (.lst [])) T (.tup [.ref L,.ref fo])):=(au.refl _).laid hT;exact q1 ys rfl _ T L fo xs ps ae (S5 _ _ ae) (S5 _ _ (S4 _ _ e3)) (Paired.d9 Qt λ_ _ ⟨p,z1,z2⟩=>⟨p,z1.same (S4.trans S5),z2⟩) rfl
def wI (K:aag)(CB CP CR:Addr):Sp:=λvs H Q _=>∃(c d:Addr) (t b:Bytes),vs=[.ref c,.ref d]/\aP K H c (nV (ia t))/\aP K H d (nV (ia b)) /\
 (∀zs,fM t b=.error zs->∀H' T L,H' T=some (.tup [.ref L,.cj])->H' L=some (.lst (zs.map V.int))->Q (.ref T) H') /\
 (∀y,fM t b=.ok y->∀H' T L x p,H' T=some (.tup [.ref L,.ref x])->jH K CB CP CR H' x p y->(∃ps,dH (tx t)=some ps/\ps[y.pool]?=some p)->Q (.ref T) H')
theorem tP:aG ["card","bet","refusal","found"] ["card","bet"] (aw kq):=fs
theorem Dd {CB CP CR:Addr}(G:GW mg){k:Nat}(FA:Fn P w K mg base bA k "look_at_all" ["card","bets"] (tO K CB CP CR)){f:Addr}{fd:FuncData}(F:dk K "look_at" "look_at" kq f fd):a8 P w K mg base bA (k+1) f fd ["card","bet"] (wI K CB CP CR):=by
 refine F.om tP λLG A outer s H vs Q E hr h=>?_;obtain⟨c,d,t,b,rfl,hC,hB,q0,q1⟩:=h;refine⟨_,af (Bq (aR FA hr a9 (aa (pv 0) (aa (bV (aa (pv 1) ah)) ah))) (lH rfl (b_ (bp 2 tP.nd) (b_ (bp 3 tP.nd) iK))))
  (af (aO (aB cp (bg G.len (pv 3)) ax (aJ _)) (ak (az (c_ (aa (pv 2) (aa cA ah))))) aC)
  (ak (az (c_ (aa (pv 2) (aa (bo aM (pv 3) ax (λ_ _=>rfl)) ah)))))),?_⟩
 refine⟨_,rfl,_,rfl,by show 1<=sizeLine;decide,λl hl=>?_⟩;have Sl:au H (upd H l (.lst [V.ref d])):=(au.refl H).laid hl;have e1:=vf (t:=t) (b:=b);refine⟨c,l,[d],t,[b],rfl,Sl.seq hC,aP.of ae,.cons (Sl.seq hB) .nil,by show 1<=2;decide,λzs hz H' T L F hT hL hF=>?_,λys hy H' T L F xs ps hT hL hF hP Nd=>?_⟩
 · refine⟨T,_,rfl,b7.of hT,rfl,_,_,rfl,_,_,rfl,rfl,?_⟩;refine aS (aI (cb (aU (ag rfl) (.inl (aP.of hF))) aD)) (λh=>?_) (λh=>absurd h (by decide));rw[e1] at hz;cases hm:fM t b with
   |ok y=>rw[hm] at hz;cases hz
   |error z =>
    rw[hm] at hz;injection hz with hz;subst hz;refine⟨_,rfl,by show 2<=sizeLine;decide,λT2 MD=>q0 z hm _ T2 L ae ?_⟩;rw[aq (ao hL MD)];exact hL
 · rw[e1] at hy;cases hm:fM t b with
   |error z=>rw[hm] at hy;cases hy
   |ok y =>
    rw[hm] at hy;injection hy with hy;subst hy;cases hP with
    |cons hx hn =>
     cases hn;rename_i x;obtain⟨p,Qu,N5⟩:=hx;refine⟨T,_,rfl,b7.of hT,rfl,_,_,rfl,_,_,rfl,rfl,?_⟩;refine aS (aI (cb (aU (ag rfl) (.inl (aP.of hF))) aD)) (λh=>absurd h (by show ¬decide (V.int 1=V.int 0)=true;decide)) (λh=>?_);refine⟨_,rfl,(aX (ag rfl) aD (aP.of hF) (v:=.ref x) rfl) _ ⟨by show 2<=sizeLine;decide,λT2 MD=>q1 y hm _ T2 L x p ae (Qu.same ((au.refl H').laid MD)) ⟨ps,Nd,N5⟩⟩⟩
end
section
variable {P:Program}{w:World}{K:aag}{mg:aai}{base:Heap}
theorem nN.mono {CX:my} {C:Addr} {m:Str} {ps:List Str} {j k:Nat} {sp:Sp} (F:nN P w K mg base CX j C m ps sp) (h:j<=k):nN P w K mg base CX k C m ps sp:=by
 obtain⟨f,fd,hm,hb,F⟩:=F;exact⟨f,fd,hm,hb,F.mono h⟩
structure TopW (K:aag)(mg:aai):Prop where
 G:GW mg
 sign:h_ K mg "sign_of" ka
 text:h_ K mg "text_of" j3
 name:h_ K mg "is_name" kh
 num:h_ K mg "number_of" gN
section
variable (T:TopW K mg)
include T
theorem TopW.Et:Fn P w K mg base bA 1 "number_of" ["word"] kO:=T.num.mk λ_ _ F=>Gg T.G F
theorem TopW.Fo:Fn P w K mg base bA 1 "is_name" ["word"] lL:=T.name.mk λ_ _ F=>zW T.G F
theorem TopW.F9:Fn P w K mg base bA 2 "text_of" ["codes"] (uo K):=T.text.mk λ_ _ F=>D4 (T.sign.mk λ_ _ F=>EL T.G F) F
end
theorem Di.mk {CX:my}{C:Addr}{qual:Str}{st:Stmt}{ps:List Str}{k:Nat}{sp:Sp}(D:Di K C qual st)
  (ok:∀f fd,dk K "__init__" qual st f fd->a8 P w K mg base CX k f fd ps sp)(hb:∀(kV doc pm:Value) (an:Option Addr) (LG ct:Value) (us:aak),us.length=ps.length->bindArgs (PySem.W.fnOf "__init__" qual (cW st) (bZ st) (aw st) .none kV doc pm an LG ct) ⟨us,[]⟩=pure (ps.zip us):=by intro _ _ _ _ _ _;first|exact J2 (λ_=>rfl)|exact Iy (λ_ _=>rfl)|exact Ir (λ_ _ _=>rfl)|exact J5 (λ_ _ _ _=>rfl)|exact J0 (λ_ _ _ _ _=>rfl)|exact Kz (λ_ _ _ _ _ _ _=>rfl)):xr P w K mg base CX k C ps sp:=by
 obtain⟨f,fd,hm,F⟩:=D;exact⟨f,fd,hm,F.binds hb,ok f fd F⟩
theorem xr.mono {CX:my}{C:Addr}{ps:List Str}{j k:Nat}{sp:Sp}(F:xr P w K mg base CX j C ps sp)(h:j<=k):xr P w K mg base CX k C ps sp:=by
 obtain⟨f,fd,hm,hb,F⟩:=F;exact⟨f,fd,hm,hb,F.mono h⟩
theorem Dm.mk {CX:my}{C:Addr}{m qual:Str}{st:Stmt}{ps:List Str}{k:Nat}{sp:Sp}(D:Dm K C m qual st)
  (ok:∀f fd,dk K m qual st f fd->a8 P w K mg base CX k f fd ps sp)(hb:∀(kV doc pm:Value) (an:Option Addr) (LG ct:Value) (us:aak),us.length=ps.length->bindArgs (PySem.W.fnOf m qual (cW st) (bZ st) (aw st) .none kV doc pm an LG ct) ⟨us,[]⟩=pure (ps.zip us):=by intro _ _ _ _ _ _;first|exact J2 (λ_=>rfl)|exact Iy (λ_ _=>rfl)|exact Ir (λ_ _ _=>rfl)|exact J5 (λ_ _ _ _=>rfl)|exact J0 (λ_ _ _ _ _=>rfl)|exact Kz (λ_ _ _ _ _ _ _=>rfl)):nN P w K mg base CX k C m ps sp:=by
 obtain⟨f,fd,hm,F⟩:=D;exact⟨f,fd,hm,F.binds hb,ok f fd F⟩
structure TopC (P:Program)(w:World)(K:aag)(mg:aai)(dS aF CP:Addr):Prop where
 W:TopW K mg
 GC:GC P w K mg dS aF
 TP:CK K mg "Pool" hU CP
 Cm:Di K CP "Pool.__init__" gL
 day:h_ K mg "is_day" mx
 Gi:h_ K mg "has_pool_form" dU
 A5:h_ K mg "are_terms_good" dz
 fields:h_ K mg "fields_of" gS
 pool:h_ K mg "read_pool" gR
 race:h_ K mg "read_race" fE
 pools:h_ K mg "read_pools" fX
 Hx:h_ K mg "read_card" gX
theorem TopC.Ja {dS aF CP:Addr}(T:TopC P w K mg dS aF CP):Fn P w K mg base bA 6 "read_card" ["codes"] (xq K CP):=by
 have num:Fn P w K mg base bA 2 "number_of" ["word"] kO:=T.W.Et.mono (by decide);have day:Fn P w K mg base bA 2 "is_day" ["words"] (B_ K):=T.day.mk λ_ _ F=>Gn T.W.G T.W.Fo F;have Gi:Fn P w K mg base bA 2 "has_pool_form" ["words"] (wK K):=T.Gi.mk λ_ _ F=>DG T.W.G T.GC T.W.Fo F;have A5:Fn P w K mg base bA 2 "are_terms_good" ["words"] (s_ K):=T.A5.mk λ_ _ F=>B8 T.W.Et F;have fields:Fn P w K mg base bA 1 "fields_of" ["kind","size","race","races"] (qh K):=T.fields.mk λ_ _ F=>Ao T.W.G T.GC F;have Cm:xr P w K mg base bA 1 CP ["self","name","kind","fields","unit"] (sZ CP):=T.Cm.mk λ_ _ F=>A9 T.TP F;have pool:Fn P w K mg base bA 4 "read_pool" ["words","races"] (w8 K CP):=T.pool.mk λ_ _ F=>EB T.W.G T.GC T.TP Gi A5 num (fields.mono (by decide)) (Cm.mono (by decide)) F;have race:Fn P w K mg base bA 2 "read_race" ["words"] (xa K):=T.race.mk λ_ _ F=>Fd T.W.G T.GC T.W.Et F;have pools:Fn P w K mg base bA 5 "read_pools" ["lines","races"] (tj K CP):=T.pools.mk λ_ _ F=>AX T.W.G T.GC T.TP pool F;exact T.Hx.mk λ_ _ F=>ES T.W.G T.GC (T.W.F9.mono (by decide)) (day.mono (by decide)) (race.mono (by decide)) pools F
structure xB (K:aag)(mg:aai)(aW CR:Addr):Prop where
 G:GW mg
 B:GB K mg aW
 N:GN mg
 TR:CK K mg "Rows" jM CR
 prod:h_ K mg "product_of" fW
 Ki:h_ K mg "without" kl
 legs:h_ K mg "count_legs" f_
 GH:h_ K mg "count_orders" eJ
 Ef:h_ K mg "is_of" oM
 Lg:h_ K mg "count_different" cU
 Lq:h_ K mg "picks_of" i6
 cst:h_ K mg "count_starts" eh
 IZ:Di K CR "Rows.__init__" gY
 start:Dm K CR "starting" "Rows.starting" dR
 Lx:h_ K mg "rows_on" kg
 KC:h_ K mg "rows_box" i8
 Ko:h_ K mg "rows_key" iM
 GA:h_ K mg "seatings" gF
 Kc:h_ K mg "rows_of" j_
section
variable {aW CR:Addr}(T:xB K mg aW CR)
include T
theorem xB.Jh:Fn P w K mg base bA 1 "without" ["numbers","taken"] (ua K):=T.Ki.mk λ_ _ F=>D_ F
theorem xB.GZ:nN P w K mg base bA 3 CR "starting" ["self","start"] (t_ K CR):=by
 have Ef:Fn P w K mg base bA 1 "is_of" ["sets","start"] (sY K):=T.Ef.mk λ_ _ F=>D3 T.G T.N F;have legs:Fn P w K mg base bA 2 "count_legs" ["sets","start"] (i5 K kW):=T.legs.mk λ_ _ F=>Eb T.G Ef (T.prod.mk λ_ _ F=>DT F) F;have GH:Fn P w K mg base bA 2 "count_orders" ["sets","start"] (i5 K uw):=T.GH.mk λ_ _ F=>DZ T.G T.N Ef (T.Lg.mk λ_ _ F=>GR T.G T.B T.N F) T.Jh F;exact T.start.mk λ_ _ F=>CN T.N T.TR GH legs F
theorem xB.xu:xr P w K mg base bA 2 CR ["self","kind","grids"] (j6 K CR):=T.IZ.mk λ_ _ F=>Bc T.TR (T.cst.mk λ_ _ F=>HP T.G T.N F) (T.Lq.mk λ_ _ F=>Hq T.N F) F
theorem xB.KG:Fn P w K mg base bA 4 "rows_on" ["kind","sets"] (pD K CR):=T.Lx.mk λ_ _ F=>Gx T.TR T.xu F
theorem xB.KQ {CP:Addr}(TP:CK K mg "Pool" hU CP):Fn P w K mg base bA 5 "rows_of" ["pool","how","sets"] (yZ K CP CR):=by
 have GA:Fn P w K mg base bA 1 "seatings" ["size","bankers","others"] (xS K):=T.GA.mk λ_ _ F=>DQ T.N F;exact T.Kc.mk λ_ _ F=>G5 T.G T.B TP T.KG (T.KC.mk λ_ _ F=>DS T.N T.TR T.xu F) (T.Ko.mk λ_ _ F=>Ed T.TR (GA.mono (by decide)) T.xu F) F
end
structure zH (P:Program)(w:World)(K:aag)(mg:aai)(dS aF CP CW CB CF nF fI aW CR:Addr):Prop where
 C:TopC P w K mg dS aF CP
 N:xB K mg aW CR
 D:GD mg
 TW:CK K mg "Words" cw CW
 TB:CK K mg "Bet" r8 CB
 Z:pC K CF nF fI
 mF:mg "Fault"=some (.ref CF)
 Ga:∃fd,dk K "__init__" "Fault.__init__" fY fI fd
 GK:Di K CB "Bet.__init__" i7
 cost:Dm K CB "cost" "Bet.cost" iY
 xK:Di K CW "Words.__init__" fQ
 take:Dm K CW "take" "Words.take" fZ
 one:Dm K CW "take_one_of" "Words.take_one_of" cv
 fin:Dm K CW "finish" "Words.finish" eN
 stake:h_ K mg "take_stake" gd
 set:h_ K mg "take_set" iI
 box:h_ K mg "take_box" iL
 key:h_ K mg "take_key" ja
 on:h_ K mg "take_on" ku
 sets:h_ K mg "take_sets" gQ
 how:h_ K mg "take_how" jd
 pool:h_ K mg "take_pool" gP
 line:h_ K mg "check_line" f7
 words:h_ K mg "read_words" fV
 KO:h_ K mg "read_bet" je
 Jr:h_ K mg "look_at_all" fq
 look:h_ K mg "look_at" kq
section
variable {dS aF CP CW CB CF nF fI aW CR:Addr}(T:zH P w K mg dS aF CP CW CB CF nF fI aW CR)
include T
theorem zH.Gu:Fn P w K mg base bA 9 "look_at_all" ["card","bets"] (tO K CB CP CR):=by
 have G:=T.C.W.G;have B:=T.N.B;have FL:Flt P w K mg base CF:=by
  obtain⟨fd,F⟩:=T.Ga;exact⟨nF,fI,fd,T.Z,F.binds (λ_ _ _ _ _ _=>Ir λ_ _ _=>rfl),Ar T.Z F,T.mF⟩
 have num:∀k,1<=k->Fn P w K mg base bA k "number_of" ["word"] kO:=λk hk=>T.C.W.Et.mono hk;have take:nN P w K mg base (eW P w CF) 3 CW "take" ["self"] (nj K CW CF):=T.take.mk λ_ _ F=>Df G B T.TW FL F;have one:nN P w K mg base (eW P w CF) 4 CW "take_one_of" ["self","known"] (qH K CW CF):=T.one.mk λ_ _ F=>Gj B T.TW FL (by decide) take F;have fin:nN P w K mg base (eW P w CF) 3 CW "finish" ["self"] (AN K CW CF):=T.fin.mk λ_ _ F=>Gq G B T.TW FL F;have stake:Fn P w K mg base (eW P w CF) 4 "take_stake" ["words","unit"] (t8 K CW CF):=T.stake.mk λ_ _ F=>BR B T.TW FL (by decide) take (num 3 (by decide)) F;have set:Fn P w K mg base (eW P w CF) 4 "take_set" ["words","field"] (uQ K CW CF):=T.set.mk λ_ _ F=>HR G B T.TW FL (by decide) take (num 3 (by decide)) F;have box:Fn P w K mg base (eW P w CF) 5 "take_box" ["words","field","size"] (AO K CW CF):=T.box.mk λ_ _ F=>H_ G B T.TW FL (by decide) set F;have key:Fn P w K mg base (eW P w CF) 5 "take_key" ["words","field","size"] (Ca K CW CF):=T.key.mk λ_ _ F=>Hh G B T.TW FL (by decide) set one F;have on:Fn P w K mg base (eW P w CF) 5 "take_on" ["words","fields"] (Gs K CW CF):=T.on.mk λ_ _ F=>JA G B T.TW FL (by decide) set one F;have sets:Fn P w K mg base (eW P w CF) 6 "take_sets" ["words","pool","how"] (xn K CW CF CP):=T.sets.mk λ_ _ F=>EW G B T.C.TP on box key F;have how:Fn P w K mg base (eW P w CF) 5 "take_how" ["words","pool"] (C1 K CW CF CP):=T.how.mk λ_ _ F=>Hm B T.TW T.C.TP one F;have pool:Fn P w K mg base (eW P w CF) 4 "take_pool" ["pools","words"] (sO K CW CF CP):=T.pool.mk λ_ _ F=>Ce B T.TW T.C.TP FL (by decide) take F;have line:Fn P w K mg base (eW P w CF) 3 "check_line" ["line"] (wV K CF):=T.line.mk λ_ _ F=>Dt G B FL F;have GK:xr P w K mg base bA 4 CB ["self","pool","pool_number","how","stake","sets","rows"] (xT K CB CR):=T.GK.mk λ_ _ F=>Dc T.TB T.N.TR T.N.GZ F;have xK:xr P w K mg base bA 1 CW ["self","line"] (oN K CW):=T.xK.mk λ_ _ F=>Ak G T.TW F;have Kc:Fn P w K mg base bA 6 "rows_of" ["pool","how","sets"] (yZ K CP CR):=(T.N.KQ T.C.TP).mono (by decide);have cost:nN P w K mg base bA 6 CB "cost" ["self"] (jW K CB CP CR):=(T.cost.mk λ_ _ F=>yp T.TB F:nN P w K mg base bA 1 CB "cost" ["self"] (jW K CB CP CR)).mono (by decide);have words:Fn P w K mg base (eW P w CF) 7 "read_words" ["pools","words"] (xy K CW CF CB CP CR):=T.words.mk λ_ _ F=>Dg B T.TW T.C.TP T.TB FL (k:=6) (by decide) (one.mono (by decide)) (pool.mono (by decide)) (stake.mono (by decide)) (how.mono (by decide)) sets GK (fin.mono (by decide)) Kc cost F;have KO:Fn P w K mg base (eW P w CF) 8 "read_bet" ["pools","codes"] (CU K CF CB CP CR):=T.KO.mk λ_ _ F=>HL G B T.TW FL (k:=7) (by decide) (line.mono (by decide)) words (T.C.W.F9.mono (by decide)) xK F;exact T.Jr.mk λ_ _ F=>A4 Cj G B T.D T.Z T.mF (k:=8) (T.C.Ja.mono (by decide)) KO F
theorem zH.JH:Fn P w K mg base bA 10 "look_at" ["card","bet"] (wI K CB CP CR):=T.look.mk λ_ _ F=>Dd T.C.W.G T.Gu F
end
end
theorem AW {u:Value}{v:V}(r:Ba u=some v):RelV v u:=by
 cases u <;> cases r <;> first|rfl|exact⟨_,rfl⟩
theorem yF:∀{us:aak} {vs:List V},us.map Ba=vs.map some->Vals vs us
 |[],[],_=>.nil
 |[],_::_,h=>by cases h
 |_::_,[],h=>by cases h
 |u::us,v::vs,h=>by
  rw[XN,XN] at h;injection h with h1 h2;exact .cons (AW h1) (yF h2)
section
variable {P:Program}{w:World}{K:aag}{mg:aai}{h:Heap}{x m qual:Str}{st:Stmt}{f C:Addr}{u:Value}{v:V}{fs:List Str}
 {oc kV dc pm cd ct:Value}{od an:Option Addr}{sl:Array (Option Value)}
theorem dB (X:K.In h) (G:h.Ns mainGlobals mg) (e:PySem.W.nsIn K mainGlobals x=some none:=by k_is):mg x=none:=by
 obtain⟨o,es,ep,ho,hd,_,hf⟩:=G;rw[←hf x];have z:=sX e;unfold C6 at z;cases q:K.lookup mainGlobals with
 |none =>
  unfold PySem.W.nsIn at e;rw[q] at e;cases e
 |some o' =>
  have:=X _ _ q;rw[ho] at this;cases this;obtain⟨c,d,dt,sl⟩:=o;cases hd;rw[q] at z;exact z
theorem gv (X:K.In h)(G:h.Ns mainGlobals mg)(e:PySem.W.nsIn K mainGlobals x=some (some u):=by k_is)(r:Ba u=some v:=by first|rfl|decide +kernel):Gv mg x v:=⟨u,PySem.W.mg_of X G e,AW r⟩
theorem aY (X:K.In h)(G:h.Ns mainGlobals mg)(a:PySem.W.nsIn K mainGlobals x=some (some (.ref f)):=by k_is)(l:K.lookup f=some ⟨oc,od,.func (PySem.W.fnOf x x (cW st) (bZ st) (aw st) .none kV dc pm an cd ct),sl⟩:=by k_is)
  (c:PySem.W.codeIn K cd x=true:=by k_is)(k:PySem.W.keepIn K (.ref f)=true:=by k_is):h_ K mg x st:=⟨f,_,PySem.W.mg_of X G a,sN l c k⟩
theorem vI (a:PySem.W.findIn K (.ref C) m=some (some (.ref f)):=by k_is)(i:PySem.W.isFn K (.ref f)=true:=by k_is)(l:K.lookup f=some ⟨oc,od,.func (PySem.W.fnOf m qual (cW st) (bZ st) (aw st) .none kV dc pm an cd ct),sl⟩:=by k_is)
  (c:PySem.W.codeIn K cd qual=true:=by k_is)(k:PySem.W.keepIn K (.ref f)=true:=by k_is):Dm K C m qual st:=⟨f,_,⟨a,i,k⟩,sN l c k⟩
theorem yA (mk:PySem.W.makesIn K C=true:=by k_is)(kc:PySem.W.keepIn K (.ref C)=true:=by k_is)(a:PySem.W.findIn K (.ref C) "__init__"=some (some (.ref f)):=by k_is)(i:PySem.W.isFn K (.ref f)=true:=by k_is)(l:K.lookup f=some ⟨oc,od,.func (PySem.W.fnOf "__init__" qual (cW st) (bZ st) (aw st) .none kV dc pm an cd ct),sl⟩:=by k_is)
  (c:PySem.W.codeIn K cd qual=true:=by k_is)(k:PySem.W.keepIn K (.ref f)=true:=by k_is):Di K C qual st:=⟨f,_,⟨mk,a,i,kc⟩,sN l c k⟩
theorem IJ (l:K.lookup f=some ⟨oc,od,.func (PySem.W.fnOf "__init__" qual (cW st) (bZ st) (aw st) .none kV dc pm an cd ct),sl⟩:=by k_is)
  (c:PySem.W.codeIn K cd qual=true:=by k_is)(k:PySem.W.keepIn K (.ref f)=true:=by k_is):∃fd,dk K "__init__" qual st f fd:=⟨_,sN l c k⟩
def n9 (K:aag)(C:Addr)(fs:List Str):Prop:=∀f∈fs,hZ K C f
theorem n9.nil:n9 K C []:=λ_ h=>by cases h
theorem n9.cons {g:Str}(n:PySem.W.findIn K (.ref C) g=some none)(r:n9 K C fs):n9 K C (g::fs):=λf h=>by
 cases h with
 |head=>exact n
 |tail _ h=>exact r f h
theorem yW (X:K.In h)(G:h.Ns mainGlobals mg)(a:PySem.W.nsIn K mainGlobals x=some (some (.ref C)):=by k_is)(pg:PySem.W.plainGet K C Str.empty=true:=by k_is)(hd:PySem.W.hasDictIn K C=true:=by k_is)(po:PySem.W.plainOver K C=true:=by k_is)
  (sa:PySem.W.findIn K (.ref C) "__setattr__"=some (some (.builtin "object.__setattr__")):=by k_is)(no:n9 K C fs:=by (repeat refine Bw.n9.cons (by k_is) ?_);exact Bw.n9.nil):CK K mg x fs C:=⟨⟨pg,hd,po,sa⟩,no,PySem.W.mg_of X G a⟩
theorem eZ {a:Addr}{LF:Array Value}{n:Nat}{xs:List V}(l:K.lookup a=some ⟨.type "tuple",od,.seq LF n,sl⟩:=by k_is)(hs:LF.size<=sizeLine:=by decide)(r:LF.toList.map Ba=xs.map some:=by first|rfl|decide +kernel):∀H:Hp,b7 K H a xs:=λ_ =>
 .inr ⟨_,LF,n,l,rfl,rfl,hs,yF r⟩
theorem De {a:Addr}{o:Obj}(l:K.lookup a=some o:=by k_is)(c:o.cls=.type "tuple":=by rfl)(d:o.dict=none:=by rfl):∃o,K.lookup a=some o/\o.cls=.type "tuple"/\o.dict=none:=⟨o,l,c,d⟩
theorem key_is {s:String}{t:Tok}:pb (.inr (Bw.st (Bw.cd s))) (.str (Str.ofString s) t)=true:=by rw[←kU];exact r_ _ _
theorem yH {s:String}:PyData.keyHash w.params (Str.ofString s)=Jw w (.inr (Bw.st (Bw.cd s))):=by rw[←kU];rfl
theorem BW {dS d1 d2 d3 d4:Addr}{t1 t2 t3 t4:Tok}{ep:Nat}(l:K.lookup dS=some ⟨.type "dict",none,.dict #[⟨PyData.keyHash w.params (Str.ofString "place"),.str (Str.ofString "place") t1,.ref d1⟩,⟨PyData.keyHash w.params (Str.ofString "order"),.str (Str.ofString "order") t2,.ref d2⟩,
      ⟨PyData.keyHash w.params (Str.ofString "any"),.str (Str.ofString "any") t3,.ref d3⟩,⟨PyData.keyHash w.params (Str.ofString "legs"),.str (Str.ofString "legs") t4,.ref d4⟩] ep,#[]⟩:=by k_is) (ne:(dS==sysModules)=false:=by decide)
  (h1:∀H,b7 K H d1 [.int 1,.int 4]:=by exact Bw.eZ) (h2:∀H,b7 K H d2 [.int 2,.int 4]:=by exact Bw.eZ) (h3:∀H,b7 K H d3 [.int 2,.int 3]:=by exact Bw.eZ) (h4:∀H,b7 K H d4 [.int 2,.int 6]:=by exact Bw.eZ) :
  ∃ts:Tote.Kind->Addr,yV P w K dS [(.inr (Bw.st (Bw.cd "place")),.ref (ts .place)),(.inr (Bw.st (Bw.cd "order")),.ref (ts .order)),(.inr (Bw.st (Bw.cd "any")),.ref (ts .any)),(.inr (Bw.st (Bw.cd "legs")),.ref (ts .legs))]/\∀(k:Tote.Kind) (H:Hp),b7 K H (ts k) [.int (sizeOf k).1,.int (sizeOf k).2]:=by
 have nd:([.inr (Bw.st (Bw.cd "place")),.inr (Bw.st (Bw.cd "order")),.inr (Bw.st (Bw.cd "any")),.inr (Bw.st (Bw.cd "legs"))]:List Key).Nodup:=by decide +kernel
 refine⟨fun|.place=>d1|.order=>d2|.any=>d3|.legs=>d4,⟨λh X=>⟨_,_,ep,X _ _ l,⟨rfl,rfl,rfl⟩,rfl,λe he=>?_,.cons (key_is (t:=t1)) rfl (.cons (key_is (t:=t2)) rfl (.cons (key_is (t:=t3)) rfl (.cons (key_is (t:=t4)) rfl .nil))),nd⟩,ne⟩,λk=>?_⟩
 · simp only[List.mem_toArray,Xy,Zh,or_false] at he;rcases he with rfl|rfl|rfl|rfl
   · exact⟨.inr (Bw.st (Bw.cd "place")),key_is (s:="place") (t:=t1),yH (w:=w) (s:="place")⟩
   · exact⟨.inr (Bw.st (Bw.cd "order")),key_is (s:="order") (t:=t2),yH (w:=w) (s:="order")⟩
   · exact⟨.inr (Bw.st (Bw.cd "any")),key_is (s:="any") (t:=t3),yH (w:=w) (s:="any")⟩
   · exact⟨.inr (Bw.st (Bw.cd "legs")),key_is (s:="legs") (t:=t4),yH (w:=w) (s:="legs")⟩
 · cases k
   · exact h1
   · exact h2
   · exact h3
   · exact h4
theorem CA {aF t0 t1 t2 t3 t4 t5 t6:Addr}(l:∀H,b7 K H aF [.ref t0,.ref t1,.ref t2,.ref t3,.ref t4,.ref t5,.ref t6]:=by exact Bw.eZ)(h0:∀H,b7 K H t0 [.int 0,.str (Str.ofString "pool")]:=by exact Bw.eZ)(h1:∀H,b7 K H t1 [.int 4,.str (Str.ofString "from")]:=by exact Bw.eZ)
  (h2:∀H,b7 K H t2 [.int 6,.str (Str.ofString "take")]:=by exact Bw.eZ)(h3:∀H,b7 K H t3 [.int 8,.str (Str.ofString "break")]:=by exact Bw.eZ)(h4:∀H,b7 K H t4 [.int 10,.str (Str.ofString "least")]:=by exact Bw.eZ)(h5:∀H,b7 K H t5 [.int 12,.str (Str.ofString "unit")]:=by exact Bw.eZ)(h6:∀H,b7 K H t6 [.int 14,.str (Str.ofString "none")]:=by exact Bw.eZ) :
  ∃ts:List Addr,(∀H,b7 K H aF (ts.map V.ref))/\Paired (λt (p:Nat×W)=>∀H,b7 K H t [.int (p.1:Nat),.str (Bw.st p.2)]) ts eY:=by
 rw[kU] at h0 h1 h2 h3 h4 h5 h6;exact⟨[t0,t1,t2,t3,t4,t5,t6],l,.cons h0 (.cons h1 (.cons h2 (.cons h3 (.cons h4 (.cons h5 (.cons h6 .nil))))))⟩
theorem EH {N:Addr}{es:Array DictEntry}{ep:Nat}(l:K.lookup N=some ⟨oc,od,.dict es ep,sl⟩:=by k_is)(e:(es.toList.all λe=>match e.key with
  |.str _ _=>true
  |_=>false)=true:=by rfl):iy K N=true:=by
 unfold iy;rw[l];exact e
theorem Gm {N fI:Addr}{nm q:Str}{bs:aak}{sn:List Str}{sub:aak}{ab:Bool}{col:Option Bool}{dd:Option Addr}{k0 k1 k2 k3 k5:Option Value}(l:K.lookup C=some (excClassObj nm q C N bs BwX.sv true sn sub ab col dd k0 k1 k2 k3 k5 "Exception.__new__"):=by k_is)
  (keys:iy K N=true:=by exact Bw.EH)(init:PySem.W.nsIn K N "__init__"=some (some (.ref fI)):=by k_is)(fn:PySem.W.isFn K (.ref fI)=true:=by k_is)(kp:PySem.W.keepIn K (.ref C)=true:=by k_is)(AK:PySem.W.nsIn K N "__setattr__"=some none:=by k_is)(KR:PySem.W.nsIn K N "kind"=some none:=by k_is)(K6:PySem.W.nsIn K N "place"=some none:=by k_is)
  (sa:PySem.W.findIn K (.ref C) "__setattr__"=some (some (.builtin "object.__setattr__")):=by k_is)(ga:PySem.W.findIn K (.ref C) "__getattribute__"=some (some (.builtin "BaseException.__getattribute__")):=by k_is)(gt:PySem.W.findIn K (.ref C) "__getattr__"=some none:=by k_is)(fK:PySem.W.findIn K (.ref C) "kind"=some none:=by k_is)(fP:PySem.W.findIn K (.ref C) "place"=some none:=by k_is):pC K C N fI :=
 ⟨⟨_,l,nm,q,bs,sn,sub,ab,col,dd,k0,k1,k2,k3,k5,rfl⟩,keys,init,fn,kp,AK,KR,K6,sa,ga,gt,fK,fP⟩
end
theorem uL {l:List Int}(h:∀i∈l,0<=i/\i<=255):nV (ia (BetNeutral.text l))=l.map V.int:=by
 unfold nV ia BetNeutral.text BetNeutral.nats;rw[XY,XY,XY];refine Yo λi hi=>?_;obtain⟨h1,h2⟩:=h i hi;show V.int (((UInt8.ofNat i.toNat).toNat:Nat):Int)=V.int i;have e:(UInt8.ofNat i.toNat).toNat=i.toNat:=by
  rw[UInt8.toNat_ofNat'];omega
 rw[e];congr 1;omega
theorem u5 {l:List Int}(h:l.all (PySem.W.Codec.inInt (Int.ofNat 0) (Int.ofNat 255))=true):∀i∈l,0<=i/\i<=255:=λi hi=>by
 have z:=X1.mp h i hi;unfold PySem.W.Codec.inInt at z;simp only[XB,XC] at z;exact⟨z.1,z.2⟩
section
variable {K:aag}{H:Hp}{xs:List V}{a b:List Int}
theorem KL {lo hi Se Sg:Nat} (hx:il K H xs (PySem.W.Codec.encAll [.list lo hi (.int (Int.ofNat 0) (Int.ofNat 255)),.list Se Sg (.int (Int.ofNat 0) (Int.ofNat 255))] ((a,b,()):List Int×List Int×Unit)))
  (Oe:PySem.W.Codec.withinAll [.list lo hi (.int (Int.ofNat 0) (Int.ofNat 255)),.list Se Sg (.int (Int.ofNat 0) (Int.ofNat 255))] ((a,b,()):List Int×List Int×Unit)=true) :
  ∃c d,xs=[.ref c,.ref d]/\aP K H c (nV (ia (BetNeutral.text a)))/\aP K H d (nV (ia (BetNeutral.text b))):=by
 have w:((PySem.W.Codec.inLen lo hi a&&a.all (PySem.W.Codec.inInt (Int.ofNat 0) (Int.ofNat 255)))&&((PySem.W.Codec.inLen Se Sg b&&b.all (PySem.W.Codec.inInt (Int.ofNat 0) (Int.ofNat 255)))&&true))=true:=Oe;simp only[XB] at w;cases hx with
 |cons h1 h2 =>
  cases h2 with
  |cons h2 h3 =>
   cases h3;cases h1 with
   |lst hs ha =>
    cases h2 with
    |lst NK Pl =>
     have e:=L2.uu a _ ha;have e2:=L2.uu b _ Pl;subst e e2;exact⟨_,_,rfl,by rw[uL (u5 w.1.2)];exact hs,by rw[uL (u5 w.2.1.2)];exact NK⟩
end
def Kf (P:Program)(w:World)(mg:aai){K:aag}{h:Heap}(_:K.In h):Prop:=∃dS aF CP CW CB CF nF fI aW CR,zH P w K mg dS aF CP CW CB CF nF fI aW CR
def Kj (mg:aai){K:aag}{h:Heap}(_:K.In h)(x:Str)(st:Stmt):Prop:=h_ K mg x st
section
variable {P:Program}{w:World}{K:aag}{mg:aai}{fa:Addr}{x:Str}{st:Stmt}{ps:List Str}{k:Nat}{sp:Sp}
theorem F_ (D:h_ K mg x st) (OX:mg x=some (.ref fa))
  (hb:∀(kV doc pm:Value) (an:Option Addr) (LG ct:Value) (us:aak),us.length=ps.length->bindArgs (PySem.W.fnOf x x (cW st) (bZ st) (aw st) .none kV doc pm an LG ct) ⟨us,[]⟩=pure (ps.zip us))
  (ok:∀(base:Heap) (f:Addr) (fd:FuncData),dk K x x st f fd->a8 P w K mg base bA k f fd ps sp) :
  ∃fd:FuncData,(∀(s:Shared) (us:aak),us.length=ps.length->BindsTo s fd ⟨us,[]⟩ (ps.zip us))/\∀base:Heap,K.In base->base.Ns mainGlobals mg->a8 P w K mg base bA k fa fd ps sp:=by
 obtain⟨f,fd,hm,F⟩:=D;rw[OX] at hm;cases hm;obtain⟨oc,od,kV,doc,pm,an,LG,ct,My,rfl,lk,Mg⟩:=id F.ex;exact⟨_,λs us hu=>.of_eq (hb _ _ _ _ _ _ us hu),λbase _ _=>ok base _ _ F⟩
end
section
variable {P:Program}{w:World}{K:aag}{mg:aai}{base:Heap}
def JL (K:aag) (g:bO->aK->List Int):Sp:=λvs H Q _=>∃(c d:Addr) (t b:Bytes),vs=[.ref c,.ref d]/\aP K H c (nV (ia t))/\aP K H d (nV (ia b))/\∀zs,Rs t b g zs->∀H' L,H' L=some (.lst (zs.map V.int))->Q (.ref L) H'
theorem zH.Jj {dS aF CP CW CB CF nF fI aW CR:Addr}(T:zH P w K mg dS aF CP CW CB CF nF fI aW CR):nN P w K mg base bA 10 CB "cost" ["self"] (jW K CB CP CR) :=
 (T.cost.mk λ_ _ F=>yp T.TB F:nN P w K mg base bA 1 CB "cost" ["self"] (jW K CB CP CR)).mono (by decide)
theorem pf:aG ["card","bet","refusal","found"] ["card","bet"] (aw jF):=fs
theorem BO {CB CP CR:Addr}(TB:CK K mg "Bet" r8 CB){k:Nat}(FL:Fn P w K mg base bA k "look_at" ["card","bet"] (wI K CB CP CR))(FC:nN P w K mg base bA k CB "cost" ["self"] (jW K CB CP CR)){f:Addr}{fd:FuncData}(F:dk K "cost" "cost" jF f fd):a8 P w K mg base bA (k+1) f fd ["card","bet"] (JL K Bh):=by
 refine F.om pf λLG A outer s H vs Q E hr h=>?_;obtain⟨c,d,t,b,rfl,hC,hB,q⟩:=h;refine⟨_,af (Bq (aR FL hr a9 (aa (pv 0) (aa (pv 1) ah))) (lH rfl (b_ (bp 2 pf.nd) (b_ (bp 3 pf.nd) iK))))
  (af (aO (aB tu (pv 3) cA (aJ _)) (ak (az (cK fk (pv 2) ft (cY ax)))) aC)
  (ak (az (bV (aa ax (aa (jg FC TB.cl (pv 3) hr a9) ah)))))),?_⟩
 refine⟨_,rfl,_,rfl,c,d,t,b,rfl,hC,hB,λzs hz H' T L hT hL=>?_,λy hy H' T L x p hT Qu hp=>?_⟩
 · refine⟨T,_,rfl,b7.of hT,rfl,_,_,rfl,_,_,rfl,rfl,?_⟩;refine aS (aI (uq (ag rfl))) (λh=>?_) (λh=>absurd h (by decide));refine⟨_,rfl,_,rfl,L,_,rfl,aP.of hL,λp hp=>?_⟩;rw[show ((1:Int))=((1:Nat):Int) from rfl,ED];exact q _ (.inl ⟨zs,hz,rfl⟩) _ p ae
 · refine⟨T,_,rfl,b7.of hT,rfl,_,_,rfl,_,_,rfl,rfl,?_⟩;refine aS (aI (uq (ag rfl))) (λh=>absurd (XR h) (by intro z;cases z)) (λh=>?_);obtain⟨ps,Nd,N5⟩:=hp;obtain⟨dx,pa,sa,ra,h1,h2,h3,_,h4,m⟩:=id Qu;refine⟨_,rfl,x,dx,_,rfl,h1,yj (by decide +kernel),x,p,y,rfl,Qu,⟨by show 2<=sizeLine;decide,λL' hL'=>?_⟩⟩;exact q _ (.inr ⟨y,ps,p,hy,Nd,N5,m,rfl⟩) _ L' ae
end
end Bw
end
set_option Elab.async false
set_option linter.all false
set_option maxRecDepth 100000
open PySem PySem.W PyProof.Rows
def gL0:OpenLaw:=⟨PySem.Challenge.pw_betwords_s04_cost,"",[],0,none,none,false⟩
set_option maxHeartbeats 0 in
theorem PySem.Challenge.cw_betwords_s04_cost_holds : PySem.Challenge.rw_betwords_s04_cost.Holds := by
 refine holds_os (r:=PySem.Challenge.rw_betwords_s04_cost) (q:=Bw.qV) (loose:=Bw.lV) (Xt:=Bw.xV) (XP:=XL Bw.qV []) (Yf:=(PySem.W.kHook Bw.oj Bw.AD Bw.BP).obs) (Ya:=(PySem.W.kHook Bw.oj Bw.AD Bw.BP).val) (YP:=(PySem.W.kHook Bw.oj Bw.AD Bw.BP).says) (d:=Bw.dV) (kwd:=[]) (N:=5200) Bw.hl (PySem.W.kHook Bw.oj Bw.AD Bw.BP).of (PySem.W.kHook Bw.oj Bw.AD Bw.BP).keeps (λs e=>xl_of s (Z2.mp e).1) XL.keeps (by kernel_rfl) (by kernel_rfl) (by kernel_rfl) (λs e=>recFacts_of (Z2.mp e).2) os_shapes (by decide +kernel) (by decide +kernel) ⟨rfl,rfl,rfl,rfl,rfl,by decide +kernel⟩ ⟨[.list [],.list []],by decide +kernel,by decide +kernel⟩ ?_
 have:(gL0,Bw.oj)=(gL0,Bw.oj):=by k_fill;rfl
 refine L2.xU (r:=PySem.Challenge.rw_betwords_s04_cost) (k:=11) (CX:=L2.bA) (ps:=["card","bet"]) (sp:=(λK=>Bw.JL K Bw.Bh)) (by decide +kernel) rfl rfl ⟨rfl,by decide,by decide⟩ (λw h Y=>kIn_of Y) ?F ?S (λ_ _ _ _ z=>z)
 case F =>
  intro w mg fa h Y KX G OX;have gw:Bw.GW mg:=⟨Bw.gv KX G,Bw.gv KX G,Bw.gv KX G,Bw.gv KX G,Bw.dB KX G,Bw.dB KX G,Bw.dB KX G⟩;have T:Bw.Kf PySem.Challenge.rw_betwords_s04_cost.prog w mg KX:=⟨46,58,75,324,282,255,254,252,238,209,⟨⟨⟨gw,Bw.aY KX G,Bw.aY KX G,Bw.aY KX G,Bw.aY KX G⟩,⟨Bw.gv KX G,Bw.gv KX G,Bw.gv KX G,Bw.gv KX G,Bw.gv KX G,Bw.gv KX G,Bw.gv KX G,Bw.BW,Bw.CA,Bw.dB KX G⟩,Bw.yW KX G,Bw.yA,Bw.aY KX G,Bw.aY KX G,Bw.aY KX G,Bw.aY KX G,Bw.aY KX G,Bw.aY KX G,Bw.aY KX G,Bw.aY KX G⟩,
    ⟨gw,⟨Bw.gv KX G,Bw.gv KX G,Bw.gv KX G,Bw.gv KX G,Bw.gv KX G,Bw.gv KX G,Bw.gv KX G,Bw.gv KX G,Bw.gv KX G,Bw.gv KX G,Bw.gv KX G,Bw.gv KX G,Bw.gv KX G,Bw.gv KX G,Bw.gv KX G,Bw.eZ,Bw.De,Bw.dB KX G,Bw.dB KX G⟩,⟨Bw.dB KX G,Bw.dB KX G,Bw.dB KX G,Bw.dB KX G,Bw.dB KX G,Bw.gv KX G,Bw.dB KX G,Bw.dB KX G⟩,Bw.yW KX G,Bw.aY KX G,Bw.aY KX G,Bw.aY KX G,Bw.aY KX G,Bw.aY KX G,Bw.aY KX G,Bw.aY KX G,Bw.aY KX G,Bw.yA,Bw.vI,Bw.aY KX G,Bw.aY KX G,Bw.aY KX G,Bw.aY KX G,Bw.aY KX G⟩,
    ⟨Bw.gv KX G,Bw.gv KX G,Bw.gv KX G,Bw.gv KX G,Bw.gv KX G⟩,Bw.yW KX G,Bw.yW KX G,Bw.Gm,mg_of KX G (by k_is),Bw.IJ,Bw.yA,Bw.vI,Bw.yA,Bw.vI,Bw.vI,Bw.vI,Bw.aY KX G,Bw.aY KX G,Bw.aY KX G,Bw.aY KX G,Bw.aY KX G,Bw.aY KX G,Bw.aY KX G,Bw.aY KX G,Bw.aY KX G,Bw.aY KX G,Bw.aY KX G,Bw.aY KX G,Bw.aY KX G⟩⟩
  have J:Bw.Kj mg KX "cost" Bw.jF:=Bw.aY KX G;obtain⟨dS,aF,CP,CW,CB,CF,nF,fI,aW,CR,T⟩:=T;exact Bw.F_ J OX (λ_ _ _ _ _ _=>Bw.Iy λ_ _=>rfl) (λbase f fd F=>Bw.BO T.TB T.JH T.Jj F)
 case S =>
  intro K H xs a hO Oe hask hx;obtain⟨c,d,rfl,hc,hd⟩:=Bw.KL (a:=a.1) (b:=a.2.1) hx Oe;refine⟨c,d,_,_,rfl,hc,hd,λzs hz H' L hL=>?_⟩;rw[Bw.Ck hz] at hL;exact .lst (L2.aP.of hL) (L2.yK _)
