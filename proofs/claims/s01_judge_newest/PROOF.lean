import PyProof.Rows.All
import KE.KDictList
import KE.KIntText
import Open.SpecLaws
import KE.KStateDown
import KE.OsHead
import Wide.FinOn
import KE.BitLaws
import PyWqaqcl
import PySem.Challenge.RW_betwords_s01_judge
section
set_option Elab.async false
section
set_option autoImplicit false
open PySem PySem.Spec PyProof.Rows
abbrev Xm:=@wpAny_bind
abbrev Xn:=@List.length_map
abbrev Xo:=@if_neg
abbrev Xp:=@if_pos
abbrev Xq:=@Heap.get?_push_of_some
abbrev Xr:=@List.mem_cons
abbrev Xs:=@List.getElem?_map
abbrev Xu:=@wpAny_pure
abbrev Xv:=@Bool.and_eq_true
abbrev Xw:=@decide_eq_true_eq
abbrev Xx:=@Nat.le_refl
abbrev Xy:=@List.getElem?_eq_getElem
abbrev Xz:=@List.length_cons
abbrev XA:=@Heap.lt_size
abbrev XB:=@List.getElem?_eq_some_iff
abbrev XC:=@List.mem_singleton
abbrev XD:=@Heap.get?_push_size
abbrev XE:=@List.map_cons
abbrev XG:=@List.mem_cons_of_mem
abbrev XH:=@List.map_append
abbrev XI:=@of_decide_eq_true
abbrev XJ:=@List.size_toArray
abbrev XM:=@List.length_append
abbrev XN:=@List.length_take
abbrev XO:=@Bool.false_ne_true
abbrev XQ:=@Heap.SameBut.update
abbrev XR:=@List.map_map
abbrev XS:=@sizeLine_eq
abbrev XT:=@List.mem_of_getElem?
abbrev XU:=@List.all_eq_true
abbrev XW:=@Nat.zero_le
abbrev XX:=@beq_eq_false_iff_ne
abbrev XY:=@List.mem_map
abbrev XZ:=@List.length_replicate
abbrev X0:=@Option.map_eq_some_iff
abbrev X1:=@Nat.ne_of_lt
abbrev X2:=@Option.some.inj
abbrev X3:=@Bool.eq_iff_iff
abbrev X4:=@decide_eq_true
abbrev X5:=@Nat.lt_of_lt_of_le
abbrev X6:=@decide_eq_false_iff_not
abbrev X7:=@List.getD_eq_getElem?_getD
abbrev X8:=@of_decide_eq_false
abbrev X9:=@Int.toNat_natCast
abbrev X_:=@List.mem_cons_self
abbrev Yb:=@Nat.le_trans
abbrev Yc:=@decide_eq_false
abbrev Yd:=@List.mem_append
abbrev Ye:=@beq_iff_eq
abbrev Yg:=@Bool.not_eq_true'
abbrev Yh:=@List.length_drop
abbrev Yi:=@List.map_congr_left
abbrev Yj:=@Bool.not_eq_false'
abbrev Yk:=@List.nil_append
abbrev Yl:=@List.take_of_length_le
abbrev Ym:=@List.take_length
abbrev Yn:=@List.mem_append_right
abbrev Yo:=@Heap.get?_update_self
abbrev Yp:=@Bool.or_eq_true
abbrev Yq:=@List.eq_of_mem_replicate
abbrev Yr:=@List.append_nil
abbrev Ys:=@List.getElem?_eq_none
abbrev Yt:=@List.length_pos_iff
abbrev Yu:=@PassesOwn.never
abbrev Yv:=@congrArg
abbrev Yw:=@List.contains_eq_mem
abbrev Yx:=@Heap.size_push
abbrev Yy:=@List.mem_filter
abbrev Yz:=@Bool.or_eq_false_iff
abbrev YA:=@List.nodup_cons
abbrev YB:=@List.filter_cons
abbrev YC:=@List.length_singleton
abbrev YD:=@wpAny_truthy_bool
abbrev YE:=@wpAny_callSpecial?_slot
abbrev YF:=@PyProof.Rows.slot_tuple_getitem
abbrev YG:=@wpAny_mono
abbrev YH:=@List.pairwise_cons
abbrev YI:=@wpAny_passesOwn
abbrev YJ:=@Nat.lt_irrefl
abbrev YK:=@wpAny_call_entry
abbrev YL:=@List.drop_eq_getElem_cons
abbrev YM:=@Bool.and_eq_false_iff
abbrev YN:=@List.map_nil
abbrev YO:=@Bool.false_eq_true
abbrev YQ:=@PyProof.Rows.callWith_type1
abbrev YR:=@wpAny_newObj_type
abbrev YS:=@List.append_assoc
abbrev YT:=@eq_of_beq
abbrev YU:=@List.foldl_cons
abbrev YV:=@decide_eq_true_iff
abbrev YW:=@List.sum_cons
abbrev YX:=@List.any_cons
abbrev YY:=@List.mem_of_mem_drop
abbrev YZ:=@List.length_nil
abbrev Y0:=@F.slot_dict_keyiterator_next
abbrev Y1:=@List.isEmpty_iff
abbrev Y2:=@List.any_eq_true
abbrev Y3:=@List.find?_cons
abbrev Y4:=@List.pairwise_iff_forall_sublist
abbrev Y5:=@List.nodup_append
abbrev Y6:=@List.mem_of_mem_take
abbrev Y7:=@List.length_erase_of_mem
abbrev Y8:=@if_true
abbrev Y9:=@List.getElem?_range
abbrev Y_:=@Array.length_toList
abbrev Za:=@decide_eq_decide
abbrev Zb:=@List.not_mem_nil
abbrev Zc:=@List.mem_range
abbrev Zd:=@List.lookup_cons
abbrev Ze:=@List.length_eq_zero_iff
abbrev Zf:=@List.getElem_mem
abbrev Zg:=@List.drop_length
abbrev Zh:=@wpAny_typeNameOfWhole_keyiter
abbrev Zi:=@List.filter_append
abbrev Zj:=@List.drop_eq_nil_of_le
abbrev Zk:=@Heap.get?_update_other
abbrev Zl:=@wpAny_execs_nil
abbrev Zm:=@if_false
abbrev Zn:=@Nat.min_eq_left
abbrev Zo:=@wpAny_holding
abbrev Zq:=@Nat.pow_le_pow_right
abbrev Zr:=@F.slot_tuple_iterator_next
abbrev Zs:=@Nat.pow_succ
abbrev Zu:=@List.mem_flatMap
abbrev Zv:=@List.cons_append
abbrev Zw:=@List.all_map
abbrev Zx:=@List.takeWhile_cons
abbrev Zy:=@wpAny_typeNameOf_keyiter
abbrev Zz:=@Option.isSome_iff_exists
abbrev ZC:=@List.all_cons
abbrev ZD:=@Bool.or_false
abbrev ZE:=@wpAny_Call_Name_kw
abbrev ZF:=@List.findIdx?_eq_some_iff_getElem
abbrev ZG:=@Nat.mul_comm
abbrev ZH:=@List.length_range
abbrev ZI:=@List.length_pos_of_mem
abbrev ZJ:=@List.getElem?_set_self
abbrev ZK:=@List.flatMap_cons
abbrev ZL:=@List.ext_getElem?
abbrev ZM:=@List.any_map
abbrev ZN:=@F.called_set
abbrev ZO:=@Calls.callWith_builtin
abbrev ZP:=@List.length_filter_le
abbrev ZQ:=@typeIs_str
abbrev ZR:=@Nat.lt_succ_self
abbrev ZS:=@Nat.le_add_right
abbrev ZT:=@List.map_drop
abbrev ZU:=@List.mem_erase_of_ne
abbrev ZV:=@List.forall_mem_cons
abbrev ZW:=@Bool.and_eq_true_iff
abbrev ZX:=@List.replicate_succ
abbrev ZY:=@List.map_eq_nil_iff
abbrev ZZ:=@List.filterMap_cons
abbrev Z0:=@List.dropWhile_cons
abbrev Z1:=@codeAny_mono
abbrev Z2:=@Ne.symm
abbrev Z3:=@Nat.le_of_eq
abbrev Z4:=@tupleKind_room_in1
abbrev Z5:=@List.perm_ext_iff_of_nodup
abbrev Z6:=@List.isPrefixOf_iff_prefix
abbrev Z7:=@List.getElem?_append_right
abbrev Z8:=@Calls.spliced_cons
abbrev Z9:=List (List Nat)
abbrev Z_:=List Nat
abbrev aaa:=PySem.W.Frag
abbrev aab:=Value->Shared->Prop
abbrev aac:=Str->Option Value
abbrev aad:=List (Addr×Obj)
abbrev aae:=List Value
end
section
set_option autoImplicit false
set_option linter.all false
set_option maxRecDepth 100000
set_option maxHeartbeats 0
namespace L2
open PySem PySem.Spec PyProof.Rows
def inClass (s:Stmt)(j:Nat):Stmt:=match s with
 |.ClassDef _ _ _ body _ _ _ _ _ _ _=>body.getD j (.Pass ⟨0,0,0,0⟩)
 |_=>.Pass ⟨0,0,0,0⟩
def cU (s:Stmt):Arguments:=match s with
 |.FunctionDef _ a _ _ _ _ _ _ _ _=>a
 |_=>{posonlyargs:=[],args:=[],vararg:=none,kwonlyargs:=[],kw_defaults:=[],kwarg:=none,defaults:=[]}
def b6 (s:Stmt):List Stmt:=match s with
 |.FunctionDef _ _ b _ _ _ _ _ _ _=>b
 |_=>[]
def aw (s:Stmt):Scope:=match s with
 |.FunctionDef _ _ _ _ _ _ sc _ _ _=>sc
 |_=>{kind:=.function,names:=[],isGenerator:=false,isCoroutine:=false}
end L2
end
section
set_option autoImplicit false
set_option linter.all false
set_option maxRecDepth 100000
set_option maxHeartbeats 0
namespace Bw
open PySem L2
def top (i:Nat):Stmt:=PySem.Challenge.pw_betwords_s01_judge.main.body.getD i (.Pass ⟨0,0,0,0⟩)
abbrev C9:Stmt:=top 0
abbrev j8:Stmt:=top 6
abbrev j3:Stmt:=top 7
abbrev j7:Stmt:=top 8
abbrev gT:Stmt:=top 9
abbrev gK:Stmt:=inClass (top 18) 0
abbrev gH:Stmt:=top 19
abbrev lN:Stmt:=top 20
abbrev fw:Stmt:=top 21
abbrev f_:Stmt:=top 22
abbrev gX:Stmt:=top 23
abbrev dP:Stmt:=top 24
abbrev dB:Stmt:=top 25
abbrev gY:Stmt:=top 26
abbrev fT:Stmt:=top 28
abbrev j1:Stmt:=top 29
abbrev fV:Stmt:=top 30
abbrev eT:Stmt:=top 31
abbrev oK:Stmt:=top 32
abbrev cW:Stmt:=top 33
abbrev iM:Stmt:=top 34
abbrev eD:Stmt:=top 35
abbrev gW:Stmt:=inClass (top 37) 0
abbrev dO:Stmt:=inClass (top 37) 1
abbrev qN:Stmt:=inClass (top 37) 2
abbrev qM:Stmt:=inClass (top 37) 3
abbrev j_:Stmt:=top 38
abbrev iH:Stmt:=top 39
abbrev iJ:Stmt:=top 40
abbrev gu:Stmt:=top 41
abbrev fL:Stmt:=inClass (top 58) 0
abbrev iT:Stmt:=inClass (top 59) 0
abbrev iY:Stmt:=inClass (top 59) 1
abbrev gc:Stmt:=inClass (top 60) 0
abbrev f7:Stmt:=inClass (top 60) 1
abbrev cv:Stmt:=inClass (top 60) 2
abbrev eJ:Stmt:=inClass (top 60) 3
abbrev i9:Stmt:=top 61
abbrev fU:Stmt:=top 62
abbrev fS:Stmt:=top 63
abbrev gQ:Stmt:=top 64
abbrev fZ:Stmt:=top 65
abbrev iG:Stmt:=top 66
abbrev gU:Stmt:=top 67
abbrev jT:Stmt:=top 68
abbrev iL:Stmt:=top 69
abbrev i5:Stmt:=top 70
abbrev iU:Stmt:=top 71
abbrev ko:Stmt:=top 72
abbrev gS:Stmt:=top 79
abbrev j0:Stmt:=top 80
abbrev fq:Stmt:=top 81
end Bw
end
section
set_option autoImplicit false
set_option linter.all false
set_option maxRecDepth 100000
set_option maxHeartbeats 0
namespace Bw
open PySem L2
abbrev kS (s:String)(t:Nat):Value:=.str (Str.ofString s) t
abbrev kE (P:Params)(s:String)(t:Nat)(v:Value):DictEntry:=⟨PyData.keyHash P (Str.ofString s),.str (Str.ofString s) t,v⟩
abbrev kF (x q:String)(st:Stmt)(m:Value)(c:Nat):Obj:=⟨.type "function",none,.func (PySem.W.fnOf (Str.ofString x) (Str.ofString q) (cU st) (b6 st) (aw st) .none .none .none m none (.ref c) .none),#[]⟩
abbrev kC (x q:String)(t l a g c:Nat)(b:Bool)(z d:Nat)(u v w y:Value)(k:Nat):Obj:=⟨.type "code",none,.fields #[kS x t,kS q (t+1),kS "/claim/cut.py" (t+2),.int l 0,.int a 0,.int 0 0,.int 0 0,.int g 0,.ref c,.bool b,.int z 0,.ref d,u,v,w,y,.int k 0,.int l 0,kS "/claim/cut.py" (k+1)],#[]⟩
abbrev kT (l:List Value)(n:Nat):Obj:=⟨.type "tuple",none,.seq l.toArray n,#[]⟩
abbrev kD (l:List DictEntry)(n:Nat):Obj:=⟨.type "dict",none,.dict l.toArray n,#[]⟩
abbrev kG (x:String)(t l a c d e f g k:Nat):Obj:=kC x x t l a 3 c true 181 d .none (.ref e) (.ref f) (.ref g) k
abbrev kH (x:String)(st:Stmt)(m:Value)(c:Nat):Obj:=kF x x st m c
abbrev kR (P:Params)(s:String)(t a:Nat):DictEntry:=kE P s t (.ref a)
abbrev JY:Value:=kS "betwords.desk" 814
abbrev JX:Value:=kS "betwords.words" 194
abbrev C1:Value:=kS "betwords.cards" 230
abbrev Fh:Value:=kS "betwords.counts" 374
abbrev D9:Value:=kS "betwords.rows" 438
abbrev qJ:Value:=kS "betwords.bets" 524
noncomputable def om (P:Params):PySem.W.Frag:=(nat_lit 3,kD [kE P "__name__" 165 JY,kE P "__doc__" 166 .none,kE P "__package__" 167 .none,kE P "__loader__" 168 (.builtin "__main__.__loader__#opaque"),kE P "__spec__" 169 .none,kR P "__annotations__" 170 6,kR P "__builtins__" 171 4,kE P "__file__" 173 (kS "/claim/cut.py" 172),kE P "__cached__" 174 .none,kR P "_wall" 193 21,kE P "LETTERS" 197 (kS "abcdefghijklmnopqrstuvwxyz" 196),kE P "DIGITS" 199 (kS "0123456789" 198),kE P "MOST_NAME" 201 (.int 12 200),kE P "MOST_DIGITS" 203 (.int 7 202),kR P "sign_of" 210 28,kR P "text_of" 216 33,kR P "is_name" 222 38,kR P "number_of" 229 45,kE P "MOST_RACES" 233 (.int 16 232),kE P "MOST_POOLS" 235 (.int 64 234),kE P "MOST_COUPLES" 237 (.int 8 236),kE P "MOST_RUNNERS" 239 (.int 24 238),kR P "SIZES" 256 46,kR P "FIXED" 271 58,kE P "POOL_WORDS" 273 (.int 16 272),kR P "Pool" 308 75,kR P "read_card" 314 84,kR P "is_day" 321 91,kR P "read_race" 327 96,kR P "read_pools" 339 103,kR P "read_pool" 352 110,kR P "has_pool_form" 358 115,kR P "are_terms_good" 367 122,kR P "fields_of" 373 127,kR P "product_of" 384 134,kR P "without" 390 139,kR P "count_legs" 396 144,kR P "count_orders" 402 149,kR P "is_of" 408 154,kR P "count_different" 414 159,kR P "picks_of" 426 166,kR P "count_starts" 437 173,kR P "Rows" 492 209,kR P "rows_on" 500 220,kR P "rows_box" 506 225,kR P "rows_key" 517 232,kR P "seatings" 523 237,kE P "NOT_ENDED" 527 (.int 1 526),kE P "BAD_BYTE" 529 (.int 2 528),kE P "BAD_WORD" 531 (.int 3 530),kE P "BAD_NUMBER" 533 (.int 4 532),kE P "NO_POOL" 535 (.int 5 534),kE P "NO_COMBINATION" 537 (.int 6 536),kE P "TOO_DEAR" 539 (.int 7 538),kE P "MORE_BYTES" 541 (.int 8 540),kE P "LINE_END" 543 (.int 10 542),kE P "BLANK" 545 (.int 32 544),kE P "MOST_STAKE" 547 (.int 1000000 546),kE P "MOST_COST" 549 (.int 2147483647 548),kE P "ON" 551 (.int 0 550),kE P "BOX" 553 (.int 1 552),kR P "WAYS" 557 238,kR P "Fault" 588 255,kR P "Bet" 635 282,kR P "Words" 692 324,kR P "read_bet" 703 335,kR P "check_line" 712 342,kR P "read_words" 728 349,kR P "take_pool" 739 356,kR P "take_stake" 748 363,kR P "take_how" 756 370,kR P "take_sets" 766 377,kR P "take_on" 776 384,kR P "take_box" 786 391,kR P "take_key" 792 396,kR P "take_set" 803 403,kR P "rows_of" 813 410,kE P "TOO_LONG" 818 (.int (-2) 817),kE P "FAULTY_BET" 821 (.int (-6) 820),kE P "NO_CARD" 824 (.int (-8) 823),kE P "MOST_CARD" 826 (.int 65536 825),kE P "MOST_BET" 828 (.int 4096 827),kR P "judge" 838 417,kR P "look_at" 848 424,kR P "look_at_all" 854 429] 85) ::
 (nat_lit 6,kD [] 0) ::
 (nat_lit 20,kG "_wall" 187 1 1 15 16 17 18 19 191) ::
 (nat_lit 21,kH "_wall" C9 (kS "__main__" 164) 20) ::
 (nat_lit 27,kG "sign_of" 204 9 1 22 23 24 25 26 208) ::
 (nat_lit 28,kH "sign_of" j8 JX 27) ::
 (nat_lit 32,kC "text_of" "text_of" 211 23 1 3 29 true 181 30 .none .none .none (.ref 31) 214) ::
 (nat_lit 33,kH "text_of" j3 JX 32) ::
 (nat_lit 37,kC "is_name" "is_name" 217 25 1 3 34 true 181 35 .none .none .none (.ref 36) 220) ::
 (nat_lit 38,kH "is_name" j7 JX 37) ::
 (nat_lit 44,kG "number_of" 223 29 1 39 40 41 42 43 227) ::
 (nat_lit 45,kH "number_of" gT JX 44) ::
 (nat_lit 46,kD [kR P "place" 240 47,kR P "order" 243 48,kR P "any" 246 49,kR P "legs" 249 50] 4) ::
 (nat_lit 47,kT [.int 1 241,.int 4 242] 0) ::
 (nat_lit 48,kT [.int 2 244,.int 4 245] 0) ::
 (nat_lit 49,kT [.int 2 247,.int 3 248] 0) ::
 (nat_lit 50,kT [.int 2 250,.int 6 251] 0) ::
 (nat_lit 51,kT [.int 0 257,kS "pool" 258] 0) ::
 (nat_lit 52,kT [.int 4 259,kS "from" 260] 0) ::
 (nat_lit 53,kT [.int 6 261,kS "take" 262] 0) ::
 (nat_lit 54,kT [.int 8 263,kS "break" 264] 0) ::
 (nat_lit 55,kT [.int 10 265,kS "least" 266] 0) ::
 (nat_lit 56,kT [.int 12 267,kS "unit" 268] 0) ::
 (nat_lit 57,kT [.int 14 269,kS "none" 270] 0) ::
 (nat_lit 58,kT [.ref 51,.ref 52,.ref 53,.ref 54,.ref 55,.ref 56,.ref 57] 0) ::
 (nat_lit 71,kC "__init__" "Pool.__init__" 286 45 5 3 66 true 181 67 .none (.ref 68) (.ref 69) (.ref 70) 294) ::
 (nat_lit 72,kF "__init__" "Pool.__init__" gK C1 71) ::
 (nat_lit 73,kT [kS "fields" 297,kS "kind" 298,kS "name" 299,kS "unit" 300] 0) ::
 (nat_lit 74,kD [kE P "__module__" 281 C1,kE P "__firstlineno__" 285 (.int 43 284),kR P "__init__" 296 72,kR P "__static_attributes__" 301 73,kR P "__dict__" 303 76,kR P "__weakref__" 305 77,kE P "__doc__" 306 .none] 4) ::
 (nat_lit 75,⟨.type "type",none,.cls ⟨"Pool",[.type "object"],[.ref 75,.type "object"],74,"Pool",true,[],[],false,none,false⟩,#[none,none,some (kS "Pool" 274),some (kS "Pool" 282),some (.builtin "object.__new__"),some (.bool true)]⟩) ::
 (nat_lit 83,kC "read_card" "read_card" 309 50 1 3 80 true 181 81 .none .none .none (.ref 82) 312) ::
 (nat_lit 84,kH "read_card" gH C1 83) ::
 (nat_lit 90,kG "is_day" 315 64 1 85 86 87 88 89 319) ::
 (nat_lit 91,kH "is_day" lN C1 90) ::
 (nat_lit 95,kC "read_race" "read_race" 322 66 1 3 92 true 181 93 .none .none .none (.ref 94) 325) ::
 (nat_lit 96,kH "read_race" fw C1 95) ::
 (nat_lit 102,kG "read_pools" 328 85 2 97 98 99 100 101 337) ::
 (nat_lit 103,kH "read_pools" f_ C1 102) ::
 (nat_lit 109,kG "read_pool" 340 97 2 104 105 106 107 108 350) ::
 (nat_lit 110,kH "read_pool" gX C1 109) ::
 (nat_lit 114,kC "has_pool_form" "has_pool_form" 353 110 1 3 111 true 181 112 .none .none .none (.ref 113) 356) ::
 (nat_lit 115,kH "has_pool_form" dP C1 114) ::
 (nat_lit 121,kG "are_terms_good" 359 116 1 116 117 118 119 120 365) ::
 (nat_lit 122,kH "are_terms_good" dB C1 121) ::
 (nat_lit 126,kC "fields_of" "fields_of" 368 126 4 3 123 true 181 124 .none .none .none (.ref 125) 371) ::
 (nat_lit 127,kH "fields_of" gY C1 126) ::
 (nat_lit 133,kG "product_of" 376 138 1 128 129 130 131 132 382) ::
 (nat_lit 134,kH "product_of" fT Fh 133) ::
 (nat_lit 138,kC "without" "without" 385 143 2 3 135 true 181 136 .none .none .none (.ref 137) 388) ::
 (nat_lit 139,kH "without" j1 Fh 138) ::
 (nat_lit 143,kC "count_legs" "count_legs" 391 145 2 3 140 true 181 141 .none .none .none (.ref 142) 394) ::
 (nat_lit 144,kH "count_legs" fV Fh 143) ::
 (nat_lit 148,kC "count_orders" "count_orders" 397 149 2 3 145 true 181 146 .none .none .none (.ref 147) 400) ::
 (nat_lit 149,kH "count_orders" eT Fh 148) ::
 (nat_lit 153,kC "is_of" "is_of" 403 153 2 3 150 true 181 151 .none .none .none (.ref 152) 406) ::
 (nat_lit 154,kH "is_of" oK Fh 153) ::
 (nat_lit 158,kC "count_different" "count_different" 409 155 1 3 155 true 181 156 .none .none .none (.ref 157) 412) ::
 (nat_lit 159,kH "count_different" cW Fh 158) ::
 (nat_lit 165,kG "picks_of" 415 163 1 160 161 162 163 164 424) ::
 (nat_lit 166,kH "picks_of" iM Fh 165) ::
 (nat_lit 172,kG "count_starts" 427 173 1 167 168 169 170 171 435) ::
 (nat_lit 173,kH "count_starts" eD Fh 172) ::
 (nat_lit 186,kC "__init__" "Rows.__init__" 452 183 3 3 181 true 181 182 .none (.ref 183) (.ref 184) (.ref 185) 458) ::
 (nat_lit 187,kF "__init__" "Rows.__init__" gW D9 186) ::
 (nat_lit 191,kC "starting" "Rows.starting" 461 188 2 3 188 true 181 189 .none .none .none (.ref 190) 464) ::
 (nat_lit 192,kF "starting" "Rows.starting" dO D9 191) ::
 (nat_lit 198,kC "row_at" "Rows.row_at" 467 195 2 3 193 true 181 194 .none (.ref 195) (.ref 196) (.ref 197) 472) ::
 (nat_lit 199,kF "row_at" "Rows.row_at" qN D9 198) ::
 (nat_lit 205,kC "listed" "Rows.listed" 475 198 1 3 200 true 181 201 .none (.ref 202) (.ref 203) (.ref 204) 479) ::
 (nat_lit 206,kF "listed" "Rows.listed" qM D9 205) ::
 (nat_lit 207,kT [kS "grids" 482,kS "kind" 483,kS "picks" 484] 0) ::
 (nat_lit 208,kD [kE P "__module__" 447 D9,kE P "__firstlineno__" 451 (.int 181 450),kR P "__init__" 460 187,kR P "starting" 466 192,kR P "row_at" 474 199,kR P "listed" 481 206,kR P "__static_attributes__" 485 207,kR P "__dict__" 487 210,kR P "__weakref__" 489 211,kE P "__doc__" 490 .none] 4) ::
 (nat_lit 209,⟨.type "type",none,.cls ⟨"Rows",[.type "object"],[.ref 209,.type "object"],208,"Rows",true,[],[],false,none,false⟩,#[none,none,some (kS "Rows" 440),some (kS "Rows" 448),some (.builtin "object.__new__"),some (.bool true)]⟩) ::
 (nat_lit 219,kG "rows_on" 493 200 2 214 215 216 217 218 498) ::
 (nat_lit 220,kH "rows_on" j_ D9 219) ::
 (nat_lit 224,kC "rows_box" "rows_box" 501 202 3 3 221 true 181 222 .none .none .none (.ref 223) 504) ::
 (nat_lit 225,kH "rows_box" iH D9 224) ::
 (nat_lit 231,kG "rows_key" 507 204 4 226 227 228 229 230 515) ::
 (nat_lit 232,kH "rows_key" iJ D9 231) ::
 (nat_lit 236,kC "seatings" "seatings" 518 209 3 3 233 true 181 234 .none .none .none (.ref 235) 521) ::
 (nat_lit 237,kH "seatings" gu D9 236) ::
 (nat_lit 238,kT [kS "on" 554,kS "box" 555,kS "key" 556] 0) ::
 (nat_lit 251,kC "__init__" "Fault.__init__" 570 237 3 3 246 true 181 247 .none (.ref 248) (.ref 249) (.ref 250) 576) ::
 (nat_lit 252,kF "__init__" "Fault.__init__" fL qJ 251) ::
 (nat_lit 253,kT [kS "kind" 579,kS "place" 580] 0) ::
 (nat_lit 254,kD [kE P "__module__" 565 qJ,kE P "__firstlineno__" 569 (.int 235 568),kR P "__init__" 578 252,kR P "__static_attributes__" 581 253,kR P "__weakref__" 583 256,kE P "__doc__" 584 .none] 3) ::
 (nat_lit 255,⟨.type "type",none,.cls ⟨"Fault",[.type "Exception"],[.ref 255,.type "Exception",.type "BaseException",.type "object"],254,"Fault",true,[],[],false,none,false⟩,#[some (.ref 239),none,some (kS "Fault" 558),some (kS "Fault" 566),some (.builtin "Exception.__new__"),some (.bool true)]⟩) ::
 (nat_lit 271,kC "__init__" "Bet.__init__" 601 242 7 3 266 true 181 267 .none (.ref 268) (.ref 269) (.ref 270) 611) ::
 (nat_lit 272,kF "__init__" "Bet.__init__" iT qJ 271) ::
 (nat_lit 278,kC "cost" "Bet.cost" 614 251 1 3 273 true 181 274 .none (.ref 275) (.ref 276) (.ref 277) 618) ::
 (nat_lit 279,kF "cost" "Bet.cost" iY qJ 278) ::
 (nat_lit 280,kT [kS "how" 621,kS "many" 622,kS "pool" 623,kS "pool_number" 624,kS "rows" 625,kS "sets" 626,kS "stake" 627] 0) ::
 (nat_lit 281,kD [kE P "__module__" 596 qJ,kE P "__firstlineno__" 600 (.int 240 599),kR P "__init__" 613 272,kR P "cost" 620 279,kR P "__static_attributes__" 628 280,kR P "__dict__" 630 283,kR P "__weakref__" 632 284,kE P "__doc__" 633 .none] 4) ::
 (nat_lit 282,⟨.type "type",none,.cls ⟨"Bet",[.type "object"],[.ref 282,.type "object"],281,"Bet",true,[],[],false,none,false⟩,#[none,none,some (kS "Bet" 589),some (kS "Bet" 597),some (.builtin "object.__new__"),some (.bool true)]⟩) ::
 (nat_lit 299,kC "__init__" "Words.__init__" 648 255 2 3 294 true 181 295 .none (.ref 296) (.ref 297) (.ref 298) 653) ::
 (nat_lit 300,kF "__init__" "Words.__init__" gc qJ 299) ::
 (nat_lit 306,kC "take" "Words.take" 656 262 1 3 301 true 181 302 .none (.ref 303) (.ref 304) (.ref 305) 661) ::
 (nat_lit 307,kF "take" "Words.take" f7 qJ 306) ::
 (nat_lit 313,kC "take_one_of" "Words.take_one_of" 664 271 2 3 308 true 181 309 .none (.ref 310) (.ref 311) (.ref 312) 670) ::
 (nat_lit 314,kF "take_one_of" "Words.take_one_of" cv qJ 313) ::
 (nat_lit 320,kC "finish" "Words.finish" 673 277 1 3 315 true 181 316 .none (.ref 317) (.ref 318) (.ref 319) 677) ::
 (nat_lit 321,kF "finish" "Words.finish" eJ qJ 320) ::
 (nat_lit 322,kT [kS "line_end" 680,kS "met" 681,kS "next_place" 682,kS "place" 683,kS "words" 684] 0) ::
 (nat_lit 323,kD [kE P "__module__" 643 qJ,kE P "__firstlineno__" 647 (.int 253 646),kR P "__init__" 655 300,kR P "take" 663 307,kR P "take_one_of" 672 314,kR P "finish" 679 321,kR P "__static_attributes__" 685 322,kR P "__dict__" 687 325,kR P "__weakref__" 689 326,kE P "__doc__" 690 .none] 4) ::
 (nat_lit 324,⟨.type "type",none,.cls ⟨"Words",[.type "object"],[.ref 324,.type "object"],323,"Words",true,[],[],false,none,false⟩,#[none,none,some (kS "Words" 636),some (kS "Words" 644),some (.builtin "object.__new__"),some (.bool true)]⟩) ::
 (nat_lit 334,kG "read_bet" 693 280 2 329 330 331 332 333 701) ::
 (nat_lit 335,kH "read_bet" i9 qJ 334) ::
 (nat_lit 341,kG "check_line" 704 290 1 336 337 338 339 340 710) ::
 (nat_lit 342,kH "check_line" fU qJ 341) ::
 (nat_lit 348,kG "read_words" 713 298 2 343 344 345 346 347 726) ::
 (nat_lit 349,kH "read_words" fS qJ 348) ::
 (nat_lit 355,kG "take_pool" 729 315 2 350 351 352 353 354 737) ::
 (nat_lit 356,kH "take_pool" gQ qJ 355) ::
 (nat_lit 362,kG "take_stake" 740 321 2 357 358 359 360 361 746) ::
 (nat_lit 363,kH "take_stake" fZ qJ 362) ::
 (nat_lit 369,kG "take_how" 749 326 2 364 365 366 367 368 754) ::
 (nat_lit 370,kH "take_how" iG qJ 369) ::
 (nat_lit 376,kG "take_sets" 757 331 3 371 372 373 374 375 764) ::
 (nat_lit 377,kH "take_sets" gU qJ 376) ::
 (nat_lit 383,kG "take_on" 767 338 2 378 379 380 381 382 774) ::
 (nat_lit 384,kH "take_on" jT qJ 383) ::
 (nat_lit 390,kG "take_box" 777 345 3 385 386 387 388 389 784) ::
 (nat_lit 391,kH "take_box" iL qJ 390) ::
 (nat_lit 395,kC "take_key" "take_key" 787 350 3 3 392 true 181 393 .none .none .none (.ref 394) 790) ::
 (nat_lit 396,kH "take_key" i5 qJ 395) ::
 (nat_lit 402,kG "take_set" 793 359 2 397 398 399 400 401 801) ::
 (nat_lit 403,kH "take_set" iU qJ 402) ::
 (nat_lit 409,kG "rows_of" 804 367 3 404 405 406 407 408 811) ::
 (nat_lit 410,kH "rows_of" ko qJ 409) ::
 (nat_lit 416,kG "judge" 829 380 2 411 412 413 414 415 836) ::
 (nat_lit 417,kH "judge" gS JY 416) ::
 (nat_lit 423,kG "look_at" 839 385 2 418 419 420 421 422 846) ::
 (nat_lit 424,kH "look_at" j0 JY 423) ::
 (nat_lit 428,kC "look_at_all" "look_at_all" 849 390 2 3 425 true 181 426 .none .none .none (.ref 427) 852) ::
 (nat_lit 429,kH "look_at_all" fq JY 428)::[]
def Ay:List Nat:=[3,6,20,21,27,28,32,33,37,38,44,45,46,47,48,49,50,51,52,53,54,55,56,57,58,71,72,73,74,75,83,84,90,91,95,96,102,103,109,110,114,115,121,122,126,127,133,134,138,139,143,144,148,149,153,154,158,159,165,166,172,173,186,187,191,192,198,199,205,206,207,208,209,219,220,224,225,231,232,236,237,238,251,252,253,254,255,271,272,278,279,280,281,282,299,300,306,307,313,314,320,321,322,323,324,334,335,341,342,348,349,355,356,362,363,369,370,376,377,383,384,390,391,395,396,402,403,409,410,416,417,423,424,428,429]
def IC:List Str:=List.map Str.ofString ["_wall","LETTERS","DIGITS","MOST_NAME","MOST_DIGITS","sign_of","text_of","is_name","number_of","MOST_RACES","MOST_POOLS","MOST_COUPLES","MOST_RUNNERS","SIZES","FIXED","POOL_WORDS","Pool","read_card","is_day","read_race","read_pools","read_pool","has_pool_form","are_terms_good","fields_of","product_of","without","count_legs","count_orders","is_of","count_different","picks_of","count_starts","Rows","rows_on","rows_box","rows_key","seatings","NOT_ENDED","BAD_BYTE","BAD_WORD","BAD_NUMBER","NO_POOL","NO_COMBINATION","TOO_DEAR","MORE_BYTES","LINE_END","BLANK","MOST_STAKE","MOST_COST","ON","BOX","WAYS","Fault","Bet","Words","read_bet","check_line","read_words","take_pool","take_stake","take_how","take_sets","take_on","take_box","take_key","take_set","rows_of","TOO_LONG","FAULTY_BET","NO_CARD","MOST_CARD","MOST_BET","judge","look_at","look_at_all"]
end Bw
end
section
set_option autoImplicit false
set_option linter.all false
set_option maxRecDepth 100000
set_option maxHeartbeats 0
namespace Bw
open PySem PyProof.Rows L2
theorem AE (P:Params):Ay=(om P).map (·.1):=by kernel_rfl
def qV:Program:={PySem.Challenge.pw_betwords_s01_judge with main:={PySem.Challenge.pw_betwords_s01_judge.main with body:=[gS]}}
def lV:List Str:=IC.filter λk=>k != "judge"
def xV (s:Shared):Bool:=PySem.W.xlAt qV [] s&&PySem.W.recOk [] s
def dV:DefRec:=match gS with
 |.FunctionDef n a b _ _ _ c _ _ p=>⟨n,a,b,c,p⟩
 |_=>⟨"",cU gS,[],aw gS,⟨0,0,0,0⟩⟩
theorem gA0 {a b c:Type}{o:Option a}{f:a->b}{g:a->c}{x:b}{y:c}(h:o.map f=some x)(k:o.map g=some y):o.map (fun s=>(f s,g s))=some (x,y):=by
 cases o with
 |none=>cases h
 |some z=>cases h;cases k;rfl
theorem gA1 {a b c:Type}{o:Option a}{f:a->b×c}{x:b×c}(h:o.map (fun s=>(f s).1)=some x.1)(k:o.map (fun s=>(f s).2)=some x.2):o.map f=some x:=by
 cases o with
 |none=>cases h
 |some z=>exact congrArg some (Prod.ext (Option.some.inj h) (Option.some.inj k))
theorem gA2 {a b:Type}{o:Option a}{f:a->List b}{x:List b}(n:Nat)(h:o.map (fun s=>List.take n (f s))=some (List.take n x))(k:o.map (fun s=>List.drop n (f s))=some (List.drop n x)):o.map f=some x:=by
 cases o with
 |none=>cases h
 |some z=>exact congrArg some ((List.take_append_drop n (f z)).symm.trans ((congr (congrArg _ (Option.some.inj h)) (Option.some.inj k)).trans (List.take_append_drop n x)))
theorem gB01 (w:World):(PySem.W.openEnds treeTable PySem.Challenge.pw_betwords_s01_judge (w.withFollow "special-get-raises" false) 5200).map (fun s=>(PySem.W.openSeen qV lV (importedModules PySem.Challenge.pw_betwords_s01_judge.main.body) xV true s).1)=some (PySem.W.openGood qV lV).1:=by kernel_rfl
theorem gB02 (w:World):(PySem.W.openEnds treeTable PySem.Challenge.pw_betwords_s01_judge (w.withFollow "special-get-raises" false) 5200).map (fun s=>(PySem.W.openSeen qV lV (importedModules PySem.Challenge.pw_betwords_s01_judge.main.body) xV true s).2)=some (PySem.W.openGood qV lV).2:=by kernel_rfl
theorem gB03 (w:World):(PySem.W.openEnds treeTable PySem.Challenge.pw_betwords_s01_judge (w.withFollow "special-get-raises" false) 5200).map (fun s=>List.take 68 ((PySem.W.kHook Bw.om Bw.Ay Bw.AE).obs s))=some (List.take 68 ((PySem.W.kHook Bw.om Bw.Ay Bw.AE).val (w.withFollow "special-get-raises" false))):=by kernel_rfl
theorem gB04 (w:World):(PySem.W.openEnds treeTable PySem.Challenge.pw_betwords_s01_judge (w.withFollow "special-get-raises" false) 5200).map (fun s=>List.drop 68 ((PySem.W.kHook Bw.om Bw.Ay Bw.AE).obs s))=some (List.drop 68 ((PySem.W.kHook Bw.om Bw.Ay Bw.AE).val (w.withFollow "special-get-raises" false))):=by kernel_rfl
theorem Lr (w:World):(PySem.W.openEnds treeTable PySem.Challenge.pw_betwords_s01_judge (w.withFollow "special-get-raises" false) 5200).map (fun s=>(PySem.W.openSeen qV lV (importedModules PySem.Challenge.pw_betwords_s01_judge.main.body) xV true s,(PySem.W.kHook Bw.om Bw.Ay Bw.AE).obs s))=some (PySem.W.openGood qV lV,(PySem.W.kHook Bw.om Bw.Ay Bw.AE).val (w.withFollow "special-get-raises" false)):=gA0 (gA1 (gB01 w) (gB02 w)) (gA2 68 (gB03 w) (gB04 w))
theorem gB11 (w:World):(PySem.W.openEnds treeTable PySem.Challenge.pw_betwords_s01_judge (w.withFollow "special-get-raises" true) 5200).map (fun s=>(PySem.W.openSeen qV lV (importedModules PySem.Challenge.pw_betwords_s01_judge.main.body) xV true s).1)=some (PySem.W.openGood qV lV).1:=by kernel_rfl
theorem gB12 (w:World):(PySem.W.openEnds treeTable PySem.Challenge.pw_betwords_s01_judge (w.withFollow "special-get-raises" true) 5200).map (fun s=>(PySem.W.openSeen qV lV (importedModules PySem.Challenge.pw_betwords_s01_judge.main.body) xV true s).2)=some (PySem.W.openGood qV lV).2:=by kernel_rfl
theorem gB13 (w:World):(PySem.W.openEnds treeTable PySem.Challenge.pw_betwords_s01_judge (w.withFollow "special-get-raises" true) 5200).map (fun s=>List.take 68 ((PySem.W.kHook Bw.om Bw.Ay Bw.AE).obs s))=some (List.take 68 ((PySem.W.kHook Bw.om Bw.Ay Bw.AE).val (w.withFollow "special-get-raises" true))):=by kernel_rfl
theorem gB14 (w:World):(PySem.W.openEnds treeTable PySem.Challenge.pw_betwords_s01_judge (w.withFollow "special-get-raises" true) 5200).map (fun s=>List.drop 68 ((PySem.W.kHook Bw.om Bw.Ay Bw.AE).obs s))=some (List.drop 68 ((PySem.W.kHook Bw.om Bw.Ay Bw.AE).val (w.withFollow "special-get-raises" true))):=by kernel_rfl
theorem Lm (w:World):(PySem.W.openEnds treeTable PySem.Challenge.pw_betwords_s01_judge (w.withFollow "special-get-raises" true) 5200).map (fun s=>(PySem.W.openSeen qV lV (importedModules PySem.Challenge.pw_betwords_s01_judge.main.body) xV true s,(PySem.W.kHook Bw.om Bw.Ay Bw.AE).obs s))=some (PySem.W.openGood qV lV,(PySem.W.kHook Bw.om Bw.Ay Bw.AE).val (w.withFollow "special-get-raises" true)):=gA0 (gA1 (gB11 w) (gB12 w)) (gA2 68 (gB13 w) (gB14 w))
theorem hl:PySem.W.LeftO PySem.Challenge.pw_betwords_s01_judge qV lV xV (PySem.W.kHook Bw.om Bw.Ay Bw.AE).obs (PySem.W.kHook Bw.om Bw.Ay Bw.AE).val 5200:=PySem.W.byRow2 "special-get-raises" Lr Lm
end Bw
end
section
set_option autoImplicit false
set_option linter.all false
namespace Bw
open Tote
theorem sum_map_add {α:Type}(f g:α->Nat):∀l:List α,(l.map λx=>f x+g x).sum=(l.map f).sum+(l.map g).sum
 |[]=>rfl
 |x::l=>by
  simp only[XE,YW,sum_map_add f g l];omega
theorem sum_map_congr {α:Type}{f g:α->Nat}:∀{l:List α},(∀x∈l,f x=g x)->(l.map f).sum=(l.map g).sum
 |[],_=>rfl
 |x::l,h=>by
  simp only[XE,YW];rw[h x (by simp),sum_map_congr λy hy=>h y (by simp[hy])]
theorem sum_map_const {α:Type}(c:Nat):∀l:List α,(l.map λ_=>c).sum=l.length*c
 |[]=>by simp
 |x::l=>by
  simp only[XE,YW,sum_map_const c l,Xz,Nat.add_mul];omega
theorem fD {α β:Type}(f:α->List β):∀l:List α,(l.flatMap f).length=(l.map λx=>(f x).length).sum
 |[]=>rfl
 |x::l=>by simp[ZK,fD f l]
theorem nH {α:Type}(p:α->Bool)(c d:Nat):∀l:List α,(l.map λx=>if p x=true then c else d).sum=(l.filter p).length*c+(l.filter λx=>!p x).length*d
 |[]=>by simp
 |x::l=>by
  have ih:=nH p c d l;simp only[XE,YW,YB];by_cases h:p x=true
  · simp only[h,Y8,Bool.not_true,YO,Zm,Xz,Nat.add_mul,ih];omega
  · have h':p x=false:=by simpa using h
    simp only[h',YO,Zm,Bool.not_false,Y8,Xz,Nat.add_mul,ih];omega
section
variable (A u:Z_)
end
theorem iI:∀(k:Nat) (l r:Z_),r∈risingRows k l->r.Sublist l
 |0,_,r,h=>by
  have:r=[]:=by simpa [risingRows] using h
  subst this;exact List.nil_sublist _
 |k+1,[],r,h=>by simp[risingRows] at h
 |k+1,x::l,r,h=>by
  rw[risingRows,Yd] at h;rcases h with h|h
  · obtain⟨q,hq,rfl⟩:=XY.mp h;exact (iI k l q hq).cons₂ x
  · exact (iI (k+1) l r h).cons x
def dj:Z9->(Nat->Bool)->Nat
 |[],_=>1
 |s::ss,p=>((s.filter p).map λy=>dj ss λz=>p z&&z != y).sum
theorem gC:∀(ss:Z9) {p q:Nat->Bool},(∀s∈ss,∀y∈s,p y=q y)->dj ss p=dj ss q
 |[],_,_,_=>rfl
 |s::ss,p,q,h=>by
  unfold dj;have e:s.filter p=s.filter q:=List.filter_congr λy hy=>h s (by simp) y hy;rw[e];refine sum_map_congr λy _=>gC ss λt ht z hz=>?_;rw[h t (by simp[ht]) z hz]
theorem rJ:∀(ss:Z9) (had:Z_),(apartRows ss had).length=dj ss λz=>!had.contains z
 |[],_=>rfl
 |s::ss,had=>by
  unfold dj;rw[apartRows,fD];refine sum_map_congr λy _=>?_;rw[Xn,rJ ss (y::had)];refine gC ss λt _ z _=>?_;simp only[Yw,Xr];by_cases c1:z∈had <;> by_cases c2:z=y <;> simp[c1,c2]
def outs (x:Nat):Z9->List (Z9)
 |[]=>[]
 |s::ss=>(if s.contains x=true then [ss] else [])++(outs x ss).map λr=>s::r
theorem kM {α β:Type}(f:α->β->Nat):∀(l:List α) (m:List β),(l.map λx=>(m.map λy=>f x y).sum).sum=(m.map λy=>(l.map λx=>f x y).sum).sum
 |[],m=>by
  simp only[YN,List.sum_nil];rw[sum_map_const 0 m];simp
 |x::l,m=>by
  simp only[XE,YW];rw[kM f l m,←sum_map_add]
theorem lz {x:Nat}:∀{s:Z_},s.Nodup->s.filter (λy=>y==x)=if s.contains x=true then [x] else []
 |[],_=>rfl
 |y::s,nd=>by
  obtain⟨h1,h2⟩:=YA.mp nd;have ih:=lz (x:=x) h2;by_cases e:y=x
  · subst e;have:s.filter (λz=>z==y)=[]:=List.filter_eq_nil_iff.mpr λz hz c=>h1 ((Ye.mp c) ▸ hz);simp[this]
  · have e':¬x=y:=λz=>e z.symm;rw[YB,Xo (by simp[e]),ih];simp[e']
theorem kU {f:Nat->Nat}{p q:Nat->Bool}(hd:∀y,p y=true->q y=false):∀l:Z_,((l.filter λy=>p y||q y).map f).sum=((l.filter p).map f).sum+((l.filter q).map f).sum
 |[]=>rfl
 |y::l=>by
  have ih:=kU (f:=f) hd l;rw[YB,YB,YB];by_cases c:p y=true
  · have:=hd y c;simp only[c,this,ZD,Y8,YO,Zm,XE,YW,ih];omega
  · have c':p y=false:=by simpa using c
    by_cases c2:q y=true
    · simp only[c',c2,Bool.or_true,Y8,YO,Zm,XE,YW,ih];omega
    · have NY:q y=false:=by simpa using c2
      simp only[c',NY,ZD,YO,Zm,ih]
theorem sf (x:Nat):∀(ss:Z9) (p:Nat->Bool),(∀s∈ss,s.Nodup)->p x=false ->
  dj ss (λz=>p z||z==x)=dj ss p+((outs x ss).map λr=>dj r p).sum
 |[],_,_,_=>rfl
 |s::ss,p,nd,hx=>by
  have TX:s.Nodup:=nd s (by simp);have TY:∀t∈ss,t.Nodup:=λt ht=>nd t (by simp[ht]);have L4:∀y,p y=true->(y==x)=false:=λy hy=>by
   by_cases e:y=x
   · rw[e,hx] at hy;cases hy
   · simp[e]
  show ((s.filter λz=>p z||z==x).map λy=>dj ss λz=>(p z||z==x)&&z != y).sum=_;rw[kU (q:=λy=>y==x) L4,lz TX];have e1:((s.filter p).map λy=>dj ss λz=>(p z||z==x)&&z != y).sum
    = ((s.filter p).map λy=>dj ss (λz=>p z&&z != y)+((outs x ss).map λr=>dj r λz=>p z&&z != y).sum).sum:=by
   refine sum_map_congr λy hy=>?_;have py:p y=true:=(Yy.mp hy).2;have ne:x≠y:=λe=>by rw[e,py] at hx;cases hx
   rw[←sf x ss (λz=>p z&&z != y) TY (by simp[hx])];refine gC ss λt _ z _=>?_;show ((p z||z==x)&&z != y)=(p z&&z != y||z==x);cases TZ:p z <;> by_cases c:z=x <;> by_cases d:z=y <;> simp_all
  rw[e1,sum_map_add,kM (λy r=>dj r λz=>p z&&z != y)];have e2:(((if s.contains x=true then [x] else []:Z_)).map λy=>dj ss λz=>(p z||z==x)&&z != y).sum
    = (((if s.contains x=true then [ss] else []:List (Z9))).map λr=>dj r p).sum:=by
   by_cases c:s.contains x=true
   · rw[Xp c,Xp c];simp only[XE,YN,YW,List.sum_nil,Nat.add_zero];refine gC ss λt _ z _=>?_;show ((p z||z==x)&&z != x)=p z;cases TZ:p z <;> by_cases d:z=x <;> simp_all
   · rw[Xo c,Xo c];rfl
  rw[e2];show _=dj (s::ss) p+(((if s.contains x=true then [ss] else [])++(outs x ss).map λr=>s::r).map λr=>dj r p).sum;rw[XH,List.sum_append,XR];show ((s.filter p).map λy=>dj ss λz=>p z&&z != y).sum+((outs x ss).map λr=>((s.filter p).map λy=>dj r λz=>p z&&z != y).sum).sum+_
   = ((s.filter p).map λy=>dj ss λz=>p z&&z != y).sum+(_+((outs x ss).map λr=>((s.filter p).map λy=>dj r λz=>p z&&z != y).sum).sum)
  omega
def sel:Nat->Z9->Z9
 |_,[]=>[]
 |m,s::ss=>(if m % 2=1 then [s] else [])++sel (m / 2) ss
def bitsOf (x:Nat):Nat->Z9->Z_
 |_,[]=>[]
 |b,s::ss=>(if s.contains x=true then [b] else [])++bitsOf x (2*b) ss
theorem nI (x:Nat):∀(ss:Z9) (b:Nat),bitsOf x (2*b) ss=(bitsOf x b ss).map λc=>2*c
 |[],_=>rfl
 |s::ss,b=>by
  unfold bitsOf;rw[XH,nI x ss (2*b)];congr 1;by_cases c:s.contains x=true
  · simp only[Xp c];rfl
  · simp only[Xo c];rfl
def bB (m b:Nat):Bool:=m / b % 2==1
theorem pI (m:Nat)(s:Z_)(ss:Z9):sel m (s::ss)=(if m % 2=1 then [s] else [])++sel (m / 2) ss:=rfl
theorem vP:∀ss:Z9,sel 0 ss=[]
 |[]=>rfl
 |s::ss=>by
  unfold sel;rw[vP ss];rfl
theorem vh (x:Nat):∀(ss:Z9) (m:Nat),outs x (sel m ss)=((bitsOf x 1 ss).filter (bB m)).map λb=>sel (m - b) ss
 |[],_=>rfl
 |s::ss,m=>by
  have ih:=vh x ss (m / 2);have e1:bitsOf x 1 (s::ss)=(if s.contains x=true then [1] else [])++(bitsOf x 1 ss).map λc=>2*c:=by
   show (if s.contains x=true then [1] else [])++bitsOf x (2*1) ss=_;rw[nI]
  have f1:∀c,bB m (2*c)=bB (m / 2) c:=λc=>by
   unfold bB;rw[Nat.div_div_eq_div_mul]
  have e2:(((bitsOf x 1 ss).map λc=>2*c).filter (bB m))=((bitsOf x 1 ss).filter (bB (m / 2))).map λc=>2*c:=by
   rw[List.filter_map];congr 1;exact List.filter_congr λc _=>f1 c
  rw[e1,Zi,XH,e2,XR];have big:∀c∈(bitsOf x 1 ss).filter (bB (m / 2)),c<=m / 2:=λc hc=>by
   have h:=(Yy.mp hc).2;unfold bB at h;have h':m / 2 / c % 2=1:=by simpa using h
   by_cases z:c<=m / 2
   · exact z
   · rw[Nat.div_eq_of_lt (by omega)] at h';simp at h'
  have e3:((bitsOf x 1 ss).filter (bB (m / 2))).map ((λb=>sel (m - b) (s::ss)) ∘ λc=>2*c)
    = ((bitsOf x 1 ss).filter (bB (m / 2))).map λc=>(if m % 2=1 then [s] else [])++sel (m / 2 - c) ss:=by
   refine Yi λc hc=>?_;have:=big c hc;show (if (m - 2*c) % 2=1 then [s] else [])++sel ((m - 2*c) / 2) ss=_;have a1:(m - 2*c) % 2=m % 2:=by omega
   have a2:(m - 2*c) / 2=m / 2 - c:=by omega
   rw[a1,a2]
  rw[e3,pI];by_cases odd:m % 2=1
  · simp only[Xp odd,List.singleton_append];have Nu:bB m 1=true:=by unfold bB;simp[odd]
    rw[outs,ih,XR];congr 1;by_cases c:s.contains x=true
    · simp only[Xp c,YB,Nu,Y8,List.filter_nil,XE,YN];have a1:¬(m - 1) % 2=1:=by omega
      have a2:(m - 1) / 2=m / 2:=by omega
      rw[pI,Xo a1,a2];rfl
    · simp only[Xo c];rfl
  · have Nu:bB m 1=false:=by unfold bB;simp[odd]
    simp only[Xo odd,Yk];rw[ih];by_cases c:s.contains x=true
    · simp only[Xp c,YB,Nu,YO,Zm,List.filter_nil,YN,Yk]
    · simp only[Xo c,List.filter_nil,YN,Yk]
theorem yi:∀{ss:Z9} {m:Nat} {s:Z_},s∈sel m ss->s∈ss
 |[],_,_,h=>by simp[sel] at h
 |t::ss,m,s,h=>by
  unfold sel at h;rcases Yd.mp h with h|h
  · by_cases c:m % 2=1
    · rw[Xp c] at h;simp at h;simp[h]
    · rw[Xo c] at h;simp at h
  · exact XG _ (yi h)
theorem uT:∀ss:Z9,sel (2 ^ ss.length - 1) ss=ss
 |[]=>rfl
 |s::ss=>by
  have hp:0 < 2 ^ ss.length:=Nat.two_pow_pos _;have e:2 ^ (s::ss).length - 1=2*(2 ^ ss.length - 1)+1:=by
   rw[Xz,Zs];omega
  unfold sel;rw[e];have a1:(2*(2 ^ ss.length - 1)+1) % 2=1:=by omega
  have a2:(2*(2 ^ ss.length - 1)+1) / 2=2 ^ ss.length - 1:=by omega
  rw[Xp a1,a2,uT ss];rfl
theorem zY (x m:Nat)(ss:Z9)(p:Nat->Bool)(nd:∀s∈ss,s.Nodup)(hx:p x=false) :
  dj (sel m ss) (λz=>p z||z==x)=dj (sel m ss) p+(((bitsOf x 1 ss).filter (bB m)).map λb=>dj (sel (m - b) ss) p).sum:=by
 rw[sf x (sel m ss) p (λs hs=>nd s (yi hs)) hx,vh,XR];rfl
abbrev cn (l:Z_):Prop:=l.Pairwise (· < ·)
theorem j9:∀l:Z_,risesN l=true↔cn l
 |[]=>by simp[risesN]
 |[x]=>by simp[risesN]
 |x::y::l=>by
  have ih:=j9 (y::l);rw[risesN,Xv,YV,ih];constructor
  · rintro⟨h1,h2⟩;refine YH.mpr ⟨λz hz=>?_,h2⟩;rcases Xr.mp hz with rfl|hz
    · exact h1
    · exact Nat.lt_trans h1 ((YH.mp h2).1 z hz)
  · intro h;obtain⟨h1,h2⟩:=YH.mp h;exact⟨h1 y (by simp),h2⟩
theorem cn.nodup {l:Z_}(h:cn l):l.Nodup:=List.Pairwise.imp (λh=>X1 h) h
theorem hX {α:Type} [DecidableEq α]:∀{l m:List α},l.Nodup->(∀x∈l,x∈m)->l.length<=m.length
 |[],_,_,_=>XW _
 |x::l,m,nd,h=>by
  obtain⟨h1,h2⟩:=YA.mp nd;have hx:x∈m:=h x (by simp);have ih:=hX (l:=l) (m:=m.erase x) h2 λy hy=>by
   have:y≠x:=λe=>h1 (e ▸ hy);exact (ZU this).mpr (h y (by simp[hy]))
  have e:=Y7 hx;have:0 < m.length:=ZI hx;rw[Xz];omega
def fM (n:Nat):Z_->Z_
 |[]=>[n]
 |x::r=>if n < x then n::x::r else x::fM n r
theorem lW {n y:Nat}:∀{l:Z_},y∈fM n l↔y=n∨y∈l
 |[]=>by simp[fM]
 |x::r=>by
  unfold fM;by_cases c:n < x
  · rw[Xp c];simp
  · rw[Xo c,Xr,lW (l:=r),Xr];constructor
    · rintro (h|h|h) <;> simp[h]
    · rintro (h|h|h) <;> simp[h]
theorem lA {n:Nat}:∀{l:Z_},cn l->¬n∈l->cn (fM n l)
 |[],_,_=>by simp[fM]
 |x::r,h,hn=>by
  obtain⟨h1,h2⟩:=YH.mp h;unfold fM;by_cases c:n < x
  · rw[Xp c];refine YH.mpr ⟨λz hz=>?_,h⟩;rcases Xr.mp hz with rfl|hz
    · exact c
    · exact Nat.lt_trans c (h1 z hz)
  · rw[Xo c];have ne:n≠x:=λe=>hn (by simp[e]);refine YH.mpr ⟨λz hz=>?_,lA h2 λm=>hn (by simp[m])⟩;rcases lW.mp hz with rfl|hz
    · omega
    · exact h1 z hz
theorem p_ {n:Nat}:∀{l:Z_},cn l->n∈l->fM n (l.erase n)=l
 |[],_,h=>by simp at h
 |x::r,h,hn=>by
  obtain⟨h1,h2⟩:=YH.mp h;by_cases e:x=n
  · subst e;rw[List.erase_cons_head];cases r with
    |nil=>rfl
    |cons y r=>unfold fM;rw[Xp (h1 y (by simp))]
  · have ML:n∈r:=by
     rcases Xr.mp hn with z|z
     · exact absurd z.symm e
     · exact z
    rw[List.erase_cons_tail (by simpa using e)];have:=h1 n ML;unfold fM;rw[Xo (by omega),p_ h2 ML]
theorem pX {n:Nat}:∀{l:Z_},¬n∈l->(fM n l).erase n=l
 |[],_=>by simp[fM]
 |x::r,h=>by
  have ne:x≠n:=λe=>h (by simp[e]);unfold fM;by_cases c:n < x
  · rw[Xp c,List.erase_cons_head]
  · rw[Xo c,List.erase_cons_tail (by simpa using ne),pX λm=>h (by simp[m])]
def jQ (K:Z9)(k:Z_):Z9:=if K.contains k=true then K else K++[k]
def cu (pick:Z_)(K:Z9)(n:Nat):Z9:=if pick.contains n=true then K else jQ K (fM n pick)
def cO (s:Z_)(K:Z9)(pick:Z_):Z9:=s.foldl (cu pick) K
def eY (picks:Z9)(s:Z_):Z9:=picks.foldl (cO s) []
def bx (ss:Z9):Z9:=ss.foldl eY [[]]
theorem xA {K:Z9}{k r:Z_}:r∈jQ K k↔r∈K∨r=k:=by
 unfold jQ;by_cases c:K.contains k=true
 · rw[Xp c];have c':k∈K:=by simpa using c
   exact⟨.inl,λh=>h.elim id λe=>e ▸ c'⟩
 · rw[Xo c];simp
theorem mm {K:Z9}{k:Z_}(h:K.Nodup):(jQ K k).Nodup:=by
 unfold jQ;by_cases c:K.contains k=true
 · rw[Xp c];exact h
 · rw[Xo c];have c':¬k∈K:=by simpa using c
   refine Y5.mpr ⟨h,by simp,λa ha b hb=>?_⟩;have:b=k:=by simpa using hb
   subst this;exact λe=>c' (e ▸ ha)
theorem pF {pick r:Z_}:∀{s:Z_} {K:Z9},r∈cO s K pick↔r∈K∨∃n∈s,¬n∈pick/\r=fM n pick
 |[],K=>by simp[cO]
 |n::s,K=>by
  show r∈cO s (cu pick K n) pick↔_;rw[pF (s:=s)];unfold cu;by_cases c:pick.contains n=true
  · rw[Xp c];have c':n∈pick:=by simpa using c
    constructor
    · rintro (h|⟨m,hm,h1,h2⟩)
      · exact .inl h
      · exact .inr ⟨m,by simp[hm],h1,h2⟩
    · rintro (h|⟨m,hm,h1,h2⟩)
      · exact .inl h
      · rcases Xr.mp hm with rfl|hm
        · exact absurd c' h1
        · exact .inr ⟨m,hm,h1,h2⟩
  · rw[Xo c,xA];have c':¬n∈pick:=by simpa using c
    constructor
    · rintro ((h|h)|⟨m,hm,h1,h2⟩)
      · exact .inl h
      · exact .inr ⟨n,by simp,c',h⟩
      · exact .inr ⟨m,by simp[hm],h1,h2⟩
    · rintro (h|⟨m,hm,h1,h2⟩)
      · exact .inl (.inl h)
      · rcases Xr.mp hm with rfl|hm
        · exact .inl (.inr h2)
        · exact .inr ⟨m,hm,h1,h2⟩
theorem mj {pick:Z_}:∀{s:Z_} {K:Z9},K.Nodup->(cO s K pick).Nodup
 |[],_,h=>h
 |n::s,K,h=>by
  show (cO s (cu pick K n) pick).Nodup;refine mj (s:=s) ?_;unfold cu;by_cases c:pick.contains n=true
  · rw[Xp c];exact h
  · rw[Xo c];exact mm h
theorem uI {s r:Z_}:∀{picks K:Z9},r∈picks.foldl (cO s) K↔r∈K∨∃pick∈picks,∃n∈s,¬n∈pick/\r=fM n pick
 |[],K=>by simp
 |p::ps,K=>by
  rw[YU,uI (picks:=ps),pF];constructor
  · rintro ((h|h)|⟨q,hq,h⟩)
    · exact .inl h
    · exact .inr ⟨p,by simp,h⟩
    · exact .inr ⟨q,by simp[hq],h⟩
  · rintro (h|⟨q,hq,h⟩)
    · exact .inl (.inl h)
    · rcases Xr.mp hq with rfl|hq
      · exact .inl (.inr h)
      · exact .inr ⟨q,hq,h⟩
theorem qc {s:Z_}:∀{picks K:Z9},K.Nodup->(picks.foldl (cO s) K).Nodup
 |[],_,h=>h
 |p::ps,K,h=>by
  rw[YU];exact qc (picks:=ps) (mj h)
theorem snoc_ind {α:Type}{P:List α->Prop}(h0:P [])(h1:∀l a,P l->P (l++[a]))(l:List α):P l:=by
 have:∀m:List α,P m.reverse:=λm=>by
  induction m with
  |nil=>exact h0
  |cons a m ih=>rw[List.reverse_cons];exact h1 _ a ih
 have h:=this l.reverse
 rwa [List.reverse_reverse] at h
theorem dZ {row s:Z_}{t:Z9}:fillsSets row (s::t)=true↔∃x∈row,x∈s/\fillsSets (row.erase x) t=true:=by
 show (row.any λ(x:Nat)=>s.contains x&&fillsSets (row.erase x) t)=true↔_;rw[Y2];constructor
 · rintro⟨x,hx,h⟩;rw[Xv] at h;exact⟨x,hx,by simpa using h.1,h.2⟩
 · rintro⟨x,hx,h1,h2⟩;exact⟨x,hx,by rw[Xv];exact⟨by simpa using h1,h2⟩⟩
theorem mN {row:Z_}:fillsSets row []=true↔row=[]:=by
 show row.isEmpty=true↔_;exact Y1
theorem jq {x y:Nat}{l:Z_}(hy:y∈l)(hx:x∈l.erase y):x∈l/\y∈l.erase x:=by
 refine⟨List.mem_of_mem_erase hx,?_⟩;by_cases e:y=x
 · subst e;exact hx
 · exact (ZU e).mpr hy
theorem k6 {s:Z_}:∀{ss:Z9} {row:Z_},fillsSets row (ss++[s])=true↔∃x∈row,x∈s/\fillsSets (row.erase x) ss=true
 |[],row=>by rw[Yk,dZ]
 |t::ss,row=>by
  rw[Zv,dZ];constructor
  · rintro⟨y,hy,MT,h⟩;obtain⟨x,hx,Mv,h⟩:=k6.mp h;obtain⟨a,b⟩:=jq hy hx;exact⟨x,a,Mv,dZ.mpr ⟨y,b,MT,by rw[List.erase_comm];exact h⟩⟩
  · rintro⟨x,hx,Mv,h⟩;obtain⟨y,hy,MT,h⟩:=dZ.mp h;obtain⟨a,b⟩:=jq hx hy;exact⟨y,a,MT,k6.mpr ⟨x,b,Mv,by rw[List.erase_comm];exact h⟩⟩
theorem cn.erase {l:Z_}(n:Nat)(h:cn l):cn (l.erase n):=List.Pairwise.sublist List.erase_sublist h
theorem n_ {n:Nat}{l:Z_}(h:l.Nodup):¬n∈l.erase n:=λm=>by
 have:=(h.mem_erase_iff).mp m;exact this.1 rfl
theorem jd (ss:Z9)(s:Z_):bx (ss++[s])=eY (bx ss) s:=by
 unfold bx;rw[List.foldl_append];rfl
theorem j4 (ss:Z9):∀r,r∈bx ss↔cn r/\fillsSets r ss=true:=by
 refine snoc_ind (P:=λss=>∀r,r∈bx ss↔cn r/\fillsSets r ss=true) ?_ ?_ ss
 · intro r;show r∈([[]]:Z9)↔_;rw[mN,XC];constructor
   · rintro rfl;exact⟨List.Pairwise.nil,rfl⟩
   · exact λh=>h.2
 · intro ss s ih r;rw[jd];unfold eY;rw[uI,k6];constructor
   · rintro (h|⟨p,hp,n,hn,h1,rfl⟩)
     · simp at h
     · obtain⟨rp,fp⟩:=(ih p).mp hp;exact⟨lA rp h1,n,lW.mpr (.inl rfl),hn,by rw[pX h1];exact fp⟩
   · rintro⟨hr,n,hn,hs,h⟩;exact .inr ⟨r.erase n,(ih _).mpr ⟨hr.erase n,h⟩,n,hs,n_ hr.nodup,(p_ hr hn).symm⟩
theorem vd (ss:Z9):(bx ss).Nodup:=by
 refine snoc_ind (P:=λss=>(bx ss).Nodup) ?_ ?_ ss
 · show ([[]]:Z9).Nodup;simp
 · intro ss s _;rw[jd];exact qc List.nodup_nil
theorem j2:∀{ss:Z9} {row:Z_},fillsSets row ss=true->row.length=ss.length/\∀x∈row,∃s∈ss,x∈s
 |[],row,h=>by
  have:=mN.mp h;subst this;exact⟨rfl,λx hx=>by simp at hx⟩
 |t::ss,row,h=>by
  obtain⟨y,hy,MT,h⟩:=dZ.mp h;obtain⟨h1,h2⟩:=j2 h;have e:=Y7 hy;have:0 < row.length:=ZI hy;refine⟨by rw[Xz];omega,λx hx=>?_⟩;by_cases c:x=y
  · subst c;exact⟨t,by simp,MT⟩
  · obtain⟨s,hs,Mv⟩:=h2 x ((ZU c).mpr hx);exact⟨s,by simp[hs],Mv⟩
theorem i_:∀{k:Nat} {l r:Z_},r.Sublist l->r.length=k->r∈risingRows k l
 |0,l,r,_,h=>by
  have:r=[]:=Ze.mp h;subst this;simp[risingRows]
 |k+1,_,_,.slnil,h=>by simp at h
 |k+1,x::l,r,.cons _ h',h=>by
  rw[risingRows,Yd];exact .inr (i_ h' h)
 |k+1,x::l,_::r,.cons_cons _ h',h=>by
  rw[risingRows,Yd];exact .inl (XY.mpr ⟨r,i_ h' (by simpa using h),rfl⟩)
theorem lj:∀(k:Nat) (l r:Z_),r∈risingRows k l->r.length=k
 |0,_,r,h=>by
  have:r=[]:=by simpa [risingRows] using h
  subst this;rfl
 |k+1,[],r,h=>by simp[risingRows] at h
 |k+1,x::l,r,h=>by
  rw[risingRows,Yd] at h;rcases h with h|h
  · obtain⟨q,hq,rfl⟩:=XY.mp h;rw[Xz,lj k l q hq]
  · exact lj (k+1) l r h
theorem iS:∀(k:Nat) (l:Z_),l.Nodup->(risingRows k l).Nodup
 |0,_,_=>by simp[risingRows]
 |k+1,[],_=>by simp[risingRows]
 |k+1,x::l,nd=>by
  obtain⟨h1,h2⟩:=YA.mp nd;rw[risingRows];refine Y5.mpr ⟨?_,iS (k+1) l h2,?_⟩
  · exact List.Pairwise.map _ (λa b (h:a≠b) e=>h (by injection e)) (iS k l h2)
  · intro a ha b hb e;obtain⟨q,_,rfl⟩:=XY.mp ha;subst e;exact h1 ((iI _ _ _ hb).subset (by simp))
theorem fJ:∀{u r:Z_},cn u->cn r->(∀x∈r,x∈u)->r.Sublist u
 |_,[],_,_,_=>List.nil_sublist _
 |[],x::r,_,_,h=>by simpa using h x (by simp)
 |y::u,x::r,hu,hr,h=>by
  obtain⟨u1,u2⟩:=YH.mp hu;obtain⟨r1,r2⟩:=YH.mp hr;by_cases e:x=y
  · subst e;refine (fJ u2 r2 λz hz=>?_).cons_cons x;rcases Xr.mp (h z (by simp[hz])) with q|q
    · have:=r1 z hz;omega
    · exact q
  · have hx:x∈u:=by
     rcases Xr.mp (h x (by simp)) with q|q
     · exact absurd q e
     · exact q
    refine (fJ u2 hr λz hz=>?_).cons y;have lt:=u1 x hx;rcases Xr.mp (h z hz) with q|q
    · subst q;rcases Xr.mp hz with q|q
      · exact absurd q.symm e
      · have:=r1 z q;omega
    · exact q
theorem fY {l:Z9}{x:Nat}:x∈together l↔x < 32/\∃s∈l,x∈s:=by
 unfold together;rw[Yy,Zc,Y2];constructor
 · rintro⟨h,s,hs,hx⟩;exact⟨h,s,hs,by simpa using hx⟩
 · rintro⟨h,s,hs,hx⟩;exact⟨h,s,hs,by simpa using hx⟩
theorem df (l:Z9):cn (together l):=List.Pairwise.filter _ List.pairwise_lt_range
structure bJ (heads s:Z_):Prop where
 rise:cn s
 sub:∀x∈s,x∈heads
structure cN (heads:Z_):Prop where
 rise:cn heads
 lo:∀x∈heads,1<=x
 hi:∀x∈heads,x<=24
def la (z:Nat):Bool:=decide (1<=z)&&decide (z<=24)
def fits:Z_->Z9->Prop
 |[],[]=>True
 |x::r,s::g=>x∈s/\fits r g
 |_,_=>False
theorem uW:∀{r:Z_} {g:Z9},fits r g->r.length=g.length
 |[],[],_=>rfl
 |_::_,_::_,h=>by simp[uW h.2]
 |[],_::_,h=>h.elim
 |_::_,[],h=>h.elim
theorem fj:∀{g:Z9} {had r:Z_},r∈apartRows g had↔fits r g/\r.Nodup/\∀x∈r,¬x∈had
 |[],_,[]=>by simp[apartRows,fits]
 |[],_,_::_=>by simp[apartRows,fits]
 |s::g,_,[]=>by simp[apartRows,fits]
 |s::g,had,x::r=>by
  simp only[apartRows,Zu,Yy,XY,List.cons.injEq,fits,YA,ZV];constructor
  · rintro⟨y,⟨h1,h2⟩,q,hq,rfl,rfl⟩;obtain⟨a,b,c⟩:=fj.mp hq;exact⟨⟨h1,a⟩,⟨λm=>c y m (by simp),b⟩,by simpa using h2,λz hz m=>c z hz (by simp[m])⟩
  · rintro⟨⟨h1,a⟩,⟨n,b⟩,h2,c⟩;refine⟨x,⟨h1,by simpa using h2⟩,r,fj.mpr ⟨a,b,λz hz m=>?_⟩,rfl,rfl⟩;rcases Xr.mp m with rfl|m
    · exact n hz
    · exact c z hz m
theorem o6 {x:Nat}{l:Z9}(h:l.Nodup):(l.map λr=>x::r).Nodup:=List.pairwise_map.mpr (List.Pairwise.imp (λn e=>n (List.cons.inj e).2) h)
theorem vk {f:Nat->Z9}{s:Z_}(hs:s.Nodup)(h:∀x∈s,(f x).Nodup):(s.flatMap λx=>(f x).map λr=>x::r).Nodup:=by
 refine List.pairwise_flatMap.mpr ⟨λx hx=>o6 (h x hx),List.Pairwise.imp (λn a ha b hb e=>?_) hs⟩;obtain⟨p,_,rfl⟩:=XY.mp ha;obtain⟨q,_,rfl⟩:=XY.mp hb;exact n (List.cons.inj e).1
theorem jR:∀{g:Z9} {had:Z_},(∀s∈g,s.Nodup)->(apartRows g had).Nodup
 |[],_,_=>by simp[apartRows]
 |s::g,had,h=>vk ((h s (by simp)).filter _) λ_ _=>jR λt ht=>h t (by simp[ht])
theorem vT:∀{r:Z_} {g:Z9},fits r g->(∀x∈r,∃s∈g,x∈s)/\∀s∈g,∃x∈r,x∈s
 |[],[],_=>by simp
 |x::r,s::g,h=>by
  obtain⟨a,b⟩:=vT h.2;refine⟨λy hy=>?_,λt ht=>?_⟩
  · rcases Xr.mp hy with rfl|hy
    · exact⟨s,by simp,h.1⟩
    · obtain⟨t,ht,MT⟩:=a y hy;exact⟨t,by simp[ht],MT⟩
  · rcases Xr.mp ht with rfl|ht
    · exact⟨x,by simp,h.1⟩
    · obtain⟨y,hy,MT⟩:=b t ht;exact⟨y,by simp[hy],MT⟩
 |[],_::_,h=>h.elim
 |_::_,[],h=>h.elim
theorem vm {B:Z_}:∀{k:Nat} {r:Z_},fits r (List.replicate k B)↔r.length=k/\∀x∈r,x∈B
 |0,[]=>by simp[fits]
 |0,_::_=>by simp[fits]
 |k+1,[]=>by simp[fits,ZX]
 |k+1,x::r=>by
  rw[ZX];show x∈B/\fits r _↔_;rw[vm];simp only[Xz,ZV,Nat.add_right_cancel_iff];exact⟨λ⟨a,b,c⟩=>⟨b,a,c⟩,λ⟨b,a,c⟩=>⟨a,b,c⟩⟩
def jn (a:Nat)(B:Z_):Z9->List (Z9)
 |[]=>[]
 |s::g=>(if s==B then [[a]::g] else [])++(jn a B g).map λr=>s::r
def bC (B:Z_)(A:Z_)(gs:List (Z9)):List (Z9):=A.foldl (λgs a=>gs.flatMap (jn a B)) gs
theorem sJ {x:Nat}{B:Z_}(h:¬x∈B):[x]≠B:=λe=>h (e ▸ XC.mpr rfl)
theorem sU {a:Nat}{B s:Z_}{g t:Z9}:t∈jn a B (s::g)↔(s=B/\t=[a]::g)∨∃r∈jn a B g,t=s::r:=by
 show t∈(if s==B then [[a]::g] else [])++(jn a B g).map (λr=>s::r)↔_;rw[Yd,XY];have z:(∃r,r∈jn a B g/\s::r=t)↔∃r∈jn a B g,t=s::r:=⟨λ⟨r,h,e⟩=>⟨r,h,e.symm⟩,λ⟨r,h,e⟩=>⟨r,h,e.symm⟩⟩;rw[z];by_cases e:s=B <;> simp[e]
structure Good (B had:Z_)(k:Nat)(g:Z9):Prop where
 len:g.length=k
 are:∀s∈g,s=B∨∃a∈had,s=[a]
 all:∀a∈had,[a]∈g
theorem oB {a:Nat}{B:Z_}:∀{g t:Z9},t∈jn a B g->t.length=g.length/\(∀s∈t,s=[a]∨s∈g)/\[a]∈t/\∀s∈g,s=B∨s∈t
 |[],t,h=>by cases h
 |s::g,t,h=>by
  rcases sU.mp h with ⟨rfl,rfl⟩|⟨r,hr,rfl⟩
  · refine⟨rfl,λu hu=>?_,by simp,λu hu=>?_⟩
    · rcases Xr.mp hu with e|hu
      · exact .inl e
      · exact .inr (by simp[hu])
    · rcases Xr.mp hu with e|hu
      · exact .inl e
      · exact .inr (by simp[hu])
  · obtain⟨a1,a2,a3,a4⟩:=oB hr;refine⟨by simp[a1],λu hu=>?_,by simp[a3],λu hu=>?_⟩
    · rcases Xr.mp hu with e|hu
      · exact .inr (by simp[e])
      · exact (a2 u hu).imp id λm=>by simp[m]
    · rcases Xr.mp hu with e|hu
      · exact .inr (by simp[e])
      · exact (a4 u hu).imp id λm=>by simp[m]
theorem B1 {a k:Nat}{B had:Z_}{g t:Z9}(hB:∀x∈had,¬x∈B)(G:Good B had k g)(h:t∈jn a B g):Good B (had++[a]) k t:=by
 obtain⟨a1,a2,a3,a4⟩:=oB h;refine⟨a1.trans G.len,λs hs=>?_,λx hx=>?_⟩
 · rcases a2 s hs with e|m
   · exact .inr ⟨a,by simp,e⟩
   · exact (G.are s m).imp id λ⟨x,hx,e⟩=>⟨x,by simp[hx],e⟩
 · rcases Yd.mp hx with hx|hx
   · exact (a4 _ (G.all x hx)).resolve_left (sJ (hB x hx))
   · rw[XC] at hx;exact hx ▸ a3
def u5 (a:Nat)(B:Z_)(g:Z9):Z9:=g.map λs=>if s=[a] then B else s
theorem xX {a:Nat}{B:Z_}{g:Z9}(h:¬[a]∈g):u5 a B g=g:=by
 unfold u5
 conv=>rhs;rw[←List.map_id g]
 refine Yi λs hs=>?_;rw[Xo λe=>h (by rw[←e];exact hs)];rfl
theorem qj {a:Nat}{B:Z_}:∀{g t:Z9},¬[a]∈g->t∈jn a B g->u5 a B t=g
 |[],t,_,h=>by cases h
 |s::g,t,n,h=>by
  have n2:¬[a]∈g:=λm=>n (by simp[m]);rcases sU.mp h with ⟨rfl,rfl⟩|⟨r,hr,rfl⟩
  · show (if [a]=[a] then s else [a])::u5 a s g=_;rw[Xp rfl,xX n2]
  · show (if s=[a] then B else s)::u5 a B r=_;rw[Xo λe=>n (by simp[e]),qj n2 hr]
theorem rj {a:Nat}{B:Z_}(hB:¬a∈B):∀g:Z9,(jn a B g).Nodup
 |[]=>by simp[jn]
 |s::g=>by
  have m:((jn a B g).map λr=>s::r).Nodup:=List.pairwise_map.mpr (List.Pairwise.imp (λn e=>n (List.cons.inj e).2) (rj hB g));unfold jn;by_cases e:s=B
  · rw[Xp (by simp[e])];refine YA.mpr ⟨λh=>?_,m⟩;obtain⟨r,_,hr⟩:=XY.mp h;exact sJ hB ((List.cons.inj hr).1 ▸ e)
  · rw[Xo (by simp[e])];exact m
theorem iW {B:Z_}{k:Nat}:∀{A had:Z_} {gs:List (Z9)},(∀x∈had++A,¬x∈B)->(had++A).Nodup->gs.Nodup->(∀g∈gs,Good B had k g)->(bC B A gs).Nodup/\∀g∈bC B A gs,Good B (had++A) k g
 |[],had,gs,_,_,h2,h3=>by
  rw[Yr];exact⟨h2,h3⟩
 |a::A,had,gs,hB,nd,h2,h3=>by
  have e:had++a::A=(had++[a])++A:=by simp
  rw[e] at hB nd ⊢;have n1:=Y5.mp (Y5.mp nd).1;have ha:¬a∈had:=λm=>n1.2.2 a m a (by simp) rfl;have hb:∀x∈had,¬x∈B:=λx hx=>hB x (by simp[hx]);have no:∀g∈gs,¬[a]∈g:=λg hg m=>by
   rcases (h3 g hg).are _ m with e|⟨x,hx,e⟩
   · exact sJ (hB a (by simp)) e
   · have:a=x:=by simpa using e
     exact ha (this ▸ hx)
  refine iW hB nd ?_ λg hg=>?_
  · refine List.pairwise_flatMap.mpr ⟨λg _=>rj (hB a (by simp)) g,Y4.mpr λ{g g'} hs x hx y hy e=>?_⟩;have m1:=hs.subset (show g∈[g,g'] by simp);have m2:=hs.subset (show g'∈[g,g'] by simp);have:=Y4.mp h2 hs;exact this (by rw[←qj (no g m1) hx,e,qj (no g' m2) hy])
  · obtain⟨g0,h0,hr⟩:=Zu.mp hg;exact B1 hb (h3 g0 h0) hr
def gy (A B:Z_)(r:Z_):Z9:=r.map λx=>if x∈A then [x] else B
theorem vU {a:Nat}{B had:Z_}(ha:¬a∈had):∀{r:Z_},r.Nodup->a∈r->gy (had++[a]) B r∈jn a B (gy had B r)
 |[],_,h=>by cases h
 |y::r,nd,h=>by
  obtain⟨n1,n2⟩:=YA.mp nd;have step:∀z,z≠a->(if z∈had++[a] then [z] else B)=if z∈had then [z] else B:=λz hz=>by simp[hz]
  refine sU.mpr ?_;by_cases e:y=a
  · subst e;refine .inl ⟨Xo ha,?_⟩;show (if y∈had++[y] then [y] else B)::gy (had++[y]) B r=_;rw[Xp (by simp)];congr 1;exact Yi λz hz=>step z λe=>n1 (e ▸ hz)
  · refine .inr ⟨_,vU ha n2 ((Xr.mp h).resolve_left λz=>e z.symm),?_⟩;show (if y∈had++[a] then [y] else B)::_=_;rw[step y e];rfl
theorem qg {B r:Z_}(nr:r.Nodup):∀{A had:Z_} {gs:List (Z9)},(had++A).Nodup->(∀a∈A,a∈r)->gy had B r∈gs->gy (had++A) B r∈bC B A gs
 |[],had,gs,_,_,h=>by rwa [Yr]
 |a::A,had,gs,nd,h1,h=>by
  have e:had++a::A=(had++[a])++A:=by simp
  rw[e] at nd ⊢;have n1:=Y5.mp (Y5.mp nd).1;exact qg nr nd (λx hx=>h1 x (by simp[hx])) (Zu.mpr ⟨_,h,vU (λm=>n1.2.2 a m a (by simp) rfl) nr (h1 a (by simp))⟩)
theorem Bl {B r:Z_}:gy [] B r=List.replicate r.length B:=by
 unfold gy;rw[←List.map_const'];exact Yi λx _=>by simp
theorem rD {A B:Z_}:∀{r:Z_},(∀x∈r,x∈A∨x∈B)->fits r (gy A B r)
 |[],_=>trivial
 |x::r,h=>by
  refine⟨?_,rD λy hy=>h y (by simp[hy])⟩;by_cases e:x∈A
  · simp[e]
  · simpa [e] using (h x (by simp)).resolve_left e
theorem mP {A B:Z_}(hB:∀x∈A,¬x∈B):∀{r:Z_} {g:Z9},(∀s∈g,s=B∨∃a∈A,s=[a])->fits r g->g=gy A B r
 |[],[],_,_=>rfl
 |x::r,s::g,h,f=>by
  show s::g=(if x∈A then [x] else B)::gy A B r;rw[←mP hB (λt ht=>h t (by simp[ht])) f.2];congr 1;rcases h s (by simp) with rfl|⟨a,ha,rfl⟩
  · rw[Xo λm=>hB x m f.1]
  · have:x=a:=by simpa using f.1
    rw[this,Xp ha]
 |[],_::_,_,f=>f.elim
 |_::_,[],_,f=>f.elim
theorem xq {A B:Z_}{k:Nat}(nA:A.Nodup)(nB:B.Nodup)(L4:∀x∈A,¬x∈B) :
  ((bC B A [List.replicate k B]).flatMap λg=>apartRows g []).Nodup /\
  ∀r,r∈(bC B A [List.replicate k B]).flatMap (λg=>apartRows g [])↔r.length=k/\r.Nodup/\(∀a∈A,a∈r)/\∀x∈r,x∈A∨x∈B:=by
 obtain⟨h1,h2⟩:=iW (B:=B) (k:=k) (A:=A) (had:=[]) (gs:=[List.replicate k B]) (by simpa using L4) (by simpa using nA) (by simp) (λg hg=>by
  rw[XC] at hg;subst hg;exact⟨by simp,λs hs=>.inl (Yq hs),by simp⟩)
 rw[Yk] at h2;refine⟨List.pairwise_flatMap.mpr ⟨λg hg=>jR λs hs=>?_,Y4.mpr λ{g g'} hs x hx y hy e=>?_⟩,λr=>?_⟩
 · rcases (h2 g hg).are s hs with rfl|⟨a,_,rfl⟩
   · exact nB
   · simp
 · have m1:=hs.subset (show g∈[g,g'] by simp);have m2:=hs.subset (show g'∈[g,g'] by simp);refine Y4.mp h1 hs ?_;rw[mP L4 (h2 g m1).are (fj.mp hx).1,e,←mP L4 (h2 g' m2).are (fj.mp hy).1]
 · rw[Zu];constructor
   · rintro⟨g,hg,hr⟩;obtain⟨f,nr,_⟩:=fj.mp hr;have G:=h2 g hg;obtain⟨f1,f2⟩:=vT f;refine⟨(uW f).trans G.len,nr,λa ha=>?_,λx hx=>?_⟩
     · obtain⟨x,hx,e⟩:=f2 _ (G.all a ha);have:x=a:=by simpa using e
       exact this ▸ hx
     · obtain⟨s,hs,Mv⟩:=f1 x hx;rcases G.are s hs with rfl|⟨a,ha,rfl⟩
       · exact .inr Mv
       · have:x=a:=by simpa using Mv
         exact .inl (this ▸ ha)
   · rintro⟨hl,nr,ha,hx⟩;refine⟨gy A B r,?_,fj.mpr ⟨rD hx,nr,by simp⟩⟩;have:=qg (B:=B) nr (A:=A) (had:=[]) (gs:=[List.replicate k B]) (by simpa using nA) ha (by rw[Bl,hl];simp);simpa using this
theorem k7 {B:Z_}:∀{A P:Z_} {j:Nat} {rest:List (Z9)},(∀x∈P++A,¬x∈B)->A.length<=j->∃q,bC B A ((P.map (λa=>[a])++List.replicate j B)::rest)=((P++A).map (λa=>[a])++List.replicate (j - A.length) B)::q
 |[],P,j,rest,_,_=>⟨rest,by simp[bC]⟩
 |a::A,P,j,rest,h,hj=>by
  obtain⟨j,rfl⟩:∃i,j=i+1:=⟨j - 1,by rw[Xz] at hj;omega⟩;have first:∀P:Z_,(∀x∈P,¬x∈B)->∃q,jn a B (P.map (λa=>[a])++List.replicate (j+1) B)=(P.map (λa=>[a])++[a]::List.replicate j B)::q:=by
   intro P
   induction P with
   |nil=>intro _;exact⟨_,by rw[YN,Yk,Yk,ZX];unfold jn;rw[Xp (by simp)];rfl⟩
   |cons x P ih =>
    intro hP;obtain⟨q,e⟩:=ih λy hy=>hP y (by simp[hy]);refine⟨q.map λr=>[x]::r,?_⟩;rw[XE,Zv];unfold jn;rw[e,Xo (by simpa using sJ (hP x (by simp)))];rfl
  obtain⟨q,e⟩:=first P λx hx=>h x (by simp[hx])
  obtain⟨q',e'⟩:=k7 (B:=B) (A:=A) (P:=P++[a]) (j:=j) (rest:=q++rest.flatMap (jn a B)) (by simpa using h) (by rw[Xz] at hj;omega);refine⟨q',?_⟩;show bC B A (((P.map (λa=>[a])++List.replicate (j+1) B)::rest).flatMap (jn a B))=_;rw[ZK,e,Zv];have e1:P.map (λa=>[a])++[a]::List.replicate j B=(P++[a]).map (λa=>[a])++List.replicate j B:=by simp
  rw[e1,e'];simp
theorem lh {B:Z_}:∀{j:Nat} {r:Z_},fillsSets r (List.replicate j B)=true↔r.length=j/\∀x∈r,x∈B
 |0,r=>by
  rw[List.replicate_zero,mN];exact⟨λh=>by subst h;simp,λh=>Ze.mp h.1⟩
 |j+1,r=>by
  rw[ZX,dZ];constructor
  · rintro⟨x,hx,hb,h⟩;obtain⟨h1,h2⟩:=lh.mp h;have:=Y7 hx;have:=ZI hx;refine⟨by omega,λy hy=>?_⟩;by_cases e:y=x
    · exact e ▸ hb
    · exact h2 y ((ZU e).mpr hy)
  · rintro⟨hl,h⟩
    match r,hl,h with
    |x::r,hl,h=>exact⟨x,by simp,h x (by simp),lh.mpr ⟨by simpa using hl,λy hy=>h y (by simp only[List.erase_cons_head] at hy;simp[hy])⟩⟩
theorem lF {B:Z_}{j:Nat}:∀{A r:Z_},A.Nodup->(∀x∈B,¬x∈A)->r.Nodup ->
  (fillsSets r (A.map (λa=>[a])++List.replicate j B)=true↔(∀a∈A,a∈r)/\r.length=A.length+j/\∀x∈r,x∈A∨x∈B)
 |[],r,_,_,_=>by
  rw[YN,Yk,lh];simp
 |a::A,r,nA,L4,nr=>by
  obtain⟨n1,n2⟩:=YA.mp nA;rw[XE,Zv,dZ];have ih:=lF (B:=B) (j:=j) n2 (λx hx m=>L4 x hx (XG _ m)) (nr.erase a);have me:∀x,x∈r.erase a↔x≠a/\x∈r:=λx=>nr.mem_erase_iff;constructor
  · rintro⟨x,hx,ha,h⟩;have:x=a:=by simpa using ha
    subst this;obtain⟨h1,h2,h3⟩:=ih.mp h;have:=Y7 hx;have:=ZI hx;refine⟨λy hy=>?_,by rw[Xz];omega,λy hy=>?_⟩
    · rcases Xr.mp hy with rfl|hy
      · exact hx
      · exact ((me y).mp (h1 y hy)).2
    · by_cases e:y=x
      · exact .inl (by simp[e])
      · exact (h3 y ((me y).mpr ⟨e,hy⟩)).imp (XG _) id
  · rintro⟨h1,h2,h3⟩;have ha:=h1 a (by simp);have:=Y7 ha;rw[Xz] at h2;refine⟨a,ha,by simp,ih.mpr ⟨λy hy=>(me y).mpr ⟨λe=>n1 (e ▸ hy),h1 y (XG _ hy)⟩,by omega,λy hy=>?_⟩⟩;obtain⟨e,hy⟩:=(me y).mp hy;rcases h3 y hy with m|m
    · exact .inl ((Xr.mp m).resolve_left e)
    · exact .inr m
def js (kind:Kind)(how:How)(k:Nat)(sets:Z9):List (Z9):=match how with
 |.on=>[sets]
 |.box=>[List.replicate k (sets.headD [])]
 |.key=>if kind=.any then (bC (sets.getD 1 []) (sets.headD []) [List.replicate k (sets.getD 1 [])]).take 1 else bC (sets.getD 1 []) (sets.headD []) [List.replicate k (sets.getD 1 [])]
def rS (kind:Kind)(gs:List (Z9)):Z9:=match kind with
 |.order=>gs.flatMap λg=>apartRows g []
 |.any=>bx (gs.headD [])
 |_=>gs.flatMap rowsOf
def CL (kind:Kind)(how:How)(k:Nat)(sets:Z9):Z9:=rS kind (js kind how k sets)
def countM (kind:Kind)(how:How)(k:Nat)(sets:Z9):Nat:=(CL kind how k sets).length
section
variable {C:Card}{b:Bet}{p:Pool}
theorem uU (hl:p.kind≠.legs):(C.sets p).headD []=C.headsOf p.race:=by
 unfold Card.sets Pool.legs;rw[Xo hl];rfl
theorem vI {row:Z_}(hk:p.kind=.order):C.isCombo p row=(row.length==p.k&&(decide row.Nodup&&row.all λx=>(C.headsOf p.race).contains x)):=by
 unfold Card.isCombo;rw[hk];simp only[uU (C:=C) (p:=p) (by rw[hk];decide)]
theorem rN {row:Z_}(hk:p.kind=.any):C.isCombo p row=(row.length==p.k&&(risesN row&&row.all λx=>(C.headsOf p.race).contains x)):=by
 unfold Card.isCombo;rw[hk];simp only[uU (C:=C) (p:=p) (by rw[hk];decide)]
structure yw (C:Card)(b:Bet)(p:Pool):Prop where
 pool:C.pool b.pool=p
 heads:p.kind≠.legs->cN (C.headsOf p.race)
 k:p.kind≠.legs->p.kind≠.place->2<=p.k/\p.k<=mostK p.kind
 good:p.kind≠.legs->∀s∈b.sets,bJ (C.headsOf p.race) s
 place:p.kind=.place->b.how=.on/\b.sets.length=1
 legs:p.kind=.legs->b.how=.on
 on:p.kind≠.legs->p.kind≠.place->b.how=.on->b.sets.length=p.k
 box:b.how=.box->∃s,b.sets=[s]/\p.k<=s.length
 key:b.how=.key->∃s t,b.sets=[s,t]/\s.length < p.k/\(∀x∈t,¬x∈s)/\p.k<=s.length+t.length
theorem iV {l:Z9}{heads:Z_}(h:∀s∈l,bJ heads s):∀x∈together l,x∈heads:=λx hx=>by
 obtain⟨_,s,hs,Mv⟩:=fY.mp hx;exact (h s hs).sub x Mv
theorem iK {l:Z9}{heads s:Z_}(gh:cN heads)(h:∀s∈l,bJ heads s)(hs:s∈l):∀x∈s,x∈together l:=λx hx =>
 fY.mpr ⟨Nat.lt_of_le_of_lt (gh.hi x ((h s hs).sub x hx)) (by decide),s,hs,hx⟩
theorem zo (hk:p.kind=.order)(gh:cN (C.headsOf p.race))(hp:C.pool b.pool=p){A B:Z_}(good:∀s∈b.sets,bJ (C.headsOf p.race) s)(hu:∀x,(∃s∈b.sets,x∈s)↔x∈A∨x∈B)(hf:∀r,(∀x∈r,x∈A∨x∈B)->(C.has b r=(C.isCombo p r&&A.all λx=>r.contains x)))(r:Z_) :
  r∈(apartRows (List.replicate p.k (together b.sets)) []).filter (C.has b)↔r.length=p.k/\r.Nodup/\(∀a∈A,a∈r)/\∀x∈r,x∈A∨x∈B:=by
 have Nv:∀x,x∈together b.sets↔x∈A∨x∈B:=λx=>by
  rw[←hu];exact⟨λh=>(fY.mp h).2,λ⟨s,hs,hx⟩=>iK gh good hs x hx⟩
 rw[Yy,fj,vm];constructor
 · rintro⟨⟨⟨h1,h2⟩,h3,_⟩,h4⟩;have sub:∀x∈r,x∈A∨x∈B:=λx hx=>(Nv x).mp (h2 x hx);rw[hf r sub] at h4;simp only[Xv,XU] at h4;exact⟨h1,h3,λa ha=>by simpa using h4.2 a ha,sub⟩
 · rintro⟨h1,h2,h3,h4⟩;refine⟨⟨⟨h1,λx hx=>(Nv x).mpr (h4 x hx)⟩,h2,by simp⟩,?_⟩;rw[hf r h4,vI hk];simp only[Xv,XU,Xw];exact⟨⟨by simpa using h1,h2,λx hx=>by simpa using iV good x ((Nv x).mpr (h4 x hx))⟩,λa ha=>by simpa using h3 a ha⟩
theorem DL (hk:p.kind=.any)(gh:cN (C.headsOf p.race))(hp:C.pool b.pool=p){A B:Z_}(good:∀s∈b.sets,bJ (C.headsOf p.race) s)(hu:∀x,(∃s∈b.sets,x∈s)↔x∈A∨x∈B)(hf:∀r,(∀x∈r,x∈A∨x∈B)->(C.has b r=(C.isCombo p r&&A.all λx=>r.contains x)))(r:Z_) :
  r∈(risingRows p.k (together b.sets)).filter (C.has b)↔cn r/\(∀a∈A,a∈r)/\r.length=p.k/\∀x∈r,x∈A∨x∈B:=by
 have Nv:∀x,x∈together b.sets↔x∈A∨x∈B:=λx=>by
  rw[←hu];exact⟨λh=>(fY.mp h).2,λ⟨s,hs,hx⟩=>iK gh good hs x hx⟩
 rw[Yy];constructor
 · rintro⟨h1,h4⟩;have hs:=iI _ _ _ h1;have sub:∀x∈r,x∈A∨x∈B:=λx hx=>(Nv x).mp (hs.subset hx);rw[hf r sub] at h4;simp only[Xv,XU] at h4;exact⟨List.Pairwise.sublist hs (df _),λa ha=>by simpa using h4.2 a ha,lj _ _ _ h1,sub⟩
 · rintro⟨h1,h2,h3,h4⟩;refine⟨i_ (fJ (df _) h1 λx hx=>(Nv x).mpr (h4 x hx)) h3,?_⟩;rw[hf r h4,rN hk];simp only[Xv,XU,Xw];exact⟨⟨by simpa using h3,(j9 r).mpr h1,λx hx=>by simpa using iV good x ((Nv x).mpr (h4 x hx))⟩,λa ha=>by simpa using h2 a ha⟩
theorem y8 (v:yw C b p)(nl:p.kind≠.legs)(hn:b.how≠.on):∃A B,js p.kind b.how p.k b.sets=(if p.kind=.any then (bC B A [List.replicate p.k B]).take 1 else bC B A [List.replicate p.k B])/\A.Nodup/\B.Nodup/\(∀x∈B,¬x∈A)/\A.length<=p.k /\
  (∀x,(∃s∈b.sets,x∈s)↔x∈A∨x∈B)/\∀r,(∀x∈r,x∈A∨x∈B)->(C.has b r=(C.isCombo p r&&A.all λx=>r.contains x)):=by
 cases hh:b.how with
 |on=>exact absurd hh hn
 |box =>
  obtain⟨s,hs,hl⟩:=v.box hh;have g:bJ (C.headsOf p.race) s:=v.good nl s (by rw[hs];simp);refine⟨[],s,?_,by simp,g.rise.nodup,by simp,by simp,λx=>by rw[hs];simp,λr hr=>?_⟩
  · rw[hs];unfold js bC;by_cases e:p.kind=.any <;> simp[e]
  · unfold Card.has;rw[v.pool,hh,hs];have:(r.all λx=>([s].headD []).contains x)=true:=by
     rw[XU];intro x hx;simpa using hr x hx
    simp only[this,List.all_nil]
 |key =>
  obtain⟨s,t,hs,hl,L4,M8⟩:=v.key hh;have gs:bJ (C.headsOf p.race) s:=v.good nl s (by rw[hs];simp);have gt:bJ (C.headsOf p.race) t:=v.good nl t (by rw[hs];simp);refine⟨s,t,by rw[hs];rfl,gs.rise.nodup,gt.rise.nodup,L4,by omega,λx=>by rw[hs];simp,λr hr=>?_⟩;unfold Card.has;rw[v.pool,hh,hs];have:(r.all λx=>s.contains x||t.contains x)=true:=by
   rw[XU];intro x hx;simpa using hr x hx
  show (C.isCombo p r&&((s.all λx=>r.contains x)&&r.all λx=>s.contains x||t.contains x))=_;rw[this,Bool.and_true]
theorem w_ (hp:C.pool b.pool=p)(hk:p.kind=.order)(hh:b.how≠.on):C.rows b=(apartRows (List.replicate p.k (together b.sets)) []).filter (C.has b):=by
 unfold Card.rows;rw[hp];dsimp only;rw[hk];cases hb:b.how with
 |on=>exact absurd hb hh
 |box=>rfl
 |key=>rfl
theorem z_ (v:yw C b p):(CL p.kind b.how p.k b.sets).Perm (C.rows b):=by
 have hp:=v.pool;unfold CL Card.rows;rw[hp];dsimp only;cases hk:p.kind with
 |legs =>
  rw[v.legs hk];show ([b.sets].flatMap rowsOf).Perm _;simp
 |place =>
  obtain⟨h1,h2⟩:=v.place hk;rw[h1]
  match hs:b.sets,h2 with
  |[s],_ =>
   show ([[s]].flatMap rowsOf).Perm (s.map λx=>[x]);simp[rowsOf,←List.map_eq_flatMap]
 |order =>
  have nl:p.kind≠.legs:=by rw[hk];decide
  have gh:=v.heads nl;by_cases hh:b.how=.on
  · rw[hh];show ([b.sets].flatMap λg=>apartRows g []).Perm (apartRows b.sets []);simp
  · have e:=w_ hp hk hh;unfold Card.rows at e;rw[hp] at e;dsimp only at e;rw[hk] at e;rw[e];obtain⟨A,B,e1,nA,nB,L4,_,hu,hf⟩:=y8 v nl hh;rw[hk,Xo (by decide)] at e1;rw[e1];obtain⟨r1,r2⟩:=xq (k:=p.k) nA nB λx hx m=>L4 x m hx;refine (Z5 r1 ((jR λs hs=>?_).filter _)).mpr λr=>(r2 r).trans (zo hk gh hp (v.good nl) hu hf r).symm;rw[Yq hs];exact (df _).nodup
 |any =>
  have nl:p.kind≠.legs:=by rw[hk];decide
  have np:p.kind≠.place:=by rw[hk];decide
  have gh:=v.heads nl;show (bx ((js .any b.how p.k b.sets).headD [])).Perm ((risingRows p.k (together b.sets)).filter (C.has b));refine (Z5 (vd _) ((iS _ _ (df _).nodup).filter _)).mpr λr=>?_;by_cases hh:b.how=.on
  · rw[hh];show r∈bx b.sets↔_;rw[Yy,j4];have hlen:=v.on nl np hh;have Nw:C.has b r=(C.isCombo p r&&fillsSets r b.sets):=by
     unfold Card.has;rw[hp,hh];show (C.isCombo p r&&if p.kind=.any then _ else _)=_;rw[Xp hk]
    rw[Nw,rN hk];constructor
    · rintro⟨h1,h2⟩;obtain⟨l1,l2⟩:=j2 h2;have R9:∀x∈r,x∈together b.sets:=λx hx=>by
       obtain⟨s,hs,Mv⟩:=l2 x hx;exact iK gh (v.good nl) hs x Mv
      refine⟨i_ (fJ (df _) h1 R9) (by rw[l1,hlen]),?_⟩;simp only[Xv];refine⟨⟨by simp[l1,hlen],(j9 r).mpr h1,?_⟩,h2⟩;rw[XU];intro x hx;simpa using iV (v.good nl) x (R9 x hx)
    · rintro⟨h1,h2⟩;simp only[Xv] at h2;exact⟨(j9 r).mp h2.1.2.1,h2.2⟩
  · obtain⟨A,B,e1,nA,nB,L4,hA,hu,hf⟩:=y8 v nl hh;rw[hk,Xp rfl] at e1;obtain⟨q,e2⟩:=k7 (B:=B) (A:=A) (P:=[]) (j:=p.k) (rest:=[]) (λx hx m=>L4 x m (by simpa using hx)) hA;rw[YN,Yk,Yk] at e2;rw[e1,e2];show r∈bx (A.map (λa=>[a])++List.replicate (p.k - A.length) B)↔_;rw[j4,DL hk gh hp (v.good nl) hu hf r];constructor
    · rintro⟨h1,h2⟩;obtain⟨a1,a2,a3⟩:=(lF nA L4 h1.nodup).mp h2;exact⟨h1,a1,by omega,a3⟩
    · rintro⟨h1,a1,a2,a3⟩;exact⟨h1,(lF nA L4 h1.nodup).mpr ⟨a1,by omega,a3⟩⟩
theorem jy:∀(g:Z9),(rowsOf g).length=product (g.map List.length)
 |[]=>rfl
 |s::g=>by
  have fold:∀(l:Z_) (a:Nat),l.foldl (λa b=>a*b) a=a*product l:=by
   intro l
   induction l with
   |nil=>intro a;simp[product]
   |cons x l ih=>intro a;unfold product;rw[YU,YU,ih,ih (1*x)];simp[Nat.mul_assoc]
  unfold rowsOf;rw[fD,XE];show _=(g.map List.length).foldl (λa b=>a*b) (1*s.length);rw[fold,Nat.one_mul,←jy g];simp only[Xn];rw[sum_map_const]
theorem tV (v:yw C b p):C.manyOf b=countM p.kind b.how p.k b.sets:=by
 unfold countM;rw[(z_ v).length_eq];unfold Card.manyOf;rw[v.pool];by_cases h:p.kind=.legs
 · rw[Xp h,←jy];unfold Card.rows;rw[v.pool];dsimp only;rw[h]
 · rw[Xo h]
end
abbrev W:=Z_
def isLet (c:Nat):Bool:=decide (97<=c)&&decide (c<=122)
def bW (c:Nat):Bool:=decide (48<=c)&&decide (c<=57)
def tm (c:Nat):Bool:=isLet c||bW c||c==32||c==10||c==44||c==47
def sg (c:Nat):Nat:=if tm c=true then c else 63
def tx (w:Bytes):W:=w.map λc=>sg c.toNat
def cd (s:String):W:=s.toList.map Char.toNat
theorem vb {c d:Nat}(h:tm d=true):sg c=d↔c=d:=by
 unfold sg;by_cases e:tm c=true
 · rw[Xp e]
 · rw[Xo e];constructor
   · intro q;subst q;exact absurd h (by decide)
   · rintro rfl;exact absurd h e
theorem pM (c:Nat):isLet (sg c)=isLet c:=by
 unfold sg;by_cases e:tm c=true
 · rw[Xp e]
 · rw[Xo e];have:isLet c=false:=by
    cases h:isLet c with
    |false=>rfl
    |true=>exact absurd (by unfold tm;rw[h];simp) e
   rw[this];decide
theorem pJ (c:Nat):bW (sg c)=bW c:=by
 unfold sg;by_cases e:tm c=true
 · rw[Xp e]
 · rw[Xo e];have:bW c=false:=by
    cases h:bW c with
    |false=>rfl
    |true=>exact absurd (by unfold tm;rw[h];simp) e
   rw[this];decide
theorem As {c:Nat}(h:bW c=true):sg c=c:=by
 unfold sg tm;rw[h];simp
theorem iy (w:Bytes):(tx w).length=w.length:=by unfold tx;rw[Xn]
theorem r_ (v w:Bytes):tx (v++w)=tx v++tx w:=by unfold tx;rw[XH]
theorem BK:tx []=[]:=rfl
theorem sN (c:UInt8)(w:Bytes):tx (c::w)=sg c.toNat::tx w:=rfl
theorem jI {a b:UInt8}(h:a.toNat=b.toNat):a=b:=UInt8.toNat_inj.mp h
theorem qY {v:Bytes}:∀{w:Bytes},(∀c∈v,tm c.toNat=true)->(tx w=v.map UInt8.toNat↔w=v):=by
 induction v with
 |nil =>
  intro w _;cases w with
  |nil=>simp[tx]
  |cons=>simp[tx]
 |cons d v ih =>
  intro w h;cases w with
  |nil=>simp[tx]
  |cons c w =>
   have h1:=h d (by simp);have h2:=ih (w:=w) λc hc=>h c (by simp[hc]);rw[sN,XE,List.cons.injEq,List.cons.injEq,vb h1,h2];exact and_congr_left' ⟨jI,λe=>e ▸ rfl⟩
def plainT (s:String):Bool:=s.toList.all λc=>tm c.toNat&&decide (c.toNat < 256)
theorem vj {s:String}(h:plainT s=true):(ascii s).map UInt8.toNat=cd s:=by
 unfold ascii cd;rw[XR];refine Yi λc hc=>?_;have:=(XU.mp h) c hc;rw[Xv] at this;have lt:c.toNat < 256:=XI this.2;show (UInt8.ofNat c.toNat).toNat=c.toNat;rw[UInt8.toNat_ofNat'];exact Nat.mod_eq_of_lt lt
theorem bh {s:String}(w:Bytes)(h:plainT s=true):tx w=cd s↔w=ascii s:=by
 rw[←vj h];refine qY λc hc=>?_;unfold ascii at hc;obtain⟨d,hd,rfl⟩:=XY.mp hc;have:=(XU.mp h) d hd;rw[Xv] at this;have lt:d.toNat < 256:=XI this.2;rw[UInt8.toNat_ofNat',Nat.mod_eq_of_lt lt];exact this.1
def eN (w:W):Bool:=decide (1<=w.length)&&decide (w.length<=12)&&isLet (w.headD 0)&&w.all λc=>isLet c||bW c
theorem kg (w:Bytes):eN (tx w)=isName w:=by
 unfold eN isName;rw[iy];have e1:((tx w).all λc=>isLet c||bW c)=w.all λc=>isSmall c||isDigit c:=by
  unfold tx;rw[Zw];congr 1;funext c;show (isLet (sg c.toNat)||bW (sg c.toNat))=_;rw[pM,pJ];rfl
 rw[e1];cases w with
 |nil=>rfl
 |cons c r =>
  have e2:isLet ((tx (c::r)).headD 0)=(((c::r).head?.map isSmall).getD false):=by
   show isLet (sg c.toNat)=isSmall c;rw[pM];rfl
  rw[e2];unfold NAME;generalize decide (1<=(c::r).length)=a;generalize decide ((c::r).length<=12)=b;generalize ((c::r).head?.map isSmall).getD false=d;generalize ((c::r).all λc=>isSmall c||isDigit c)=f;cases a <;> cases b <;> cases d <;> cases f <;> rfl
def xy (w:W):Nat:=w.foldl (λn c=>10*n+(c - 48)) 0
def ay (w:W):Int :=
 if 7 < w.length∨w=[]∨w.all bW=false then -1 else if w.headD 0=48/\w≠[48] then -1 else (xy w:Int)
theorem yM:∀(w:Bytes) (n m:Nat),m<=n->m*10 ^ w.length<=w.foldl (λ(n:Nat) (c:UInt8)=>10*n+(c.toNat - 48)) n
 |[],n,m,h=>by simpa using h
 |c::w,n,m,h=>by
  have:=yM w (10*n+(c.toNat - 48)) (10*m) (by omega);rw[YU,Xz,Zs];have e:m*(10 ^ w.length*10)=10*m*10 ^ w.length:=by
   rw[ZG (10 ^ w.length) 10,←Nat.mul_assoc,ZG m 10]
  omega
theorem lQ {w:Bytes}{n:Nat}(h:numberOf w=some n)(hl:7 < w.length):10000000<=n:=by
 unfold numberOf at h;split at h
 · cases h
 · rename_i hc;have Om:¬(w.isEmpty=true)/\¬(w.all isDigit=false)/\¬(w.head?=some 48/\w≠[48]):=⟨λz=>hc (.inl z),λz=>hc (.inr (.inl z)),λz=>hc (.inr (.inr z))⟩;injection h with h;subst h
   match w,hl with
   |c::r,hl =>
    have hd:isDigit c=true:=by
     have:(c::r).all isDigit=true:=by simpa using Om.2.1
     rw[ZC,Xv] at this;exact this.1
    have c0:c≠48:=λe=>Om.2.2 ⟨by rw[e];rfl,λq=>by rw[q] at hl;simp at hl⟩;unfold isDigit at hd;rw[Xv,YV,YV] at hd;have h1:48<=c.toNat:=hd.1;have h2:c.toNat≠48:=λe=>c0 (jI e);have:=yM r (10*0+(c.toNat - 48)) 1 (by omega);rw[YU];have p:10 ^ 7<=10 ^ r.length:=Zq (by decide) (by simp at hl;omega);have p7:(10:Nat) ^ 7=10000000:=by decide
    omega
theorem yL:∀(w:Bytes) (n:Nat),w.all isDigit=true->(tx w).foldl (λn c=>10*n+(c - 48)) n=w.foldl (λ(n:Nat) (c:UInt8)=>10*n+(c.toNat - 48)) n
 |[],_,_=>rfl
 |c::w,n,h=>by
  rw[ZC,Xv] at h;have:sg c.toNat=c.toNat:=As h.1;rw[sN,YU,YU,this];exact yL w _ h.2
theorem wB (w:Bytes):(tx w).all bW=w.all isDigit:=by
 unfold tx;rw[Zw];congr 1;funext c;exact pJ c.toNat
theorem CD (w:Bytes):ay (tx w)=if 7 < w.length then -1 else match numberOf w with
  |none=>-1
  |some n=>(n:Int):=by
 unfold ay numberOf;rw[iy,wB];by_cases h7:7 < w.length
 · rw[Xp h7,Xp (.inl h7)]
 · rw[Xo h7];by_cases c1:w=[]
   · subst c1;rfl
   · have e1:¬tx w=[]:=λz=>c1 (by
      have:=Yv List.length z;rw[iy] at this;exact Ze.mp this)
     have Pp:¬w.isEmpty=true:=λz=>c1 (Y1.mp z);by_cases c2:w.all isDigit=false
     · rw[Xp (.inr (.inr c2)),Xp (.inr (.inl c2))]
     · rw[Xo (λz=>z.elim h7 λz=>z.elim e1 c2)];have NY:w.all isDigit=true:=by simpa using c2
       have k:((tx w).headD 0=48/\tx w≠[48])↔(w.head?=some 48/\w≠[48]):=by
        have a:tx w=[48]↔w=[48]:=qY (v:=[48]) (w:=w) (by decide)
        match w,c1 with
        |c::r,_ =>
         have b:(tx (c::r)).headD 0=48↔(c::r).head?=some 48:=by
          show sg c.toNat=48↔some c=some 48;rw[vb (by decide)];constructor
          · intro e;rw[jI (show c.toNat=(48:UInt8).toNat from e)]
          · intro e;injection e with e;rw[e];rfl
         rw[b];exact and_congr_right λ_=>not_congr a
       by_cases c3:w.head?=some 48/\w≠[48]
       · rw[Xp (k.mpr c3),Xp (.inr (.inr c3))]
       · rw[Xo (λz=>c3 (k.mp z)),Xo (λz=>z.elim Pp λz=>z.elim c2 c3)];show ((xy (tx w):Nat):Int)=_;unfold xy;rw[yL w 0 NY]
theorem fg {w:Bytes}{lo hi:Nat}(hh:hi < 10000000):((lo:Int)<=ay (tx w)/\ay (tx w)<=(hi:Int))↔∃n,numberOf w=some n/\lo<=n/\n<=hi/\ay (tx w)=(n:Int):=by
 rw[CD];by_cases h7:7 < w.length
 · rw[Xp h7];constructor
   · rintro⟨a,_⟩;omega
   · rintro⟨n,e,_,b,_⟩;have:=lQ e h7;omega
 · rw[Xo h7];cases e:numberOf w with
   |none =>
    constructor
    · rintro⟨a,_⟩;have a':(lo:Int)<=-1:=a;omega
    · rintro⟨n,e,_⟩;cases e
   |some n =>
    constructor
    · rintro⟨a,b⟩;have a':(lo:Int)<=n:=a;have b':(n:Int)<=hi:=b;exact⟨n,rfl,by omega,by omega,rfl⟩
    · rintro⟨m,e,a,b,_⟩;injection e with e;subst e;show (lo:Int)<=n/\(n:Int)<=hi;omega
theorem dW {w:Bytes}{m:Nat}(hm:m < 10000000):ay (tx w)=(m:Int)↔numberOf w=some m:=by
 constructor
 · intro e;obtain⟨n,h1,h2,h3,_⟩:=(fg (w:=w) (lo:=m) (hi:=m) hm).mp ⟨by omega,by omega⟩;have:n=m:=by omega
   subst this;exact h1
 · intro e;obtain⟨a,b⟩:=(fg (w:=w) (lo:=m) (hi:=m) hm).mpr ⟨m,e,Xx _,Xx _,by
    rw[CD];by_cases h7:7 < w.length
    · have:=lQ e h7;omega
    · rw[Xo h7,e]⟩
   omega
def aV (c:Nat):W->W->List W
 |w,[]=>[w]
 |w,x::r=>if x=c then w::aV c [] r else aV c (w++[x]) r
theorem ij {c:UInt8}(hc:tm c.toNat=true):∀(l w:Bytes),aV c.toNat (tx w) (tx l)=(splitOn c w l).map tx
 |[],w=>rfl
 |x::r,w=>by
  rw[sN];unfold aV splitOn;by_cases e:x=c
  · rw[Xp ((vb hc).mpr (by rw[e])),Xp e,XE];have:=ij hc r [];rw[BK] at this;rw[this]
  · rw[Xo (λz=>e (jI ((vb hc).mp z))),Xo e];have:=ij hc r (w++[x]);rw[r_] at this;exact this
def Placed:Nat->List Word->Prop
 |_,[]=>True
 |p,w::r=>w.at_=p/\Placed (p+w.w.length+1) r
theorem words_of:∀(l w:Bytes) (p q:Nat),w.length<=p->badByte w.isEmpty q l=none->(wordsFrom p w l).map (·.w)=splitOn 32 w l/\Placed (p - w.length) (wordsFrom p w l)
 |[],w,p,q,hl,h=>by
  unfold badByte at h;by_cases e:w.isEmpty=true
  · rw[Xp e] at h;cases h
  · unfold wordsFrom;rw[Xo e];exact⟨rfl,rfl,trivial⟩
 |c::r,w,p,q,hl,h=>by
  unfold badByte at h;by_cases c1:c < 32∨126 < c
  · rw[Xp c1] at h;cases h
  · rw[Xo c1] at h;unfold wordsFrom splitOn;by_cases c2:c=32
    · rw[Xp c2] at h;by_cases e:w.isEmpty=true
      · rw[Xp e] at h;cases h
      · rw[Xo e] at h;by_cases e2:r.isEmpty=true
        · rw[Xp e2] at h;cases h
        · rw[Xo e2] at h;obtain⟨a,b⟩:=words_of r [] (p+1) (q+1) (XW _) h;rw[Xp c2,Xp c2,XE,a];refine⟨rfl,rfl,?_⟩;have:p - w.length+w.length+1=p+1 - ([]:Bytes).length:=by simp;omega
          show Placed (p - w.length+w.length+1) _;rw[this];exact b
    · rw[Xo c2] at h;have e:(w++[c]).isEmpty=false:=by simp
      rw[←e] at h;obtain⟨a,b⟩:=words_of r (w++[c]) (p+1) (q+1) (by simp;omega) h;rw[Xo c2,Xo c2,a];refine⟨rfl,?_⟩;have:p - w.length=p+1 - (w++[c]).length:=by rw[XM,YC];omega
      rw[this];exact b
def CJ (w:Bytes):Prop:=w≠[]/\∀c∈w,32 < c/\c<=126
theorem xm:∀(l w:Bytes) (q:Nat),(∀v∈splitOn 32 w l,CJ v)->(∀c∈w,32 < c/\c<=126)->badByte w.isEmpty q l=none
 |[],w,q,h,_=>by
  have:=h w (by simp[splitOn]);unfold badByte;rw[Xo (λz=>this.1 (Y1.mp z))]
 |c::r,w,q,h,hw=>by
  unfold splitOn at h;unfold badByte;by_cases c2:c=32
  · rw[Xp c2] at h;have pw:=h w (by simp);have e:¬w.isEmpty=true:=λz=>pw.1 (Y1.mp z);rw[Xo (by rw[c2];decide),Xp c2,Xo e];have hr:¬r.isEmpty=true:=λz=>by
     have:r=[]:=Y1.mp z;subst this;have:=h [] (by simp[splitOn]);exact this.1 rfl
    rw[Xo hr];exact xm r [] (q+1) (λv hv=>h v (by simp[hv])) (by simp)
  · rw[Xo c2] at h;have hc:32 < c/\c<=126:=by
     have first:∀(l w:Bytes),∃v∈splitOn 32 w l,∃t,v=w++t:=λl=>by
      induction l with
      |nil=>exact λw=>⟨w,by simp[splitOn],[],by simp⟩
      |cons d l ih =>
       intro w;unfold splitOn;by_cases e:d=32
       · rw[Xp e];exact⟨w,by simp,[],by simp⟩
       · rw[Xo e];obtain⟨v,hv,t,rfl⟩:=ih (w++[d]);exact⟨_,hv,d::t,by simp⟩
     obtain⟨v,hv,t,e⟩:=first r (w++[c])
     exact (h v hv).2 c (by rw[e];simp)
    have n1:¬(c < 32∨126 < c):=by
     rintro (z|z)
     · exact absurd (Nat.lt_trans (show c.toNat < 32 from z) (show 32 < c.toNat from hc.1)) (YJ _)
     · exact absurd (X5 (show 126 < c.toNat from z) (show c.toNat<=126 from hc.2)) (YJ _)
    rw[Xo n1,Xo c2];have e:(w++[c]).isEmpty=false:=by simp
    rw[←e];exact xm r (w++[c]) (q+1) h λd hd=>by
     rcases Yd.mp hd with z|z
     · exact hw d z
     · have:d=c:=by simpa using z
       exact this ▸ hc
theorem aE {ε α β:Type}{x:Except ε α}{f:α->Except ε β}{y:β}:(x >>= f)=.ok y↔∃a,x=.ok a/\f a=.ok y:=by
 cases x with
 |error e=>exact⟨λh=>(nomatch h),λ⟨_,h,_⟩=>(nomatch h)⟩
 |ok a=>exact⟨λh=>⟨a,rfl,h⟩,λ⟨_,h,k⟩=>by cases h;exact k⟩
theorem oo {e:Nat}{l:List Word}{x:Word×List Word}:next e l=.ok x↔l=x.1::x.2:=by
 cases l with
 |nil=>exact⟨λh=>(nomatch h),λh=>(nomatch h)⟩
 |cons w r =>
  constructor
  · intro h;injection h with h;rw[←h]
  · intro h;injection h with h1 h2;subst h1;subst h2;rfl
theorem cT {e:Nat}{s:String}{l r:List Word}:must e s l=.ok r↔∃w,l=w::r/\w.w=ascii s:=by
 unfold must;rw[aE];constructor
 · rintro⟨x,h,k⟩;have h:=oo.mp h;split at k
   · rename_i c;injection k with k;exact⟨x.1,by rw[h,k],c⟩
   · cases k
 · rintro⟨w,rfl,c⟩;exact⟨(w,r),rfl,by rw[Xp c];rfl⟩
theorem bw {e lo hi:Nat}{l:List Word}{x:(Nat×Nat)×List Word}:number e lo hi l=.ok x↔∃w,l=w::x.2/\numberOf w.w=some x.1.1/\lo<=x.1.1/\x.1.1<=hi/\x.1.2=w.at_:=by
 unfold number;rw[aE];constructor
 · rintro⟨y,h,k⟩;have h:=oo.mp h;cases c:numberOf y.1.w with
   |none=>rw[c] at k;cases k
   |some n =>
    rw[c] at k;dsimp only at k;split at k
    · cases k
    · rename_i b;injection k with k;subst k;exact⟨y.1,h,c,by dsimp only;omega,by dsimp only;omega,rfl⟩
 · rintro⟨w,rfl,c,h1,h2,h3⟩;refine⟨(w,x.2),rfl,?_⟩;dsimp only;rw[c];dsimp only;rw[Xo (by omega)];show Except.ok ((x.1.1,w.at_),x.2)=Except.ok x;rw[←h3]
theorem dM {b:Bool}{k p:Nat}{u:Unit}:holds b k p=.ok u↔b=true:=by
 unfold holds;by_cases c:b=true
 · rw[Xp c];exact⟨λ_=>c,λ_=>rfl⟩
 · rw[Xo c];exact⟨λh=>(nomatch h),λh=>absurd h c⟩
theorem j5 {l:List Word}{u:Unit}:closed l=.ok u↔l=[]:=by
 cases l with
 |nil=>exact⟨λ_=>rfl,λ_=>rfl⟩
 |cons=>exact⟨λh=>(nomatch h),λh=>(nomatch h)⟩
theorem je {e:Nat}{had:List Bytes}{l:List Word}{x:Bytes×List Word}:newName e had l=.ok x↔∃w,l=w::x.2/\isName w.w=true/\had.contains w.w=false/\x.1=w.w:=by
 unfold newName;rw[aE];constructor
 · rintro⟨y,h,k⟩;have h:=oo.mp h;split at k
   · cases k
   · rename_i c1;split at k
     · cases k
     · rename_i c2;injection k with k;subst k;exact⟨y.1,h,by simpa using c1,by simpa using c2,rfl⟩
 · rintro⟨w,rfl,c1,c2,c3⟩;refine⟨(w,x.2),rfl,?_⟩;dsimp only;rw[Xo (by rw[c1];decide),Xo (by rw[c2];decide),←c3];rfl
theorem mL {α:Type}{e:Nat}{t:List (α×String)}{l:List Word}{x:(α×Nat)×List Word} :
  oneOf e t l=.ok x↔∃w y,l=w::x.2/\(t.find? λ(y:α×String)=>ascii y.2==w.w)=some y/\x.1=(y.1,w.at_):=by
 unfold oneOf;rw[aE];constructor
 · rintro⟨y,h,k⟩;have h:=oo.mp h;cases c:(t.find? λ(z:α×String)=>ascii z.2==y.1.w) with
   |none=>rw[c] at k;cases k
   |some z =>
    rw[c] at k;injection k with k;subst k;exact⟨y.1,z,h,c,rfl⟩
 · rintro⟨w,y,rfl,c,h3⟩;refine⟨(w,x.2),rfl,?_⟩;dsimp only;rw[c];show Except.ok ((y.1,w.at_),x.2)=Except.ok x;rw[←h3]
def cX (runners:Nat):List W->Z_->Z_->Option (Z_)
 |[],_,ss=>some ss
 |c::a::b::r,fs,ss =>
  if c=cd "couple"/\1<=ay a/\ay a < ay b/\ay b<=(runners:Int)/\¬(ay a).toNat∈ss/\¬(ay b).toNat∈fs/\¬(ay b).toNat∈ss
  then cX runners r (fs++[(ay a).toNat]) (ss++[(ay b).toNat]) else none
 |_,_,_=>none
def dz (runners:Nat)(ss:Z_):Z_:=((List.range runners).map λi=>i+1).filter λn=>!ss.contains n
def bD (ws:List W):Option (Z_) :=
 match ws with
 |_::n::r=>if r.length % 3=0/\r.length<=24/\2<=ay n/\ay n<=24 then (cX (ay n).toNat r [] []).map (dz (ay n).toNat) else none
 |_=>none
structure B8 (had:List (Nat×Nat))(fs ss:Z_):Prop where
 f:∀x,(∃y,(x,y)∈had)↔x∈fs
 s:∀y,(∃x,(x,y)∈had)↔y∈ss
 lt:∀x y,(x,y)∈had->x < y
theorem fu {c x:Nat×Nat}:∀{l:List (Nat×Nat)},x∈putB c l↔x=c∨x∈l
 |[]=>by simp[putB]
 |y::l=>by
  unfold putB;by_cases h:c.2 < y.2
  · rw[Xp h];simp
  · rw[Xo h,Xr,fu (l:=l),Xr];constructor
    · rintro (h|h|h) <;> simp[h]
    · rintro (h|h|h) <;> simp[h]
theorem B8.put {had:List (Nat×Nat)}{fs ss:Z_}(h:B8 had fs ss){a b:Nat}(lt:a < b):B8 (putB (a,b) had) (fs++[a]) (ss++[b]) where
 f:=λx=>by
  rw[Yd,←h.f x];constructor
  · rintro⟨y,hy⟩;rcases fu.mp hy with e|e
    · injection e with e1 e2;subst e1;exact .inr (by simp)
    · exact .inl ⟨y,e⟩
  · rintro (⟨y,hy⟩|e)
    · exact⟨y,fu.mpr (.inr hy)⟩
    · have:x=a:=by simpa using e
      subst this;exact⟨b,fu.mpr (.inl rfl)⟩
 s:=λy=>by
  rw[Yd,←h.s y];constructor
  · rintro⟨x,hx⟩;rcases fu.mp hx with e|e
    · injection e with e1 e2;subst e2;exact .inr (by simp)
    · exact .inl ⟨x,e⟩
  · rintro (⟨x,hx⟩|e)
    · exact⟨x,fu.mpr (.inr hx)⟩
    · have:y=b:=by simpa using e
      subst this;exact⟨a,fu.mpr (.inl rfl)⟩
 lt:=λx y T7=>by
  rcases fu.mp T7 with e|e
  · injection e with e1 e2;subst e1;subst e2;exact lt
  · exact h.lt x y e
theorem B8.IH {had:List (Nat×Nat)}{fs ss:Z_}(h:B8 had fs ss)(a:Nat):(had.any λx=>x.2==a)=true↔a∈ss:=by
 rw[Y2,←h.s a];constructor
 · rintro⟨⟨x,y⟩,hx,e⟩;have:y=a:=by simpa using e
   subst this;exact⟨x,hx⟩
 · rintro⟨x,hx⟩;exact⟨(x,a),hx,by simp⟩
theorem B8.IB {had:List (Nat×Nat)}{fs ss:Z_}(h:B8 had fs ss)(b:Nat):(had.any λx=>x.1==b||x.2==b)=true↔b∈fs∨b∈ss:=by
 rw[Y2,←h.s b,←h.f b];constructor
 · rintro⟨⟨x,y⟩,hx,e⟩;have:x=b∨y=b:=by simpa using e
   rcases this with rfl|rfl
   · exact .inl ⟨y,hx⟩
   · exact .inr ⟨x,hx⟩
 · rintro (⟨y,hx⟩|⟨x,hx⟩)
   · exact⟨(b,y),hx,by simp⟩
   · exact⟨(x,b),hx,by simp⟩
def nj (l:List Word):List W:=l.map λw=>tx w.w
theorem nZ {e runners k:Nat}{had LI:List (Nat×Nat)}{l:List Word}:l≠[]->(couplesIn e runners (k+1) had l=.ok LI ↔
  ∃c a b r na nb,l=c::a::b::r/\c.w=ascii "couple"/\numberOf a.w=some na/\1<=na/\na<=runners/\(had.any λx=>x.2==na)=false /\
   numberOf b.w=some nb/\1<=nb/\nb<=runners/\na < nb/\(had.any λx=>x.1==nb||x.2==nb)=false/\couplesIn e runners k (putB (na,nb) had) r=.ok LI):=by
 intro hl;have he:¬l.isEmpty=true:=λz=>hl (Y1.mp z);have step:couplesIn e runners (k+1) had l=(do
  let m ←must e "couple" l
  let a ←number e 1 runners m
  let _ ←holds (!(had.any λ(x:Nat×Nat)=>x.2==a.1.1)) 4 a.1.2
  let b ←number e 1 runners a.2
  let _ ←holds (decide (a.1.1 < b.1.1)&&!(had.any λ(x:Nat×Nat)=>x.1==b.1.1||x.2==b.1.1)) 4 b.1.2
  couplesIn e runners k (putB (a.1.1,b.1.1) had) b.2):=Xo he
 rw[step,aE];constructor
 · rintro⟨m,hm,h0⟩;obtain⟨c,T8,hc⟩:=cT.mp hm;obtain⟨a,ha,h1⟩:=aE.mp h0;obtain⟨wa,L5,a1,a2,a3,a4⟩:=bw.mp ha;obtain⟨_,g1,h2⟩:=aE.mp h1;have g1:=dM.mp g1;obtain⟨b,hb,h3⟩:=aE.mp h2;obtain⟨wb,Oo,b1,b2,b3,b4⟩:=bw.mp hb;obtain⟨_,g2,h4⟩:=aE.mp h3;have g2:=dM.mp g2;rw[Xv,YV] at g2;exact⟨c,wa,wb,b.2,a.1.1,b.1.1,by rw[T8,L5,Oo],hc,a1,a2,a3,by simpa using g1,b1,b2,b3,g2.1,by simpa using g2.2,h4⟩
 · rintro⟨c,a,b,r,na,nb,rfl,hc,a1,a2,a3,a4,b1,b2,b3,b4,b5,h⟩;refine⟨_,cT.mpr ⟨c,rfl,hc⟩,?_⟩;refine aE.mpr ⟨((na,a.at_),b::r),bw.mpr ⟨a,rfl,a1,a2,a3,rfl⟩,?_⟩;refine aE.mpr ⟨(),dM.mpr (by rw[a4];rfl),?_⟩;refine aE.mpr ⟨((nb,b.at_),r),bw.mpr ⟨b,rfl,b1,b2,b3,rfl⟩,?_⟩;exact aE.mpr ⟨(),dM.mpr (by rw[b5,X4 b4];rfl),h⟩
theorem fB {e runners:Nat}(hr:runners<=24):∀(k:Nat) (had:List (Nat×Nat)) (fs ss:Z_) (l:List Word),B8 had fs ss ->
  (∀LI,couplesIn e runners k had l=.ok LI->l.length<=3*k/\∃L6 L7,cX runners (nj l) fs ss=some L7/\B8 LI L6 L7) /\
  (∀L7,l.length<=3*k->cX runners (nj l) fs ss=some L7->∃LI,couplesIn e runners k had l=.ok LI)
 |0,had,fs,ss,l,hd=>by
  cases l with
  |nil=>exact⟨λLI h=>by injection h with h;subst h;exact⟨Xx _,fs,ss,rfl,hd⟩,λ_ _ _=>⟨had,rfl⟩⟩
  |cons w r =>
   constructor
   · intro LI h;have h:(if w.w=ascii "couple" then Except.error ⟨6,w.at_⟩ else Except.error ⟨3,w.at_⟩:Except Fault (List (Nat×Nat)))=.ok LI:=h;by_cases c:w.w=ascii "couple"
     · rw[Xp c] at h;cases h
     · rw[Xo c] at h;cases h
   · intro _ h;simp at h
 |k+1,had,fs,ss,[],hd=>⟨λLI h=>by
   have h:Except.ok had=Except.ok LI:=h;injection h with h;subst h;exact⟨XW _,fs,ss,rfl,hd⟩,λ_ _ _=>⟨had,rfl⟩⟩
 |k+1,had,fs,ss,w::l,hd=>by
  constructor
  · intro LI h;obtain⟨c,a,b,r,na,nb,el,hc,a1,a2,a3,a4,b1,b2,b3,b4,b5,h⟩:=(nZ (by simp)).mp h;have hd2:=hd.put b4;obtain⟨hl,L6,L7,h1,h2⟩:=(fB hr k _ _ _ r hd2).1 LI h;rw[el];refine⟨by simp only[Xz];omega,L6,L7,?_,h2⟩;show cX runners (tx c.w::tx a.w::tx b.w::nj r) fs ss=_;have ea:ay (tx a.w)=(na:Int):=(dW (by omega)).mpr a1;have eb:ay (tx b.w)=(nb:Int):=(dW (by omega)).mpr b1;unfold cX;rw[ea,eb,X9,X9];have n1:¬na∈ss:=λz=>by rw[(hd.IH na).mpr z] at a4;cases a4
    have n2:¬(nb∈fs∨nb∈ss):=λz=>by rw[(hd.IB nb).mpr z] at b5;cases b5
    rw[Xp ⟨(bh _ (by decide)).mpr hc,by omega,by omega,by omega,n1,λz=>n2 (.inl z),λz=>n2 (.inr z)⟩];exact h1
  · intro L7 hl h
    match l,hl,h with
    |[],_,h=>cases h
    |[_],_,h=>cases h
    |a::b::r,hl,h =>
     have h:cX runners (tx w.w::tx a.w::tx b.w::nj r) fs ss=some L7:=h;unfold cX at h;split at h
     · rename_i q;obtain⟨q1,q2,q3,q4,q5,q6,q7⟩:=q;obtain⟨na,a1,a2,a3,a4⟩:=(fg (w:=a.w) (lo:=1) (hi:=24) (by decide)).mp ⟨q2,by omega⟩;obtain⟨nb,b1,b2,b3,b4⟩:=(fg (w:=b.w) (lo:=1) (hi:=24) (by decide)).mp ⟨by omega,by omega⟩;rw[a4,b4,X9,X9] at h;rw[a4,X9] at q5;rw[b4,X9] at q6 q7;have lt:na < nb:=by omega
       obtain⟨LI,h'⟩:=(fB hr k _ _ _ r (hd.put lt)).2 L7 (by simp only[Xz] at hl;omega) h;refine⟨LI,(nZ (by simp)).mpr ⟨w,a,b,r,na,nb,rfl,(bh _ (by decide)).mp q1,a1,a2,by omega,?_,b1,b2,by omega,lt,?_,h'⟩⟩
       · cases c:(had.any λx=>x.2==na) with
         |false=>rfl
         |true=>exact absurd ((hd.IH na).mp c) q5
       · cases c:(had.any λx=>x.1==nb||x.2==nb) with
         |false=>rfl
         |true=>exact absurd ((hd.IB nb).mp c) λz=>z.elim q6 q7
     · cases h
theorem vV:∀{runners:Nat} (l:List W) (fs ss L7:Z_),cX runners l fs ss=some L7->l.length % 3=0
 |_,[],_,_,_,_=>rfl
 |_,[_],_,_,_,h=>by cases h
 |_,[_,_],_,_,_,h=>by cases h
 |runners,c::a::b::r,fs,ss,L7,h=>by
  unfold cX at h;split at h
  · have:=vV r _ _ _ h;simp only[Xz];omega
  · cases h
theorem uE {n:Nat}{had:List (Nat×Nat)}{fs ss:Z_}(hd:B8 had fs ss):Race.heads ⟨n,had⟩=dz n ss:=by
 unfold Race.heads dz;refine List.filter_congr λx _=>?_;unfold Race.head;cases c:had.find? (λc=>c.2==x) with
 |none =>
  have:¬x∈ss:=λz=>by
   obtain⟨y,hy⟩:=(hd.s x).mpr z;have:=List.find?_eq_none.mp c (y,x) hy;simp at this
  simp[this]
 |some z =>
  obtain⟨a,b⟩:=z;have h1:=List.mem_of_find?_eq_some c;have h2:=List.find?_some c;have h2:b=x:=by simpa using h2
  subst h2;have:=hd.lt a b h1;have hb:b∈ss:=(hd.s b).mp ⟨a,h1⟩;have e1:(a==b)=false:=by
   rw[XX];omega
  simp[hb,e1]
theorem vR {e:Nat}{w:Word}{l:List Word}:(∀r,raceIn e l=.ok r->bD (nj (w::l))=some r.heads)/\(∀hs,bD (nj (w::l))=some hs->∃r,raceIn e l=.ok r/\r.heads=hs):=by
 have nil:B8 [] [] []:=⟨by simp,by simp,by simp⟩;constructor
 · intro r h;unfold raceIn at h;obtain⟨n,hn,h0⟩:=aE.mp h;obtain⟨wn,T9,a1,a2,a3,a4⟩:=bw.mp hn;obtain⟨c,hc,h1⟩:=aE.mp h0;injection h1 with h1;subst h1;rw[T9];have a3:n.1.1<=24:=a3;obtain⟨hl,L6,L7,h1,h2⟩:=(fB a3 8 [] [] [] n.2 nil).1 c hc;have en:ay (tx wn.w)=(n.1.1:Int):=(dW (by omega)).mpr a1;show bD (tx w.w::tx wn.w::nj n.2)=_;unfold bD;dsimp only;rw[en,X9,h1];have:=vV _ _ _ _ h1;have len:(nj n.2).length=n.2.length:=Xn ..;rw[Xp ⟨this,by omega,by omega,by omega⟩,uE h2];rfl
 · intro hs h
   match l,h with
   |wn::l,h =>
    have h:bD (tx w.w::tx wn.w::nj l)=some hs:=h;unfold bD at h;dsimp only at h;split at h
    · rename_i q;obtain⟨q1,q2,q3,q4⟩:=q;obtain⟨n,a1,a2,a3,a4⟩:=(fg (w:=wn.w) (lo:=2) (hi:=24) (by decide)).mp ⟨q3,q4⟩;rw[a4,X9] at h;cases c:cX n (nj l) [] [] with
      |none=>rw[c] at h;cases h
      |some ss =>
       rw[c] at h;injection h with h;have len:(nj l).length=l.length:=Xn ..;obtain⟨had,hh⟩:=(fB (e:=e) (runners:=n) a3 8 [] [] [] l nil).2 ss (by omega) c;obtain⟨_,L6,L7,h1,h2⟩:=(fB (e:=e) (runners:=n) a3 8 [] [] [] l nil).1 had hh;rw[c] at h1;injection h1 with h1;subst h1;refine⟨⟨n,had⟩,?_,by rw[uE h2];exact h⟩;unfold raceIn;refine aE.mpr ⟨((n,wn.at_),l),bw.mpr ⟨wn,rfl,a1,a2,a3,rfl⟩,?_⟩;exact aE.mpr ⟨had,hh,rfl⟩
    · cases h
theorem qH {n:Nat}(hn:n<=24)(ss:Z_):cN (dz n ss) where
 rise:=by
  refine List.Pairwise.filter _ (List.Pairwise.map _ (λa b (h:a < b)=>?_) List.pairwise_lt_range);show a+1 < b+1;omega
 lo:=λx hx=>by
  obtain⟨h,_⟩:=Yy.mp hx;obtain⟨i,_,rfl⟩:=XY.mp h;omega
 hi:=λx hx=>by
  obtain⟨h,_⟩:=Yy.mp hx;obtain⟨i,hi,rfl⟩:=XY.mp h;have:=Zc.mp hi;omega
theorem zB {ws:List W}{hs:Z_}(h:bD ws=some hs):cN hs:=by
 unfold bD at h;split at h
 · rename_i w0 n r;split at h
   · rename_i q;cases c:cX (ay n).toNat r [] [] with
     |none=>rw[c] at h;cases h
     |some ss =>
      rw[c] at h;injection h with h;subst h;exact qH (by omega) _
   · cases h
 · cases h
structure aM where
 name:W
 kind:Kind
 fields:Z9
 unit:Nat
def kindS:Kind->String
 |.place=>"place"
 |.order=>"order"
 |.any=>"any"
 |.legs=>"legs"
def dG (w:W):Option Kind :=
 if w=cd "place" then some .place else if w=cd "order" then some .order else if w=cd "any" then some .any else if w=cd "legs" then some .legs else none
def fm (kind:Kind)(k rc:Nat)(races:Z9):Z9 :=
 match kind with
 |.legs=>(races.drop (rc - 1)).take k
 |.place=>[races.getD (rc - 1) []]
 |_=>List.replicate k (races.getD (rc - 1) [])
def dw (races:Z9)(kind:Kind)(p nm k fr rc tk t br b le m un u no z:W):Prop :=
 p=cd "pool"/\fr=cd "from"/\tk=cd "take"/\br=cd "break"/\le=cd "least"/\un=cd "unit"/\no=cd "none"/\eN nm=true /\
 (0<=ay t/\ay t<=400)/\(1<=ay b/\ay b<=1000)/\(1<=ay u/\ay u<=10000)/\(ay m=0∨(ay u<=ay m/\ay m<=2*ay u)) /\
 ((z=cd "fewer"/\kind≠.place)∨z=cd "refund"∨z=cd "carry")/\((leastK kind:Int)<=ay k/\ay k<=(mostK kind:Int))/\(1<=ay rc/\ay rc<=(races.length:Int)) /\
 ((kind=.legs/\ay rc+ay k - 1<=(races.length:Int))∨(kind≠.legs/\ay k<=((races.getD (ay rc - 1).toNat []).length:Int)))
instance (races:Z9)(kind:Kind)(p nm k fr rc tk t br b le m un u no z:W):Decidable (dw races kind p nm k fr rc tk t br b le m un u no z):=by
 unfold dw;infer_instance
def eX (ws:List W)(races:Z9):Option aM :=
 match ws with
 |[p,nm,kd,k,fr,rc,tk,t,br,b,le,m,un,u,no,z] =>
  match dG kd with
  |none=>none
  |some kind=>if dw races kind p nm k fr rc tk t br b le m un u no z then some ⟨nm,kind,fm kind (ay k).toNat (ay rc).toNat races,(ay u).toNat⟩ else none
 |_=>none
def fieldsOf (C:Card)(p:Pool):Z9:=if p.kind=.legs then C.sets p else List.replicate p.places (C.headsOf p.race)
def aD (C:Card)(p:Pool):aM:=⟨tx p.name,p.kind,fieldsOf C p,p.unit⟩
def rh (C:Card):Z9:=C.races.map Race.heads
structure dY (C:Card)(p:Pool):Prop where
 name:isName p.name=true
 JI:leastK p.kind<=p.k
 Gm:p.k<=mostK p.kind
 Er:1<=p.race
 KY:p.race<=C.races.length
 legs:p.kind=.legs->p.race+p.k<=C.races.length+1
 v9:p.kind≠.legs->p.k<=(C.headsOf p.race).length
 unit:1<=p.unit
 Lo:p.unit<=10000
theorem pQ {w:Bytes}{y:Kind×String}:(KINDS.find? λ(x:Kind×String)=>ascii x.2==w)=some y↔dG (tx w)=some y.1/\y.2=kindS y.1:=by
 have a1:=bh (s:="place") w (by decide);have a2:=bh (s:="order") w (by decide);have a3:=bh (s:="any") w (by decide);have a4:=bh (s:="legs") w (by decide);unfold dG KINDS;obtain⟨yk,ys⟩:=y;simp only[Y3,List.find?_nil];by_cases c1:w=ascii "place"
 · have:(ascii "place"==w)=true:=by rw[c1];simp
   rw[this,Xp (a1.mpr c1)];constructor
   · intro h;injection h with h;injection h with h1 h2;subst h1;subst h2;exact⟨rfl,rfl⟩
   · rintro⟨h1,h2⟩;injection h1 with h1;have h1:Kind.place=yk:=h1;subst h1;have h2:ys="place":=h2;subst h2;rfl
 · have e1:(ascii "place"==w)=false:=by rw[XX];exact λz=>c1 z.symm
   rw[e1,Xo (λz=>c1 (a1.mp z))];by_cases c2:w=ascii "order"
   · have:(ascii "order"==w)=true:=by rw[c2];simp
     rw[this,Xp (a2.mpr c2)];constructor
     · intro h;injection h with h;injection h with h1 h2;subst h1;subst h2;exact⟨rfl,rfl⟩
     · rintro⟨h1,h2⟩;injection h1 with h1;have h1:Kind.order=yk:=h1;subst h1;have h2:ys="order":=h2;subst h2;rfl
   · have e2:(ascii "order"==w)=false:=by rw[XX];exact λz=>c2 z.symm
     rw[e2,Xo (λz=>c2 (a2.mp z))];by_cases c3:w=ascii "any"
     · have:(ascii "any"==w)=true:=by rw[c3];simp
       rw[this,Xp (a3.mpr c3)];constructor
       · intro h;injection h with h;injection h with h1 h2;subst h1;subst h2;exact⟨rfl,rfl⟩
       · rintro⟨h1,h2⟩;injection h1 with h1;have h1:Kind.any=yk:=h1;subst h1;have h2:ys="any":=h2;subst h2;rfl
     · have e3:(ascii "any"==w)=false:=by rw[XX];exact λz=>c3 z.symm
       rw[e3,Xo (λz=>c3 (a3.mp z))];by_cases c4:w=ascii "legs"
       · have:(ascii "legs"==w)=true:=by rw[c4];simp
         rw[this,Xp (a4.mpr c4)];constructor
         · intro h;injection h with h;injection h with h1 h2;subst h1;subst h2;exact⟨rfl,rfl⟩
         · rintro⟨h1,h2⟩;injection h1 with h1;have h1:Kind.legs=yk:=h1;subst h1;have h2:ys="legs":=h2;subst h2;rfl
       · have e4:(ascii "legs"==w)=false:=by rw[XX];exact λz=>c4 z.symm
         rw[e4,Xo (λz=>c4 (a4.mp z))];exact⟨λh=>(nomatch h),λh=>(nomatch h.1)⟩
theorem qb {w:Bytes}{kind:Kind}:(∃y,((if kind=.place then NONES.take 2 else NONES).find? λ(x:None_×String)=>ascii x.2==w)=some y) ↔
  ((tx w=cd "fewer"/\kind≠.place)∨tx w=cd "refund"∨tx w=cd "carry"):=by
 have a1:=bh (s:="fewer") w (by decide);have a2:=bh (s:="refund") w (by decide);have a3:=bh (s:="carry") w (by decide);rw[a1,a2,a3,←Zz,List.find?_isSome];constructor
 · rintro⟨x,hx,e⟩;have e:ascii x.2=w:=by simpa using e
   by_cases c:kind=.place
   · rw[Xp c] at hx;have hx:x=(.refund,"refund")∨x=(.carry,"carry"):=by simpa [NONES] using hx
     rcases hx with rfl|rfl
     · exact .inr (.inl e.symm)
     · exact .inr (.inr e.symm)
   · rw[Xo c] at hx;have hx:x=(.refund,"refund")∨x=(.carry,"carry")∨x=(.fewer,"fewer"):=by simpa [NONES] using hx
     rcases hx with rfl|rfl|rfl
     · exact .inr (.inl e.symm)
     · exact .inr (.inr e.symm)
     · exact .inl ⟨e.symm,c⟩
 · rintro (⟨e,c⟩|e|e)
   · exact⟨(.fewer,"fewer"),by rw[Xo c];simp[NONES],by simp[e]⟩
   · refine⟨(.refund,"refund"),?_,by simp[e]⟩;split <;> simp[NONES]
   · refine⟨(.carry,"carry"),?_,by simp[e]⟩;split <;> simp[NONES]
theorem jw (C:Card)(r:Nat)(_:1<=r):C.headsOf r=(rh C).getD (r - 1) []:=by
 unfold Card.headsOf rh;rw[X7,Xs]
theorem rf (C:Card)(p:Pool)(hk:p.kind=.legs)(h1:1<=p.race)(h2:p.race+p.k<=C.races.length+1):C.sets p=((rh C).drop (p.race - 1)).take p.k:=by
 unfold Card.sets Pool.legs;rw[Xp hk];have len:(rh C).length=C.races.length:=Xn ..
 apply ZL
 intro i;rw[Xs,List.getElem?_take,List.getElem?_drop];by_cases c:i < p.k
 · rw[Y9 c,Xp c];show some (C.headsOf (p.race+i))=_;rw[jw C _ (by omega),X7];have e:p.race+i - 1=p.race - 1+i:=by omega
   rw[e];have lt:p.race - 1+i < (rh C).length:=by omega
   rw[Xy lt];rfl
 · rw[Xo c,Ys (by simp;omega)];rfl
theorem Ao {C:Card}{p:Pool}(h:dY C p):fieldsOf C p=fm p.kind p.k p.race (rh C):=by
 unfold fieldsOf fm;cases hk:p.kind with
 |legs=>rw[Xp rfl];exact rf C p hk h.Er (h.legs hk)
 |place =>
  rw[Xo (by decide)];unfold Pool.places;rw[Xp hk,jw C _ h.Er];rfl
 |order =>
  rw[Xo (by decide)];unfold Pool.places;rw[Xo (by rw[hk];decide),jw C _ h.Er]
 |any =>
  rw[Xo (by decide)];unfold Pool.places;rw[Xo (by rw[hk];decide),jw C _ h.Er]
theorem By {e:Nat}{C:Card}{w:Word}{l:List Word}{p:Pool}(hC:C.races.length<=16)(hw:w.w=ascii "pool")(h:poolIn e C l=.ok p) :
  dY C p/\(C.pools.map λ(p:Pool)=>p.name).contains p.name=false/\eX (nj (w::l)) (rh C)=some (aD C p):=by
 unfold poolIn at h;obtain⟨n,x1,h1⟩:=aE.mp h;obtain⟨wn,e1,R_,T_,Qo⟩:=je.mp x1;obtain⟨kd,x2,h2⟩:=aE.mp h1;obtain⟨wk,yk,e2,kf,kx⟩:=mL.mp x2;obtain⟨k,x3,h3⟩:=aE.mp h2;obtain⟨NZ,e3,k1,k2,k3,k4⟩:=bw.mp x3;obtain⟨l4,x4,h4⟩:=aE.mp h3;obtain⟨Qp,e4,f1⟩:=cT.mp x4;obtain⟨r,x5,h5⟩:=aE.mp h4;obtain⟨wr,e5,r1,r2,r3,r4⟩:=bw.mp x5;obtain⟨_,x6,h6⟩:=aE.mp h5;have y6:=dM.mp x6;obtain⟨_,x7,h7⟩:=aE.mp h6;have y7:=dM.mp x7;obtain⟨l8,x8,h8⟩:=aE.mp h7;obtain⟨Qq,e8,f8⟩:=cT.mp x8;obtain⟨t,x9,h9⟩:=aE.mp h8;obtain⟨wt,e9,t1,t2,t3,t4⟩:=bw.mp x9;obtain⟨Ua,Ub,Qr⟩:=aE.mp h9;obtain⟨Qs,Uc,Ud⟩:=cT.mp Ub;obtain⟨b,Ue,Qt⟩:=aE.mp Qr;obtain⟨wb,Ug,b1,b2,b3,b4⟩:=bw.mp Ue;obtain⟨Uh,Ui,Uj⟩:=aE.mp Qt;obtain⟨Qu,MM,Uk⟩:=cT.mp Ui;obtain⟨m,Ul,Um⟩:=aE.mp Uj;obtain⟨wm,Oq,m1,m2,m3,m4⟩:=bw.mp Ul;obtain⟨Uo,Up,Uq⟩:=aE.mp Um;obtain⟨Qv,Ur,Us⟩:=cT.mp Up;obtain⟨u,Ut,Uu⟩:=aE.mp Uq;obtain⟨wu,Uv,u1,u2,u3,u4⟩:=bw.mp Ut;obtain⟨_,Uw,M9⟩:=aE.mp Uu;have Sa:=dM.mp Uw;obtain⟨l17,Ux,Uy⟩:=aE.mp M9;obtain⟨Qw,Uz,UA⟩:=cT.mp Ux;obtain⟨z,UB,UC⟩:=aE.mp Uy;obtain⟨wz,yz,UD,z1,z2⟩:=mL.mp UB;obtain⟨_,UE,Ot⟩:=aE.mp UC;have UG:=j5.mp UE;injection Ot with Ot;have kk:kd.1.1=yk.1:=by rw[kx]
 obtain⟨km,_⟩:=pQ.mp kf;rw[←kk] at km;have UH:mostK kd.1.1<=6:=by cases kd.1.1 <;> decide
 have ek:ay (tx NZ.w)=(k.1.1:Int):=(dW (by omega)).mpr k1;have er:ay (tx wr.w)=(r.1.1:Int):=(dW (by omega)).mpr r1;have et:ay (tx wt.w)=(t.1.1:Int):=(dW (by omega)).mpr t1;have eb:ay (tx wb.w)=(b.1.1:Int):=(dW (by omega)).mpr b1;have em:ay (tx wm.w)=(m.1.1:Int):=(dW (by omega)).mpr m1;have eu:ay (tx wu.w)=(u.1.1:Int):=(dW (by omega)).mpr u1;have Mc:(rh C).length=C.races.length:=Xn ..;have d6:kd.1.1=.legs->r.1.1+k.1.1<=C.races.length+1:=λq=>by
  rw[q] at y6;simpa using y6
 have d7:kd.1.1≠.legs->k.1.1<=(C.headsOf r.1.1).length:=λq=>by
  have q':(kd.1.1==Kind.legs)=false:=by rw[XX];exact q
  rw[q',Bool.false_or] at y7;unfold Card.headsOf;cases c:C.races[r.1.1 - 1]? with
  |none=>rw[c] at y7;cases y7
  |some x =>
   rw[c] at y7;simpa using y7
 have ok:dY C p:=by
  subst Ot;exact⟨by rw[Qo];exact R_,k2,k3,r2,r3,d6,d7,u2,u3⟩
 refine⟨ok,by subst Ot;show List.contains _ n.1=false;rw[Qo];exact T_,?_⟩;have hl:nj (w::l)=[tx w.w,tx wn.w,tx wk.w,tx NZ.w,tx Qp.w,tx wr.w,tx Qq.w,tx wt.w,tx Qs.w,tx wb.w,tx Qu.w,tx wm.w,tx Qv.w,tx wu.w,tx Qw.w,tx wz.w]:=by
  rw[e1,e2,e3,e4,e5,e8,e9,Uc,Ug,MM,Oq,Ur,Uv,Uz,UD,UG];rfl
 have hf:=Ao ok;rw[hl];show (match dG (tx wk.w) with
  |none=>none
  |some kind=>_)=_
 rw[km];dsimp only;rw[Xp ?_,ek,er,eu,X9,X9,X9]
 · unfold aD;rw[hf];subst Ot;dsimp only;rw[Qo]
 · refine⟨(bh _ (by decide)).mpr hw,(bh _ (by decide)).mpr f1,(bh _ (by decide)).mpr f8,(bh _ (by decide)).mpr Ud,(bh _ (by decide)).mpr Uk,(bh _ (by decide)).mpr Us,(bh _ (by decide)).mpr UA,
    by rw[kg];exact R_,by rw[et];omega,by rw[eb];omega,by rw[eu];omega,?_,?_,by rw[ek];omega,by rw[er,Mc];omega,?_⟩
   · rw[em,eu];rw[Yp] at Sa;rcases Sa with q|q
     · left;have:m.1.1=0:=by simpa using q
       omega
     · right;unfold inside at q;rw[Xv,YV,YV] at q;omega
   · exact qb.mp ⟨yz,z1⟩
   · rw[er,ek,Mc];by_cases q:kd.1.1=.legs
     · left;exact⟨q,by have:=d6 q;omega⟩
     · right;refine⟨q,?_⟩;have:=d7 q;rw[jw C _ r2] at this;have e:((r.1.1:Int) - 1).toNat=r.1.1 - 1:=by omega
       rw[e];omega
theorem bX {l:List Word}{a:W}{r:List W}(h:nj l=a::r):∃w m,l=w::m/\a=tx w.w/\nj m=r:=by
 cases l with
 |nil=>cases h
 |cons w m=>exact⟨w,m,rfl,(List.cons.inj h).1.symm,(List.cons.inj h).2⟩
theorem EC {l:List Word}(h:nj l=[]):l=[]:=by
 cases l with
 |nil=>rfl
 |cons w m=>cases h
theorem BB {e:Nat}{C:Card}{w:Word}{l:List Word}{q:aM}(hC:C.races.length<=16)(h:eX (nj (w::l)) (rh C)=some q)(hn:(C.pools.map λ(p:Pool)=>tx p.name).contains q.name=false)
  (ok:∀p∈C.pools,isName p.name=true) :
  ∃p,poolIn e C l=.ok p:=by
 unfold eX at h;split at h
 · rename_i p nm kd k fr rc tk t br b le m un u no z hl;have hl:tx w.w::nj l=_:=hl;injection hl with hw0 hl;obtain⟨wn,l1,rfl,rfl,g1⟩:=bX hl;obtain⟨wk,l2,rfl,rfl,g2⟩:=bX g1;obtain⟨NZ,l3,rfl,rfl,g3⟩:=bX g2;obtain⟨Qp,l4,rfl,rfl,g4⟩:=bX g3;obtain⟨wr,l5,rfl,rfl,g5⟩:=bX g4;obtain⟨Qq,l6,rfl,rfl,g6⟩:=bX g5;obtain⟨wt,l7,rfl,rfl,g7⟩:=bX g6;obtain⟨Qs,l8,rfl,rfl,g8⟩:=bX g7;obtain⟨wb,l9,rfl,rfl,g9⟩:=bX g8;obtain⟨Qu,Ua,rfl,rfl,UI⟩:=bX g9;obtain⟨wm,l11,rfl,rfl,UJ⟩:=bX UI;obtain⟨Qv,Uh,rfl,rfl,UK⟩:=bX UJ;obtain⟨wu,l13,rfl,rfl,UL⟩:=bX UK;obtain⟨Qw,Uo,rfl,rfl,UM⟩:=bX UL;obtain⟨wz,UN,rfl,rfl,UO⟩:=bX UM;have UP:UN=[]:=EC UO;subst UP;cases km:dG (tx wk.w) with
   |none=>rw[km] at h;cases h
   |some kind =>
    rw[km] at h;dsimp only at h;split at h
    · rename_i cs;injection h with h;obtain⟨c1,c2,c3,c4,c5,c6,c7,c8,c9,Pq,Pr,Ny,N0,M_,Nz,MA⟩:=cs;have UH:mostK kind<=6:=by cases kind <;> decide
      have Mc:(rh C).length=C.races.length:=Xn ..;obtain⟨nt,t1,t2,t3,t4⟩:=(fg (w:=wt.w) (lo:=0) (hi:=400) (by decide)).mp c9;obtain⟨nb,b1,b2,b3,b4⟩:=(fg (w:=wb.w) (lo:=1) (hi:=1000) (by decide)).mp Pq;obtain⟨nu,u1,u2,u3,u4⟩:=(fg (w:=wu.w) (lo:=1) (hi:=10000) (by decide)).mp Pr;obtain⟨nk,k1,k2,k3,k4⟩:=(fg (w:=NZ.w) (lo:=leastK kind) (hi:=mostK kind) (by omega)).mp M_;obtain⟨nr,r1,r2,r3,r4⟩:=(fg (w:=wr.w) (lo:=1) (hi:=(rh C).length) (by omega)).mp Nz;rw[u4] at Ny;obtain⟨Ou,m1,m2,m3,m4⟩:=(fg (w:=wm.w) (lo:=0) (hi:=20000) (by decide)).mp (by
       rcases Ny with z|⟨z1,z2⟩
       · rw[z];omega
       · omega)
      rw[m4] at Ny;rw[r4,k4,Mc] at MA;obtain⟨yz,hz⟩:=qb.mpr N0;have UQ:(KINDS.find? λ(x:Kind×String)=>ascii x.2==wk.w)=some (kind,kindS kind):=pQ.mpr ⟨km,rfl⟩;have UR:(C.pools.map λ(p:Pool)=>p.name).contains wn.w=false:=by
       subst h;cases c:(C.pools.map λ(p:Pool)=>p.name).contains wn.w with
       |false=>rfl
       |true =>
        exfalso;have c:wn.w∈C.pools.map λ(p:Pool)=>p.name:=by simpa using c
        obtain⟨p0,Ov,ep⟩:=XY.mp c;have:tx wn.w∈C.pools.map λ(p:Pool)=>tx p.name:=XY.mpr ⟨p0,Ov,by rw[ep]⟩;have ML:¬tx wn.w∈C.pools.map λ(p:Pool)=>tx p.name:=by simpa using hn
        exact ML this
      refine⟨⟨wn.w,kind,nk,nr,yz.1,nt,nb,Ou,nu⟩,?_⟩;unfold poolIn;refine aE.mpr ⟨(wn.w,_),je.mpr ⟨wn,rfl,by rw[←kg];exact c8,UR,rfl⟩,?_⟩;refine aE.mpr ⟨((kind,wk.at_),_),mL.mpr ⟨wk,_,rfl,UQ,rfl⟩,?_⟩;refine aE.mpr ⟨((nk,NZ.at_),_),bw.mpr ⟨NZ,rfl,k1,k2,k3,rfl⟩,?_⟩;refine aE.mpr ⟨_,cT.mpr ⟨Qp,rfl,(bh _ (by decide)).mp c2⟩,?_⟩;refine aE.mpr ⟨((nr,wr.at_),_),bw.mpr ⟨wr,rfl,r1,r2,Mc ▸ r3,rfl⟩,?_⟩;refine aE.mpr ⟨(),dM.mpr ?_,?_⟩
      · show (kind != Kind.legs||decide (nr+nk<=C.races.length+1))=true;rcases MA with ⟨z1,z2⟩|⟨z1,z2⟩
        · rw[Yp];right;exact X4 (by omega)
        · rw[Yp];left;simpa using z1
      refine aE.mpr ⟨(),dM.mpr ?_,?_⟩
      · show (kind==Kind.legs||((C.races[nr - 1]?).map λ(x:Race)=>decide (nk<=x.heads.length)).getD false)=true;rw[Yp];rcases MA with ⟨z1,z2⟩|⟨z1,z2⟩
        · left;rw[z1];rfl
        · right;have lt:nr - 1 < C.races.length:=by omega
          rw[Xy lt];show decide _=true;refine X4 ?_;have e:((nr:Int) - 1).toNat=nr - 1:=by omega
          rw[e] at z2;unfold rh at z2;rw[X7,Xs,Xy lt] at z2;have z2:(nk:Int)<=((C.races[nr - 1]).heads.length:Int):=z2;omega
      refine aE.mpr ⟨_,cT.mpr ⟨Qq,rfl,(bh _ (by decide)).mp c3⟩,?_⟩;refine aE.mpr ⟨((nt,wt.at_),_),bw.mpr ⟨wt,rfl,t1,t2,t3,rfl⟩,?_⟩;refine aE.mpr ⟨_,cT.mpr ⟨Qs,rfl,(bh _ (by decide)).mp c4⟩,?_⟩;refine aE.mpr ⟨((nb,wb.at_),_),bw.mpr ⟨wb,rfl,b1,b2,b3,rfl⟩,?_⟩;refine aE.mpr ⟨_,cT.mpr ⟨Qu,rfl,(bh _ (by decide)).mp c5⟩,?_⟩;refine aE.mpr ⟨((Ou,wm.at_),_),bw.mpr ⟨wm,rfl,m1,m2,m3,rfl⟩,?_⟩;refine aE.mpr ⟨_,cT.mpr ⟨Qv,rfl,(bh _ (by decide)).mp c6⟩,?_⟩;refine aE.mpr ⟨((nu,wu.at_),_),bw.mpr ⟨wu,rfl,u1,u2,u3,rfl⟩,?_⟩;refine aE.mpr ⟨(),dM.mpr ?_,?_⟩
      · show (Ou==0||inside nu (2*nu) Ou)=true;rw[Yp];rcases Ny with z|⟨z1,z2⟩
        · left;have:Ou=0:=by omega
          rw[this];rfl
        · right;unfold inside;rw[Xv,YV,YV];omega
      refine aE.mpr ⟨_,cT.mpr ⟨Qw,rfl,(bh _ (by decide)).mp c7⟩,?_⟩;refine aE.mpr ⟨((yz.1,wz.at_),[]),mL.mpr ⟨wz,yz,rfl,hz,rfl⟩,?_⟩;exact aE.mpr ⟨(),j5.mpr rfl,rfl⟩
    · cases h
 · cases h
def iF (ws:List W):Bool:=ws.length==2&&ws.getD 0 []==cd "day"&&eN (ws.getD 1 [])
def bZ (races:Z9):List aM->List (List W)->Option (List aM)
 |acc,[]=>some acc
 |acc,ws::ls=>match eX ws races with
  |none=>none
  |some p=>if (acc.map (·.name)).contains p.name=true then none else bZ races (acc++[p]) ls
def iZ (lines:List (List W))(races:Z9):Option (List aM):=if 64 < lines.length then none else bZ races [] lines
def aP (ws:List W):Bool:=ws.headD []==cd "race"
def eK:Z9->List (List W)->Option (List aM)
 |acc,[]=>if acc=[] then none else some []
 |acc,ws::ls=>if aP ws=true then (if 16<=acc.length then none else match bD ws with
  |none=>none
  |some h=>eK (acc++[h]) ls) else if acc=[] then none else iZ (ws::ls) acc
def qF (t:W):List (List W):=(aV 10 [] t.dropLast).map (aV 32 [])
def eh (t:W):Option (List aM) :=
 if t.getLast?=some 10 then match qF t with
  |[]=>none
  |d::ls=>if iF d=true then eK [] ls else none
 else none
theorem pz:∀(ls:List (List W)) (acc:Z9),acc.length<=16 ->
  eK acc ls=if 1<=acc.length+(ls.takeWhile aP).length/\acc.length+(ls.takeWhile aP).length<=16/\¬none∈(ls.takeWhile aP).map bD then iZ (ls.dropWhile aP) (acc++((ls.takeWhile aP).map bD).filterMap id) else none
 |[],acc,h=>by
  show (if acc=[] then none else some [])=_;by_cases c:acc=[]
  · subst c;rfl
  · rw[Xo c,Xp]
    · rfl
    · have:0 < acc.length:=Yt.mpr c;exact⟨by simp;omega,by simpa using h,by simp⟩
 |ws::ls,acc,h=>by
  show (if aP ws=true then _ else _)=_;by_cases c:aP ws=true
  · rw[Xp c,Zx,Z0,Xp c,Xp c];by_cases c2:16<=acc.length
    · rw[Xp c2,Xo];rintro⟨_,z,_⟩;rw[Xz] at z;omega
    · rw[Xo c2];cases hr:bD ws with
      |none =>
       dsimp only;rw[Xo];rintro⟨_,_,z⟩;exact z (by rw[XE,hr];simp)
      |some hs =>
       dsimp only;rw[pz ls (acc++[hs]) (by rw[XM,YC];omega)];have e1:(acc++[hs]).length=acc.length+1:=by simp
       rw[e1,XE,hr,ZZ,Xz,YS];have k:(1<=acc.length+1+(ls.takeWhile aP).length/\acc.length+1+(ls.takeWhile aP).length<=16/\¬none∈(ls.takeWhile aP).map bD) ↔
         (1<=acc.length+((ls.takeWhile aP).length+1)/\acc.length+((ls.takeWhile aP).length+1)<=16/\¬none∈some hs::(ls.takeWhile aP).map bD):=by
        have:(¬none∈some hs::(ls.takeWhile aP).map bD)↔¬none∈(ls.takeWhile aP).map bD:=by simp
        rw[this];constructor
        · rintro⟨a,b,d⟩;exact⟨by omega,by omega,d⟩
        · rintro⟨a,b,d⟩;exact⟨by omega,by omega,d⟩
       by_cases q:(1<=acc.length+1+(ls.takeWhile aP).length/\acc.length+1+(ls.takeWhile aP).length<=16/\¬none∈(ls.takeWhile aP).map bD)
       · rw[Xp q,Xp (k.mp q)];rfl
       · rw[Xo q,Xo (λz=>q (k.mpr z))]
  · rw[Xo c,Zx,Z0,Xo c,Xo c];by_cases d:acc=[]
    · subst d;rfl
    · rw[Xo d,Xp]
      · simp
      · have:0 < acc.length:=Yt.mpr d;exact⟨by simp;omega,by simpa using h,by simp⟩
def jg (w:W):Prop:=w≠[]/\∀c∈w,(isLet c||bW c)=true
theorem xg {v:Bytes}(h:jg (tx v)):CJ v:=by
 refine⟨λe=>h.1 (by rw[e];rfl),λc hc=>?_⟩;have:=h.2 (sg c.toNat) (XY.mpr ⟨c,hc,rfl⟩);rw[pM,pJ] at this;unfold isLet bW at this;simp only[Yp,Xv,Xw] at this;constructor
 · show 32 < c.toNat;omega
 · show c.toNat<=126;omega
theorem ke {w:W}(h:eN w=true):jg w:=by
 unfold eN at h;simp only[Xv,Xw] at h;refine⟨λe=>?_,λc hc=>(XU.mp h.2) c hc⟩;rw[e] at h;simp at h
theorem d_ {w:W}(h:0<=ay w):jg w:=by
 unfold ay at h;split at h
 · omega
 · rename_i q;have q1:¬w=[]:=λz=>q (.inr (.inl z));have q2:¬w.all bW=false:=λz=>q (.inr (.inr z));refine⟨q1,λc hc=>?_⟩;have q2:w.all bW=true:=by simpa using q2
   rw[(XU.mp q2) c hc,Bool.or_true]
def AJ (w:W):Bool:=!w.isEmpty&&w.all λc=>isLet c||bW c
theorem EY {w:W}(h:AJ w=true):jg w:=by
 unfold AJ at h;rw[Xv] at h;exact⟨λe=>by rw[e] at h;simp at h,λc hc=>(XU.mp h.2) c hc⟩
theorem bN {w:W}{s:String}(e:w=cd s)(h:AJ (cd s)=true):jg w:=e ▸ EY h
theorem AU {ws:List W}(h:iF ws=true):∀w∈ws,jg w:=by
 unfold iF at h;simp only[Xv,Ye] at h
 match ws,h with
 |[a,b],h =>
  intro w hw;rcases Xr.mp hw with rfl|hw
  · exact bN h.1.2 (by decide)
  · have:w=b:=by simpa using hw
    subst this;exact ke h.2
theorem rZ:∀{n:Nat} (l:List W) (fs ss L7:Z_),cX n l fs ss=some L7->∀w∈l,jg w
 |_,[],_,_,_,_=>by simp
 |_,[_],_,_,_,h=>by cases h
 |_,[_,_],_,_,_,h=>by cases h
 |n,c::a::b::r,fs,ss,L7,h=>by
  unfold cX at h;split at h
  · rename_i q;intro w hw;rcases Xr.mp hw with rfl|hw
    · exact bN q.1 (by decide)
    · rcases Xr.mp hw with rfl|hw
      · exact d_ (by omega)
      · rcases Xr.mp hw with rfl|hw
        · exact d_ (by omega)
        · exact rZ r _ _ _ h w hw
  · cases h
theorem zS {ws:List W}{hs:Z_}(h0:aP ws=true)(h:bD ws=some hs):∀w∈ws,jg w:=by
 unfold bD at h;split at h
 · rename_i w0 n r;split at h
   · rename_i q;cases c:cX (ay n).toNat r [] [] with
     |none=>rw[c] at h;cases h
     |some ss =>
      intro w hw;rcases Xr.mp hw with rfl|hw
      · unfold aP at h0;exact bN (Ye.mp h0) (by decide)
      · rcases Xr.mp hw with rfl|hw
        · exact d_ (by omega)
        · exact rZ r _ _ _ c w hw
   · cases h
 · cases h
theorem Ad {w:W}{k:Kind}(h:dG w=some k):jg w:=by
 unfold dG at h;split at h
 · rename_i e;exact bN e (by decide)
 · split at h
   · rename_i e;exact bN e (by decide)
   · split at h
     · rename_i e;exact bN e (by decide)
     · split at h
       · rename_i e;exact bN e (by decide)
       · cases h
theorem rb {ws:List W}{races:Z9}{q:aM}(h:eX ws races=some q):(∀w∈ws,jg w)/\ws.headD []=cd "pool":=by
 unfold eX at h;split at h
 · rename_i p nm kd k fr rc tk t br b le m un u no z;cases km:dG kd with
   |none=>rw[km] at h;cases h
   |some kind =>
    rw[km] at h;dsimp only at h;split at h
    · rename_i cs;obtain⟨c1,c2,c3,c4,c5,c6,c7,c8,c9,Pq,Pr,Ny,N0,M_,Nz,MA⟩:=cs;have hm:0<=ay m:=by omega
      have gz:jg z:=by
       rcases N0 with ⟨e,_⟩|e|e
       · exact bN e (by decide)
       · exact bN e (by decide)
       · exact bN e (by decide)
      refine⟨λw hw=>?_,c1⟩;simp only[Xr,Zb,or_false] at hw;rcases hw with rfl|rfl|rfl|rfl|rfl|rfl|rfl|rfl|rfl|rfl|rfl|rfl|rfl|rfl|rfl|rfl
      · exact bN c1 (by decide)
      · exact ke c8
      · exact Ad km
      · exact d_ (by omega)
      · exact bN c2 (by decide)
      · exact d_ (by omega)
      · exact bN c3 (by decide)
      · exact d_ (by omega)
      · exact bN c4 (by decide)
      · exact d_ (by omega)
      · exact bN c5 (by decide)
      · exact d_ hm
      · exact bN c6 (by decide)
      · exact d_ (by omega)
      · exact bN c7 (by decide)
      · exact gz
    · cases h
 · cases h
def lw (l:Bytes):List W:=aV 32 [] (tx l)
theorem Bh (l:Bytes):lw l=(splitOn 32 [] l).map tx:=ij (c:=32) (by decide) l []
theorem lq {l:Bytes}(h:∀w∈lw l,jg w):badByte true 0 l=none:=by
 refine xm l [] 0 (λv hv=>xg (h (tx v) ?_)) (by simp);rw[Bh];exact XY.mpr ⟨v,hv,rfl⟩
theorem qD {l:Bytes}(p:Nat)(h:badByte true 0 l=none):nj (wordsFrom p [] l)=lw l:=by
 obtain⟨a,_⟩:=words_of l [] p 0 (XW _) h;rw[Bh,←a,XR];rfl
def bO:Nat->Option Card->List Bytes->Except Fault (Option Card)
 |_,h,[]=>.ok h
 |p,h,l::ls=>match badByte true 0 l with
  |some i=>.error ⟨2,p+i⟩
  |none=>match lineIn h ⟨wordsFrom p [] l,p+l.length⟩ with
   |.error e=>.error e
   |.ok t=>bO (p+l.length+1) t ls
def dI (ls:List Bytes):Bytes:=ls.flatMap λl=>l++[10]
theorem qh {r:Bytes}:∀{l:Bytes},¬10∈l->upTo (l++10::r)=some (l,r)
 |[],_=>by simp[upTo]
 |c::l,h=>by
  have hc:¬c=10:=λe=>h (by simp[e]);show (if c=10 then some ([],l++10::r) else (upTo (l++10::r)).map λ(x:Bytes×Bytes)=>(c::x.1,x.2))=_;rw[Xo hc,qh λm=>h (by simp[m])];rfl
theorem kl:∀{b l r:Bytes},upTo b=some (l,r)->b=l++10::r/\¬10∈l
 |[],_,_,h=>by cases h
 |c::b,l,r,h=>by
  have h:(if c=10 then some ([],b) else (upTo b).map λ(x:Bytes×Bytes)=>(c::x.1,x.2))=some (l,r):=h;by_cases e:c=10
  · rw[Xp e] at h;injection h with h;injection h with h1 h2;subst h1;subst h2;subst e;exact⟨rfl,by simp⟩
  · rw[Xo e] at h;cases q:upTo b with
    |none=>rw[q] at h;cases h
    |some x =>
     rw[q] at h;injection h with h;injection h with h1 h2;obtain⟨a1,a2⟩:=kl (b:=b) (l:=x.1) (r:=x.2) q;subst h1;subst h2;exact⟨by rw[Zv,←a1],λm=>by
      rcases Xr.mp m with z|z
      · exact e z.symm
      · exact a2 z⟩
theorem sk:∀{b:Bytes},upTo b=none->¬10∈b
 |[],_=>by simp
 |c::b,h=>by
  have h:(if c=10 then some ([],b) else (upTo b).map λ(x:Bytes×Bytes)=>(c::x.1,x.2))=none:=h;by_cases e:c=10
  · rw[Xp e] at h;cases h
  · rw[Xo e] at h;cases q:upTo b with
    |none =>
     have:=sk q;intro m;rcases Xr.mp m with z|z
     · exact e z.symm
     · exact this z
    |some x=>rw[q] at h;cases h
theorem pY:∀(ls:List Bytes) (k p:Nat) (h:Option Card),(∀l∈ls,¬10∈l)->(dI ls).length < k->linesIn lineIn k p h (dI ls)=bO p h ls
 |[],0,_,_,_,hk=>by simp at hk
 |[],k+1,p,h,_,_=>rfl
 |l::ls,0,_,_,_,hk=>by simp at hk
 |l::ls,k+1,p,h,hn,hk=>by
  have e:dI (l::ls)=l++10::dI ls:=by
   unfold dI;rw[ZK,YS];rfl
  rw[e] at hk ⊢;have ne:¬(l++10::dI ls).isEmpty=true:=by simp
  show (if (l++10::dI ls).isEmpty=true then Except.ok h else match upTo (l++10::dI ls) with
   |none=>_
   |some (l,r)=>_)=_
  rw[Xo ne,qh (hn l (by simp))];dsimp only;unfold bO;cases hb:badByte true 0 l with
  |some i=>rfl
  |none =>
   dsimp only;cases hl:lineIn h ⟨wordsFrom p [] l,p+l.length⟩ with
   |error e=>rfl
   |ok t =>
    dsimp only;exact pY ls k (p+l.length+1) t (λm hm=>hn m (by simp[hm])) (by simp only[XM,Xz] at hk;omega)
theorem pA:∀(k p:Nat) (h h':Option Card) (b:Bytes),b.length < k->linesIn lineIn k p h b=.ok h'->b=[]∨b.getLast?=some 10
 |0,_,_,_,_,hk,_=>by omega
 |k+1,p,h,h',b,hk,q=>by
  by_cases e:b=[]
  · exact .inl e
  · right;have ne:¬b.isEmpty=true:=λz=>e (Y1.mp z);rw[linesIn,Xo ne] at q;cases hu:upTo b with
    |none=>rw[hu] at q;cases q
    |some x =>
     obtain⟨l,r⟩:=x;rw[hu] at q;dsimp only at q;obtain⟨hb,_⟩:=kl hu;cases Ow:badByte true 0 l with
     |some i=>rw[Ow] at q;cases q
     |none =>
      rw[Ow] at q;dsimp only at q;cases hl:lineIn h ⟨wordsFrom p [] l,p+l.length⟩ with
      |error e=>rw[hl] at q;cases q
      |ok t =>
       rw[hl] at q;dsimp only at q;have:=pA k _ t h' r (by rw[hb] at hk;simp only[XM,Xz] at hk;omega) q;rw[hb];rcases this with z|z
       · subst z;simp
       · rw[List.getLast?_append];cases r with
         |nil=>simp at z
         |cons c r =>
          rw[List.getLast?_cons_cons,z];rfl
theorem join_split:∀(b w:Bytes),dI (splitOn 10 w b)=w++b++[10]
 |[],w=>by
  show dI [w]=_;unfold dI;simp
 |c::b,w=>by
  show dI (if c=10 then w::splitOn 10 [] b else splitOn 10 (w++[c]) b)=_;by_cases e:c=10
  · rw[Xp e];have:=join_split b [];unfold dI at this ⊢;rw[ZK,this,e];simp
  · rw[Xo e,join_split b (w++[c])];simp
theorem lC:∀(b w:Bytes),¬10∈w->∀l∈splitOn 10 w b,¬10∈l
 |[],w,hw,l,hl=>by
  have:l=w:=by simpa [splitOn] using hl
  exact this ▸ hw
 |c::b,w,hw,l,hl=>by
  have hl:l∈(if c=10 then w::splitOn 10 [] b else splitOn 10 (w++[c]) b):=hl;by_cases e:c=10
  · rw[Xp e] at hl;rcases Xr.mp hl with rfl|hl
    · exact hw
    · exact lC b [] (by simp) l hl
  · rw[Xo e] at hl;refine lC b (w++[c]) (λm=>?_) l hl;rcases Yd.mp m with z|z
    · exact hw z
    · exact e (by simpa using (XC.mp z).symm)
structure cQ (C:Card):Prop where
 v9:C.races.length<=16
 heads:∀r∈C.races,cN r.heads
 pools:∀p∈C.pools,dY C p
 np:C.pools.length<=64
theorem lu (c:UInt8):∀(l w:Bytes),splitOn c w l≠[]
 |[],_=>by simp[splitOn]
 |x::l,w=>by
  unfold splitOn;by_cases e:x=c
  · rw[Xp e];simp
  · rw[Xo e];exact lu c l _
theorem iQ {l:Bytes}(p:Nat)(h:badByte true 0 l=none):∃w r,wordsFrom p [] l=w::r/\lw l=tx w.w::nj r:=by
 have e:=qD p h;cases hw:wordsFrom p [] l with
 |nil =>
  exfalso;rw[hw] at e;have e:[]=lw l:=e;rw[Bh] at e;exact lu 32 l [] (ZY.mp e.symm)
 |cons w r=>exact⟨w,r,rfl,by rw[←e,hw];rfl⟩
theorem rE {C D:Card}{p:Pool}(h:dY C p)(e:D.races=C.races):dY D p:=by
 have hh:D.headsOf=C.headsOf:=by
  funext r;unfold Card.headsOf;rw[e]
 exact⟨h.name,h.JI,h.Gm,h.Er,by rw[e];exact h.KY,by rw[e];exact h.legs,by rw[hh];exact h.v9,h.unit,h.Lo⟩
theorem oZ:∀(ls:List Bytes) (p:Nat) (C:Card),cQ C->C.races≠[]->(C.pools=[]->∀l∈ls.head?,aP (lw l)=false) ->
  (∀C',bO p (some C) ls=.ok C'->∃D,C'=some D/\cQ D/\D.races=C.races/\C.pools.length+ls.length<=64/\bZ (rh C) (C.pools.map (aD C)) (ls.map lw)=some (D.pools.map (aD D))) /\
  (∀e,bO p (some C) ls=.error e->64 < C.pools.length+ls.length∨bZ (rh C) (C.pools.map (aD C)) (ls.map lw)=none)
 |[],p,C,ok,_,_=>⟨λC' h=>by
   have h:Except.ok (some C)=Except.ok C':=h;injection h with h;subst h;exact⟨C,rfl,ok,rfl,ok.np,rfl⟩,λe h=>nomatch h⟩
 |l::ls,p,C,ok,hr,hf=>by
  have none_of:eX (lw l) (rh C)=none->bZ (rh C) (C.pools.map (aD C)) ((l::ls).map lw)=none:=λq=>by
   rw[XE];unfold bZ;rw[q]
  cases hb:badByte true 0 l with
  |some i =>
   have q:eX (lw l) (rh C)=none:=by
    cases c:eX (lw l) (rh C) with
    |none=>rfl
    |some z =>
     have:=lq (rb c).1;rw[hb] at this;cases this
   have e0:bO p (some C) (l::ls)=.error ⟨2,p+i⟩:=by
    unfold bO;rw[hb]
   rw[e0];exact⟨λ_ h=>(nomatch h),λ_ _=>.inr (none_of q)⟩
  |none =>
   obtain⟨w,r,hw,Mh⟩:=iQ p hb;have e0:bO p (some C) (l::ls)=match lineIn (some C) ⟨w::r,p+l.length⟩ with
     |.error e=>.error e
     |.ok t=>bO (p+l.length+1) t ls:=by
    conv=>lhs;unfold bO
    rw[hb,hw]
    all_goals rfl
   have nr:¬(w.w=ascii "race"/\C.pools=[]):=λ⟨z1,z2⟩=>by
    have:=hf z2 l (by simp);unfold aP at this;rw[Mh] at this;have:(tx w.w==cd "race")=false:=this;rw[XX] at this;exact this ((bh _ (by decide)).mpr z1)
   have e1:lineIn (some C) ⟨w::r,p+l.length⟩=if w.w=ascii "pool"/\C.races≠[] then (if POOLS<=C.pools.length then .error ⟨6,w.at_⟩ else withPool (p+l.length) C r) else .error ⟨3,w.at_⟩:=by
    show (if w.w=ascii "race"/\C.pools=[] then _ else _)=_;rw[Xo nr]
   rw[e1] at e0;by_cases hp:w.w=ascii "pool"
   · rw[Xp ⟨hp,hr⟩] at e0;by_cases MU:POOLS<=C.pools.length
     · rw[Xp MU] at e0;rw[e0];have MU:64<=C.pools.length:=MU;exact⟨λ_ h=>(nomatch h),λ_ _=>.inl (by rw[Xz];omega)⟩
     · rw[Xo MU] at e0;have MU:¬64<=C.pools.length:=MU;unfold withPool at e0;cases hi:poolIn (p+l.length) C r with
       |error e =>
        rw[hi] at e0;have e0:bO p (some C) (l::ls)=.error e:=e0;rw[e0];refine⟨λ_ h=>(nomatch h),λ_ _=>.inr ?_⟩;cases c:eX (lw l) (rh C) with
        |none=>exact none_of c
        |some q =>
         rw[XE];unfold bZ;rw[c];dsimp only;cases d:((C.pools.map (aD C)).map (·.name)).contains q.name with
         |true=>rfl
         |false =>
          exfalso;rw[Mh] at c;have d':(C.pools.map λ(p:Pool)=>tx p.name).contains q.name=false:=by
           rw[XR] at d;exact d
          obtain⟨z,hz⟩:=BB (e:=p+l.length) ok.v9 c d' (λp hp=>(ok.pools p hp).name);rw[hi] at hz;cases hz
       |ok q =>
        rw[hi] at e0;have e0:bO p (some C) (l::ls)=bO (p+l.length+1) (some {C with pools:=C.pools++[q]}) ls:=e0;obtain⟨US,hn,hm⟩:=By (w:=w) ok.v9 hp hi;rw[e0];have Qx:cQ {C with pools:=C.pools++[q]}:=⟨ok.v9,ok.heads,λx hx=>by
          have hx:x∈C.pools++[q]:=hx;rcases Yd.mp hx with z|z
          · exact rE (ok.pools x z) rfl
          · have:x=q:=by simpa using z
            subst this;exact rE US rfl,by show (C.pools++[q]).length<=64;rw[XM,YC];omega⟩
        have ih:=oZ ls (p+l.length+1) {C with pools:=C.pools++[q]} Qx hr (λz=>by
         have z:C.pools++[q]=[]:=z;simp at z)
        have step:bZ (rh C) (C.pools.map (aD C)) ((l::ls).map lw)=bZ (rh C) ((C.pools++[q]).map (aD C)) (ls.map lw):=by
         rw[XE]
         conv=>lhs;unfold bZ
         have Pt:eX (lw l) (rh C)=some (aD C q):=by rw[Mh];exact hm
         rw[Pt];dsimp only;have:((C.pools.map (aD C)).map (·.name)).contains (aD C q).name=false:=by
          rw[XR];cases d:(C.pools.map ((λ(x:aM)=>x.name) ∘ aD C)).contains (aD C q).name with
          |false=>rfl
          |true =>
           exfalso;have d:(aD C q).name∈C.pools.map ((λ(x:aM)=>x.name) ∘ aD C):=by simpa using d
           obtain⟨x,hx,ex⟩:=XY.mp d;have ex:tx x.name=tx q.name:=ex;have nx:=(ok.pools x hx).name;have:q.name=x.name:=by
            have key:∀c∈x.name,tm c.toNat=true:=λc hc=>by
             have gx:=ke (by rw[kg];exact nx);have:=gx.2 (sg c.toNat) (XY.mpr ⟨c,hc,rfl⟩);rw[pM,pJ] at this;unfold tm;rw[this];rfl
            have own:tx x.name=x.name.map UInt8.toNat:=(qY key).mpr rfl;exact (qY key).mp (by rw[←ex,own])
           have ML:¬q.name∈C.pools.map λ(p:Pool)=>p.name:=by simpa using hn
           exact ML (XY.mpr ⟨x,hx,this.symm⟩)
         rw[Xo (by rw[this];decide),XH];rfl
        have len:(C.pools++[q]).length=C.pools.length+1:=by simp
        rw[step];constructor
        · intro C' h;obtain⟨D,h1,h2,h3,h4,h5⟩:=ih.1 C' h;refine⟨D,h1,h2,h3,?_,h5⟩;have h4:(C.pools++[q]).length+ls.length<=64:=h4;rw[Xz];omega
        · intro e h;rcases ih.2 e h with z|z
          · left;have z:64 < (C.pools++[q]).length+ls.length:=z;rw[Xz];omega
          · exact .inr z
   · rw[Xo (λz=>hp z.1)] at e0;rw[e0];refine⟨λ_ h=>(nomatch h),λ_ _=>.inr (none_of ?_)⟩;cases c:eX (lw l) (rh C) with
     |none=>rfl
     |some q =>
      exfalso;have:=(rb c).2;rw[Mh] at this;exact hp ((bh _ (by decide)).mp this)
theorem oW:∀(ls:List Bytes) (p:Nat) (C:Card),cQ C->C.pools=[] ->
  (∀C',bO p (some C) ls=.ok C'->∃D,C'=some D/\((D.races=[]/\eK (rh C) (ls.map lw)=none)∨(D.races≠[]/\cQ D/\eK (rh C) (ls.map lw)=some (D.pools.map (aD D))))) /\
  (∀e,bO p (some C) ls=.error e->eK (rh C) (ls.map lw)=none)
 |[],p,C,ok,hp=>⟨λC' h=>by
   have h:Except.ok (some C)=Except.ok C':=h;injection h with h;subst h;refine⟨C,rfl,?_⟩;by_cases c:C.races=[]
   · left;refine⟨c,?_⟩;show (if rh C=[] then none else some [])=none;rw[Xp (by unfold rh;rw[c];rfl)]
   · right;refine⟨c,ok,?_⟩;show (if rh C=[] then none else some [])=_;rw[Xo (λ(z:rh C=[])=>c (ZY.mp z)),hp];rfl,λe h=>nomatch h⟩
 |l::ls,p,C,ok,hp=>by
  have Mc:(rh C).length=C.races.length:=Xn ..;by_cases Na:aP (lw l)=true
  · have step:eK (rh C) ((l::ls).map lw)=if 16<=C.races.length then none else match bD (lw l) with
      |none=>none
      |some h=>eK (rh C++[h]) (ls.map lw):=by
     rw[XE];show (if aP (lw l)=true then (if 16<=(rh C).length then none else _) else _)=_;rw[Xp Na,Mc]
     all_goals rfl
    rw[step];cases hb:badByte true 0 l with
    |some i =>
     have q:bD (lw l)=none:=by
      cases c:bD (lw l) with
      |none=>rfl
      |some z =>
       have:=lq (zS Na c);rw[hb] at this;cases this
     have e0:bO p (some C) (l::ls)=.error ⟨2,p+i⟩:=by
      unfold bO;rw[hb]
     rw[e0,q];refine⟨λ_ h=>(nomatch h),λ_ _=>?_⟩;split <;> rfl
    |none =>
     obtain⟨w,r,hw,Mh⟩:=iQ p hb;have wr:w.w=ascii "race":=by
      unfold aP at Na;rw[Mh] at Na;exact (bh _ (by decide)).mp (Ye.mp Na)
     have e0:bO p (some C) (l::ls)=match lineIn (some C) ⟨w::r,p+l.length⟩ with
       |.error e=>.error e
       |.ok t=>bO (p+l.length+1) t ls:=by
      conv=>lhs;unfold bO
      rw[hb,hw]
      all_goals rfl
     have e1:lineIn (some C) ⟨w::r,p+l.length⟩=if RACES<=C.races.length then .error ⟨6,w.at_⟩ else withRace (p+l.length) C r:=by
      show (if w.w=ascii "race"/\C.pools=[] then _ else _)=_;rw[Xp ⟨wr,hp⟩]
     rw[e1] at e0;by_cases M9:RACES<=C.races.length
     · rw[Xp M9] at e0;rw[e0,Xp (show 16<=C.races.length from M9)];exact⟨λ_ h=>(nomatch h),λ_ _=>rfl⟩
     · rw[Xo M9] at e0;have M9:¬16<=C.races.length:=M9;rw[Xo M9];unfold withRace at e0;cases hi:raceIn (p+l.length) r with
       |error e =>
        rw[hi] at e0;have e0:bO p (some C) (l::ls)=.error e:=e0;rw[e0];refine⟨λ_ h=>(nomatch h),λ_ _=>?_⟩;cases c:bD (lw l) with
        |none=>rfl
        |some hs =>
         exfalso;rw[Mh] at c;obtain⟨q,hq,_⟩:=(vR (e:=p+l.length) (w:=w) (l:=r)).2 hs c;rw[hi] at hq;cases hq
       |ok q =>
        rw[hi] at e0;have e0:bO p (some C) (l::ls)=bO (p+l.length+1) (some {C with races:=C.races++[q]}) ls:=e0;have hm:=(vR (e:=p+l.length) (w:=w) (l:=r)).1 q hi;have Pt:bD (lw l)=some q.heads:=by rw[Mh];exact hm
        rw[e0,Pt];dsimp only;have Qx:cQ {C with races:=C.races++[q]}:=⟨by show (C.races++[q]).length<=16;rw[XM,YC];omega,λx hx=>by
          have hx:x∈C.races++[q]:=hx;rcases Yd.mp hx with z|z
          · exact ok.heads x z
          · have:x=q:=by simpa using z
            subst this;exact zB Pt,λx hx=>by
          have hx:x∈C.pools:=hx;rw[hp] at hx;simp at hx,ok.np⟩
        have ih:=oW ls (p+l.length+1) {C with races:=C.races++[q]} Qx hp;have e2:rh {C with races:=C.races++[q]}=rh C++[q.heads]:=by
         unfold rh;rw[XH];rfl
        rw[e2] at ih;exact ih
  · have Qy:aP (lw l)=false:=by simpa using Na
    have step:eK (rh C) ((l::ls).map lw)=if rh C=[] then none else iZ ((l::ls).map lw) (rh C):=by
     rw[XE];show (if aP (lw l)=true then _ else _)=_;rw[Xo Na]
    rw[step];by_cases hr:C.races=[]
    · rw[Xp (by unfold rh;rw[hr];rfl)];have e0:∃e,bO p (some C) (l::ls)=.error e:=by
       unfold bO;cases hb:badByte true 0 l with
       |some i=>exact⟨_,rfl⟩
       |none =>
        obtain⟨w,r,hw,Mh⟩:=iQ p hb;dsimp only;rw[hw];have wr:¬w.w=ascii "race":=λz=>by
         apply Na
         unfold aP;rw[Mh];exact Ye.mpr ((bh _ (by decide)).mpr z)
        have e1:lineIn (some C) ⟨w::r,p+l.length⟩=.error ⟨3,w.at_⟩:=by
         show (if w.w=ascii "race"/\C.pools=[] then _ else if w.w=ascii "pool"/\C.races≠[] then _ else _)=_;rw[Xo (λz=>wr z.1),Xo (λz=>z.2 hr)]
        rw[e1];exact⟨_,rfl⟩
      obtain⟨e,e0⟩:=e0;rw[e0];exact⟨λ_ h=>(nomatch h),λ_ _=>rfl⟩
    · rw[Xo (λ(z:rh C=[])=>hr (ZY.mp z))];have ih:=oZ (l::ls) p C ok hr (λ_ l' Ox=>by
       have:l'=l:=by simpa using Ox.symm
       subst this;exact Qy)
      rw[hp] at ih;have len:((l::ls).map lw).length=(l::ls).length:=Xn ..;unfold iZ;rw[len];constructor
      · intro C' h;obtain⟨D,h1,h2,h3,h4,h5⟩:=ih.1 C' h;refine⟨D,h1,.inr ⟨by rw[h3];exact hr,h2,?_⟩⟩;rw[Xo (by simp only[YZ] at h4;omega)];exact h5
      · intro e h;by_cases c:64 < (l::ls).length
        · rw[Xp c]
        · rw[Xo c];rcases ih.2 e h with z|z
          · simp only[YZ] at z;omega
          · exact z
theorem yK:∀(b:Bytes),(tx b).getLast?=some 10↔b.getLast?=some 10:=λb=>by
 unfold tx;rw[List.getLast?_map];cases b.getLast? with
 |none=>simp
 |some c =>
  show some (sg c.toNat)=some 10↔some c=some 10;constructor
  · intro h;injection h with h;rw[jI (show c.toNat=(10:UInt8).toNat from (vb (by decide)).mp h)]
  · intro h;injection h with h;rw[h];rfl
theorem mC (b:Bytes):(∀C,readCard b=.ok C->cQ C/\C.races≠[]/\eh (tx b)=some (C.pools.map (aD C)))/\(∀e,readCard b=.error e->eh (tx b)=none):=by
 by_cases hl:b.getLast?=some 10
 · obtain⟨b',rfl⟩:∃b',b=b'++[10]:=by
    have ne:b≠[]:=λe=>by rw[e] at hl;simp at hl
    refine⟨b.dropLast,?_⟩;have:=List.dropLast_concat_getLast ne;rw[List.getLast?_eq_some_getLast ne] at hl;injection hl with hl;rw[hl] at this;exact this.symm
   have hj:dI (splitOn 10 [] b')=b'++[10]:=by rw[join_split];simp
   have Oy:linesIn lineIn ((b'++[10]).length+1) 0 none (b'++[10])=bO 0 none (splitOn 10 [] b'):=by
    rw[←hj];exact pY _ _ _ _ (lC b' [] (by simp)) (ZR _)
   have UT:qF (tx (b'++[10]))=(splitOn 10 [] b').map lw:=by
    unfold qF;have e:(tx (b'++[10])).dropLast=tx b':=by
     rw[r_];show (tx b'++[sg 10]).dropLast=_;rw[List.dropLast_concat]
    have:=ij (c:=10) (by decide) b' [];rw[BK] at this;rw[e];show (aV (10:UInt8).toNat [] (tx b')).map _=_;rw[this,XR];rfl
   have hc:eh (tx (b'++[10]))=match (splitOn 10 [] b').map lw with
     |[]=>none
     |d::ls=>if iF d=true then eK [] ls else none:=by
    unfold eh;rw[Xp ((yK _).mpr hl),UT]
    all_goals rfl
   rw[hc];unfold readCard;rw[Oy];cases hs:splitOn 10 [] b' with
   |nil=>exact absurd hs (lu 10 b' [])
   |cons l ls =>
    rw[XE];dsimp only;have day:(iF (lw l)=false/\∃e,bO 0 none (l::ls)=.error e)∨(iF (lw l)=true/\∃n,bO 0 none (l::ls)=bO (0+l.length+1) (some {noCard with name:=n}) ls):=by
     cases hb:badByte true 0 l with
     |some i =>
      left;refine⟨?_,⟨2,0+i⟩,by unfold bO;rw[hb]⟩;cases c:iF (lw l) with
      |false=>rfl
      |true =>
       have:=lq (AU c);rw[hb] at this;cases this
     |none =>
      obtain⟨w,r,hw,Mh⟩:=iQ 0 hb;have e0:bO 0 none (l::ls)=match lineIn none ⟨w::r,0+l.length⟩ with
        |.error e=>.error e
        |.ok t=>bO (0+l.length+1) t ls:=by
       conv=>lhs;unfold bO
       rw[hb,hw]
       all_goals rfl
      have e1:lineIn none ⟨w::r,0+l.length⟩=if w.w=ascii "day" then dayIn (0+l.length) r else .error ⟨3,w.at_⟩:=rfl;rw[e1] at e0;by_cases hd:w.w=ascii "day"
      · rw[Xp hd] at e0;cases hi:dayIn (0+l.length) r with
        |error e =>
         left;rw[hi] at e0;refine⟨?_,e,e0⟩;cases c:iF (lw l) with
         |false=>rfl
         |true =>
          exfalso;unfold iF at c;rw[Mh] at c;simp only[Xv,Ye] at c
          match r,c,hi with
          |[wn],c,hi =>
           have nm:isName wn.w=true:=by rw[←kg];exact c.2
           have:dayIn (0+l.length) [wn]=.ok (some {noCard with name:=wn.w}):=by
            unfold dayIn;refine aE.mpr ⟨(wn.w,[]),je.mpr ⟨wn,rfl,nm,rfl,rfl⟩,?_⟩;exact aE.mpr ⟨(),j5.mpr rfl,rfl⟩
           rw[this] at hi;cases hi
          |[],c,_=>have:=c.1.1;simp[nj] at this
          |_::_::_,c,_=>have:=c.1.1;simp[nj] at this
        |ok t =>
         right;rw[hi] at e0;unfold dayIn at hi;obtain⟨n,x1,h1⟩:=aE.mp hi;obtain⟨wn,er,n1,n2,n3⟩:=je.mp x1;obtain⟨_,x2,h2⟩:=aE.mp h1;have y2:=j5.mp x2;injection h2 with h2;subst h2;refine⟨?_,n.1,e0⟩;unfold iF;rw[Mh,er,y2];have a1:(tx w.w==cd "day")=true:=Ye.mpr ((bh _ (by decide)).mpr hd);show ((2==2)&&(tx w.w==cd "day")&&eN (tx wn.w))=true;rw[a1,kg,n1];rfl
      · rw[Xo hd] at e0;left;refine⟨?_,_,e0⟩;cases c:iF (lw l) with
        |false=>rfl
        |true =>
         exfalso;unfold iF at c;rw[Mh] at c;simp only[Xv,Ye] at c;exact hd ((bh _ (by decide)).mp c.1.2)
    rcases day with ⟨d,e,h⟩|⟨d,n,h⟩
    · rw[d,h];exact⟨λ_ q=>(nomatch q),λ_ _=>rfl⟩
    · rw[Xp d,h];have Kz:cQ {noCard with name:=n}:=⟨XW _,λr hr=>by
        have hr:r∈([]:List Race):=hr;simp at hr,λp hp=>by
        have hp:p∈([]:List Pool):=hp;simp at hp,XW _⟩
      have ih:=oW ls (0+l.length+1) {noCard with name:=n} Kz rfl;have e2:rh {noCard with name:=n}=[]:=rfl;rw[e2] at ih;cases hf:bO (0+l.length+1) (some {noCard with name:=n}) ls with
      |error e =>
       dsimp only;exact⟨λ_ q=>(nomatch q),λ_ _=>ih.2 e hf⟩
      |ok C' =>
       obtain⟨D,rfl,q⟩:=ih.1 C' hf;dsimp only;rcases q with ⟨q1,q2⟩|⟨q1,q2,q3⟩
       · rw[Xp q1];exact⟨λ_ q=>(nomatch q),λ_ _=>q2⟩
       · rw[Xo q1];exact⟨λC q=>by injection q with q;subst q;exact⟨q2,q1,q3⟩,λ_ q=>nomatch q⟩
 · have hn:eh (tx b)=none:=by
    unfold eh;rw[Xo (λz=>hl ((yK b).mp z))]
   rw[hn];refine⟨λC h=>?_,λ_ _=>rfl⟩;exfalso;unfold readCard at h;cases q:linesIn lineIn (b.length+1) 0 none b with
   |error e=>rw[q] at h;cases h
   |ok h' =>
    rcases pA _ _ _ _ _ (ZR _) q with z|z
    · subst z;have q':linesIn lineIn 1 0 none []=.ok h':=q;have q':(Except.ok none:Except Fault (Option Card))=.ok h':=q';injection q' with q';subst q';rw[q] at h;cases h
    · exact hl z
def Fits (fd acc:Z_)(p:W):Prop:=∃n:Nat,ay p=(n:Int)/\n∈fd/\∀x,acc.getLast?=some x->x < n
theorem B3 {fd acc:Z_}{p:W}:Fits fd acc p↔0<=ay p/\(ay p).toNat∈fd/\∀x∈acc.getLast?,x < (ay p).toNat:=by
 constructor
 · rintro⟨n,e,h1,h2⟩;have en:(ay p).toNat=n:=by omega
   rw[en];exact⟨by omega,h1,λx hx=>h2 x hx⟩
 · rintro⟨h0,h1,h2⟩;exact⟨_,by omega,h1,λx hx=>h2 x hx⟩
instance {fd acc:Z_}{p:W}:Decidable (Fits fd acc p):=decidable_of_iff _ B3.symm
def jk (fd:Z_):List W->Z_->Option (Z_)
 |[],acc=>some acc
 |p::r,acc=>if Fits fd acc p then jk fd r (acc++[(ay p).toNat]) else none
def setM (fd:Z_)(w:W):Option (Z_):=jk fd (aV 44 [] w) []
theorem kX {x:Nat}{l:Z_}:risesN (x::l)=true↔(∀y,l.head?=some y->x < y)/\risesN l=true:=by
 cases l with
 |nil=>exact⟨λ_=>⟨λ_ z=>(by cases z),rfl⟩,λ_=>rfl⟩
 |cons y r =>
  show (decide (x < y)&&risesN (y::r))=true↔_;rw[Xv,Xw];exact⟨λ⟨a,b⟩=>⟨λz e=>by injection e with e;omega,b⟩,λ⟨a,b⟩=>⟨a y rfl,b⟩⟩
theorem mapM_some {α β:Type}{f:α->Option β}{x:α}{r:List α}{t:List β}:(x::r).mapM f=some t↔∃b s,f x=some b/\r.mapM f=some s/\t=b::s:=by
 rw[List.mapM_cons];cases h:f x with
 |none =>
  constructor
  · intro z;cases z
  · rintro⟨b,s,e,_⟩;cases e
 |some b =>
  cases h2:r.mapM f with
  |none =>
   constructor
   · intro z;rw[show ((some b:Option β) >>= λb=>(none:Option (List β)) >>= λs=>pure (b::s))=none from rfl] at z;cases z
   · rintro⟨b,s,_,e,_⟩;cases e
  |some s =>
   constructor
   · intro z;have z:some (b::s)=some t:=z;injection z with z;exact⟨b,s,rfl,rfl,z.symm⟩
   · rintro⟨b',s',e1,e2,rfl⟩;injection e1 with e1;injection e2 with e2;subst e1 e2;rfl
theorem il {fd:Z_}(hf:∀x∈fd,x<=24):∀(ps:List Bytes) (acc s:Z_),jk fd (ps.map tx) acc=some s↔∃t,ps.mapM numberOf=some t/\s=acc++t/\(∀x y,acc.getLast?=some x->t.head?=some y->x < y)/\risesN t=true/\∀x∈t,x∈fd
 |[],acc,s=>by
  show some acc=some s↔_;constructor
  · intro e;injection e with e;exact⟨[],rfl,by simp[e],λ_ _ _ z=>(by cases z),rfl,λ_ z=>(by cases z)⟩
  · rintro⟨t,e,rfl,_⟩;have e:some []=some t:=e;injection e with e;subst e;simp
 |p::r,acc,s=>by
  show (if Fits fd acc (tx p) then jk fd (r.map tx) (acc++[(ay (tx p)).toNat]) else none)=some s↔_;constructor
  · intro h;split at h
    · rename_i hn;obtain⟨n,e1,e2,e3⟩:=hn;have Qz:=hf n e2;have e4:=(dW (w:=p) (m:=n) (by omega)).mp e1;obtain⟨t,a1,a2,a3,a4,a5⟩:=(il hf r _ s).mp h;have en:(ay (tx p)).toNat=n:=by omega
      rw[en] at a2 a3;refine⟨n::t,mapM_some.mpr ⟨n,t,e4,a1,rfl⟩,by rw[a2,YS];rfl,λx y hx hy=>?_,kX.mpr ⟨λy hy=>a3 n y (by rw[List.getLast?_append];rfl) hy,a4⟩,λx hx=>?_⟩
      · injection hy with hy;subst hy;exact e3 x hx
      · rcases Xr.mp hx with rfl|hx
        · exact e2
        · exact a5 x hx
    · cases h
  · rintro⟨t,a1,a2,a3,a4,a5⟩;obtain⟨n,t',e4,UU,rfl⟩:=mapM_some.mp a1;have e2:=a5 n (by simp);have Qz:=hf n e2;have e1:=(dW (w:=p) (m:=n) (by omega)).mpr e4;rw[Xp ⟨n,e1,e2,λx hx=>a3 x n hx rfl⟩];have en:(ay (tx p)).toNat=n:=by omega
    rw[en];obtain⟨r1,r2⟩:=kX.mp a4;refine (il hf r _ s).mpr ⟨t',UU,by rw[a2,YS];rfl,λx y hx hy=>?_,r2,λx hx=>a5 x (by simp[hx])⟩;rw[List.getLast?_append] at hx;have hx:some n=some x:=hx;injection hx with hx;subst hx;exact r1 y hy
theorem KL {fd t:Z_}(h:∀x∈t,x∈fd):t.all fd.contains=true:=by
 rw[XU];intro x hx;rw[Yw];exact X4 (h x hx)
theorem Lh {fd t:Z_}(h:t.all fd.contains=true):∀x∈t,x∈fd:=λx hx=>by
 have:=(XU.mp h) x hx;rw[Yw] at this;exact XI this
theorem Ak {e:Nat}{fd:Z_}:setIn e fd []=.error ⟨3,e⟩:=rfl
theorem qy {e:Nat}{fd:Z_}(hf:∀x∈fd,x<=24){w:Word}{r:List Word}:setIn e fd (w::r)=match setM fd (tx w.w) with
  |none=>.error ⟨4,w.at_⟩
  |some s=>.ok ((s,w.at_),r):=by
 have sp:aV 44 [] (tx w.w)=(splitOn 44 [] w.w).map tx:=ij (c:=44) (by decide) w.w [];show (match (splitOn 44 [] w.w).mapM numberOf with
 |none=>(Except.error ⟨4,w.at_⟩:Except Fault ((Z_×Nat)×List Word))
 |some s=>if risesN s=true/\s.all fd.contains=true then (pure ((s,w.at_),r):Except Fault _) else .error ⟨4,w.at_⟩)=_
 unfold setM;rw[sp];generalize splitOn 44 [] w.w=ps;cases h:jk fd (ps.map tx) [] with
 |some s =>
  obtain⟨t,a1,a2,_,a4,a5⟩:=(il hf ps [] s).mp h;rw[Yk] at a2;subst a2;rw[a1];show (if risesN s=true/\s.all fd.contains=true then (pure ((s,w.at_),r):Except Fault _) else .error ⟨4,w.at_⟩)=_;rw[Xp ⟨a4,KL a5⟩];rfl
 |none =>
  cases h1:ps.mapM numberOf with
  |none=>rfl
  |some t =>
   show (if risesN t=true/\t.all fd.contains=true then (pure ((t,w.at_),r):Except Fault _) else .error ⟨4,w.at_⟩)=_;rw[Xo];rintro⟨b1,b2⟩;have:=(il hf ps [] t).mpr ⟨t,h1,by simp,λ_ _ z=>(by cases z),b1,Lh b2⟩;rw[this] at h;cases h
theorem p9 {fd:Z_}:∀(ps:List W) (acc s:Z_),jk fd ps acc=some s->ps≠[]∨acc≠[]->s≠[]
 |[],acc,s,h,hn=>by
  have h:some acc=some s:=h;injection h with h;subst h;simpa using hn
 |p::r,acc,s,h,_=>by
  have h:(if Fits fd acc p then jk fd r (acc++[(ay p).toNat]) else none)=some s:=h;split at h
  · exact p9 r _ s h (.inr (by simp))
  · cases h
theorem vD {c:Nat}:∀(l w:W),aV c w l≠[]
 |[],w=>by show [w]≠[];simp
 |x::r,w=>by
  unfold aV;split
  · simp
  · exact vD r _
theorem Bu {l:Z_}(h:risesN l=true):cn l:=by
 induction l with
 |nil=>exact List.Pairwise.nil
 |cons x r ih =>
  obtain⟨h1,h2⟩:=kX.mp h;have ih:=ih h2;refine List.Pairwise.cons (λy hy=>?_) ih;cases r with
  |nil=>cases hy
  |cons z r =>
   have h1:=h1 z rfl;rcases Xr.mp hy with rfl|hy
   · exact h1
   · have:=(YH.mp ih).1 y hy;omega
theorem da {e:Nat}{fd:Z_}(hf:∀x∈fd,x<=24){l:List Word}{x:(Z_×Nat)×List Word}(h:setIn e fd l=.ok x):bJ fd x.1.1/\x.1.1≠[]/\∃w,l=w::x.2/\x.1.2=w.at_/\setM fd (tx w.w)=some x.1.1:=by
 cases l with
 |nil=>cases h
 |cons w r =>
  rw[qy hf] at h;cases hs:setM fd (tx w.w) with
  |none=>rw[hs] at h;cases h
  |some s =>
   rw[hs] at h;injection h with h;subst h;have sp:aV 44 [] (tx w.w)=(splitOn 44 [] w.w).map tx:=ij (c:=44) (by decide) w.w [];have Pu:=hs;unfold setM at Pu;have ne:s≠[]:=p9 _ _ _ Pu (.inl (vD _ _));rw[sp] at Pu;obtain⟨t,_,a2,_,a4,a5⟩:=(il hf _ _ s).mp Pu;rw[Yk] at a2;subst a2;exact⟨⟨Bu a4,a5⟩,ne,w,rfl,rfl,hs⟩
theorem Be {e:Nat}{s:String}:must e s []=.error ⟨3,e⟩:=rfl
theorem rn {e:Nat}{s:String}{w:Word}{r:List Word}:must e s (w::r)=if w.w=ascii s then .ok r else .error ⟨3,w.at_⟩:=rfl
abbrev Got:=Except Fault (Z9×List Word)
def jm (e:Nat):Z9->Z9->List Word->Got
 |[],acc,l=>.ok (acc,l)
 |h::t,acc,l=>match (if 0 < acc.length then must e "/" l else .ok l) with
  |.error x=>.error x
  |.ok m=>match setIn e h m with
   |.error x=>.error x
   |.ok s=>jm e t (acc++[s.1.1]) s.2
def xM (e k:Nat)(heads:Z_)(l:List Word):Got:=match setIn e heads l with
 |.error x=>.error x
 |.ok s=>if k<=s.1.1.length then .ok ([s.1.1],s.2) else .error ⟨4,s.1.2⟩
def qZ (e k:Nat)(heads sa:Z_)(m:List Word):Got:=match setIn e heads m with
 |.error x=>.error x
 |.ok b=>if (∀x∈b.1.1,¬x∈sa)/\k<=sa.length+b.1.1.length then .ok ([sa,b.1.1],b.2) else .error ⟨4,b.1.2⟩
def rK (e k:Nat)(heads sa:Z_)(p:Nat)(r:List Word):Got:=if sa.length < k then (match must e "with" r with
  |.error x=>.error x
  |.ok m=>qZ e k heads sa m) else .error ⟨4,p⟩
def xf (e k:Nat)(heads:Z_)(l:List Word):Got:=match setIn e heads l with
 |.error x=>.error x
 |.ok a=>rK e k heads a.1.1 a.1.2 a.2
def iR (x:Got):Except Fault (Z9):=match x with
 |.error t=>.error t
 |.ok y=>match y.2 with
  |[]=>.ok y.1
  |w::_=>.error ⟨3,w.at_⟩
theorem GQ {e:Nat}{p:Pool}{heads:Z_}{l:List Word}:boxIn e p heads l=iR (xM e p.k heads l):=by
 unfold boxIn xM;cases h:setIn e heads l with
 |error x=>rfl
 |ok s =>
  by_cases hk:p.k<=s.1.1.length
  · show (holds (decide (p.k<=s.1.1.length)) 4 s.1.2 >>= λ_=>closed s.2 >>= λ_=>pure [s.1.1])=iR (if p.k<=s.1.1.length then .ok ([s.1.1],s.2) else .error ⟨4,s.1.2⟩);rw[Xp hk];unfold holds;rw[Xp (X4 hk)];show (closed s.2 >>= λ_=>pure [s.1.1])=iR (.ok ([s.1.1],s.2));unfold iR;show _=(match s.2 with
     |[]=>(Except.ok [s.1.1]:Except Fault _)
     |w::_=>.error ⟨3,w.at_⟩)
    cases s.2 <;> rfl
  · show (holds (decide (p.k<=s.1.1.length)) 4 s.1.2 >>= λ_=>closed s.2 >>= λ_=>pure [s.1.1])=iR (if p.k<=s.1.1.length then .ok ([s.1.1],s.2) else .error ⟨4,s.1.2⟩);rw[Xo hk];unfold holds;rw[Xo (by simpa using hk)];rfl
theorem DI {a b:Z_}{k:Nat}:(!(b.any λ(x:Nat)=>a.contains x)&&decide (k<=a.length+b.length))=decide ((∀x∈b,¬x∈a)/\k<=a.length+b.length):=by
 rw[X3];simp
theorem Gh {e:Nat}{p:Pool}{heads:Z_}{l:List Word}:keyIn e p heads l=iR (xf e p.k heads l):=by
 unfold keyIn xf;cases h:setIn e heads l with
 |error x=>rfl
 |ok a =>
  show (holds (decide (a.1.1.length < p.k)) 4 a.1.2 >>= λ_=>must e "with" a.2 >>= λm=>setIn e heads m >>= λb=>holds (!(b.1.1.any λ(x:Nat)=>a.1.1.contains x)&&decide (p.k<=a.1.1.length+b.1.1.length)) 4 b.1.2 >>= λ_=>closed b.2 >>= λ_=>pure [a.1.1,b.1.1])
   = iR (if a.1.1.length < p.k then (match must e "with" a.2 with
    |.error x=>.error x
    |.ok m=>match setIn e heads m with
     |.error x=>.error x
     |.ok b=>if (∀x∈b.1.1,¬x∈a.1.1)/\p.k<=a.1.1.length+b.1.1.length then .ok ([a.1.1,b.1.1],b.2) else .error ⟨4,b.1.2⟩) else .error ⟨4,a.1.2⟩)
  by_cases hk:a.1.1.length < p.k
  · rw[Xp hk];unfold holds;rw[Xp (X4 hk)];cases hm:must e "with" a.2 with
    |error x=>rfl
    |ok m =>
     show (setIn e heads m >>= λb=>(if (!(b.1.1.any λ(x:Nat)=>a.1.1.contains x)&&decide (p.k<=a.1.1.length+b.1.1.length))=true then Except.ok () else .error ⟨4,b.1.2⟩) >>= λ_=>closed b.2 >>= λ_=>pure [a.1.1,b.1.1])=iR (match setIn e heads m with
      |.error x=>.error x
      |.ok b=>if (∀x∈b.1.1,¬x∈a.1.1)/\p.k<=a.1.1.length+b.1.1.length then .ok ([a.1.1,b.1.1],b.2) else .error ⟨4,b.1.2⟩)
     cases hb:setIn e heads m with
     |error x=>rfl
     |ok b =>
      show ((if (!(b.1.1.any λ(x:Nat)=>a.1.1.contains x)&&decide (p.k<=a.1.1.length+b.1.1.length))=true then Except.ok () else .error ⟨4,b.1.2⟩) >>= λ_=>closed b.2 >>= λ_=>pure [a.1.1,b.1.1])=iR (if (∀x∈b.1.1,¬x∈a.1.1)/\p.k<=a.1.1.length+b.1.1.length then .ok ([a.1.1,b.1.1],b.2) else .error ⟨4,b.1.2⟩);rw[DI];by_cases hq:(∀x∈b.1.1,¬x∈a.1.1)/\p.k<=a.1.1.length+b.1.1.length
      · rw[Xp hq,Xp (X4 hq)];show (closed b.2 >>= λ_=>pure [a.1.1,b.1.1])=(match b.2 with
         |[]=>Except.ok [a.1.1,b.1.1]
         |w::_=>.error ⟨3,w.at_⟩)
        cases b.2 <;> rfl
      · rw[Xo hq,Xo (by rw[Xw];exact hq)];rfl
  · rw[Xo hk];unfold holds;rw[Xo (by simpa using hk)];rfl
def lM (acc:Z9)(x:Except Fault (Z9)):Except Fault (Z9):=match x with
 |.error t=>.error t
 |.ok y=>.ok (acc++y)
theorem BL {e:Nat}:∀(fs acc:Z9) (l:List Word),acc≠[]->fs≠[]->iR (jm e fs acc l)=lM acc (must e "/" l >>= λm=>setsIn e fs m)
 |[],_,_,_,h=>absurd rfl h
 |h::t,acc,l,ha,_=>by
  have hl:0 < acc.length:=Yt.mpr ha;unfold jm;rw[Xp hl];cases hm:must e "/" l with
  |error x=>rfl
  |ok m =>
   show iR (match setIn e h m with
    |.error x=>.error x
    |.ok s=>jm e t (acc++[s.1.1]) s.2)=lM acc (setsIn e (h::t) m)
   cases t with
   |nil =>
    show _=lM acc (setIn e h m >>= λs=>closed s.2 >>= λ_=>pure [s.1.1]);cases hs:setIn e h m with
    |error x=>rfl
    |ok s =>
     show iR (.ok (acc++[s.1.1],s.2))=lM acc (closed s.2 >>= λ_=>pure [s.1.1]);unfold iR;show (match s.2 with
      |[]=>(Except.ok (acc++[s.1.1]):Except Fault _)
      |w::_=>.error ⟨3,w.at_⟩)=_
     cases s.2 <;> rfl
   |cons h2 t2 =>
    show _=lM acc (setIn e h m >>= λs=>must e "/" s.2 >>= λm=>setsIn e (h2::t2) m >>= λr=>pure (s.1.1::r));cases hs:setIn e h m with
    |error x=>rfl
    |ok s =>
     show iR (jm e (h2::t2) (acc++[s.1.1]) s.2)=lM acc (must e "/" s.2 >>= λm=>setsIn e (h2::t2) m >>= λr=>pure (s.1.1::r));rw[BL (h2::t2) (acc++[s.1.1]) s.2 (by simp) (by simp)];cases must e "/" s.2 with
     |error x=>rfl
     |ok m2 =>
      show lM _ (setsIn e (h2::t2) m2)=lM acc (setsIn e (h2::t2) m2 >>= λr=>pure (s.1.1::r));cases setsIn e (h2::t2) m2 with
      |error x=>rfl
      |ok r =>
       show Except.ok (acc++[s.1.1]++r)=Except.ok (acc++(s.1.1::r));rw[YS];rfl
theorem Js {e:Nat}{fs:Z9}{l:List Word}:setsIn e fs l=iR (jm e fs [] l):=by
 cases fs with
 |nil =>
  show (closed l).map (λ(_:Unit)=>[])=(match l with
   |[]=>Except.ok []
   |w::_=>.error ⟨3,w.at_⟩)
  cases l <;> rfl
 |cons h t =>
  show _=iR (match setIn e h l with
   |.error x=>.error x
   |.ok s=>jm e t ([]++[s.1.1]) s.2)
  cases t with
  |nil =>
   show (setIn e h l >>= λs=>closed s.2 >>= λ_=>pure [s.1.1])=_;cases hs:setIn e h l with
   |error x=>rfl
   |ok s =>
    show (closed s.2 >>= λ_=>pure [s.1.1])=(match s.2 with
     |[]=>Except.ok ([]++[s.1.1])
     |w::_=>.error ⟨3,w.at_⟩)
    cases s.2 <;> rfl
  |cons h2 t2 =>
   show (setIn e h l >>= λs=>must e "/" s.2 >>= λm=>setsIn e (h2::t2) m >>= λr=>pure (s.1.1::r))=_;cases hs:setIn e h l with
   |error x=>rfl
   |ok s =>
    show (must e "/" s.2 >>= λm=>setsIn e (h2::t2) m >>= λr=>pure (s.1.1::r))=iR (jm e (h2::t2) ([]++[s.1.1]) s.2);rw[BL (h2::t2) ([]++[s.1.1]) s.2 (by simp) (by simp)];cases must e "/" s.2 with
    |error x=>rfl
    |ok m2 =>
     show (setsIn e (h2::t2) m2 >>= λr=>pure (s.1.1::r))=lM _ (setsIn e (h2::t2) m2);cases setsIn e (h2::t2) m2 with
     |error x=>rfl
     |ok r=>rfl
structure C5 (p:aM):Prop where
 ne:p.fields≠[]
 len:p.fields.length<=24
 hi:∀fd∈p.fields,∀x∈fd,x<=24
 unit:1<=p.unit
 six:p.fields.length<=6
 D6:p.kind=.any->p.fields.length<=3
 lo:∀fd∈p.fields,∀x∈fd,1<=x
 Kq:p.kind=.order->p.fields.length<=4
 KQ:p.kind≠.legs->∀fd∈p.fields,fd≠[]
 rise:∀fd∈p.fields,cn fd
def fC (e:Nat)(p:aM)(how:Nat)(l:List Word):Got:=if how=0 then jm e p.fields [] l else if how=1 then xM e p.fields.length (p.fields.getD 0 []) l else xf e p.fields.length (p.fields.getD 0 []) l
def cP (p:aM):Bool:=p.kind==.order||p.kind==.any
def jh (p:aM)(w:Bytes):Option Nat:=if w=ascii "on" then some 0 else if w=ascii "box"/\cP p=true then some 1 else if w=ascii "key"/\cP p=true then some 2 else none
def dQ (ps:List aM)(w:W):Option Nat:=ps.findIdx? λp=>p.name==w
def cG (n:Nat):How:=if n=0 then .on else if n=1 then .box else .key
structure bT where
 pool:Nat
 how:Nat
 stake:Nat
 sets:Z9
structure xU (p:aM)(how:Nat)(sets:Z9):Prop where
 ok:C5 p
 way:how=0∨cP p=true
 read:∃e l r,fC e p how l=.ok (sets,r)
def eU (u:Nat)(w:W):Prop:=1<=ay w/\ay w<=1000000/\ay w % (u:Int)=0
instance {u:Nat}{w:W}:Decidable (eU u w):=by unfold eU;exact inferInstance
def GY (i how stake hp sp:Nat)(p:aM)(sets:Z9):Except Fault bT :=
 if countM p.kind (cG how) p.fields.length sets=0 then .error ⟨6,hp⟩ else if 2147483647 < stake*countM p.kind (cG how) p.fields.length sets then .error ⟨7,sp⟩ else .ok ⟨i,how,stake,sets⟩
def xu (e i how stake hp sp:Nat)(p:aM)(x:Got):Except Fault bT:=match iR x with
 |.error t=>.error t
 |.ok sets=>GY i how stake hp sp p sets
def II (e i:Nat)(p:aM)(stake sp:Nat):List Word->Except Fault bT
 |[]=>.error ⟨3,e⟩
 |hw::r=>match jh p hw.w with
  |none=>.error ⟨3,hw.at_⟩
  |some how=>xu e i how stake hw.at_ sp p (fC e p how r)
def Iu (e i:Nat)(p:aM):List Word->Except Fault bT
 |[]=>.error ⟨3,e⟩
 |sw::r=>if eU p.unit (tx sw.w) then II e i p (ay (tx sw.w)).toNat sw.at_ r else .error ⟨4,sw.at_⟩
def CA (e i:Nat)(p:aM)(l:List Word):Except Fault bT:=match must e "for" l with
 |.error t=>.error t
 |.ok m=>Iu e i p m
def JC (e:Nat)(ps:List aM):List Word->Except Fault bT
 |[]=>.error ⟨3,e⟩
 |n::r=>match dQ ps (tx n.w) with
  |none=>.error ⟨5,n.at_⟩
  |some i=>match ps[i]? with
   |none=>.error ⟨5,n.at_⟩
   |some p=>CA e i p r
def BD (e:Nat)(ps:List aM)(l:List Word):Except Fault bT:=match must e "bet" l with
 |.error t=>.error t
 |.ok m=>JC e ps m
theorem wU {ps:List aM}{w:W}{i:Nat}(h:dQ ps w=some i):i < ps.length:=by
 unfold dQ at h;rw[ZF] at h;exact h.1
theorem uO {v:Bytes}(h:isName v=true):∀c∈v,tm c.toNat=true:=λc hc=>by
 rw[←kg] at h;have h2:=ke h;have:sg c.toNat∈tx v:=XY.mpr ⟨c,hc,rfl⟩;have h3:=h2.2 _ this;rw[pM,pJ] at h3;unfold tm;rw[h3];rfl
theorem EF {C:Card}(o:cQ C)(v:Bytes):dQ (C.pools.map (aD C)) (tx v)=C.pools.findIdx? λp=>p.name==v:=by
 unfold dQ;rw[List.findIdx?_map];have:∀(l:List Pool),(∀p∈l,isName p.name=true)->List.findIdx? ((λp=>p.name==tx v) ∘ aD C) l=l.findIdx? λp=>p.name==v:=λl=>by
  induction l with
  |nil=>intro _;rfl
  |cons p r ih =>
   intro hn;rw[List.findIdx?_cons,List.findIdx?_cons,ih λq hq=>hn q (by simp[hq])];have e:((λp=>p.name==tx v) ∘ aD C) p=(p.name==v):=by
    show (tx p.name==tx v)=_;rw[X3,Ye,Ye];constructor
    · intro z;have:=(qY (v:=p.name) (w:=v) (uO (hn p (by simp)))).mp;have e2:tx p.name=p.name.map UInt8.toNat:=(qY (v:=p.name) (w:=p.name) (uO (hn p (by simp)))).mpr rfl;exact (this (by rw[←z,e2])).symm
    · intro z;rw[z]
   rw[e]
 exact this C.pools λp hp=>(o.pools p hp).name
theorem oP {C:Card}(o:cQ C){r:Nat}(h1:1<=r)(h2:r<=C.races.length):cN (C.headsOf r):=by
 unfold Card.headsOf;rw[Xy (by omega)];exact o.heads _ (Zf _)
theorem ib {p:Pool}(h:p.kind=.order∨p.kind=.any):p.places=p.k:=by
 unfold Pool.places;rw[Xo];rcases h with h|h <;> rw[h] <;> decide
theorem gO {C:Card}{p:Pool}(h:dY C p)(hk:p.kind≠.legs):fieldsOf C p=List.replicate p.places (C.headsOf p.race):=by
 unfold fieldsOf;rw[Xo hk]
theorem tI {k:Kind}:mostK k<=6:=by cases k <;> decide
theorem lB {C:Card}{p:Pool}(h:dY C p):1<=p.places:=by
 unfold Pool.places;split
 · exact Xx _
 · have:=h.JI;have:1<=leastK p.kind:=by cases p.kind <;> decide
   omega
theorem Ai {C:Card}{p:Pool}(h:dY C p):p.places<=6:=by
 unfold Pool.places;split
 · decide
 · have:=h.Gm;have:=tI (k:=p.kind);omega
theorem Ls {C:Card}(o:cQ C){p:Pool}(h:dY C p):C5 (aD C p):=by
 have hu:=h.unit;by_cases hk:p.kind=.legs
 · have e:(aD C p).fields=((rh C).drop (p.race - 1)).take p.k:=by
    show fieldsOf C p=_;unfold fieldsOf;rw[Xp hk];exact rf C p hk h.Er (h.legs hk)
   have hl:=h.legs hk;have hr:=h.Er;have QA:=h.JI;have hm:2<=p.k:=by rw[hk] at QA;exact QA
   have hn:(rh C).length=C.races.length:=by unfold rh;rw[Xn]
   have hlen:(aD C p).fields.length=p.k:=by
    rw[e,XN,Yh];omega
   have of:∀fd∈(aD C p).fields,cN fd:=λfd hf=>by
    rw[e] at hf;have:fd∈rh C:=YY (Y6 hf);unfold rh at this;obtain⟨r,hr,rfl⟩:=XY.mp this;exact o.heads r hr
   refine⟨λz=>by rw[z] at hlen;simp at hlen;omega,by have:=h.Gm;have:=tI (k:=p.kind);omega,λfd hf x hx=>?_,hu,by have:=h.Gm;have:=tI (k:=p.kind);omega,λz=>(by have z:p.kind=.any:=z;rw[hk] at z;cases z),λfd hf x hx=>(of fd hf).lo x hx,λz=>(by have z:p.kind=.order:=z;rw[hk] at z;cases z),λz=>absurd hk z,λfd hf=>(of fd hf).rise⟩;exact (of fd hf).hi x hx
 · have e:(aD C p).fields=List.replicate p.places (C.headsOf p.race):=gO h hk;have p1:=lB h;have p2:=Ai h;have of:∀fd∈(aD C p).fields,cN fd:=λfd hf=>by
    rw[e] at hf;rw[Yq hf];exact oP o h.Er h.KY
   refine⟨λz=>by rw[z] at e;have:=Yv List.length e;simp at this;omega,by rw[e,XZ];omega,λfd hf x hx=>?_,hu,by rw[e,XZ];omega,λz=>by
    have z:p.kind=.any:=z;rw[e,XZ,ib (.inr z)];have:=h.Gm;rw[z] at this;exact this,λfd hf x hx=>(of fd hf).lo x hx,λz=>by
    have z:p.kind=.order:=z;rw[e,XZ,ib (.inl z)];have:=h.Gm;rw[z] at this;exact this,λ_ fd hf z=>by
    rw[e] at hf;rw[Yq hf] at z;have f:=h.v9 hk;rw[z] at f;have l:=h.JI;have:1<=leastK p.kind:=by cases p.kind <;> decide
    have f:p.k<=0:=f;omega,λfd hf=>(of fd hf).rise⟩
   exact (of fd hf).hi x hx
theorem pL {e:Nat}:∀(fs acc:Z9) (l:List Word) (s:Z9) (r:List Word),(∀fd∈fs,∀x∈fd,x<=24)->jm e fs acc l=.ok (s,r)->s.length=acc.length+fs.length/\(∀x∈s,x∈acc∨∃fd∈fs,bJ fd x/\x≠[])/\(∀x∈acc,x∈s)/\∀fd∈fs,∃x∈s,bJ fd x/\x≠[]
 |[],acc,l,s,r,_,h=>by
  have h:(Except.ok (acc,l):Got)=.ok (s,r):=h;injection h with h;injection h with h1 h2;subst h1;exact⟨rfl,λx hx=>.inl hx,λx hx=>hx,λfd hf=>by cases hf⟩
 |f::fs,acc,l,s,r,hf,h=>by
  have h:(match (if 0 < acc.length then must e "/" l else .ok l) with
   |.error x=>(Except.error x:Got)
   |.ok m=>match setIn e f m with
    |.error x=>.error x
    |.ok s=>jm e fs (acc++[s.1.1]) s.2)=.ok (s,r):=h
  cases hm:(if 0 < acc.length then must e "/" l else .ok l) with
  |error x=>rw[hm] at h;cases h
  |ok m =>
   rw[hm] at h;have h:(match setIn e f m with
    |.error x=>(Except.error x:Got)
    |.ok s=>jm e fs (acc++[s.1.1]) s.2)=.ok (s,r):=h
   have ef:=hf f (by simp);cases hs:setIn e f m with
   |error x=>rw[hs] at h;cases h
   |ok y =>
    rw[hs] at h;obtain⟨g,ne,_⟩:=da ef hs;obtain⟨i1,i2,i3,i4⟩:=pL fs (acc++[y.1.1]) y.2 s r (λfd MB=>hf fd (by simp[MB])) h;refine⟨by rw[i1];simp;omega,λx hx=>?_,λx hx=>i3 x (by simp[hx]),λfd MB=>?_⟩
    · rcases i2 x hx with z|⟨fd,MB,z⟩
      · rcases Yd.mp z with z|z
        · exact .inl z
        · rw[XC] at z;subst z;exact .inr ⟨f,by simp,g,ne⟩
      · exact .inr ⟨fd,by simp[MB],z⟩
    · rcases Xr.mp MB with rfl|MB
      · exact⟨y.1.1,i3 _ (by simp),g,ne⟩
      · exact i4 fd MB
theorem DE {e:Nat}{heads:Z_}(MV:∀x∈heads,x<=24)(fs acc:Z9)(l:List Word)(s:Z9)(r:List Word)(hf:∀fd∈fs,fd=heads)(h:jm e fs acc l=.ok (s,r)):s.length=acc.length+fs.length/\∀x∈s,x∈acc∨bJ heads x:=by
 obtain⟨h1,h2,_⟩:=pL fs acc l s r (λfd MB=>by rw[hf fd MB];exact MV) h;exact⟨h1,λx hx=>(h2 x hx).imp id λ⟨fd,MB,g,_⟩=>by rwa [hf fd MB] at g⟩
theorem zd {e k:Nat}{heads:Z_}(MV:∀x∈heads,x<=24){l r:List Word}{s:Z9}(h:xM e k heads l=.ok (s,r)):∃t,s=[t]/\k<=t.length/\bJ heads t:=by
 unfold xM at h;cases hs:setIn e heads l with
 |error x=>rw[hs] at h;cases h
 |ok y =>
  rw[hs] at h;have h:(if k<=y.1.1.length then (Except.ok ([y.1.1],y.2):Got) else .error ⟨4,y.1.2⟩)=.ok (s,r):=h;split at h
  · rename_i hk;injection h with h;injection h with h1 h2;exact⟨_,h1.symm,hk,(da MV hs).1⟩
  · cases h
theorem ye {e k:Nat}{heads:Z_}(MV:∀x∈heads,x<=24){l r:List Word}{s:Z9}(h:xf e k heads l=.ok (s,r)):∃a b,s=[a,b]/\a.length < k/\(∀x∈b,¬x∈a)/\k<=a.length+b.length/\bJ heads a/\bJ heads b/\a≠[]:=by
 unfold xf at h;cases hs:setIn e heads l with
 |error x=>rw[hs] at h;cases h
 |ok y =>
  rw[hs] at h;have h:rK e k heads y.1.1 y.1.2 y.2=.ok (s,r):=h;unfold rK at h;split at h
  · rename_i hk;cases hm:must e "with" y.2 with
    |error x=>rw[hm] at h;cases h
    |ok m =>
     rw[hm] at h;have h:qZ e k heads y.1.1 m=.ok (s,r):=h;unfold qZ at h;cases hb:setIn e heads m with
     |error x=>rw[hb] at h;cases h
     |ok z =>
      rw[hb] at h;have h:(if (∀x∈z.1.1,¬x∈y.1.1)/\k<=y.1.1.length+z.1.1.length then (Except.ok ([y.1.1,z.1.1],z.2):Got) else .error ⟨4,z.1.2⟩)=.ok (s,r):=h;split at h
      · rename_i hq;injection h with h;injection h with h1 h2;exact⟨_,_,h1.symm,hk,hq.1,hq.2,(da MV hs).1,(da MV hb).1,(da MV hs).2.1⟩
      · cases h
  · cases h
theorem mJ {s:Z_}(h:cn s)(MV:∀x∈s,x<=24):s.length<=25:=by
 have:=hX (m:=List.range 25) h.nodup λx hx=>Zc.mpr (by have:=MV x hx;omega);simpa using this
structure C0 (ss:Z9):Prop where
 len:ss.length<=6
 good:∀s∈ss,cn s/\∀x∈s,x<=24
 lo:∀s∈ss,∀x∈s,1<=x
structure uB (kd:Kind)(gs:List (Z9)):Prop where
 ne:gs≠[]
 v9:gs.length<=4096
 ok:∀g∈gs,C0 g
 any:kd=.any->∀g∈gs,g.length<=3
theorem ue {p:aM}(o:C5 p):p.fields.getD 0 []∈p.fields:=by
 have hl:0 < p.fields.length:=Yt.mpr o.ne;have eg:p.fields.getD 0 []=p.fields[0]:=by rw[X7,Xy hl];rfl
 rw[eg];exact Zf hl
theorem xU.all {p:aM}{how:Nat}{sets:Z9}(m:xU p how sets):(∀s∈sets,s≠[]/\∃fd∈p.fields,bJ fd s)/\(how=0->sets.length=p.fields.length/\∀fd∈p.fields,fd≠[])/\(how=1->∃t,sets=[t]/\p.fields.length<=t.length)/\(how≠0->how≠1->∃a b,sets=[a,b]/\a.length < p.fields.length/\(∀x∈b,¬x∈a)/\p.fields.length<=a.length+b.length):=by
 obtain⟨e,l,r,hr⟩:=m.read;unfold fC at hr;by_cases h0:how=0
 · rw[Xp h0] at hr;obtain⟨h1,h2,_,h4⟩:=pL _ [] l sets r m.ok.hi hr;refine⟨λs hs=>?_,λ_=>⟨by simpa using h1,λfd hf z=>?_⟩,λz=>by omega,λz=>absurd h0 z⟩
   · obtain⟨fd,hf,g,ne⟩:=(h2 s hs).resolve_left (by simp);exact⟨ne,fd,hf,g⟩
   · obtain⟨s,_,g,ne⟩:=h4 fd hf;obtain⟨x,hx⟩:=List.exists_mem_of_ne_nil s ne;have:=g.sub x hx;rw[z] at this;cases this
 · rw[Xo h0] at hr;have f:=m.ok.hi _ (ue m.ok);by_cases h1:how=1
   · rw[Xp h1] at hr;obtain⟨t,rfl,h2,g⟩:=zd f hr;have pos:0 < p.fields.length:=Yt.mpr m.ok.ne;exact⟨λs hs=>by rw[XC.mp hs];exact⟨λz=>by rw[z] at h2;have h2:p.fields.length<=0:=h2;omega,_,ue m.ok,g⟩,λz=>absurd z h0,λ_=>⟨t,rfl,h2⟩,λ_ z=>absurd h1 z⟩
   · rw[Xo h1] at hr;obtain⟨a,b,rfl,z2,z3,z4,g1,g2,g3⟩:=ye f hr;refine⟨λs hs=>?_,λz=>absurd z h0,λz=>absurd z h1,λ_ _=>⟨a,b,rfl,z2,z3,z4⟩⟩;rcases Xr.mp hs with e|e
     · rw[e];exact⟨g3,_,ue m.ok,g1⟩
     · rw[XC.mp e];exact⟨λz=>by rw[z] at z4;simp at z4;omega,_,ue m.ok,g2⟩
theorem xU.good {p:aM}{how:Nat}{sets:Z9}(m:xU p how sets):∀s∈sets,cn s/\(∀x∈s,x<=24)/\∀x∈s,1<=x:=λs hs=>by
 obtain⟨_,fd,hf,g⟩:=m.all.1 s hs;exact⟨g.rise,λx hx=>m.ok.hi fd hf x (g.sub x hx),λx hx=>m.ok.lo fd hf x (g.sub x hx)⟩
theorem sS {a:Nat}{B:Z_}:∀g:Z9,(jn a B g).length<=g.length
 |[]=>Xx _
 |s::g=>by
  have:=sS (a:=a) (B:=B) g;show ((if s==B then [[a]::g] else [])++(jn a B g).map λr=>s::r).length<=_;rw[XM,Xn,Xz];split
  · show 1+_<=_;omega
  · show 0+_<=_;omega
theorem pT {α β:Type}{f:α->List β}{c:Nat}:∀{l:List α},(∀x∈l,(f x).length<=c)->(l.flatMap f).length<=l.length*c
 |[],_=>XW _
 |x::l,h=>by
  rw[ZK,XM,Xz,Nat.succ_mul];have:=h x (by simp);have:=pT (l:=l) λy hy=>h y (by simp[hy]);omega
theorem mM {B:Z_}{k:Nat}:∀{A:Z_} {gs:List (Z9)},(∀g∈gs,g.length=k)->(bC B A gs).length<=gs.length*k ^ A.length
 |[],gs,_=>by simp[bC]
 |a::A,gs,h=>by
  have ih:=mM (B:=B) (A:=A) (gs:=gs.flatMap (jn a B)) (k:=k) λg hg=>by
   obtain⟨g0,h0,hr⟩:=Zu.mp hg;rw[(oB hr).1,h g0 h0]
  have l1:(gs.flatMap (jn a B)).length<=gs.length*k:=pT λg hg=>by rw[←h g hg];exact sS g
  show (bC B A (gs.flatMap (jn a B))).length<=_;rw[Xz,Zs,ZG (k ^ A.length) k,←Nat.mul_assoc];exact Yb ih (Nat.mul_le_mul_right _ l1)
theorem Dz {t:Z_}{k:Nat}(h6:k<=6)(g:cn t/\(∀x∈t,x<=24)/\∀x∈t,1<=x):C0 (List.replicate k t) :=
 ⟨by rw[XZ];exact h6,λs hs=>by rw[Yq hs];exact⟨g.1,g.2.1⟩,λs hs=>by rw[Yq hs];exact g.2.2⟩
theorem uB.bC {kd:Kind}{A B:Z_}{k:Nat}(gA:cn A/\(∀x∈A,x<=24)/\∀x∈A,1<=x)(gB:cn B/\(∀x∈B,x<=24)/\∀x∈B,1<=x)(L4:∀x∈B,¬x∈A)(hA:A.length < k)(h4:k<=4)(h3:kd=.any->k<=3):uB kd (bC B A [List.replicate k B]):=by
 obtain⟨h1,h2⟩:=iW (B:=B) (k:=k) (A:=A) (had:=[]) (gs:=[List.replicate k B]) (λx hx m=>L4 x m (by simpa using hx)) (by simpa using gA.1.nodup) (by simp) (λg hg=>by
  rw[XC] at hg;subst hg;exact⟨by simp,λs hs=>.inl (Yq hs),by simp⟩)
 obtain⟨q,e⟩:=k7 (B:=B) (A:=A) (P:=[]) (j:=k) (rest:=[]) (λx hx m=>L4 x m (by simpa using hx)) (by omega);rw[YN,Yk,Yk] at e;rw[Yk] at h2;have len:=mM (B:=B) (A:=A) (k:=k) (gs:=[List.replicate k B]) (λg hg=>by rw[XC.mp hg,XZ]);have pw:k ^ A.length<=4 ^ 3:=Yb (Nat.pow_le_pow_left h4 _) (Zq (by decide) (by omega));have is:∀g∈Bw.bC B A [List.replicate k B],∀s∈g,cn s/\(∀x∈s,x<=24)/\∀x∈s,1<=x:=λg hg s hs=>by
  rcases (h2 g hg).are s hs with rfl|⟨a,ha,rfl⟩
  · exact gB
  · exact⟨by simp,λx hx=>by rw[XC.mp hx];exact gA.2.1 a ha,λx hx=>by rw[XC.mp hx];exact gA.2.2 a ha⟩
 refine⟨by rw[e];simp,by rw[YC,Nat.one_mul] at len;omega,λg hg=>⟨by rw[(h2 g hg).len];omega,λs hs=>⟨(is g hg s hs).1,(is g hg s hs).2.1⟩,λs hs=>(is g hg s hs).2.2⟩,λz g hg=>by rw[(h2 g hg).len];exact h3 z⟩
theorem xU.k4 {p:aM}{how:Nat}{sets:Z9}(m:xU p how sets)(h0:how≠0):p.fields.length<=4:=by
 have w:=m.way.resolve_left h0;unfold cP at w;rw[Yp] at w;rcases w with w|w
 · exact m.ok.Kq (YT w)
 · exact Nat.le_succ_of_le (m.ok.D6 (YT w))
theorem uB.cut {kd:Kind}{gs:List (Z9)}(o:uB kd gs):uB kd (gs.take 1) :=
 ⟨λz=>o.ne (by simpa using z),by have:=o.v9;rw[XN];omega,λg hg=>o.ok g (Y6 hg),λz g hg=>o.any z g (Y6 hg)⟩
theorem xU.IT {p:aM}{how:Nat}{sets:Z9}(m:xU p how sets):uB p.kind (js p.kind (cG how) p.fields.length sets):=by
 obtain⟨_,h0,h1,h2⟩:=m.all;have good:=m.good;have one:∀{ss:Z9},C0 ss->(p.kind=.any->ss.length<=3)->uB p.kind [ss]:=λo h=>⟨by simp,by show 1<=4096;decide,λg hg=>by rw[XC.mp hg];exact o,λz g hg=>by rw[XC.mp hg];exact h z⟩;unfold cG;by_cases z0:how=0
 · rw[Xp z0];have hl:=(h0 z0).1;exact one ⟨by rw[hl];exact m.ok.six,λs hs=>⟨(good s hs).1,(good s hs).2.1⟩,λs hs=>(good s hs).2.2⟩ λz=>by rw[hl];exact m.ok.D6 z
 · rw[Xo z0];have k4:=m.k4 z0;by_cases z1:how=1
   · rw[Xp z1];obtain⟨t,rfl,_⟩:=h1 z1;exact one (Dz m.ok.six (good t (by simp))) λz=>by rw[XZ];exact m.ok.D6 z
   · rw[Xo z1];obtain⟨a,b,rfl,q1,q2,q3⟩:=h2 z0 z1;have G:uB p.kind (Bw.bC b a [List.replicate p.fields.length b]):=uB.bC (good a (by simp)) (good b (by simp)) q2 q1 k4 m.ok.D6;show uB p.kind (if p.kind=.any then (Bw.bC b a [List.replicate p.fields.length b]).take 1 else Bw.bC b a [List.replicate p.fields.length b]);split
     · exact G.cut
     · exact G
theorem xU.KQ {p:aM}{how:Nat}{sets:Z9}(m:xU p how sets):∀fd∈p.fields,fd≠[]:=by
 by_cases hk:p.kind=.legs
 · refine (m.all.2.1 (m.way.resolve_right λw=>?_)).2;unfold cP at w;rw[hk] at w;cases w
 · exact m.ok.KQ hk
theorem xU.Lq {p:aM}{how:Nat}{sets:Z9}(m:xU p how sets):∀g∈js p.kind (cG how) p.fields.length sets,g≠[]/\∀s∈g,s≠[]:=by
 obtain⟨ha,h0,h1,h2⟩:=m.all;have pos:0 < p.fields.length:=Yt.mpr m.ok.ne;unfold cG;intro g hg;by_cases z0:how=0
 · rw[Xp z0] at hg;have e:g=sets:=XC.mp hg;subst e;exact⟨λz=>by have:=(h0 z0).1;rw[z] at this;simp at this;omega,λs hs=>(ha s hs).1⟩
 · rw[Xo z0] at hg;by_cases z1:how=1
   · rw[Xp z1] at hg;obtain⟨t,rfl,_⟩:=h1 z1;have e:g=List.replicate p.fields.length t:=XC.mp hg;subst e;exact⟨λz=>by have:=Yv List.length z;rw[XZ] at this;have:p.fields.length=0:=this;omega,λs hs=>by rw[Yq hs];exact (ha t (by simp)).1⟩
   · rw[Xo z1] at hg;obtain⟨a,b,rfl,q1,q2,q3⟩:=h2 z0 z1;have hg:g∈Bw.bC b a [List.replicate p.fields.length b]:=by
      have hg:g∈(if p.kind=.any then (Bw.bC b a [List.replicate p.fields.length b]).take 1 else Bw.bC b a [List.replicate p.fields.length b]):=hg;split at hg
      · exact Y6 hg
      · exact hg
     have G:=(iW (B:=b) (k:=p.fields.length) (A:=a) (had:=[]) (gs:=[List.replicate p.fields.length b]) (λx hx m=>q2 x m (by simpa using hx)) (by simpa using (m.good a (by simp)).1.nodup) (by simp) (λg hg=>by
      rw[XC] at hg;subst hg;exact⟨by simp,λs hs=>.inl (Yq hs),by simp⟩)).2 g hg
     refine⟨λz=>by have:=G.len;rw[z] at this;simp at this;omega,λs hs=>?_⟩;rcases G.are s hs with rfl|⟨x,_,rfl⟩
     · exact (ha s (by simp)).1
     · simp
theorem B7 {h:Nat}:cG h=.box↔h=1:=by
 unfold cG;by_cases h0:h=0
 · rw[Xp h0];constructor
   · intro z;cases z
   · intro z;omega
 · rw[Xo h0];by_cases h1:h=1
   · rw[Xp h1];simp[h1]
   · rw[Xo h1];constructor
     · intro z;cases z
     · intro z;exact absurd z h1
theorem vf {h:Nat}:cG h=.on↔h=0:=by
 unfold cG;by_cases h0:h=0
 · rw[Xp h0];simp[h0]
 · rw[Xo h0];by_cases h1:h=1
   · rw[Xp h1];constructor
     · intro z;cases z
     · intro z;omega
   · rw[Xo h1];constructor
     · intro z;cases z
     · intro z;exact absurd z h0
theorem AS {h:Nat}:cG h=.key↔h≠0/\h≠1:=by
 unfold cG;by_cases h0:h=0
 · rw[Xp h0];constructor
   · intro z;cases z
   · intro z;exact absurd h0 z.1
 · rw[Xo h0];by_cases h1:h=1
   · rw[Xp h1];constructor
     · intro z;cases z
     · intro z;exact absurd h1 z.2
   · rw[Xo h1];simp[h0,h1]
theorem j6 {C:Card}{p:Pool}:cP (aD C p)=true↔p.kind=.order∨p.kind=.any:=by
 show (p.kind==.order||p.kind==.any)=true↔_;cases p.kind <;> decide
theorem uN {α:Type}{n:Nat}{x d:α}(h:1<=n):(List.replicate n x).getD 0 d=x:=by
 cases n with
 |zero=>omega
 |succ n=>rfl
theorem AZ {C:Card}(o:cQ C){i:Nat}{p:Pool}(hi:C.pool i=p)(hP:dY C p){how stake e:Nat}{l r:List Word}{sets:Z9}(way:how=0∨cP (aD C p)=true)(h:fC e (aD C p) how l=.ok (sets,r)):yw C ⟨i,cG how,sets,stake⟩ p:=by
 have nm:p.kind≠.legs->fieldsOf C p=List.replicate p.places (C.headsOf p.race):=gO hP;have gh:=oP o hP.Er hP.KY;unfold fC at h;have Oz:p.kind=.place∨p.kind=.legs->how=0:=λz=>by
  rcases way with w|w
  · exact w
  · rw[j6] at w;rcases z with z|z <;> rcases w with w|w <;> rw[z] at w <;> cases w
 have OA:how≠0->(aD C p).fields.getD 0 []=C.headsOf p.race/\(aD C p).fields.length=p.k:=λhn=>by
  have w:p.kind=.order∨p.kind=.any:=by
   rcases way with w|w
   · exact absurd w hn
   · exact j6.mp w
  have hl:p.kind≠.legs:=by rcases w with w|w <;> rw[w] <;> decide
  have e:(aD C p).fields=List.replicate p.places (C.headsOf p.race):=nm hl;rw[e,XZ];exact⟨uN (lB hP),ib w⟩
 have NA:how=0->p.kind≠.legs->sets.length=p.places/\∀s∈sets,bJ (C.headsOf p.race) s:=λhz hl=>by
  rw[Xp hz] at h;have e:(aD C p).fields=List.replicate p.places (C.headsOf p.race):=nm hl;rw[e] at h;obtain⟨h1,h2⟩:=DE gh.hi _ [] l sets r (λfd hf=>Yq hf) h;rw[XZ] at h1;exact⟨by simpa using h1,λs hs=>(h2 s hs).resolve_left (by simp)⟩
 have Nb:how=1->∃t,sets=[t]/\p.k<=t.length/\bJ (C.headsOf p.race) t:=λhz=>by
  obtain⟨f1,f2⟩:=OA (by omega);rw[Xo (by omega),Xp hz,f1,f2] at h;exact zd gh.hi h
 have keyOk:how≠0->how≠1->∃a b,sets=[a,b]/\a.length < p.k/\(∀x∈b,¬x∈a)/\p.k<=a.length+b.length/\bJ (C.headsOf p.race) a/\bJ (C.headsOf p.race) b:=λh0 h1=>by
  obtain⟨f1,f2⟩:=OA h0;rw[Xo h0,Xo h1,f1,f2] at h;obtain⟨a,b,z1,z2,z3,z4,z5,z6,_⟩:=ye gh.hi h;exact⟨a,b,z1,z2,z3,z4,z5,z6⟩
 refine⟨hi,λ_=>gh,λh1 h2=>?_,λh1 s hs=>?_,λh1=>?_,λh1=>vf.mpr (Oz (.inr h1)),λh1 h2 h3=>?_,λh1=>?_,λh1=>?_⟩
 · refine⟨?_,hP.Gm⟩;have:=hP.JI;have e2:leastK p.kind=2:=by
    cases hk:p.kind with
    |place=>exact absurd hk h2
    |order=>rfl
    |any=>rfl
    |legs=>exact absurd hk h1
   omega
 · by_cases z0:how=0
   · exact (NA z0 h1).2 s hs
   · by_cases z1:how=1
     · obtain⟨t,e,_,g⟩:=Nb z1;have hs:s∈sets:=hs;rw[e,XC] at hs;subst hs;exact g
     · obtain⟨a,b,e,_,_,_,g1,g2⟩:=keyOk z0 z1;have hs:s∈sets:=hs;rw[e] at hs;rcases Xr.mp hs with rfl|hs
       · exact g1
       · rw[XC] at hs;subst hs;exact g2
 · have z0:=Oz (.inl h1);refine⟨vf.mpr z0,?_⟩;have:=(NA z0 (by rw[h1];decide)).1;rw[show p.places=1 by unfold Pool.places;rw[Xp h1]] at this;exact this
 · have z0:=vf.mp h3;have:=(NA z0 h1).1;rw[show p.places=p.k by unfold Pool.places;rw[Xo h2]] at this;exact this
 · obtain⟨t,e,hk,_⟩:=Nb (B7.mp h1);exact⟨t,e,hk⟩
 · obtain⟨z0,z1⟩:=AS.mp h1;obtain⟨a,b,e,h2,h3,h4,_⟩:=keyOk z0 z1;exact⟨a,b,e,h2,h3,h4⟩
theorem Dt {C:Card}(o:cQ C){i:Nat}{p:Pool}(hi:C.pool i=p)(hP:dY C p){how stake e:Nat}{l r:List Word}{sets:Z9}(way:how=0∨cP (aD C p)=true)(h:fC e (aD C p) how l=.ok (sets,r)) :
  countM p.kind (cG how) (aD C p).fields.length sets=C.manyOf ⟨i,cG how,sets,stake⟩:=by
 rw[tV (AZ o hi hP way h)];show _=countM p.kind (cG how) p.k sets;by_cases h0:how=0
 · rw[vf.mpr h0];rfl
 · have w:p.kind=.order∨p.kind=.any:=by
    rcases way with w|w
    · exact absurd w h0
    · exact j6.mp w
   have hl:p.kind≠.legs:=by rcases w with w|w <;> rw[w] <;> decide
   have e:(aD C p).fields=List.replicate p.places (C.headsOf p.race):=gO hP hl;rw[e,XZ,ib w]
def Gs (h:How):Nat:=match h with
 |.on=>0
 |.box=>1
 |.key=>2
theorem E8 {h:Nat}(h2:h<=2):Gs (cG h)=h:=by
 have:h=0∨h=1∨h=2:=by omega
 rcases this with rfl|rfl|rfl <;> rfl
def uo (x:Except Fault Bet):Except Fault bT:=match x with
 |.error t=>.error t
 |.ok b=>.ok ⟨b.pool,Gs b.how,b.stake,b.sets⟩
def jl (C:Card)(hp sp:Nat)(b:Bet):Except Fault Bet:=holds (decide (0 < C.manyOf b)) 6 hp >>= λ_=>holds (decide (b.stake*C.manyOf b<=COST)) 7 sp >>= λ_=>pure b
theorem E_ {C:Card}{i how stake hp sp:Nat}{p:Pool}{sets:Z9}(h2:how<=2)(hm:countM p.kind (cG how) (aD C p).fields.length sets=C.manyOf ⟨i,cG how,sets,stake⟩) :
  GY i how stake hp sp (aD C p) sets=uo (jl C hp sp ⟨i,cG how,sets,stake⟩):=by
 have hm:countM (aD C p).kind (cG how) (aD C p).fields.length sets=C.manyOf ⟨i,cG how,sets,stake⟩:=hm;unfold GY jl;rw[hm];generalize C.manyOf ⟨i,cG how,sets,stake⟩=m;by_cases h0:m=0
 · rw[Xp h0];unfold holds;rw[Xo (by simp[h0])];rfl
 · rw[Xo h0];unfold holds;rw[Xp (show decide (0 < m)=true from X4 (by omega))];by_cases h1:2147483647 < stake*m
   · rw[Xp h1];show _=uo ((if decide (stake*m<=COST)=true then Except.ok () else .error ⟨7,sp⟩) >>= λ_=>pure _);rw[Xo (by rw[Xw];unfold COST;omega)];rfl
   · rw[Xo h1];show _=uo ((if decide (stake*m<=COST)=true then Except.ok () else .error ⟨7,sp⟩) >>= λ_=>pure _);rw[Xp (by rw[Xw];unfold COST;omega)];show _=Except.ok (⟨i,Gs (cG how),stake,sets⟩:bT);rw[E8 h2]
def sv (C:Card)(e i:Nat)(p:Pool)(stake sp:Nat)(l:List Word):Except Fault Bet:=next e l >>= λw =>
 if w.1.w=ascii "on" then (setsIn e (if p.kind=.legs then C.sets p else List.replicate p.places (C.headsOf p.race)) w.2).map (λ(q:Z9)=>(⟨i,.on,q,stake⟩:Bet)) >>= λb=>jl C w.1.at_ sp b
 else if w.1.w=ascii "box"/\(p.kind==.order||p.kind==.any)=true then (boxIn e p (C.headsOf p.race) w.2).map (λ(q:Z9)=>(⟨i,.box,q,stake⟩:Bet)) >>= λb=>jl C w.1.at_ sp b
 else if w.1.w=ascii "key"/\(p.kind==.order||p.kind==.any)=true then (keyIn e p (C.headsOf p.race) w.2).map (λ(q:Z9)=>(⟨i,.key,q,stake⟩:Bet)) >>= λb=>jl C w.1.at_ sp b
 else (.error ⟨3,w.1.at_⟩:Except Fault Bet) >>= λb=>jl C w.1.at_ sp b
theorem pO {C:Card}(o:cQ C){i:Nat}{p:Pool}(hi:C.pool i=p)(hP:dY C p){e how stake hp sp:Nat}(h2:how<=2)(way:how=0∨cP (aD C p)=true){r:List Word}{x:Except Fault (Z9)}(hx:x=iR (fC e (aD C p) how r)) :
  xu e i how stake hp sp (aD C p) (fC e (aD C p) how r)=uo ((x.map λ(q:Z9)=>(⟨i,cG how,q,stake⟩:Bet)) >>= λb=>jl C hp sp b):=by
 subst hx;unfold xu;cases hs:fC e (aD C p) how r with
 |error t=>rfl
 |ok y =>
  obtain⟨sets,r'⟩:=y;cases r' with
  |nil =>
   show GY i how stake hp sp (aD C p) sets=uo (jl C hp sp ⟨i,cG how,sets,stake⟩);exact E_ h2 (Dt o hi hP way hs)
  |cons w r'=>rfl
theorem B6 {C:Card}(o:cQ C){i:Nat}{p:Pool}(hi:C.pool i=p)(hP:dY C p){e stake sp:Nat}{l:List Word}:II e i (aD C p) stake sp l=uo (sv C e i p stake sp l):=by
 cases l with
 |nil=>rfl
 |cons w r =>
  show (match jh (aD C p) w.w with
   |none=>(Except.error ⟨3,w.at_⟩:Except Fault bT)
   |some how=>xu e i how stake w.at_ sp (aD C p) (fC e (aD C p) how r))=uo (if w.w=ascii "on" then (setsIn e (if p.kind=.legs then C.sets p else List.replicate p.places (C.headsOf p.race)) r).map (λ(q:Z9)=>(⟨i,.on,q,stake⟩:Bet)) >>= λb=>jl C w.at_ sp b
   else if w.w=ascii "box"/\cP (aD C p)=true then (boxIn e p (C.headsOf p.race) r).map (λ(q:Z9)=>(⟨i,.box,q,stake⟩:Bet)) >>= λb=>jl C w.at_ sp b
   else if w.w=ascii "key"/\cP (aD C p)=true then (keyIn e p (C.headsOf p.race) r).map (λ(q:Z9)=>(⟨i,.key,q,stake⟩:Bet)) >>= λb=>jl C w.at_ sp b
   else (.error ⟨3,w.at_⟩:Except Fault Bet) >>= λb=>jl C w.at_ sp b)
  have fld:cP (aD C p)=true->(aD C p).fields.getD 0 []=C.headsOf p.race/\(aD C p).fields.length=p.k:=λhw=>by
   have w:=j6.mp hw;have hl:p.kind≠.legs:=by rcases w with w|w <;> rw[w] <;> decide
   have e:(aD C p).fields=List.replicate p.places (C.headsOf p.race):=gO hP hl;rw[e,XZ];exact⟨uN (lB hP),ib w⟩
  unfold jh;by_cases c0:w.w=ascii "on"
  · rw[Xp c0,Xp c0];refine pO o hi hP (by decide) (.inl rfl) ?_;rw[Js];rfl
  · rw[Xo c0,Xo c0];by_cases c1:w.w=ascii "box"/\cP (aD C p)=true
    · rw[Xp c1,Xp c1];refine pO (how:=1) o hi hP (by decide) (.inr c1.2) ?_;obtain⟨f1,f2⟩:=fld c1.2;rw[GQ];unfold fC;rw[Xo (by decide),Xp rfl,f1,f2]
    · rw[Xo c1,Xo c1];by_cases c2:w.w=ascii "key"/\cP (aD C p)=true
      · rw[Xp c2,Xp c2];refine pO (how:=2) o hi hP (by decide) (.inr c2.2) ?_;obtain⟨f1,f2⟩:=fld c2.2;rw[Gh];unfold fC;rw[Xo (by decide),Xo (by decide),f1,f2]
      · rw[Xo c2,Xo c2];rfl
def tail3 (C:Card)(e i:Nat)(p:Pool)(l:List Word):Except Fault Bet:=must e "for" l >>= λm=>number e 1 STAKE m >>= λs=>holds (s.1.1 % p.unit==0) 4 s.1.2 >>= λ_=>sv C e i p s.1.1 s.1.2 s.2
theorem Ap {u:Nat}(hu:1<=u){v:Bytes}:eU u (tx v)↔∃n,numberOf v=some n/\1<=n/\n<=1000000/\n % u=0/\(ay (tx v)).toNat=n:=by
 unfold eU;constructor
 · rintro⟨h1,h2,h3⟩;obtain⟨n,e,a,b,c⟩:=(fg (w:=v) (lo:=1) (hi:=1000000) (by decide)).mp ⟨h1,h2⟩;refine⟨n,e,a,b,?_,by omega⟩;rw[c] at h3;have:((n % u:Nat):Int)=0:=by rw[Int.natCast_emod];exact h3
   omega
 · rintro⟨n,e,a,b,c,d⟩;obtain⟨h1,h2⟩:=(fg (w:=v) (lo:=1) (hi:=1000000) (by decide)).mpr ⟨n,e,a,b,by rw[(dW (w:=v) (m:=n) (by omega)).mpr e]⟩;refine⟨h1,h2,?_⟩;rw[(dW (w:=v) (m:=n) (by omega)).mpr e,←Int.natCast_emod,c];rfl
theorem AN {C:Card}(o:cQ C){i:Nat}{p:Pool}(hi:C.pool i=p)(hP:dY C p){e:Nat}{l:List Word}:CA e i (aD C p) l=uo (tail3 C e i p l):=by
 unfold CA tail3;cases hm:must e "for" l with
 |error t=>rfl
 |ok m =>
  show Iu e i (aD C p) m=uo (number e 1 STAKE m >>= λs=>holds (s.1.1 % p.unit==0) 4 s.1.2 >>= λ_=>sv C e i p s.1.1 s.1.2 s.2);cases m with
  |nil=>rfl
  |cons w r =>
   show (if eU p.unit (tx w.w) then II e i (aD C p) (ay (tx w.w)).toNat w.at_ r else .error ⟨4,w.at_⟩)=uo ((match numberOf w.w with
    |none=>.error ⟨4,w.at_⟩
    |some n=>if n < 1∨STAKE < n then .error ⟨4,w.at_⟩ else pure ((n,w.at_),r)) >>= λs=>holds (s.1.1 % p.unit==0) 4 s.1.2 >>= λ_=>sv C e i p s.1.1 s.1.2 s.2)
   have key:=Ap hP.unit (v:=w.w);cases hn:numberOf w.w with
   |none =>
    rw[Xo (λz=>by obtain⟨n,e,_⟩:=key.mp z;rw[hn] at e;cases e)];rfl
   |some n =>
    show _=uo ((if n < 1∨STAKE < n then .error ⟨4,w.at_⟩ else pure ((n,w.at_),r)) >>= λs=>holds (s.1.1 % p.unit==0) 4 s.1.2 >>= λ_=>sv C e i p s.1.1 s.1.2 s.2);by_cases c:n < 1∨STAKE < n
    · rw[Xp c,Xo (λz=>by
       obtain⟨n',e,a,b,_⟩:=key.mp z;rw[hn] at e;injection e with e;unfold STAKE at c;omega)]
      rfl
    · rw[Xo c];show _=uo (holds (n % p.unit==0) 4 w.at_ >>= λ_=>sv C e i p n w.at_ r);unfold holds;by_cases d:n % p.unit=0
      · have hs:eU p.unit (tx w.w):=key.mpr ⟨n,hn,by omega,by unfold STAKE at c;omega,d,by
         rw[(dW (w:=w.w) (m:=n) (by unfold STAKE at c;omega)).mpr hn];rfl⟩
        rw[Xp hs,Xp (by rw[d];rfl)];have en:(ay (tx w.w)).toNat=n:=by rw[(dW (w:=w.w) (m:=n) (by unfold STAKE at c;omega)).mpr hn];rfl
        rw[en];exact B6 o hi hP
      · rw[Xo (λz=>by
         obtain⟨n',e,_,_,h,_⟩:=key.mp z;rw[hn] at e;injection e with e;subst e;exact d h),Xo (by simpa using d)]
        rfl
theorem Cw {C:Card}(o:cQ C){e:Nat}{l:List Word}:BD e (C.pools.map (aD C)) l=uo (C.betIn ⟨l,e⟩):=by
 have eb:C.betIn ⟨l,e⟩=(must e "bet" l >>= λm=>next e m >>= λn=>match C.pools.findIdx? λ(p:Pool)=>p.name==n.1.w with
  |none=>.error ⟨5,n.1.at_⟩
  |some i=>tail3 C e i (C.pool i) n.2):=rfl
 rw[eb];unfold BD;cases hm:must e "bet" l with
 |error t=>rfl
 |ok m =>
  show JC e (C.pools.map (aD C)) m=uo (next e m >>= λn=>match C.pools.findIdx? λ(p:Pool)=>p.name==n.1.w with
   |none=>.error ⟨5,n.1.at_⟩
   |some i=>tail3 C e i (C.pool i) n.2)
  cases m with
  |nil=>rfl
  |cons n r =>
   show (match dQ (C.pools.map (aD C)) (tx n.w) with
    |none=>(Except.error ⟨5,n.at_⟩:Except Fault bT)
    |some i=>match (C.pools.map (aD C))[i]? with
     |none=>.error ⟨5,n.at_⟩
     |some p=>CA e i p r)=uo (match C.pools.findIdx? λ(p:Pool)=>p.name==n.w with
    |none=>.error ⟨5,n.at_⟩
    |some i=>tail3 C e i (C.pool i) r)
   rw[EF o];cases hf:C.pools.findIdx? λ(p:Pool)=>p.name==n.w with
   |none=>rfl
   |some i =>
    have LG:i < C.pools.length:=by
     rw[ZF] at hf;exact hf.1
    have hg:(C.pools.map (aD C))[i]?=some (aD C C.pools[i]):=by rw[Xs,Xy LG];rfl
    have hp:C.pool i=C.pools[i]:=by unfold Card.pool;rw[Xy LG];rfl
    show (match (C.pools.map (aD C))[i]? with
     |none=>(Except.error ⟨5,n.at_⟩:Except Fault bT)
     |some p=>CA e i p r)=uo (tail3 C e i (C.pool i) r)
    rw[hg];show CA e i (aD C C.pools[i]) r=_;rw[AN o hp (o.pools _ (Zf LG)),hp]
def dF (ps:List aM)(b:Bytes):Except Fault bT:=match upTo b with
 |none=>.error ⟨1,b.length⟩
 |some (l,r)=>match badByte true 0 l with
  |some i=>.error ⟨2,i⟩
  |none=>match BD l.length ps (wordsFrom 0 [] l) with
   |.error t=>.error t
   |.ok x=>if r=[] then .ok x else .error ⟨8,l.length+1⟩
def Fg (ps:List aM)(l r:Bytes):Except Fault bT:=match badByte true 0 l with
  |some i=>.error ⟨2,i⟩
  |none=>match BD l.length ps (wordsFrom 0 [] l) with
   |.error t=>.error t
   |.ok x=>if r=[] then .ok x else .error ⟨8,l.length+1⟩
theorem yb {ps:List aM}{b:Bytes}(h:upTo b=none):dF ps b=.error ⟨1,b.length⟩:=by
 unfold dF;rw[h]
theorem wo {ps:List aM}{b l r:Bytes}(h:upTo b=some (l,r)):dF ps b=Fg ps l r:=by
 unfold dF;rw[h];rfl
def nY (t b:Bytes):Except (List Int) bT:=if 65536 < t.length∨4096 < b.length then .error [-2] else match eh (tx t) with
 |none=>.error [-8]
 |some ps=>match dF ps b with
  |.error f=>.error [-6,(f.kind:Nat),(f.place:Nat)]
  |.ok y=>.ok y
theorem Em {C:Card}(o:cQ C)(b:Bytes):dF (C.pools.map (aD C)) b=uo (C.readBet b):=by
 unfold dF Card.readBet;cases upTo b with
 |none=>rfl
 |some x =>
  obtain⟨l,r⟩:=x;show (match badByte true 0 l with
   |some i=>(Except.error ⟨2,i⟩:Except Fault bT)
   |none=>match BD l.length (C.pools.map (aD C)) (wordsFrom 0 [] l) with
    |.error t=>.error t
    |.ok x=>if r=[] then .ok x else .error ⟨8,l.length+1⟩)=uo (match badByte true 0 l with
   |some i=>.error ⟨2,i⟩
   |none=>match C.betIn ⟨wordsFrom 0 [] l,l.length⟩ with
    |.error e=>.error e
    |.ok x=>if r.isEmpty=true then .ok x else .error ⟨8,l.length+1⟩)
  cases badByte true 0 l with
  |some i=>rfl
  |none =>
   show (match BD l.length (C.pools.map (aD C)) (wordsFrom 0 [] l) with
    |.error t=>(Except.error t:Except Fault bT)
    |.ok x=>if r=[] then .ok x else .error ⟨8,l.length+1⟩)=uo (match C.betIn ⟨wordsFrom 0 [] l,l.length⟩ with
    |.error e=>.error e
    |.ok x=>if r.isEmpty=true then .ok x else .error ⟨8,l.length+1⟩)
   rw[Cw o];cases C.betIn ⟨wordsFrom 0 [] l,l.length⟩ with
   |error t=>rfl
   |ok x =>
    cases r with
    |nil=>rfl
    |cons c r=>rfl
theorem AQ (t:Bytes)(ps:List aM)(h:eh (tx t)=some ps):∀p∈ps,C5 p:=by
 cases hc:readCard t with
 |error e=>rw[(mC t).2 e hc] at h;cases h
 |ok C =>
  obtain⟨o,_,h2⟩:=(mC t).1 C hc;rw[h2] at h;injection h with h;subst h;intro p hp;obtain⟨q,hq,rfl⟩:=XY.mp hp;exact Ls o (o.pools q hq)
def Gz (a:Ans):List Int:=a.code::a.nums
def tS (t b:Bytes):List Int:=match nY t b with
 |.error zs=>zs
 |.ok _=>[0]
theorem A9 (t b:Bytes):tS t b=Gz (ToteBetCalls.answer (.judge t b)):=by
 unfold tS nY;show _=Gz (if 4096 < b.length then says (-2) else ofCard t λC=>match C.readBet b with
  |.error e=>⟨-6,[(e.kind:Int),(e.place:Int)]⟩
  |.ok _=>says 0)
 by_cases hb:4096 < b.length
 · rw[Xp hb,Xp (.inr hb)];rfl
 · rw[Xo hb];unfold ofCard;by_cases ht:65536 < t.length
   · rw[Xp (.inl ht),Xp (show TEXT < t.length from ht)];rfl
   · rw[Xo (by omega),Xo (show ¬TEXT < t.length from ht)];cases hc:readCard t with
     |error e=>rw[(mC t).2 e hc];rfl
     |ok C =>
      obtain⟨o,_,h2⟩:=(mC t).1 C hc;rw[h2];show (match (match dF (C.pools.map (aD C)) b with
       |.error f=>(Except.error [-6,((f.kind:Nat):Int),((f.place:Nat):Int)]:Except (List Int) bT)
       |.ok y=>.ok y) with
       |.error zs=>zs
       |.ok _=>[0])=Gz (match C.readBet b with
       |.error e=>⟨-6,[(e.kind:Int),(e.place:Int)]⟩
       |.ok _=>says 0)
      rw[Em o];cases C.readBet b with
      |error e=>rfl
      |ok x=>rfl
theorem q_ (x:Nat):∀(ss:Z9) (b:Nat) (s:Z_),bitsOf x b (ss++[s])=bitsOf x b ss++(if s.contains x=true then [b*2 ^ ss.length] else [])
 |[],b,s=>by
  show (if s.contains x=true then [b] else [])++[]=[]++(if s.contains x=true then [b*2 ^ 0] else []);simp
 |t::ss,b,s=>by
  show (if t.contains x=true then [b] else [])++bitsOf x (2*b) (ss++[s])=((if t.contains x=true then [b] else [])++bitsOf x (2*b) ss)++_;rw[q_ x ss (2*b) s,YS];have e:2*b*2 ^ ss.length=b*2 ^ (t::ss).length:=by
   rw[Xz,Zs,ZG 2 b,Nat.mul_assoc,ZG 2]
  rw[e]
theorem uQ (x:Nat):∀(ss:Z9) (b:Nat),∀c∈bitsOf x b ss,∃p,p < ss.length/\c=b*2 ^ p
 |[],b,c,h=>by cases h
 |t::ss,b,c,h=>by
  have h:c∈(if t.contains x=true then [b] else [])++bitsOf x (2*b) ss:=h;rcases Yd.mp h with h|h
  · split at h
    · rw[XC] at h;exact⟨0,by simp,by simp[h]⟩
    · cases h
  · obtain⟨p,h1,h2⟩:=uQ x ss (2*b) c h;exact⟨p+1,by simp;omega,by rw[h2,Zs,ZG 2 b,Nat.mul_assoc,ZG 2]⟩
theorem pZ (x:Nat):∀(ss:Z9) (b:Nat),(bitsOf x b ss).length<=ss.length
 |[],b=>Xx _
 |t::ss,b=>by
  show ((if t.contains x=true then [b] else [])++bitsOf x (2*b) ss).length<=_;rw[XM,Xz];have:=pZ x ss (2*b);split
  · simp;omega
  · simp;omega
theorem DZ {m p:Nat}:(m &&& 2 ^ p≠0)↔bB m (2 ^ p)=true:=by
 unfold bB;have e:(m / 2 ^ p % 2==1)=m.testBit p:=by
  rw[Nat.testBit_eq_decide_div_mod_eq,X3,Ye,Xw]
 rw[e];constructor
 · intro h;cases ht:m.testBit p with
   |true=>rfl
   |false =>
    refine absurd (Nat.eq_of_testBit_eq λi=>?_) h;rw[Nat.testBit_and,Nat.testBit_two_pow,Nat.zero_testBit];by_cases c:p=i
    · subst c;rw[ht];rfl
    · rw[Yc c,Bool.and_false]
 · intro h z;have:=Yv (λn=>Nat.testBit n p) z;simp only[Nat.testBit_and,Nat.testBit_two_pow,Nat.zero_testBit,h] at this;simp at this
theorem HH {m b:Nat}(h:bB m b=true)(hb:0 < b):b<=m:=by
 unfold bB at h;rw[Ye] at h;by_cases z:b<=m
 · exact z
 · rw[Nat.div_eq_of_lt (by omega)] at h;cases h
theorem Cu:∀(ss:Z9) (m:Nat),1<=m->m < 2 ^ ss.length->sel m ss≠[]
 |[],m,h1,h2=>by simp at h2;omega
 |s::ss,m,h1,h2=>by
  rw[pI];by_cases h:m % 2=1
  · rw[Xp h];simp
  · rw[Xo h];have:=Cu ss (m / 2) (by omega) (by rw[Xz,Zs] at h2;omega);simpa using this
def pB (x:Nat)(z:Nat):Bool:=decide (1<=z)&&decide (z < x)
theorem Ef {x:Nat}(hx:1<=x):(λz=>pB x z||z==x)=pB (x+1):=by
 funext z;unfold pB;rw[X3];simp;omega
theorem IZ (x:Nat):pB x x=false:=by unfold pB;simp
theorem Hq:pB 1=λ_=>false:=by
 funext z;unfold pB;rw[Bool.eq_false_iff];simp;omega
theorem HQ:pB 25=la:=by
 funext z;unfold pB la;rw[X3];simp;omega
def cF (ss:Z9)(x m:Nat):Nat:=dj (sel m ss) (pB x)
theorem oR (ss:Z9)(x:Nat):cF ss x 0=1:=by
 unfold cF;rw[vP];rfl
theorem C6 {ss:Z9}{m:Nat}(h1:1<=m)(h2:m < 2 ^ ss.length):cF ss 1 m=0:=by
 unfold cF;rw[Hq];have:=Cu ss m h1 h2;cases hs:sel m ss with
 |nil=>exact absurd hs this
 |cons s r =>
  unfold dj;have e:s.filter (λ_=>false)=[]:=by
   rw[List.filter_eq_nil_iff];intro _ _ z;cases z
  rw[e];rfl
theorem BI {ss:Z9}(nd:∀s∈ss,s.Nodup){x m:Nat}(hx:1<=x):cF ss (x+1) m=cF ss x m+(((bitsOf x 1 ss).filter (bB m)).map λb=>cF ss x (m - b)).sum:=by
 unfold cF;rw[←Ef hx];exact zY x m ss (pB x) nd (IZ x)
theorem BH {ss:Z9}:cF ss 25 (2 ^ ss.length - 1)=dj ss la:=by
 unfold cF;rw[uT,HQ]
def jF (ss:Z9)(x f i:Nat):Z_:=(List.range (f+1)).map λm=>if f - i < m then cF ss (x+1) m else cF ss x m
def tab (ss:Z9)(x f:Nat):Z_:=(List.range (f+1)).map λm=>cF ss x m
theorem Cs (ss:Z9)(x f:Nat):jF ss x f 0=tab ss x f:=by
 unfold jF tab;refine Yi λm hm=>?_;have:=Zc.mp hm;rw[Xo (by omega)]
theorem BS (ss:Z9)(x f:Nat):jF ss x f f=tab ss (x+1) f:=by
 unfold jF tab;refine Yi λm hm=>?_;by_cases h:m=0
 · subst h;rw[Xo (by omega),oR,oR]
 · rw[Xp (by omega)]
theorem tP {ss:Z9}{x f i m:Nat}(h:m<=f):(jF ss x f i)[m]?=some (if f - i < m then cF ss (x+1) m else cF ss x m):=by
 unfold jF;rw[Xs,Y9 (by omega)];rfl
theorem BE {ss:Z9}{x f m:Nat}(h:m<=f):(tab ss x f)[m]?=some (cF ss x m):=by
 unfold tab;rw[Xs,Y9 (by omega)];rfl
theorem A_ {ss:Z9}{x f i:Nat}(hi:i < f):(jF ss x f i).set (f - i) (cF ss (x+1) (f - i))=jF ss x f (i+1):=by
 refine ZL λm=>?_;rw[List.getElem?_set];have hl:(jF ss x f i).length=f+1:=by unfold jF;rw[Xn,ZH]
 by_cases hm:m<=f
 · rw[tP (i:=i+1) hm];by_cases e:f - i=m
   · rw[Xp e,Xp (by omega),Xp (by omega),e]
   · rw[Xo e,tP hm];congr 1;by_cases h2:f - i < m
     · rw[Xp h2,Xp (by omega)]
     · rw[Xo h2,Xo (by omega)]
 · have UW:(jF ss x f (i+1)).length=f+1:=by unfold jF;rw[Xn,ZH]
   rw[Xo (by omega),Ys (by omega),Ys (by omega)]
theorem zE {ss:Z9}:[1]++List.replicate (2 ^ ss.length - 1) 0=tab ss 1 (2 ^ ss.length - 1):=by
 have hp:0 < 2 ^ ss.length:=Nat.pow_pos (by decide);refine ZL λm=>?_;by_cases hm:m<=2 ^ ss.length - 1
 · rw[BE hm];cases m with
   |zero=>rw[oR];rfl
   |succ m =>
    rw[C6 (by omega) (by omega)];show (List.replicate (2 ^ ss.length - 1) 0)[m]?=some 0;rw[List.getElem?_replicate,Xp (by omega)]
 · unfold tab;rw[Ys (by simp;omega),Ys (by simp;omega)]
def ig (g:Z9)(s:Z_):Bool:=(s.zip g).all λz=>z.2.contains z.1
def kW (g:Z9)(s:Z_):Nat:=if ig g s=true then product ((g.drop s.length).map List.length) else 0
def gE (s t:Z_):Z_:=t.filter λx=>!s.contains x
def sM (g:Z9)(s:Z_):Nat:=if ig g s=true/\s.Nodup then dj ((g.drop s.length).map (gE s)) la else 0
def pre (R:Z9)(s:Z_):Nat:=R.countP λr=>s.isPrefixOf r
theorem ka {α:Type}{p q:Prop} [Decidable p] [Decidable q] {a b:α}(h:p↔q):(if p then a else b)=if q then a else b:=by
 by_cases z:p
 · rw[Xp z,Xp (h.mp z)]
 · rw[Xo z,Xo λy=>z (h.mpr y)]
theorem mi (R:Z9):pre R []=R.length:=by
 unfold pre;rw[List.countP_eq_length];intro r _;simp
theorem B4 {x y:Nat}{s:Z_}(R:Z9):pre (R.map λr=>y::r) (x::s)=if (y==x)=true then pre R s else 0:=by
 unfold pre;rw[List.countP_map];by_cases e:y=x
 · rw[Xp (by simpa using e)];congr 1;funext r;simp[e]
 · rw[Xo (by simpa using e),List.countP_eq_zero];intro r _;have:¬x=y:=λz=>e z.symm;simp[this]
theorem vM {x:Nat}{s t:Z_}(nd:t.Nodup)(f:Nat->Z9):pre (t.flatMap λy=>(f y).map λr=>y::r) (x::s)=if t.contains x=true then pre (f x) s else 0:=by
 have e:pre (t.flatMap λy=>(f y).map λr=>y::r) (x::s)=(t.map λy=>if (y==x)=true then pre (f x) s else 0).sum:=by
  unfold pre;rw[List.countP_flatMap];refine Yv List.sum (Yi λy _=>?_);show pre ((f y).map λr=>y::r) (x::s)=_;rw[B4];by_cases z:y=x
  · subst z;rfl
  · rw[Xo (by simpa using z),Xo (by simpa using z)]
 rw[e,nH,lz nd];split <;> simp
theorem va:∀(g:Z9) (s:Z_),(∀t∈g,t.Nodup)->s.length<=g.length->kW g s=pre (rowsOf g) s
 |g,[],_,_=>by
  rw[mi,jy];unfold kW ig;simp
 |[],x::s,_,h=>by simp at h
 |t::g,x::s,nd,h=>by
  have ih:=va g s (λu hu=>nd u (by simp[hu])) (by simpa using h);unfold rowsOf;rw[vM (nd t (by simp)) λ_=>rowsOf g,←ih];unfold kW ig;simp only[List.zip_cons_cons,ZC,Xz,List.drop_succ_cons,Xv];by_cases c:t.contains x=true
  · rw[Xp c];by_cases d:((s.zip g).all λz=>z.2.contains z.1)=true
    · rw[Xp d,Xp ⟨c,d⟩]
    · rw[Xo d,Xo λz=>d z.2]
  · rw[Xo c,Xo λz=>c z.1]
theorem uM:∀(g:Z9) (s had:Z_),(∀t∈g,t.Nodup)->s.length<=g.length->pre (apartRows g had) s=if ig g s=true/\s.Nodup/\∀x∈s,¬x∈had then dj (g.drop s.length) (λz=>!had.contains z&&!s.contains z) else 0
 |g,[],had,_,_=>by
  rw[mi,rJ,Xp ⟨by simp[ig],by simp,by simp⟩];simp
 |[],x::s,_,_,h=>by simp at h
 |t::g,x::s,had,nd,h=>by
  have ih:=uM g s (x::had) (λu hu=>nd u (by simp[hu])) (by simpa using h);unfold apartRows;rw[vM ((nd t (by simp)).filter _) λy=>apartRows g (y::had),ih];have ep:(λz=>!(x::had).contains z&&!s.contains z)=λz=>!had.contains z&&!(x::s).contains z:=by
   funext z;simp only[List.contains_cons];cases (z==x) <;> cases had.contains z <;> cases s.contains z <;> rfl
  rw[ep];have eC:(ig (t::g) (x::s)=true/\(x::s).Nodup/\∀y∈x::s,¬y∈had)↔(t.filter λy=>!had.contains y).contains x=true/\(ig g s=true/\s.Nodup/\∀y∈s,¬y∈x::had):=by
   have ei:ig (t::g) (x::s)=true↔x∈t/\ig g s=true:=by unfold ig;simp
   rw[ei,YA,ZV,Yw,Xw,Yy];simp only[Xr,not_or,Yg,Yw,X6];constructor
   · rintro⟨⟨a,b⟩,⟨n,c⟩,d,e⟩;exact⟨⟨a,d⟩,b,c,λy hy=>⟨λz=>n (z ▸ hy),e y hy⟩⟩
   · rintro⟨⟨a,d⟩,b,c,e⟩;exact⟨⟨a,b⟩,⟨λm=>(e x m).1 rfl,c⟩,d,λy hy=>(e y hy).2⟩
  rw[ka eC];by_cases c:(t.filter λy=>!had.contains y).contains x=true
  · rw[Xp c];exact ka ⟨λz=>⟨c,z⟩,λz=>z.2⟩
  · rw[Xo c,Xo λz=>c z.1]
theorem ve {s:Z_}:∀(ss:Z9) (p:Nat->Bool),dj (ss.map (gE s)) p=dj ss λz=>p z&&!s.contains z
 |[],_=>rfl
 |t::ss,p=>by
  rw[XE];unfold dj gE;rw[List.filter_filter];refine Yv List.sum (Yi λy _=>?_);have:=ve (s:=s) ss λz=>p z&&z != y;unfold gE at this;rw[this];congr 1;funext z;dsimp only;cases p z <;> cases s.contains z <;> cases (z != y) <;> rfl
theorem DQ {g:Z9}{s:Z_}(o:C0 g)(h:s.length<=g.length):sM g s=pre (apartRows g []) s:=by
 rw[uM g s [] (λt ht=>(o.good t ht).1.nodup) h];unfold sM;rw[ka (p:=ig g s=true/\s.Nodup) (q:=ig g s=true/\s.Nodup/\∀x∈s,¬x∈[]) ⟨λ⟨a,b⟩=>⟨a,b,by simp⟩,λ⟨a,b,_⟩=>⟨a,b⟩⟩,ve];congr 1;refine gC _ λt ht y hy=>?_;have m:=YY ht;have:=(o.good t m).2 y hy;have:=o.lo t m y hy;unfold la;simp[*]
theorem zI {gs:List (Z9)}{s:Z_}(o:uB .order gs)(h:∀g∈gs,s.length<=g.length):(gs.map λg=>sM g s).sum=pre (rS .order gs) s:=by
 show _=pre (gs.flatMap λg=>apartRows g []) s;unfold pre;rw[List.countP_flatMap];exact Yv List.sum (Yi λg hg=>DQ (o.ok g hg) (h g hg))
theorem BF {kd:Kind}{gs:List (Z9)}{s:Z_}(h1:kd≠.order)(h2:kd≠.any)(o:uB kd gs)(h:∀g∈gs,s.length<=g.length):(gs.map λg=>kW g s).sum=pre (rS kd gs) s:=by
 have e:rS kd gs=gs.flatMap rowsOf:=by
  cases kd with
  |order=>exact absurd rfl h1
  |any=>exact absurd rfl h2
  |place=>rfl
  |legs=>rfl
 rw[e];unfold pre;rw[List.countP_flatMap];exact Yv List.sum (Yi λg hg=>va g s (λt ht=>((o.ok g hg).good t ht).1.nodup) (h g hg))
def kK (a:Nat)(B:Z_)(g:Z9)(j:Nat):List (Z9):=((List.range j).filter λi=>g.getD i []==B).map λi=>g.take i++[[a]]++g.drop (i+1)
theorem xk (a:Nat)(B:Z_)(g:Z9)(j:Nat):kK a B g (j+1)=kK a B g j++if (g.getD j []==B)=true then [g.take j++[[a]]++g.drop (j+1)] else []:=by
 unfold kK;rw[List.range_succ,Zi,XH];congr 1;by_cases h:(g.getD j []==B)=true
 · rw[Xp h,YB,Xp h];rfl
 · rw[Xo h,YB,Xo h];rfl
theorem qW (a:Nat)(B:Z_):∀g:Z9,kK a B g g.length=jn a B g
 |[]=>rfl
 |s::g=>by
  have ih:=qW a B g;unfold kK at ih ⊢;unfold jn;rw[Xz,List.range_succ_eq_map,←ih,XR];have e:((List.range g.length).map Nat.succ).filter (λi=>(s::g).getD i []==B)=((List.range g.length).filter λi=>g.getD i []==B).map Nat.succ:=by
   rw[List.filter_map];rfl
  by_cases h:(s==B)=true
  · rw[List.filter_cons_of_pos (by simpa using h),Xp h,e,XE,XR];rfl
  · rw[List.filter_cons_of_neg (by simpa using h),Xo h,e,XR];rfl
theorem xH {B A:Z_}{a:Nat}{gs:List (Z9)}:bC B (A++[a]) gs=(bC B A gs).flatMap (jn a B):=by
 unfold bC;rw[List.foldl_append];rfl
theorem yu {B:Z_}{k:Nat}:∀{A:Z_} {gs:List (Z9)},(∀g∈gs,g.length=k)->∀g∈bC B A gs,g.length=k
 |[],_,h=>h
 |a::A,gs,h=>yu (A:=A) (gs:=gs.flatMap (jn a B)) λg hg=>by
  obtain⟨g0,h0,hr⟩:=Zu.mp hg;rw[(oB hr).1,h g0 h0]
theorem zt {a:Nat}{B:Z_}{g:Z9}{j:Nat}:(kK a B g j).length<=j:=by
 unfold kK;rw[Xn];exact Yb (ZP ..) (by rw[ZH];exact Xx _)
end Bw
end
section
set_option Elab.async false
set_option linter.all false
set_option maxRecDepth 100000
namespace L2
open PySem PySem.Spec PyProof.Rows
abbrev Key:=Sum Int Str
def oX:Key->Value->Bool
 |.inl k,v=>Value.isInt k v
 |.inr x,v=>Value.isStrOf x v
def Jx (w:World):Key->Int
 |.inl k=>hashInt k
 |.inr x=>hashStr w x
theorem cj:∀{k:Key} {v:Value},oX k v=true->(∃i t,k=Sum.inl i/\v=Value.int i t)∨(∃x t,k=Sum.inr x/\v=Value.str x t)
 |.inl i,v,h=>by
  obtain⟨t,e⟩:=Value.isInt_shape (k:=i) (v:=v) h;exact .inl ⟨i,t,rfl,e⟩
 |.inr x,v,h=>by
  obtain⟨t,e⟩:=Value.isStrOf_shape (x:=x) (v:=v) h;exact .inr ⟨x,t,rfl,e⟩
theorem Ac (i:Int)(t:Tok):oX (.inl i) (.int i t)=true:=by simp[oX,Value.isInt]
theorem rC (x:Str)(t:Tok):oX (.inr x) (.str x t)=true:=by simp[oX,Value.isStrOf]
theorem Gj (a b:Int):decide ((Sum.inl a:Key)=Sum.inl b)=(a==b):=by
 by_cases e:a=b
 · subst e;simp
 · have h:¬(Sum.inl a:Key)=Sum.inl b:=λq=>e (Sum.inl.inj q);rw[Yc h];exact (XX.mpr e).symm
theorem Gf (a b:Str):decide ((Sum.inr a:Key)=Sum.inr b)=decide (a=b):=by
 by_cases e:a=b
 · subst e;simp
 · have h:¬(Sum.inr a:Key)=Sum.inr b:=λq=>e (Sum.inr.inj q);rw[Yc h,Yc e]
theorem GJ (a:Int)(b:Str):decide ((Sum.inl a:Key)=Sum.inr b)=false:=Yc (λq=>nomatch q)
theorem HJ (a:Str)(b:Int):decide ((Sum.inr a:Key)=Sum.inl b)=false:=Yc (λq=>nomatch q)
def cx (prog:Program)(w:World):PySem.KeyKind prog w Key where
 is:=oX
 hash:=Jx w
 inj:=λv a b ha hb=>by
  rcases cj ha with ⟨i,t,rfl,rfl⟩|⟨x,t,rfl,rfl⟩
  · rcases cj hb with ⟨j,u,rfl,e⟩|⟨y,u,rfl,e⟩
    · injection e with e1 _;rw[e1]
    · exact nomatch e
  · rcases cj hb with ⟨j,u,rfl,e⟩|⟨y,u,rfl,e⟩
    · exact nomatch e
    · injection e with e1 _;rw[e1]
 byValue:=λk v h=>by
  rcases cj h with ⟨i,t,rfl,rfl⟩|⟨x,t,rfl,rfl⟩ <;> rfl
 pyHash:=λhv h=>by
  rcases cj hv with ⟨i,t,rfl,rfl⟩|⟨x,t,rfl,rfl⟩
  · exact wpAny_pyHash_int h
  · exact wpAny_pyHash_str h
 eqBool:=λhu hv h=>by
  rcases cj hu with ⟨i,t,rfl,rfl⟩|⟨x,t,rfl,rfl⟩
  · rcases cj hv with ⟨j,u,rfl,rfl⟩|⟨y,u,rfl,rfl⟩
    · rw[Gj] at h;exact wpAny_eqBool_int h
    · rw[GJ] at h;exact SeqAt.EqAt.int_str i t y u _ _ _ _ h
  · rcases cj hv with ⟨j,u,rfl,rfl⟩|⟨y,u,rfl,rfl⟩
    · rw[HJ] at h;exact SeqAt.EqAt.str_int x t j u _ _ _ _ h
    · rw[Gf] at h;exact wpAny_eqBool_str h
 «strs»:=λk x t v h=>by
  rcases cj h with ⟨i,u,rfl,e⟩|⟨y,u,rfl,e⟩
  · exact nomatch e
  · injection e with e1 _;subst e1;cases v <;> rfl
theorem vB (prog:Program)(w:World)(i:Int)(t:Tok):(cx prog w).is (.inl i) (.int i t)=true:=Ac i t
theorem uL (prog:Program)(w:World)(x:Str)(t:Tok):(cx prog w).is (.inr x) (.str x t)=true:=rC x t
inductive V where
 |cf|bl (b:Bool)|int (i:Int)|str (x:Str)|v8 (b:Array UInt8)|flt (b:UInt64)|ref (a:Addr)|ty (n:String)
 deriving DecidableEq
def RelV:V->Value->Prop
 |.cf,u=>u=Value.none
 |.bl b,u=>u=Value.bool b
 |.int i,u=>∃t,u=Value.int i t
 |.str x,u=>∃t,u=Value.str x t
 |.v8 b,u=>∃t,u=Value.bytes b t
 |.flt b,u=>∃t,u=Value.float b t
 |.ref a,u=>u=Value.ref a
 |.ty n,u=>u=Value.type n
abbrev Vals:List V->aae->Prop:=Paired RelV
theorem Vals.length {xs:List V}{us:aae}(r:Vals xs us):xs.length=us.length:=Paired.length r
theorem Vals.get:∀{xs:List V} {us:aae} {i:Nat} {x:V},Vals xs us->xs[i]?=some x->∃u,us[i]?=some u/\RelV x u
 |_,_,_,_,.nil,e=>by simp at e
 |_,_,0,_,.cons r _,e=>by simp at e;subst e;exact⟨_,rfl,r⟩
 |_,_,i+1,x,.cons _ t,e=>by
  obtain⟨u,h1,h2⟩:=Vals.get (i:=i) (x:=x) t (by simpa using e);exact⟨u,by simpa using h1,h2⟩
theorem Vals.set {x:V}{u:Value}(r:RelV x u):∀{xs:List V} {us:aae} (i:Nat),Vals xs us->Vals (xs.set i x) (us.set i u)
 |_,_,_,.nil=>.nil
 |_,_,0,.cons _ t=>.cons r t
 |_,_,i+1,.cons q t=>.cons q (Vals.set r i t)
theorem Vals.append:∀{xs ys:List V} {us ws:aae},Vals xs us->Vals ys ws->Vals (xs++ys) (us++ws)
 |_,_,_,_,.nil,s=>s
 |_,_,_,_,.cons r t,s=>.cons r (Vals.append t s)
theorem Vals.take:∀{xs:List V} {us:aae} (n:Nat),Vals xs us->Vals (xs.take n) (us.take n)
 |_,_,0,_=>.nil
 |_,_,_+1,.nil=>.nil
 |_,_,n+1,.cons r t=>.cons r (Vals.take n t)
theorem Vals.drop:∀{xs:List V} {us:aae} (n:Nat),Vals xs us->Vals (xs.drop n) (us.drop n)
 |_,_,0,r=>r
 |_,_,_+1,.nil=>.nil
 |_,_,n+1,.cons _ t=>Vals.drop n t
def i8:Option V->Option Value->Prop
 |some v,some u=>RelV v u
 |none,none=>True
 |_,_=>False
def KV {κ:Type}:List (κ×V)->List (κ×Value)->Prop:=Paired λ(p:κ×V) (q:κ×Value)=>p.1=q.1/\RelV p.2 q.2
def kV:Key->V
 |.inl i=>.int i
 |.inr x=>.str x
inductive HO where
 |lst (xs:List V)
 |tup (xs:List V)
 |dK (Lx:List (Key×V))|dT (Lx:List (List Key×V))
 |set (S:Int->Bool) (n:Nat)
 |ins (C dx:Addr) (fs:List (Str×V))
 |own (x:Addr)
 |xd (fs:List (Str×V))
 |met (f x:Addr)
 |rng (lo hi:Int)
 |frz (o:Obj) (u:HO)
 |tbl (ps:Array Value)
 |ext (φ:Heap->Prop)
abbrev Hp:=Addr->Option HO
def upd (H:Hp)(a:Addr)(o:HO):Hp:=λb=>if b=a then some o else H b
theorem ae {H:Hp}{a:Addr}{o:HO}:upd H a o a=some o:=by unfold upd;rw[Xp rfl]
theorem aq {H:Hp}{a b:Addr}{o:HO}(h:b≠a):upd H a o b=H b:=by unfold upd;rw[Xo h]
theorem cI {H:Hp}{a:Addr}{o u:HO}:upd (upd H a o) a u=upd H a u:=by
 funext b;unfold upd;split <;> rfl
theorem dE {H:Hp}{a b:Addr}{o u:HO}(h:H a=some o)(h':H b=some u)(d:o≠u):a≠b:=by
 intro e;subst e;rw[h] at h';exact d (X2 h')
theorem ao {H:Hp}{a b:Addr}{o:HO}(h:H a=some o)(h':H b=none):a≠b:=by
 intro e;subst e;rw[h] at h';cases h'
section
variable (P:Program)(w:World)
def bK (H:Hp) (h:Heap) (a:Addr):HO->Prop
 |.lst xs=>xs.length<=sizeLine/\∃(Ly:aae) (n:Nat),Vals xs Ly/\h.get? a=some {cls:=.type "list",data:=.seq Ly.toArray n}
 |.tup xs=>xs.length<=sizeLine/\∃Ly:aae,Vals xs Ly/\IsTup h a Ly.toArray
 |.dK Lx=>Lx.length<=sizeLine/\(a==sysModules)=false/\∃vs,KV Lx vs/\h.DictOf (cx P w) a vs
 |.dT Lx=>Lx.length<=sizeLine/\(a==sysModules)=false/\∃xs:List (List Key×Addr×Value),
   Paired (λ(p:List Key×V) (q:List Key×Addr×Value)=>p.1=q.1/\H q.2.1=some (.tup (p.1.map kV))/\RelV p.2 q.2.2) Lx xs /\
   ∃o es ep,h.get? a=some o/\o.ExactDict/\o.data=.dict es ep/\es.toList=xs.map (entryOfKey (tupleKind (cx P w)))/\(xs.map (·.1)).Nodup
 |.set S n=>h.SetOf (intKind P w) a S n
 |.ins C dx fs=>H dx=some (.own a)/\fs.length<=1000/\dx≠a/\h.get? a=some (PySem.W.instObj C dx) /\
   ∃mA,h.Ns1 dx mA/\(∀f,i8 (fs.lookup f) (mA f))/\PySem.Within mA (fs.map (·.1))
 |.own _=>∃o,h.get? a=some o
 |.xd fs=>∃mA,h.Ns1 a mA/\∀f,i8 (fs.lookup f) (mA f)
 |.rng lo hi=>∃t u v,h.get? a=some {cls:=.type "range",data:=.fields #[.int lo t,.int hi u,.int 1 v]}
 |.frz o u=>h.get? a=some o/\bK H h a u
 |.tbl ps=>h.get? a=some {cls:=.none,data:=.fields ps}
 |.met f x=>h.get? a=some (PySem.W.methodObj (.ref f) (.ref x))
 |.ext φ=>φ h/\(∃o,h.get? a=some o)/\∀h1 h2:Heap,φ h1->(∀o,h1.get? a=some o->h2.get? a=some o)->φ h2
def ie (H:Hp)(h:Heap):Prop:=∀a o,H a=some o->bK P w H h a o
end
section
variable {P:Program}{w:World}{H H':Hp}{h h':Heap}{a:Addr}{o:HO}
theorem bK.lt (x:bK P w H h a o):a < h.objs.size:=by
 cases o with
 |lst xs=>obtain⟨_,_,_,_,e⟩:=x;exact XA e
 |tup xs=>obtain⟨_,_,_,p⟩:=x;exact p.lt
 |dK Lx=>obtain⟨_,_,_,_,o,_,_,e,_⟩:=x;exact XA e
 |dT Lx=>obtain⟨_,_,_,_,o,_,_,e,_⟩:=x;exact XA e
 |set S n=>obtain⟨o,_,_,_,e,_⟩:=x;exact XA e
 |ins C dx fs=>obtain⟨_,_,_,e,_⟩:=x;exact XA e
 |own y=>obtain⟨_,e⟩:=x;exact XA e
 |xd fs=>obtain⟨_,⟨_,_,_,e,_⟩,_⟩:=x;exact XA e
 |rng lo hi=>obtain⟨_,_,_,e⟩:=x;exact XA e
 |frz ob u=>obtain⟨e,_⟩:=x;exact XA e
 |tbl ps=>exact XA (show h.get? a=some _ from x)
 |met f y=>exact XA (show h.get? a=some _ from x)
 |ext φ=>obtain⟨_,⟨_,e⟩,_⟩:=x;exact XA e
theorem Paired.d8 {α β:Type}{F G:α->β->Prop}:∀{l₁:List α} {l₂:List β},Paired F l₁ l₂->(∀a b,F a b->G a b)->Paired G l₁ l₂
 |_,_,.nil,_=>.nil
 |_,_,.cons r t,f=>.cons (f _ _ r) (Paired.d8 t f)
theorem bK.kr (x:bK P w H h a o)(k:∀b u,(b=a∨H b=some (.own a))->h.get? b=some u->h'.get? b=some u)
  (ho:∀b,H b=some (.own a)->H' b=some (.own a))(ht:∀b xs,H b=some (.tup xs)->H' b=some (.tup xs)):bK P w H' h' a o:=by
 induction o with
 |lst xs=>obtain⟨z,Ly,n,r,e⟩:=x;exact⟨z,Ly,n,r,k _ _ (.inl rfl) e⟩
 |tup xs=>obtain⟨z,Ly,r,ob,e,c⟩:=x;exact⟨z,Ly,r,ob,k _ _ (.inl rfl) e,c⟩
 |dK Lx=>obtain⟨z,y,vs,r,ob,es,ep,e,c⟩:=x;exact⟨z,y,vs,r,ob,es,ep,k _ _ (.inl rfl) e,c⟩
 |dT Lx =>
  obtain⟨z,y,xs,r,ob,es,ep,e,c⟩:=x;exact⟨z,y,xs,Paired.d8 r λp q z=>⟨z.1,ht _ _ z.2.1,z.2.2⟩,ob,es,ep,k _ _ (.inl rfl) e,c⟩
 |set S n=>obtain⟨ob,es,ep,t,e,c⟩:=x;exact⟨ob,es,ep,t,k _ _ (.inl rfl) e,c⟩
 |ins C dx fs =>
  obtain⟨d,z,ne,e,mA,⟨od,es,ep,e2,c⟩,r⟩:=x;exact⟨ho _ d,z,ne,k _ _ (.inl rfl) e,mA,⟨od,es,ep,k _ _ (.inr d) e2,c⟩,r⟩
 |own y=>obtain⟨ob,e⟩:=x;exact⟨ob,k _ _ (.inl rfl) e⟩
 |xd fs=>obtain⟨mA,⟨od,es,ep,e,c⟩,r⟩:=x;exact⟨mA,⟨od,es,ep,k _ _ (.inl rfl) e,c⟩,r⟩
 |rng lo hi=>obtain⟨t,u,v,e⟩:=x;exact⟨t,u,v,k _ _ (.inl rfl) e⟩
 |frz ob u ih=>obtain⟨e,q⟩:=x;exact⟨k _ _ (.inl rfl) e,ih q⟩
 |tbl ps =>
  have e:h.get? a=some {cls:=.none,data:=.fields ps}:=x;show h'.get? a=some {cls:=.none,data:=.fields ps};exact k a _ (.inl rfl) e
 |met f y =>
  have e:h.get? a=some (PySem.W.methodObj (.ref f) (.ref y)):=x;show h'.get? a=some (PySem.W.methodObj (.ref f) (.ref y));exact k a _ (.inl rfl) e
 |ext φ=>obtain⟨p,⟨o,e⟩,st⟩:=x;exact⟨st _ _ p λo q=>k _ _ (.inl rfl) q,⟨o,k _ _ (.inl rfl) e⟩,st⟩
theorem ie.lt (x:ie P w H h)(e:H a=some o):a < h.objs.size:=(x a o e).lt
theorem ie.fresh (x:ie P w H h)(e:h.objs.size<=a):H a=none:=by
 cases q:H a with
 |none=>rfl
 |some u=>exact absurd (X5 (x.lt q) e) (YJ _)
theorem ie.kept (x:ie P w H h)(k:∀b u,h.get? b=some u->h'.get? b=some u):ie P w H h':=λa o e =>
 (x a o e).kr (λb u _ q=>k b u q) (λ_ q=>q) λ_ _ q=>q
theorem ie.laid (x:ie P w H h)(k:∀b u,h.get? b=some u->h'.get? b=some u)(hp:h.objs.size<=a)(new:bK P w (upd H a o) h' a o):ie P w (upd H a o) h':=λb u e=>by
 have hn:=x.fresh hp;by_cases hb:b=a
 · subst hb;rw[ae] at e;cases e;exact new
 · rw[aq hb] at e;exact (x b u e).kr (λc v _ q=>k c v q) (λc q=>by rw[aq (ao q hn)];exact q) λc xs q=>by rw[aq (ao q hn)];exact q
end
def Rd (H:Hp)(a:Addr)(u:HO):Prop:=H a=some u∨∃o,H a=some (.frz o u)
theorem Rd.ok {P:Program}{w:World}{H:Hp}{h:Heap}{a:Addr}{u:HO}(r:Rd H a u)(x:ie P w H h):bK P w H h a u:=by
 rcases r with r|⟨o,r⟩
 · exact x a u r
 · obtain⟨_,q⟩:=x a _ r;exact q
def JM:Option HO->Prop
 |some (.lst _)=>True
 |some (.dK _)=>True
 |some (.dT _)=>True
 |some (.set _ _)=>True
 |some (.ins _ _ _)=>True
 |some (.ext _)=>True
 |_=>False
section
variable {P:Program}{w:World}{H:Hp}{h h':Heap}{x e:Addr}{o':HO}
theorem ie.write (ok:ie P w H h) (mu:JM (H x)) (he:e=x∨H e=some (.own x)) (k:∀b u,b≠e->h.get? b=some u->h'.get? b=some u) (N2:∃u,h'.get? e=some u)
  (new:bK P w (upd H x o') h' x o'):ie P w (upd H x o') h':=λb u q=>by
 have OB:∀c y,H c=some (.own y)->c≠x:=λc y r z=>by subst z;rw[r] at mu;exact mu
 have QB:∀c xs,H c=some (.tup xs)->c≠x:=λc xs r z=>by subst z;rw[r] at mu;exact mu
 by_cases hb:b=x
 · subst hb;rw[ae] at q;cases q;exact new
 · rw[aq hb] at q;by_cases NB:b=e
   · have q':H b=some (.own x):=by
      rcases he with z|z
      · exact absurd (NB.trans z) hb
      · rw[NB];exact z
     rw[q] at q';cases q';obtain⟨v,hv⟩:=N2;exact⟨v,by rw[NB];exact hv⟩
   · refine (ok b u q).kr (λc v hc r=>k c v ?_ r) (λc r=>by rw[aq (OB c b r)];exact r) λc xs r=>by rw[aq (QB c xs r)];exact r
     rcases hc with rfl|hc
     · exact NB
     · rintro rfl;rcases he with z|z
       · exact OB c b hc z
       · rw[hc] at z;cases z;exact hb rfl
end
structure Un (fs ex:List Addr)(H H':Hp)(h h':Heap):Prop where
 keep:∀b o,h.get? b=some o->H b=none->b∉fs->b∉ex->h'.get? b=some o
 slot:∀b o,h.get? b=some o->H b=none->b∈fs->b∉ex->∃sl,h'.get? b=some {o with slots:=sl}
 free:∀b o,h.get? b=some o->H b=none->b∉ex->H' b=none
 there:∀b o,h.get? b=some o->b∉ex->∃o',h'.get? b=some o'
 n9:∀b xs,H b=some (.tup xs)->H' b=some (.tup xs)
 nc:∀b o u,H b=some (.frz o u)->H' b=some (.frz o u)
 oj:∀b ps,H b=some (.tbl ps)->∃more,H' b=some (.tbl (ps++more))
section
variable {fs L6 ex ex':List Addr}{H H1 H2:Hp}{h h1 h2 h':Heap}{a x e:Addr}{o:HO}
theorem Un.any (u:Un fs ex H H1 h h1) {b:Addr} {ob:Obj} (q:h.get? b=some ob) (n:H b=none) (hx:b∉ex):∃sl,h1.get? b=some {ob with slots:=sl}:=by
 by_cases hb:b∈fs
 · exact u.slot b ob q n hb hx
 · exact⟨ob.slots,u.keep b ob q n hb hx⟩
theorem Un.kept (k:∀b u,h.get? b=some u->h'.get? b=some u):Un fs ex H H h h' :=
 ⟨λb ob q _ _ _=>k b ob q,λb ob q _ _ _=>⟨ob.slots,k b ob q⟩,λ_ _ _ n _=>n,λb ob q _=>⟨ob,k b ob q⟩,λ_ _ q=>q,λ_ _ _ q=>q,λ_ ps q=>⟨#[],by rw[q];simp⟩⟩
theorem Un.refl:Un fs ex H H h h:=Un.kept λ_ _ q=>q
theorem Un.laid (k:∀b u,h.get? b=some u->h'.get? b=some u)(hp:h.objs.size<=a)(hn:H a=none):Un fs ex H (upd H a o) h h' where
 keep:=λb u q _ _ _=>k b u q
 slot:=λb u q _ _ _=>⟨u.slots,k b u q⟩
 free:=λb u q n _=>by rw[aq (X1 (X5 (XA q) hp))];exact n
 there:=λb u q _=>⟨u,k b u q⟩
 n9:=λb xs q=>by rw[aq (ao q hn)];exact q
 nc:=λb u xs q=>by rw[aq (ao q hn)];exact q
 oj:=λb ps q=>⟨#[],by rw[aq (ao q hn),q];simp⟩
theorem Un.write (mu:JM (H x))(he:e=x∨H e=some (.own x))(k:∀b u,b≠e->h.get? b=some u->h'.get? b=some u)(N2:∃u,h'.get? e=some u):Un fs ex H (upd H x o) h h':=by
 have hx:∀b,H b=none->b≠x:=λb n z=>by subst z;rw[n] at mu;exact mu
 have hb:∀b,H b=none->b≠e:=λb n z=>by
  subst z;rcases he with r|r
  · exact hx b n r
  · rw[n] at r;cases r
 have hm:∀b u,H b=some u->¬JM (some u)->b≠x:=λb u q nm z=>by subst z;rw[q] at mu;exact nm mu
 refine⟨λb u q n _ _=>k b u (hb b n) q,λb u q n _ _=>⟨u.slots,k b u (hb b n) q⟩,λb u q n _=>by rw[aq (hx b n)];exact n,λb u q _=>?_,
  λb xs q=>by rw[aq (hm b _ q λz=>z)];exact q,λb u xs q=>by rw[aq (hm b _ q λz=>z)];exact q,λb ps q=>⟨#[],by rw[aq (hm b _ q λz=>z),q];simp⟩⟩
 by_cases NB:b=e
 · subst NB;exact N2
 · exact⟨u,k b u NB q⟩
end
def JU (h:Heap)(H:Hp):List Addr:=(List.range h.objs.size).filter λa=>(H a).isSome
def uh (h:Heap)(H:Hp):Heap:=PySem.W.hideAll h (JU h H)
theorem zz (h:Heap)(H:Hp):(uh h H).objs.size=h.objs.size:=PySem.W.hideAll_size _ _
theorem A7 {h:Heap}{H:Hp}{b:Addr}{o:Obj}(e:h.get? b=some o)(n:H b=none):(uh h H).get? b=some o :=
 PySem.W.hideAll_get _ e λhm=>by
  have q:(H b).isSome=true:=(Yy.mp hm).2;rw[n] at q;simp at q
theorem EM {h:Heap}{H:Hp}{b:Addr}{o:Obj}(e:(uh h H).get? b=some o):h.get? b=some o/\H b=none:=by
 have e':h.get? b=some o:=PySem.W.of_hideAll (JU h H) e;refine⟨e',?_⟩;cases q:H b with
 |none=>rfl
 |some x =>
  have hm:b∈JU h H:=Yy.mpr ⟨Zc.mpr (XA e'),by simp[q]⟩;have z:(uh h H).get? b=none:=PySem.W.hideAll_none (JU h H) hm;rw[z] at e;cases e
structure Mod (K:aaa)(mg:aac)(base:Heap):Prop where
 Fc:K.In base
 glob:base.Ns mainGlobals mg
 blt:∃mb,base.Ns builtinsNs mb/\∀x:Str,x≠"__name__"->mb x=bootBuiltins x
 nolimit:base.NoLimit
structure Cx where
 prog:Program
 w:World
 K:aaa
 mg:Str->Option Value
 base:Heap
 A:Around
 N:List Str
 kJ:Shared
 Ib:Hp
 env:Env
 outer:List Env
 stack:List Env
 ex:List Addr
 fn:Str->Bool
 calm:Bool
 pn:aad
 xe:Value->Shared->Prop
def vY (l:List Env):List Addr:=l.filterMap (·.frame)
abbrev Cx.fs (X:Cx):List Addr:=vY X.outer
def Ic (sc:Scope)(x:Str):Prop:=sc.names.lookup x=some .local∨sc.names.lookup x=some .cell∨sc.names.lookup x=some .free
def Loc (sc:Scope)(x:Str):Prop:=sc.names.lookup x=some .local∨sc.names.lookup x=some .cell
def Look (env:Env)(h:Heap)(m:aac)(x:Str)(u:Value):Prop :=
 (env.kindOf x=some .local/\m x=some u)∨((env.kindOf x=some .cell∨env.kindOf x=some .free)/\∃c,env.cells.lookup x=some c/\h.IsCell c (some u))
structure Cx.Ok (X:Cx):Prop where
 mod:Mod X.K X.mg X.base
 kind:X.env.scope.kind=.function
 glob:X.env.globals=mainGlobals
 blt:X.env.builtins=builtinsNs
 above:X.kJ.heap.objs.size<=X.env.locals
 inj:∀x y c,X.env.cells.lookup x=some c->X.env.cells.lookup y=some c->x=y
 has:∀x,(X.env.kindOf x=some .cell∨X.env.kindOf x=some .free)->∃c,X.env.cells.lookup x=some c
 H_:∀x c,X.fn x=true->X.env.cells.lookup x=some c->X.kJ.heap.objs.size<=c
 hd:X.calm=true->X.A.handled=none
 frames:X.A.frames=some X.stack
 Fz:X.stack=X.outer∨(X.stack=X.env::X.outer/\X.env.frame=some X.env.locals)
 Jq:∀b∈X.ex,b≠X.env.locals/\∀x c,X.env.cells.lookup x=some c->c≠b
 bs:∀b o,X.base.get? b=some o->X.kJ.heap.get? b=some o/\X.Ib b=none
 CZ:X.base.objs.size<=X.kJ.heap.objs.size
 Af:∀b o,X.base.get? b=some o->b∉X.ex
 zA:∀b∈X.ex,b∉X.fs
 mI:X.kJ.heap.FunFrames X.base X.outer
 Fd:∀b∈X.fs,X.Ib b=none
structure Inv (X:Cx)(pins:aad)(σ:List (Option V))(H:Hp)(s:Shared):Prop where
 ok:X.Ok
 os:s.os=X.kJ.os
 bare:AllBare s.gens
 base:Un X.fs X.ex X.Ib H X.kJ.heap s.heap
 loc:∃m,s.heap.Ns X.env.locals m/\∀(i:Nat) (x:Str) (v:V),X.N[i]?=some x->σ[i]?=some (some v)->Ic X.env.scope x->∃u,RelV v u/\Look X.env s.heap m x u
 cell:∀x c,X.env.cells.lookup x=some c->∃v,s.heap.IsCell c v
 free:H X.env.locals=none
 gj:∀x c,X.env.cells.lookup x=some c->H c=none
 pin:∀p∈X.pn++pins,s.heap.get? p.1=some p.2/\H p.1=none/\p.1≠X.env.locals/\p.1∉X.fs/\∀v,p.2.data≠.cell v
 bu:ie X.prog X.w H s.heap
 len:σ.length=X.N.length
section
variable {X:Cx}{pins:aad}{σ:List (Option V)}{H H':Hp}{s:Shared}{h':Heap}
theorem Cx.Ok.Kn (ok:X.Ok) {b:Addr} {o:Obj} (e:X.base.get? b=some o):b∉X.fs:=λhb=>by
 have:=(ok.mI.mem hb).1;rw[e] at this;cases this
theorem Inv.bs (I:Inv X pins σ H s):∀b o,X.base.get? b=some o->s.heap.get? b=some o/\H b=none:=λb o e =>
 ⟨I.base.keep b o (I.ok.bs b o e).1 (I.ok.bs b o e).2 (I.ok.Kn e) (I.ok.Af b o e),I.base.free b o (I.ok.bs b o e).1 (I.ok.bs b o e).2 (I.ok.Af b o e)⟩
theorem Inv.bk (I:Inv X pins σ H s):∀b o,X.base.get? b=some o->s.heap.get? b=some o:=λb o e=>(I.bs b o e).1
theorem Inv.mod (I:Inv X pins σ H s):Mod X.K X.mg X.base:=I.ok.mod
theorem Inv.m7 (I:Inv X pins σ H s):X.K.In s.heap:=I.ok.mod.Fc.keeps I.bk
theorem Inv.lt (I:Inv X pins σ H s):X.env.locals < s.heap.objs.size:=let ⟨_,hn,_⟩:=I.loc;hn.lt
theorem Inv.sz (I:Inv X pins σ H s):X.kJ.heap.objs.size<=s.heap.objs.size:=Yb I.ok.above (Nat.le_of_lt I.lt)
theorem Inv.J8 (I:Inv X pins σ H s){a:Addr}(h:s.heap.objs.size<=a):a∉X.fs:=λhb=>by
 obtain⟨_,o,ho,_⟩:=I.ok.mI.mem hb;exact absurd (X5 (XA ho) (Yb I.sz h)) (YJ _)
theorem Inv.FE (I:Inv X pins σ H s):∀x c,X.env.cells.lookup x=some c->c≠X.env.locals:=λx c e z=>by
 obtain⟨v,o,ho,hd⟩:=I.cell x c e;obtain⟨m,⟨o',es,ep,LV,L8,_⟩,_⟩:=I.loc;rw[z,LV] at ho;cases ho;rw[L8] at hd;cases hd
theorem Inv.mI (I:Inv X pins σ H s):s.heap.FunFrames X.base X.outer:=by
 have all:∀(l:List Env),(∀b∈vY l,b∈X.fs)->X.kJ.heap.FunFrames X.base l->s.heap.FunFrames X.base l:=by
  intro l
  induction l with
  |nil=>intro _ _;trivial
  |cons env r ih =>
   intro hs hl;obtain⟨hk,⟨L,o,hf,hn,ho,hd⟩,hr⟩:=hl;have hL:L∈X.fs:=hs L (by unfold vY;rw[ZZ,hf];exact X_);obtain⟨sl,e⟩:=I.base.slot L o ho (I.ok.Fd L hL) hL λz=>I.ok.zA L z hL;exact⟨hk,⟨L,_,hf,hn,e,hd⟩,ih (λb hb=>hs b (by unfold vY;rw[ZZ,hf];exact XG _ hb)) hr⟩
 exact all X.outer (λ_ hb=>hb) I.ok.mI
theorem Inv.stack (I:Inv X pins σ H s):s.heap.FunFrames X.base X.stack:=by
 rcases I.ok.Fz with e|⟨e,hf⟩
 · rw[e];exact I.mI
 · rw[e];obtain⟨m,hn,_⟩:=I.loc;refine .cons (by rw[I.ok.kind];decide) hf hn ?_ I.mI;exact Heap.get?_none_of_le (Yb I.ok.CZ I.ok.above)
theorem Inv.xo (I:Inv X pins σ H s):∀b∈vY X.stack,b∈X.env.locals::X.fs:=λb hb=>by
 rcases I.ok.Fz with e|⟨e,hf⟩
 · rw[e] at hb;exact XG _ hb
 · rw[e] at hb;unfold vY at hb;rw[ZZ,hf] at hb;exact hb
theorem Inv.sI (I:Inv X pins σ H s):∀b∈vY X.stack,H b=none:=λb hb=>by
 rcases Xr.mp (I.xo b hb) with e|hb
 · rw[e];exact I.free
 · obtain⟨_,o,ho,_⟩:=I.ok.mI.mem hb;exact I.base.free b o ho (I.ok.Fd b hb) λz=>I.ok.zA b z hb
theorem wV {h:Heap}{b:Addr}(z:h.objs.size<=b):h.get? b=none:=by
 cases e:h.get? b with
 |none=>rfl
 |some o=>exact absurd (X5 (XA e) z) (YJ _)
theorem Inv.Fl {g':Array GenState}{t':Nat}{d':Drawn}{ch:List Addr}(I:Inv X pins σ H s)
  (LW:∀b∈ch,(b∈X.ex∨X.kJ.heap.get? b=none)/\b≠X.env.locals/\(∀x c,X.env.cells.lookup x=some c->c≠b)/\∀p∈X.pn++pins,p.1≠b)
  (keep:∀b o,b≠X.env.locals->b∉X.fs->b∉ch->s.heap.get? b=some o->H b=none->h'.get? b=some o)
  (slot:∀b o,b≠X.env.locals->b∈X.fs->b∉ch->s.heap.get? b=some o->H b=none->∃sl,h'.get? b=some {o with slots:=sl})(free:∀b o,b∉ch->s.heap.get? b=some o->H b=none->H' b=none)
  (there:∀b o,b∉ch->s.heap.get? b=some o->∃o',h'.get? b=some o')
  (n9:∀b xs,H b=some (.tup xs)->H' b=some (.tup xs))(nc:∀b o u,H b=some (.frz o u)->H' b=some (.frz o u))(oj:∀b ps,H b=some (.tbl ps)->∃more,H' b=some (.tbl (ps++more)))
  (ns:∀m,s.heap.Ns X.env.locals m->h'.Ns X.env.locals m)(bu:ie X.prog X.w H' h')(hg:AllBare g') :
  Inv X pins σ H' {s with heap:=h',gens:=g',drawn:=d',toks:=t'}:=by
 have Sb:∀b o,X.kJ.heap.get? b=some o->b≠X.env.locals:=λb o e=>X1 (X5 (XA e) I.ok.above);have Pw:∀b o,X.kJ.heap.get? b=some o->b∉X.ex->b∉ch:=λb o e hx hb=>by
  rcases (LW b hb).1 with z|z
  · exact hx z
  · rw[z] at e;cases e
 have cellK:∀x c,X.env.cells.lookup x=some c->∀v,s.heap.IsCell c v->h'.IsCell c v:=λx c e v ⟨o,ho,hd⟩=>by
  have OC:c∉ch:=λz=>(LW c z).2.2.1 x c e rfl;by_cases hc:c∈X.fs
  · obtain⟨sl,q⟩:=slot c o (I.FE x c e) hc OC ho (I.gj x c e);exact⟨_,q,hd⟩
  · exact⟨o,keep c o (I.FE x c e) hc OC ho (I.gj x c e),hd⟩
 refine⟨I.ok,I.os,hg,⟨λb o e n hb hx=>?_,λb o e n hb hx=>?_,λb o e n hx=>?_,λb o e hx=>?_,λb xs e=>n9 b xs (I.base.n9 b xs e),λb o xs e=>nc b o xs (I.base.nc b o xs e),λb ps e=>?_⟩,?_,λx c e=>?_,?_,λx c e=>?_,λp hp=>?_,bu,I.len⟩
 · exact keep b o (Sb b o e) hb (Pw b o e hx) (I.base.keep b o e n hb hx) (I.base.free b o e n hx)
 · obtain⟨sl,e1⟩:=I.base.slot b o e n hb hx;obtain⟨UX,e2⟩:=slot b _ (Sb b o e) hb (Pw b o e hx) e1 (I.base.free b o e n hx);exact⟨UX,e2⟩
 · obtain⟨o',e1⟩:=I.base.there b o e hx;exact free b o' (Pw b o e hx) e1 (I.base.free b o e n hx)
 · obtain⟨o',e1⟩:=I.base.there b o e hx;exact there b o' (Pw b o e hx) e1
 · obtain⟨m1,e1⟩:=I.base.oj b ps e;obtain⟨m2,e2⟩:=oj b _ e1;exact⟨m1++m2,by rw[e2,Array.append_assoc]⟩
 · obtain⟨m,hn,hl⟩:=I.loc;refine⟨m,ns m hn,λi x v e1 e2 e3=>?_⟩;obtain⟨u,r,l⟩:=hl i x v e1 e2 e3;refine⟨u,r,?_⟩;rcases l with l|⟨k,c,e,z⟩
   · exact .inl l
   · exact .inr ⟨k,c,e,cellK x c e _ z⟩
 · obtain⟨v,z⟩:=I.cell x c e;exact⟨v,cellK x c e v z⟩
 · obtain⟨m,⟨o,_,_,ho,_⟩,_⟩:=I.loc;exact free _ o (λz=>(LW _ z).2.1 rfl) ho I.free
 · obtain⟨v,o,ho,hd⟩:=I.cell x c e;exact free c o (λz=>(LW c z).2.2.1 x c e rfl) ho (I.gj x c e)
 · obtain⟨e,n,ne,nf,d⟩:=I.pin p hp;have OC:p.1∉ch:=λz=>(LW p.1 z).2.2.2 p hp rfl;exact⟨keep p.1 p.2 ne nf OC e n,free p.1 p.2 OC e n,ne,nf,d⟩
theorem Inv.step {g':Array GenState}{t':Nat}{d':Drawn}{ch:List Addr}(I:Inv X pins σ H s)
  (LW:∀b∈ch,(b∈X.ex∨X.kJ.heap.objs.size<=b)/\b≠X.env.locals/\(∀x c,X.env.cells.lookup x=some c->c≠b)/\∀p∈X.pn++pins,p.1≠b)
  (keep:∀b o,b≠X.env.locals->b∉X.fs->b∉ch->s.heap.get? b=some o->H b=none->h'.get? b=some o)
  (slot:∀b o,b≠X.env.locals->b∈X.fs->b∉ch->s.heap.get? b=some o->H b=none->∃sl,h'.get? b=some {o with slots:=sl})(free:∀b o,b∉ch->s.heap.get? b=some o->H b=none->H' b=none)
  (there:∀b o,b∉ch->s.heap.get? b=some o->∃o',h'.get? b=some o')
  (n9:∀b xs,H b=some (.tup xs)->H' b=some (.tup xs))(nc:∀b o u,H b=some (.frz o u)->H' b=some (.frz o u))(oj:∀b ps,H b=some (.tbl ps)->∃more,H' b=some (.tbl (ps++more)))
  (ns:∀m,s.heap.Ns X.env.locals m->h'.Ns X.env.locals m)(bu:ie X.prog X.w H' h')(hg:AllBare g') :
  Inv X pins σ H' {s with heap:=h',gens:=g',drawn:=d',toks:=t'}:=I.Fl (λb hb=>⟨(LW b hb).1.imp id λz=>wV z,(LW b hb).2⟩) keep slot free there n9 nc oj ns bu hg
theorem Inv.un {t':Nat}(I:Inv X pins σ H s)(u:Un X.fs [] H H' s.heap h')(bu:ie X.prog X.w H' h'):Inv X pins σ H' {s with heap:=h',toks:=t'}:=by
 obtain⟨m,⟨o,es,ep,ho,r⟩,_⟩:=id I.loc;obtain⟨sl,hL⟩:=u.any ho I.free (by simp);exact I.step (g':=s.gens) (d':=s.drawn) (ch:=[]) (λ_ z=>nomatch z) (λb o _ hb _ e n=>u.keep b o e n hb (by simp)) (λb o _ hb _ e n=>u.slot b o e n hb (by simp)) (λb o _ e n=>u.free b o e n (by simp)) (λb o _ e=>u.there b o e (by simp)) u.n9 u.nc u.oj (λm' hm=>by
  obtain⟨o',QC,QD,LV,r'⟩:=hm;rw[ho] at LV;cases LV;exact⟨_,QC,QD,hL,r'⟩) bu I.bare
theorem Inv.FQ {g':Array GenState}{t':Nat}{d':Drawn}{ch:List Addr}(I:Inv X pins σ H s)(u:Un (vY X.stack) ch H H' s.heap h')(bu:ie X.prog X.w H' h')(hg:AllBare g')
  (LW:∀b∈ch,(b∈X.ex∨X.kJ.heap.get? b=none)/\b≠X.env.locals/\(∀x c,X.env.cells.lookup x=some c->c≠b)/\∀p∈X.pn++pins,p.1≠b) :
  Inv X pins σ H' {s with heap:=h',gens:=g',drawn:=d',toks:=t'}:=by
 obtain⟨m,⟨o,es,ep,ho,r⟩,_⟩:=id I.loc;obtain⟨sl,hL⟩:=u.any ho I.free λz=>(LW _ z).2.1 rfl;exact I.Fl (ch:=ch) LW (λb o hL hb hc e n=>u.keep b o e n (λz=>(Xr.mp (I.xo b z)).elim hL hb) hc) (λb o _ _ hc e n=>u.any e n hc) (λb o hc e n=>u.free b o e n hc) (λb o hc e=>u.there b o e hc) u.n9 u.nc u.oj (λm' hm=>by
  obtain⟨o',QC,QD,LV,r'⟩:=hm;rw[ho] at LV;cases LV;exact⟨_,QC,QD,hL,r'⟩) bu hg
theorem Inv.call {g':Array GenState}{t':Nat}{d':Drawn}{ch:List Addr}(I:Inv X pins σ H s)(u:Un (vY X.stack) ch H H' s.heap h')(bu:ie X.prog X.w H' h')(hg:AllBare g')
  (LW:∀b∈ch,(b∈X.ex∨X.kJ.heap.objs.size<=b)/\b≠X.env.locals/\(∀x c,X.env.cells.lookup x=some c->c≠b)/\∀p∈X.pn++pins,p.1≠b) :
  Inv X pins σ H' {s with heap:=h',gens:=g',drawn:=d',toks:=t'}:=I.FQ u bu hg (λb hb=>⟨(LW b hb).1.imp id λz=>wV z,(LW b hb).2⟩)
theorem Inv.turned {t':Nat}{it:Addr}(I:Inv X pins σ H s)(k:∀b o,b≠it->s.heap.get? b=some o->h'.get? b=some o)(hn:H it=none)(hL:it≠X.env.locals)
  (h1:it∈X.ex∨X.kJ.heap.objs.size<=it)(h2:∀x c,X.env.cells.lookup x=some c->c≠it)(h3:∀p∈X.pn++pins,p.1≠it):Inv X pins σ H {s with heap:=h',toks:=t'}:=by
 have Nc:∀b u,H b=some u->b≠it:=λb u e z=>by rw[z,hn] at e;cases e
 refine I.step (g':=s.gens) (d':=s.drawn) (ch:=[it]) (λb hb=>?_) (λb o _ _ hc e _=>k b o (λz=>hc (by simp[z])) e) (λb o _ _ hc e _=>⟨o.slots,k b o (λz=>hc (by simp[z])) e⟩) (λ_ _ _ _ n=>n)
  (λb o hc e=>⟨o,k b o (λz=>hc (by simp[z])) e⟩) (λ_ _ e=>e) (λ_ _ _ e=>e) (λb ps e=>⟨#[],by rw[e];simp⟩) (λm hm=>?_) (λb u e=>?_) I.bare
 · have e:b=it:=by simpa using hb
   subst e;exact⟨h1,hL,h2,h3⟩
 · obtain⟨o,es,ep,ho,r⟩:=hm;exact⟨o,es,ep,k _ o (Z2 hL) ho,r⟩
 · refine (I.bu b u e).kr (λc v hc q=>k c v ?_ q) (λ_ q=>q) λ_ _ q=>q;rcases hc with z|z
   · rw[z];exact Nc b u e
   · exact Nc c _ z
theorem Inv.tok (I:Inv X pins σ H s)(t:Nat):Inv X pins σ H {s with toks:=t}:=I.un (h':=s.heap) (t':=t) Un.refl I.bu
theorem Inv.kept {t':Nat}(I:Inv X pins σ H s)(k:∀b u,s.heap.get? b=some u->h'.get? b=some u):Inv X pins σ H {s with heap:=h',toks:=t'}:=I.un (Un.kept k) (I.bu.kept k)
theorem Inv.laid {a:Addr}{o:HO}{t':Nat}(I:Inv X pins σ H s)(k:∀b u,s.heap.get? b=some u->h'.get? b=some u)(hp:s.heap.objs.size<=a)(new:bK X.prog X.w (upd H a o) h' a o) :
  Inv X pins σ (upd H a o) {s with heap:=h',toks:=t'}:=I.un (Un.laid k hp (I.bu.fresh hp)) (I.bu.laid k hp new)
theorem Inv.write {x e:Addr}{o:HO}{t':Nat}(I:Inv X pins σ H s)(mu:JM (H x))(he:e=x∨H e=some (.own x))(k:∀b u,b≠e->s.heap.get? b=some u->h'.get? b=some u)(N2:∃u,h'.get? e=some u)
  (new:bK X.prog X.w (upd H x o) h' x o):Inv X pins σ (upd H x o) {s with heap:=h',toks:=t'}:=I.un (Un.write mu he k N2) (I.bu.write mu he k N2 new)
theorem Inv.weak {σ':List (Option V)}(I:Inv X pins σ H s)(hl:σ'.length=σ.length)(w:∀(i:Nat) v,σ'[i]?=some (some v)->σ[i]?=some (some v)):Inv X pins σ' H s :=
 ⟨I.ok,I.os,I.bare,I.base,let ⟨m,hn,Ox⟩:=I.loc;⟨m,hn,λi x v e1 e2 e3=>Ox i x v e1 (w i v e2) e3⟩,I.cell,I.free,I.gj,I.pin,I.bu,hl.trans I.len⟩
theorem Inv.lY {pins':aad}(I:Inv X pins σ H s)(h:∀p∈pins',s.heap.get? p.1=some p.2/\H p.1=none/\p.1≠X.env.locals/\p.1∉X.fs/\∀v,p.2.data≠.cell v):Inv X pins' σ H s :=
 ⟨I.ok,I.os,I.bare,I.base,I.loc,I.cell,I.free,I.gj,λp hp=>(Yd.mp hp).elim (λz=>I.pin p (List.mem_append_left _ z)) (h p),I.bu,I.len⟩
theorem pS {N:List Str}(hN:N.Nodup){i j:Nat}{x:Str}(a:N[i]?=some x)(b:N[j]?=some x):i=j:=by
 obtain⟨h1,e1⟩:=XB.mp a;obtain⟨h2,e2⟩:=XB.mp b;exact (List.getElem_inj hN).mp (e1.trans e2.symm)
theorem sC {M:Model}{A:Around}{E:aab}{i:Nat}{x:Str}{v:V}{u:Value}{Q:Unit->Shared->Prop}(I:Inv X pins σ H s)(hN:X.N.Nodup)(hi:X.N[i]?=some x)(hx:Loc X.env.scope x)(r:RelV v u)
  (h:∀s',Inv X pins (σ.set i (some v)) H s'->(∃a,Heap.SameBut a s.heap s'.heap/\(a=X.env.locals∨X.env.cells.lookup x=some a))->Q () s')(hf:X.fn x=true∨X.env.scope.names.lookup x=some .local:=by first|exact .inl rfl|exact .inr rfl|assumption):wpAny M A (storeName X.env x u) Q E s:=by
 obtain⟨m,hn,hl⟩:=id I.loc;have QE:(X.env.scope.kind==.class||(X.env.scope.kind==.module&&X.env.locals != X.env.globals))=false:=by rw[I.ok.kind];rfl
 have hiσ:i < σ.length:=by rw[I.len];exact (XB.mp hi).1
 have FE:=I.FE;have tracked:∀{a:Addr} {h':Heap},(∃o,s.heap.get? a=some o/\H a=none)->Heap.SameBut a s.heap h'->ie X.prog X.w H h':=λ{a h'} ha hs b ob e=>by
  obtain⟨_,_,LX⟩:=ha;refine (I.bu b ob e).kr (λc w' hc q=>(hs.2 c ?_).trans q) (λ_ q=>q) λ_ _ q=>q;rintro rfl;rcases hc with rfl|hc
  · rw[LX] at e;cases e
  · rw[LX] at hc;cases hc
 rcases hx with hk|hk
 · refine wpAny_storeName_local hk hn (λh' ML hs=>?_) QE;obtain⟨oL,_,_,UY,_⟩:=id hn;refine h _ ⟨I.ok,I.os,I.bare,⟨λb o e n hb hx=>?_,λb o e n hb hx=>?_,I.base.free,λb o e hx=>?_,I.base.n9,I.base.nc,I.base.oj⟩,⟨_,ML,λj y v' e1 e2 e3=>?_⟩,λy c e=>?_,I.free,I.gj,λp hp=>?_,tracked ⟨oL,UY,I.free⟩ hs,by simpa using I.len⟩ ⟨_,hs,.inl rfl⟩
   · exact (hs.2 b (X1 (X5 (XA e) I.ok.above))).trans (I.base.keep b o e n hb hx)
   · obtain⟨sl,e1⟩:=I.base.slot b o e n hb hx;exact⟨sl,(hs.2 b (X1 (X5 (XA e) I.ok.above))).trans e1⟩
   · obtain⟨o',e1⟩:=I.base.there b o e hx;exact⟨o',(hs.2 b (X1 (X5 (XA e) I.ok.above))).trans e1⟩
   · by_cases hj:j=i
     · subst hj;rw[hi] at e1;cases e1;rw[ZJ hiσ] at e2;cases e2;exact⟨u,r,.inl ⟨hk,by simp⟩⟩
     · rw[List.getElem?_set_ne (Z2 hj)] at e2;obtain⟨u',r',q⟩:=hl j y v' e1 e2 e3;refine⟨u',r',?_⟩;rcases q with ⟨k,e⟩|⟨k,c,e,z⟩
       · refine .inl ⟨k,?_⟩;have:y≠x:=λe=>hj (pS hN e1 (e ▸ hi));simp[this,e]
       · exact .inr ⟨k,c,e,z.sameBut hs (FE y c e)⟩
   · obtain⟨w',z⟩:=I.cell y c e;exact⟨w',z.sameBut hs (FE y c e)⟩
   · obtain⟨e,n,ne,nf,d⟩:=I.pin p hp;exact⟨(hs.2 p.1 ne).trans e,n,ne,nf,d⟩
 · have QF:X.fn x=true:=by
    rcases hf with z|z
    · exact z
    · rw[z] at hk;cases hk
   obtain⟨c,hc⟩:=I.ok.has x (.inl hk);obtain⟨w',z⟩:=I.cell x c hc;refine wpAny_storeName_cell I.ok.kind hk hc z (λh' Om hs=>?_);obtain⟨oc,Sd,QG⟩:=id z;refine h {s with heap:=h'} ⟨I.ok,I.os,I.bare,⟨λb o e n hb hx=>?_,λb o e n hb hx=>?_,I.base.free,λb o e hx=>?_,I.base.n9,I.base.nc,I.base.oj⟩,⟨m,hn.sameBut hs (Z2 (FE x c hc)),λj y v' e1 e2 e3=>?_⟩,λy c' e=>?_,I.free,I.gj,λp hp=>?_,tracked ⟨oc,Sd,I.gj x c hc⟩ hs,by simpa using I.len⟩ ⟨c,hs,.inr hc⟩
   · exact (hs.2 b (X1 (X5 (XA e) (I.ok.H_ x c QF hc)))).trans (I.base.keep b o e n hb hx)
   · obtain⟨sl,e1⟩:=I.base.slot b o e n hb hx;exact⟨sl,(hs.2 b (X1 (X5 (XA e) (I.ok.H_ x c QF hc)))).trans e1⟩
   · obtain⟨o',e1⟩:=I.base.there b o e hx;exact⟨o',(hs.2 b (X1 (X5 (XA e) (I.ok.H_ x c QF hc)))).trans e1⟩
   · by_cases hj:j=i
     · subst hj;rw[hi] at e1;cases e1;rw[ZJ hiσ] at e2;cases e2;exact⟨u,r,.inr ⟨.inl hk,c,hc,Om⟩⟩
     · rw[List.getElem?_set_ne (Z2 hj)] at e2;obtain⟨u',r',q⟩:=hl j y v' e1 e2 e3;refine⟨u',r',?_⟩;rcases q with q|⟨k,c',e,z'⟩
       · exact .inl q
       · refine .inr ⟨k,c',e,z'.sameBut hs ?_⟩;rintro rfl;exact hj (pS hN e1 (I.ok.inj _ _ _ e hc ▸ hi))
   · by_cases QH:c'=c
     · subst QH;exact⟨_,Om⟩
     · obtain⟨w2,z2⟩:=I.cell y c' e;exact⟨w2,z2.sameBut hs QH⟩
   · obtain⟨e,n,ne,nf,d⟩:=I.pin p hp;refine⟨(hs.2 p.1 ?_).trans e,n,ne,nf,d⟩;intro q;rw[q,Sd] at e;have q':oc=p.2:=X2 e;exact d w' (by rw[←q'];exact QG)
theorem mx {M:Model}{A:Around}{E:aab}{i:Nat}{x:Str}{v:V}{u:Value}{Q:Unit->Shared->Prop}(I:Inv X pins σ H s)(hN:X.N.Nodup)(hi:X.N[i]?=some x)(hx:Loc X.env.scope x)(r:RelV v u)
  (h:∀s',Inv X pins (σ.set i (some v)) H s'->Q () s')(hf:X.fn x=true∨X.env.scope.names.lookup x=some .local:=by first|exact .inl rfl|exact .inr rfl|assumption):wpAny M A (storeName X.env x u) Q E s :=
 sC I hN hi hx r (λs' I' _=>h s' I') hf
theorem Inv.Fw {s':Shared}{ch:List Addr}(I:Inv X pins σ H s)(ho:s'.os=s.os)(u:Un (vY X.stack) ch H H' s.heap s'.heap)(bu:ie X.prog X.w H' s'.heap)(hg:AllBare s'.gens)
  (LW:∀b∈ch,(b∈X.ex∨X.kJ.heap.get? b=none)/\b≠X.env.locals/\(∀x c,X.env.cells.lookup x=some c->c≠b)/\∀p∈X.pn++pins,p.1≠b):Inv X pins σ H' s':=by
 obtain⟨h',g',d',t',o'⟩:=s';have e:o'=s.os:=ho;subst e;exact I.FQ (g':=g') (t':=t') (d':=d') u bu hg LW
theorem Inv.Fp {s':Shared}{ch:List Addr}(I:Inv X pins σ H s)(ho:s'.os=s.os)(u:Un (vY X.stack) ch H H' s.heap s'.heap)(bu:ie X.prog X.w H' s'.heap)(hg:AllBare s'.gens)
  (LW:∀b∈ch,(b∈X.ex∨X.kJ.heap.objs.size<=b)/\b≠X.env.locals/\(∀x c,X.env.cells.lookup x=some c->c≠b)/\∀p∈X.pn++pins,p.1≠b):Inv X pins σ H' s':=I.Fw ho u bu hg (λb hb=>⟨(LW b hb).1.imp id λz=>wV z,(LW b hb).2⟩)
end
abbrev XK:=Value->Option Addr->Hp->Prop
abbrev St:=List (Option V)
abbrev VK:=V->Hp->Prop
abbrev TE:=St->Hp->VK->Prop
abbrev TT:=St->Hp->(Bool->Hp->Prop)->Prop
abbrev TA:=St->Hp->(List V->Hp->Prop)->Prop
structure Ends where
 nx:St->Hp->Prop
 rt:VK
 bk:St->Hp->Prop:=λ_ _=>False
 ct:St->Hp->Prop:=λ_ _=>False
abbrev TS:=Ends->St->Hp->Prop
def EP (X:Cx)(pins:aad)(σ:St)(Q:VK)(u:Value)(s':Shared):Prop:=∃v H',Inv X pins σ H' s'/\RelV v u/\Q v H'
def TP (X:Cx)(pins:aad)(σ:St)(Q:Bool->Hp->Prop)(b:Bool)(s':Shared):Prop:=∃H',Inv X pins σ H' s'/\Q b H'
def AP (X:Cx)(pins:aad)(σ:St)(Q:List V->Hp->Prop)(us:aae)(s':Shared):Prop:=∃vs H',Inv X pins σ H' s'/\Vals vs us/\Q vs H'
def SP (X:Cx)(pins:aad)(D:Ends)(f:Flow)(s':Shared):Prop :=
 match f with
 |.next=>∃σ' H',Inv X pins σ' H' s'/\D.nx σ' H'
 |.brk=>∃σ' H',Inv X pins σ' H' s'/\D.bk σ' H'
 |.cont=>∃σ' H',Inv X pins σ' H' s'/\D.ct σ' H'
 |.ret u=>∃v σ' H',Inv X pins σ' H' s'/\RelV v u/\D.rt v H'
def PE (X:Cx)(e:Expr)(t:TE):Prop :=
 ∀(pins:aad) (s:Shared) (σ:St) (H:Hp) (Q:VK),Inv X pins σ H s->t σ H Q->wpAny (model X.prog X.w) X.A (eval e X.env) (EP X pins σ Q) X.xe s
def PT (X:Cx)(e:Expr)(t:TT):Prop :=
 ∀(pins:aad) (s:Shared) (σ:St) (H:Hp) (Q:Bool->Hp->Prop),Inv X pins σ H s->t σ H Q->wpAny (model X.prog X.w) X.A (isTrue e X.env (eval e X.env)) (TP X pins σ Q) X.xe s
def PW (X:Cx)(e:Expr)(t:TT):Prop :=
 ∀(whole:Sem Value) (pins:aad) (s:Shared) (σ:St) (H:Hp) (Q:Bool->Hp->Prop),Inv X pins σ H s->t σ H Q->wpAny (model X.prog X.w) X.A (isTrue e X.env whole) (TP X pins σ Q) X.xe s
theorem PW.pt {X:Cx}{e:Expr}{t:TT}(h:PW X e t):PT X e t:=h _
def PA (X:Cx)(es:List Expr)(t:TA):Prop :=
 ∀(pos:Pos) (pins:aad) (s:Shared) (σ:St) (H:Hp) (Q:List V->Hp->Prop),Inv X pins σ H s->t σ H Q->wpAny (model X.prog X.w) X.A (spliced (backTo pos (starEach es X.env))) (AP X pins σ Q) X.xe s
def PS (X:Cx)(st:Stmt)(t:TS):Prop :=
 ∀(pins:aad) (s:Shared) (σ:St) (H:Hp) (D:Ends),Inv X pins σ H s->t D σ H->wpAny (model X.prog X.w) X.A (exec st X.env) (SP X pins D) X.xe s
def qT (X:Cx)(st:List Stmt)(t:TS):Prop :=
 ∀(pins:aad) (s:Shared) (σ:St) (H:Hp) (D:Ends),Inv X pins σ H s->t D σ H->wpAny (model X.prog X.w) X.A (execs st X.env) (SP X pins D) X.xe s
def KC (X:Cx)(st:Stmt)(t:TS):Prop :=
 ∀(s:Shared) (σ:St) (H:Hp) (D:Ends),Inv X [] σ H s->t D σ H->wpAny (model X.prog X.w) X.A (exec st X.env) (SP X [] D) X.xe s
def AK (X:Cx)(st:List Stmt)(t:TS):Prop :=
 ∀(s:Shared) (σ:St) (H:Hp) (D:Ends),Inv X [] σ H s->t D σ H->wpAny (model X.prog X.w) X.A (execs st X.env) (SP X [] D) X.xe s
theorem bA {α:Type}{t:Sem α}{Q Q':α->Shared->Prop}{M:Model}{A:Around}{E:aab}{s:Shared}(h:wpAny M A t Q E s)(hQ:∀a s,Q a s->Q' a s):wpAny M A t Q' E s:=YG h hQ λ_ _ x=>x
section
variable {X:Cx}
def cH (i:Nat):TE:=λσ H Q=>∃v,σ[i]?=some (some v)/\Q v H
def tC (v:V):TE:=λ_ H Q=>Q v H
theorem Hu {i:Nat}{x:Str}{pos:Pos}(hN:X.N[i]?=some x)(hv:Ic X.env.scope x)(hd:(x==("__debug__":Str))=false:=by decide)(Ma:(x==("__classdict__":Str))=false:=by decide):PE X (.Name x pos) (cH i):=by
 intro pins s σ H Q I h;obtain⟨v,e,h⟩:=h;obtain⟨m,hn,hl⟩:=I.loc;obtain⟨u,r,l⟩:=hl i x v hN e hv;have fin:EP X pins σ Q u s:=⟨v,H,I,r,h⟩;rcases l with ⟨hk,hm⟩|⟨hk,c,hc,Mi⟩
 · exact wpAny_Name (wpAny_loadName_local I.ok.kind hk hn hm fin) hd
 · rcases hk with hk|hk
   · exact wpAny_Name (wpAny_loadName_cell I.ok.kind hk hc Mi fin) hd
   · exact wpAny_Name (wpAny_loadName_free I.ok.kind hk hc Mi fin Ma) hd
theorem ax {i j pos}:PE X (.Constant (.int i) j pos) (tC (.int i)):=λ_ _ _ H _ I h=>wpAny_Constant_int ⟨.int i,H,I.tok _,⟨_,rfl⟩,h⟩
theorem mz {b j pos}:PE X (.Constant (.bool b) j pos) (tC (.bl b)):=λ_ _ _ H _ I h=>Constant_bool ⟨.bl b,H,I,rfl,h⟩
theorem cC {j pos}:PE X (.Constant .none j pos) (tC .cf):=λ_ _ _ H _ I h=>Constant_none ⟨.cf,H,I,rfl,h⟩
theorem bt {x j pos}:PE X (.Constant (.str x) j pos) (tC (.str x)):=λ_ _ _ H _ I h=>Calls.Constant_str ⟨.str x,H,I.tok _,⟨_,rfl⟩,h⟩
def Gl (X:Cx)(x:Str):Prop:=X.env.kindOf x=some .globalImplicit
theorem mE {E:aab}{pins:aad}{s:Shared}{σ:St}{H:Hp}{x:Str}{u:Value}{pos:Pos}{Q:aab}(I:Inv X pins σ H s)(hg:Gl X x)(hm:X.mg x=some u)(h:Q u s)
  (hd:(x==("__debug__":Str))=false:=by decide):wpAny (model X.prog X.w) X.A (eval (.Name x pos) X.env) Q E s :=
 Calls.Name_function_global I.ok.kind hg (Calls.loadGlobal_global (by rw[I.ok.glob];exact I.mod.glob.keeps I.bk) hm h) hd
theorem ly {E:aab}{pins:aad}{s:Shared}{σ:St}{H:Hp}{x:Str}{u:Value}{pos:Pos}{Q:aab}(I:Inv X pins σ H s)(hg:Gl X x)(hm:X.mg x=none)(hv:bootBuiltins x=some u)(h:Q u s)
  (hn:x≠"__name__":=by decide)(hd:(x==("__debug__":Str))=false:=by decide):wpAny (model X.prog X.w) X.A (eval (.Name x pos) X.env) Q E s:=by
 obtain⟨mb,h1,h2⟩:=I.mod.blt;exact Calls.Name_function_global I.ok.kind hg (Calls.loadGlobal_builtin (by rw[I.ok.glob];exact I.mod.glob.keeps I.bk) hm (by rw[I.ok.blt];exact h1.keeps I.bk) ((h2 x hn).trans hv) h) hd
theorem DD {x:Str}{v:V}{u:Value}{pos:Pos}(hg:Gl X x)(hm:X.mg x=some u)(r:RelV v u)(hd:(x==("__debug__":Str))=false:=by decide):PE X (.Name x pos) (tC v) :=
 λ_ _ _ H _ I h=>mE I hg hm ⟨v,H,I,r,h⟩ hd
variable {a b:Expr}{ta tb:TE}{pos:Pos}
def PC (X:Cx) (op:CmpOp) (a b:Expr) (t:TE):Prop :=
 ∀(pins:aad) (s:Shared) (σ:St) (H:Hp) (Q:VK),Inv X pins σ H s->t σ H Q ->
  wpAny (model X.prog X.w) X.A (eval a X.env) (λv s₁=>wpAny (model X.prog X.w) X.A (eval b X.env) (λu s₂=>wpAny (model X.prog X.w) X.A (compareOp op v u) (EP X pins σ Q) X.xe s₂) X.xe s₁) X.xe s
def tB (t:TE):TT:=λσ H Q=>t σ H λx H1=>∃c,x=.bl c/\Q c H1
theorem Hd {op:CmpOp}{t:TE}(h:PC X op a b t)(h1:behindInMarks op b=false:=by first|exact MC _ (by decide) (by decide)|rfl):PE X (.Compare a [op] [b] pos) t:=λpins s σ H Q I hw=>wpAny_Compare1 (h pins s σ H Q I hw) h1
theorem o7 {op:CmpOp}{t:TE}(h:PC X op a b t)(h1:behindInMarks op b=false:=by first|exact MC _ (by decide) (by decide)|rfl):PT X (.Compare a [op] [b] pos) (tB t):=by
 intro pins s σ H Q I hw;refine wpAny_isTrue_Compare1 (bA (h pins s σ H _ I hw) λv s1 h1=>bA h1 λu s2 h2=>bA h2 λc s3 ⟨x,H1,I1,r1,q1⟩=>?_) h1;obtain⟨d,rfl,q⟩:=q1;cases r1;exact YD ⟨H1,I1,q⟩
theorem h_ {e:Expr}{t:TE}(h:PE X e t)(he:∀whole,isTrue e X.env whole=(do let v ←whole;standAt e.pos;holding [v] (truthy v)):=by intro _;rfl):PT X e (tB t):=by
 intro pins s σ H Q I hw;refine isTrue_plain (bA (h pins s σ H _ I hw) λv s1 ⟨x,H1,I1,r1,q1⟩=>?_) (he _);obtain⟨d,rfl,q⟩:=q1;cases r1;exact YD ⟨H1,I1,q⟩
variable {tA Px:TT}{rest:List Expr}
def Iw (t u:TT):TT:=λσ H Q=>t σ H λc H1=>if c=true then u σ H1 Q else Q false H1
def K1 (t u:TT):TT:=λσ H Q=>t σ H λc H1=>if c=true then Q true H1 else u σ H1 Q
def Ig (t:TT):TT:=λσ H Q=>t σ H λc H1=>Q (!c) H1
theorem oJ (ha:PT X a tA):PW X (.BoolOp .And [a] pos) tA:=by
 intro wh pins s σ H Q I h;refine isTrue_and (bA (ha pins s σ H Q I h) λc s1 e=>?_);cases c with
 |true=>exact isTrue_and_nil e
 |false=>exact e
theorem cR (ha:PT X a tA):PW X (.BoolOp .Or [a] pos) tA:=by
 intro wh pins s σ H Q I h;refine isTrue_or (bA (ha pins s σ H Q I h) λc s1 e=>?_);cases c with
 |false=>exact isTrue_or_nil e
 |true=>exact e
theorem sR (ha:PT X a tA)(hb:PW X (.BoolOp .And (b::rest) pos) Px):PW X (.BoolOp .And (a::b::rest) pos) (Iw tA Px):=by
 intro wh pins s σ H Q I h;refine isTrue_and (bA (ha pins s σ H _ I h) λc s1 ⟨H1,I1,q1⟩=>?_);cases c with
 |true=>exact hb wh pins s1 σ H1 Q I1 q1
 |false=>exact⟨H1,I1,q1⟩
theorem d9 (ha:PT X a tA)(hb:PW X (.BoolOp .Or (b::rest) pos) Px):PW X (.BoolOp .Or (a::b::rest) pos) (K1 tA Px):=by
 intro wh pins s σ H Q I h;refine isTrue_or (bA (ha pins s σ H _ I h) λc s1 ⟨H1,I1,q1⟩=>?_);cases c with
 |true=>exact⟨H1,I1,q1⟩
 |false=>exact hb wh pins s1 σ H1 Q I1 q1
theorem cz (ha:PT X a tA):PT X (.UnaryOp .Not a pos) (Ig tA):=by
 intro pins s σ H Q I h;exact isTrue_not (ha pins s σ H (λc H1=>Q (!c) H1) I h)
def Fj (ta tb:TE):TE:=λσ H Q=>ta σ H λx H1=>∃c,x=.bl c/\if c=true then tb σ H1 Q else Q (.bl false) H1
def Im (ta tb:TE):TE:=λσ H Q=>ta σ H λx H1=>∃c,x=.bl c/\if c=true then Q (.bl true) H1 else tb σ H1 Q
theorem wx {op}{t:TE}(h:PE X a t):PE X (.BoolOp op [a] pos) t:=λpins s σ H Q I hw=>BoolOp_one (h pins s σ H Q I hw)
theorem wW (ha:PE X a ta)(hb:PE X (.BoolOp .And (b::rest) pos) tb):PE X (.BoolOp .And (a::b::rest) pos) (Fj ta tb):=by
 intro pins s σ H Q I h;refine BoolOp_and (bA (ha pins s σ H _ I h) λv s1 ⟨x,H1,I1,r1,q1⟩=>?_);obtain⟨c,rfl,q1⟩:=q1;cases r1;refine YD ?_;cases c with
 |true=>exact hb pins s1 σ H1 Q I1 q1
 |false=>exact⟨.bl false,H1,I1,rfl,q1⟩
theorem JN (ha:PE X a ta)(hb:PE X (.BoolOp .Or (b::rest) pos) tb):PE X (.BoolOp .Or (a::b::rest) pos) (Im ta tb):=by
 intro pins s σ H Q I h;refine BoolOp_or (bA (ha pins s σ H _ I h) λv s1 ⟨x,H1,I1,r1,q1⟩=>?_);obtain⟨c,rfl,q1⟩:=q1;cases r1;refine YD ?_;cases c with
 |false=>exact hb pins s1 σ H1 Q I1 q1
 |true=>exact⟨.bl true,H1,I1,rfl,q1⟩
def Lc (t:TT)(ta tb:TE):TE:=λσ H Q=>t σ H λc H1=>if c=true then ta σ H1 Q else tb σ H1 Q
theorem A4 {c:Expr}(hc:PT X c tA)(ha:PE X a ta)(hb:PE X b tb):PE X (.IfExp c a b pos) (Lc tA ta tb):=by
 intro pins s σ H Q I h;refine wpAny_IfExp (bA (hc pins s σ H _ I h) λd s1 ⟨H1,I1,q1⟩=>?_);cases d with
 |true=>exact ha pins s1 σ H1 Q I1 q1
 |false=>exact hb pins s1 σ H1 Q I1 q1
end
def aQ (K:aaa)(H:Hp)(a:Addr)(xs:List V):Prop :=
 Rd H a (.lst xs) ∨
  ∃(o:Obj) (Ly:Array Value) (n:Nat),K.lookup a=some o/\o.cls=.type "list"/\o.dict=none/\o.data=.seq Ly n/\Ly.size<=sizeLine/\Vals xs Ly.toList
def b7 (K:aaa)(H:Hp)(a:Addr)(xs:List V):Prop :=
 Rd H a (.tup xs) ∨
  ∃(o:Obj) (Ly:Array Value) (n:Nat),K.lookup a=some o/\o.cls=.type "tuple"/\o.data=.seq Ly n/\Ly.size<=sizeLine/\Vals xs Ly.toList
def BJ:Value->Option V
 |.none=>some .cf
 |.bool b=>some (.bl b)
 |.int i _=>some (.int i)
 |.str x _=>some (.str x)
 |.bytes b _=>some (.v8 b)
 |.float b _=>some (.flt b)
 |.ref a=>some (.ref a)
 |.type n=>some (.ty n)
 |_=>none
theorem RelV.abs {x:V}{u:Value}(r:RelV x u):BJ u=some x:=by
 cases x with
 |cf=>cases r;rfl
 |bl _=>cases r;rfl
 |int _=>obtain⟨t,rfl⟩:=r;rfl
 |str _=>obtain⟨t,rfl⟩:=r;rfl
 |v8 _=>obtain⟨t,rfl⟩:=r;rfl
 |flt _=>obtain⟨t,rfl⟩:=r;rfl
 |ref _=>cases r;rfl
 |ty _=>cases r;rfl
theorem RelV.inj {x y:V}{u:Value}(r:RelV x u)(q:RelV y u):x=y:=X2 (r.abs.symm.trans q.abs)
theorem Vals.inj:∀{xs ys:List V} {us:aae},Vals xs us->Vals ys us->xs=ys
 |_,_,_,.nil,.nil=>rfl
 |_,_,_,.cons r t,.cons r' t'=>by rw[r.inj r',Vals.inj t t']
section
variable {X:Cx}{pins:aad}{σ:St}{H:Hp}{s:Shared}{a:Addr}{xs ys:List V}
theorem aQ.of {K:aaa} (h:H a=some (.lst xs)):aQ K H a xs:=.inl (.inl h)
theorem b7.of {K:aaa}(h:H a=some (.tup xs)):b7 K H a xs:=.inl (.inl h)
theorem Inv.list (I:Inv X pins σ H s)(h:aQ X.K H a xs):∃Ly:aae,Vals xs Ly/\PlainL s.heap a Ly.toArray/\xs.length<=sizeLine:=by
 rcases h with h|⟨o,Ly,n,hk,hc,hd,hs,hz,r⟩
 · obtain⟨z,Ly,n,r,e⟩:=h.ok I.bu;exact⟨Ly,r,⟨_,n,e,rfl,rfl,rfl⟩,z⟩
 · refine⟨Ly.toList,r,⟨o,n,I.m7 a o hk,hc,hd,by simpa using hs⟩,?_⟩;have e:=r.length;simp only[Y_] at e;omega
theorem Inv.tuple (I:Inv X pins σ H s)(h:b7 X.K H a xs):∃Ly:aae,Vals xs Ly/\IsTup s.heap a Ly.toArray/\xs.length<=sizeLine:=by
 rcases h with h|⟨o,Ly,n,hk,hc,hs,hz,r⟩
 · obtain⟨z,Ly,r,p⟩:=h.ok I.bu;exact⟨Ly,r,p,z⟩
 · refine⟨Ly.toList,r,⟨o,I.m7 a o hk,hc,n,by simpa using hs⟩,?_⟩;have e:=r.length;simp only[Y_] at e;omega
theorem Inv.pN (I:Inv X pins σ H s)(h:aQ X.K H a xs)(h':aQ X.K H a ys):xs=ys:=by
 obtain⟨Ly,r,⟨o,n,e,_,_,d⟩,_⟩:=I.list h;obtain⟨its',r',⟨o',n',e',_,_,d'⟩,_⟩:=I.list h';rw[e] at e';cases e';rw[d] at d';injection d' with d1 _;have:Ly=its':=by simpa using Yv Array.toList d1
 subst this;exact r.inj r'
theorem Inv.sx (I:Inv X pins σ H s)(h:b7 X.K H a xs)(h':b7 X.K H a ys):xs=ys:=by
 obtain⟨Ly,r,⟨o,e,_,n,d⟩,_⟩:=I.tuple h;obtain⟨its',r',⟨o',e',_,n',d'⟩,_⟩:=I.tuple h';rw[e] at e';cases e';rw[d] at d';injection d' with d1 _;have:Ly=its':=by simpa using Yv Array.toList d1
 subst this;exact r.inj r'
end
abbrev Cx.iq (X:Cx)(E:aab):Cx:={X with xe:=E}
abbrev Cx.He (X:Cx):Cx:=X.iq λ_ _=>False
theorem Cx.Ok.iq {X:Cx}(ok:X.Ok)(E:aab):(X.iq E).Ok :=
 ⟨ok.mod,ok.kind,ok.glob,ok.blt,ok.above,ok.inj,ok.has,ok.H_,ok.hd,ok.frames,ok.Fz,ok.Jq,ok.bs,ok.CZ,ok.Af,ok.zA,ok.mI,ok.Fd⟩
theorem Cx.Ok.dk {X:Cx}{E:aab}(ok:(X.iq E).Ok):X.Ok :=
 ⟨ok.mod,ok.kind,ok.glob,ok.blt,ok.above,ok.inj,ok.has,ok.H_,ok.hd,ok.frames,ok.Fz,ok.Jq,ok.bs,ok.CZ,ok.Af,ok.zA,ok.mI,ok.Fd⟩
section
variable {X:Cx}{pins:aad}{σ:St}{H:Hp}{s:Shared}{E:aab}
theorem Inv.iq (I:Inv X pins σ H s) (E:aab):Inv (X.iq E) pins σ H s:=⟨I.ok.iq E,I.os,I.bare,I.base,I.loc,I.cell,I.free,I.gj,I.pin,I.bu,I.len⟩
theorem Inv.dk (I:Inv (X.iq E) pins σ H s):Inv X pins σ H s:=⟨I.ok.dk,I.os,I.bare,I.base,I.loc,I.cell,I.free,I.gj,I.pin,I.bu,I.len⟩
theorem SP.dk {D:Ends}{f:Flow}{s':Shared}(h:SP (X.iq E) pins D f s'):SP X pins D f s':=by
 cases f with
 |next=>obtain⟨σ',H',I,q⟩:=h;exact⟨σ',H',I.dk,q⟩
 |brk=>obtain⟨σ',H',I,q⟩:=h;exact⟨σ',H',I.dk,q⟩
 |cont=>obtain⟨σ',H',I,q⟩:=h;exact⟨σ',H',I.dk,q⟩
 |ret u=>obtain⟨v,σ',H',I,r,q⟩:=h;exact⟨v,σ',H',I.dk,r,q⟩
theorem qT.He {st:List Stmt}{t:TS}(h:qT X.He st t):qT X st t:=λpins s σ H D I hw =>
 YG (h pins s σ H D (I.iq _) hw) (λ_ _ q=>q.dk) λ_ _ z=>False.elim z
end
section
variable {X:Cx}{st:Stmt}{rest:List Stmt}{t u:TS}{e:Expr}{te:TE}{pos:Pos}
def Jn:TS:=λD σ H=>D.nx σ H
def G_ (t u:TS):TS:=λD σ H=>t {D with nx:=u D} σ H
theorem aA:qT X [] Jn:=λ_ _ σ H _ I h=>Zl ⟨σ,H,I,h⟩
theorem af (h1:PS X st t)(h2:qT X rest u):qT X (st::rest) (G_ t u):=by
 intro pins s σ H D I h;refine wpAny_execs_cons (bA (h1 pins s σ H {D with nx:=u D} I h) λf s1 q=>?_);cases f with
 |next =>
  obtain⟨σ',H',I',q⟩:=q;exact h2 pins s1 σ' H' D I' q
 |ret v=>exact q
 |brk=>exact q
 |cont=>exact q
theorem ak (h1:PS X st t):qT X [st] t:=by
 intro pins s σ H D I h;refine wpAny_execs_cons (bA (h1 pins s σ H D I h) λf s1 q=>?_);cases f with
 |next=>exact Zl q
 |ret v=>exact q
 |brk=>exact q
 |cont=>exact q
theorem Inv.quiet {pins:aad}{σ:St}{H:Hp}{s:Shared}(I:Inv X pins σ H s):interactive X.env=false:=by simp[interactive,I.ok.kind]
def Il (te:TE):TS:=λD σ H=>te σ H λ_ H1=>D.nx σ H1
theorem dR (he:PE X e te)(hs:swapsWith e none pos.line X.env=pure false:=by rfl):PS X (.Expr e pos) (Il te):=by
 intro pins s σ H D I h;exact wpAny_Expr_any (bA (he pins s σ H _ I h) λv s1 ⟨x,H1,I1,r1,q1⟩=>⟨σ,H1,I1,q1⟩) I.quiet hs
def ET (te:TE):TS:=λD σ H=>te σ H D.rt
theorem az (he:PE X e te):PS X (.Return (some e) pos) (ET te):=by
 intro pins s σ H D I h;exact wpAny_Return_some (bA (he pins s σ H _ I h) λv s1 ⟨x,H1,I1,r1,q1⟩=>⟨x,σ,H1,I1,r1,q1⟩)
def JK (c:TT)(t u:TS):TS:=λD σ H=>c σ H λb H1=>if b=true then t D σ H1 else u D σ H1
theorem aO {c:Expr}{a b:List Stmt}{tc:TT}(hc:PT X c tc)(ha:qT X a t)(hb:qT X b u):PS X (.If c a b pos) (JK tc t u):=by
 intro pins s σ H D I h;refine wpAny_If (bA (hc pins s σ H _ I h) λd s1 ⟨H1,I1,q1⟩=>?_);cases d with
 |true=>exact ha pins s1 σ H1 D I1 q1
 |false=>exact hb pins s1 σ H1 D I1 q1
end
abbrev TG:=V->St->Hp->(St->Hp->Prop)->Prop
abbrev GR:=List V->St->Hp->(St->Hp->Prop)->Prop
def PG (X:Cx)(target:Expr)(t:TG):Prop :=
 ∀(pins:aad) (s:Shared) (σ:St) (H:Hp) (v:V) (u:Value) (Q:St->Hp->Prop),Inv X pins σ H s->RelV v u->t v σ H Q ->
  wpAny (model X.prog X.w) X.A (assign target X.env u) (λ_ s'=>∃σ' H',Inv X pins σ' H' s'/\Q σ' H') X.xe s
def JS (X:Cx)(ts:List Expr)(t:GR):Prop :=
 ∀(pins:aad) (s:Shared) (σ:St) (H:Hp) (vs:List V) (us:aae) (Q:St->Hp->Prop),Inv X pins σ H s->Vals vs us->t vs σ H Q ->
  wpAny (model X.prog X.w) X.A (assignInOrder ((assignEach ts X.env).map (·.2)) us) (λ_ s'=>∃σ' H',Inv X pins σ' H' s'/\Q σ' H') X.xe s
abbrev Gu:=V->V->V->Hp->(Hp->Prop)->Prop
def Jg (X:Cx)(t:Gu):Prop :=
 ∀(pins:aad) (s:Shared) (σ:St) (H:Hp) (o i v:V) (ov iv u:Value) (Q:Hp->Prop),Inv X pins σ H s->RelV o ov->RelV i iv->RelV v u->t o i v H Q ->
  wpAny (model X.prog X.w) X.A (setItem ov iv u) (λ_ s'=>∃H',Inv X pins σ H' s'/\Q H') X.xe s
abbrev Ia:=V->V->Hp->VK->Prop
def Kw (X:Cx)(op:Operator)(t:Ia):Prop :=
 ∀(pins:aad) (s:Shared) (σ:St) (H:Hp) (x y:V) (v u:Value) (Q:VK),Inv X pins σ H s->RelV x v->RelV y u->t x y H Q ->
  wpAny (model X.prog X.w) X.A (inplaceOp op v u) (EP X pins σ Q) X.xe s
section
variable {X:Cx}{pos:Pos}
def fH (i:Nat):TG:=λv σ H Q=>Q (σ.set i (some v)) H
theorem uj {i:Nat}{x:Str}(hN:X.N.Nodup)(hi:X.N[i]?=some x)(hx:Loc X.env.scope x)(hf:X.fn x=true∨X.env.scope.names.lookup x=some .local:=by first|exact .inl rfl|exact .inr rfl|assumption):PG X (.Name x pos) (fH i):=by
 intro pins s σ H v u Q I r h;exact wpAny_assign_Name (mx I hN hi hx r (λs' I'=>⟨_,H,I',h⟩) hf)
def DO:GR:=λvs σ H Q=>vs=[]/\Q σ H
def pb (t:TG)(u:GR):GR:=λvs σ H Q=>∃v r,vs=v::r/\t v σ H λσ' H'=>u r σ' H' Q
theorem iP:JS X [] DO:=by
 intro pins s σ H vs us Q I r h;obtain⟨e,h⟩:=h;subst e;cases r;exact assignInOrder_nil ⟨σ,H,I,h⟩
theorem cg {e:Expr}{es:List Expr}{t:TG}{u:GR}(h1:PG X e t)(h2:JS X es u)
  (hs:(assignEach (e::es) X.env).map (·.2)=assign e X.env::(assignEach es X.env).map (·.2):=by rfl):JS X (e::es) (pb t u):=by
 intro pins s σ H vs us Q I r h;obtain⟨v,vr,e1,h⟩:=h;subst e1;cases r with
 |cons r rr =>
  rw[hs];refine assignInOrder_cons (bA (h1 pins s σ H _ _ _ I r h) λ_ s1 ⟨σ1,H1,I1,q1⟩=>?_);exact h2 pins s1 σ1 H1 _ _ Q I1 rr q1
def ED (K:aaa)(n:Nat)(t:GR):TG:=λv σ H Q=>∃a xs,v=.ref a/\b7 K H a xs/\xs.length=n/\t xs σ H Q
theorem k_ {es:List Expr}{k:Nat}{t:GR}{n:Nat}(hc:X.calm=true)(h:JS X es t)
  (hn:(assignEach es X.env).length=n:=by rfl)(Md:(assignEach es X.env).findIdx? (·.1)=none:=by rfl):PG X (.Tuple es k pos) (ED X.K n t):=by
 intro pins s σ H v u Q I r hw;obtain⟨a,xs,e1,hq,hl,hw⟩:=hw;subst e1;cases r;obtain⟨Ly,rv,ht,hz⟩:=I.tuple hq;refine assign_Tuple_tuple (I.ok.hd hc) ht (by simp[hn,←hl,rv.length]) Md λh' hx=>?_;have I1:Inv X pins σ H {s with heap:=h'}:=I.kept (t':=s.toks) λb o e=>hx b o (X1 (XA e)) e;exact h pins _ σ H xs _ Q I1 (by simpa using rv) hw
def An (te:TE)(g:TG):TS:=λD σ H=>te σ H λx H1=>g x σ H1 D.nx
theorem CO {tg e:Expr}{te:TE}{g:TG}(he:PE X e te)(hg:PG X tg g)(hs:swapsWithSole [tg] e pos.line X.env=pure false:=by rfl)(hw:swappedStores [tg] e X.env=pure none:=by rfl)
  (h1:(assignEach [tg] X.env).map (·.2)=[assign tg X.env]:=by rfl):PS X (.Assign [tg] e pos) (An te g):=by
 intro pins s σ H D I h;refine wpAny_Assign_stores (bA (he pins s σ H _ I h) λv s1 ⟨x,H1,I1,r1,q1⟩=>?_) hs hw;rw[h1];exact bA (hg pins s1 σ H1 x v _ I1 r1 q1) λ_ s2 q=>q
theorem oV {i:Nat}{x:Str}{e:Expr}{te:TE}{pos':Pos}(hN:X.N.Nodup)(hi:X.N[i]?=some x)(hx:Loc X.env.scope x)(he:PE X e te)(hs:swapsWith e (some (.Name x pos')) pos.line X.env=pure false:=by rfl)(hf:X.fn x=true∨X.env.scope.names.lookup x=some .local:=by first|exact .inl rfl|exact .inr rfl|assumption) :
  PS X (.Assign [.Name x pos'] e pos) (An te (fH i)):=by
 intro pins s σ H D I h;refine wpAny_Assign_Name (bA (he pins s σ H _ I h) λv s1 ⟨y,H1,I1,r1,q1⟩=>?_) hs;exact mx I1 hN hi hx r1 (λs2 I2=>⟨_,H1,I2,q1⟩) hf
def Kh (i:Nat)(te:TE)(ti:Ia):TS:=λD σ H=>∃x,σ[i]?=some (some x)/\te σ H λy H1=>ti x y H1 λz H2=>D.nx (σ.set i (some z)) H2
theorem CY {i:Nat}{x:Str}{e:Expr}{te:TE}{op:Operator}{ti:Ia}{pos':Pos}(hN:X.N.Nodup)(hi:X.N[i]?=some x)(hx:Loc X.env.scope x)(he:PE X e te)(ho:Kw X op ti)(hf:X.fn x=true∨X.env.scope.names.lookup x=some .local:=by first|exact .inl rfl|exact .inr rfl|assumption) :
  PS X (.AugAssign (.Name x pos') op e pos) (Kh i te ti):=by
 intro pins s σ H D I h;obtain⟨v,e1,h⟩:=h;obtain⟨m,hn,hl⟩:=I.loc;have UZ:Ic X.env.scope x:=by rcases hx with k|k;exact .inl k;exact .inr (.inl k)
 obtain⟨u,r,l⟩:=hl i x v hi e1 UZ;refine wpAny_AugAssign_Name ?_;have go:wpAny (model X.prog X.w) X.A (eval e X.env) (λw s₂=>wpAny (model X.prog X.w) X.A (inplaceOp op u w) (λr s₃=>wpAny (model X.prog X.w) X.A (storeName X.env x r) (λ_=>SP X pins D .next) X.xe s₃) X.xe s₂) X.xe s:=by
  refine bA (he pins s σ H _ I h) λw s1 ⟨y,H1,I1,r1,q1⟩=>?_;refine bA (ho pins s1 σ H1 v y u w _ I1 r r1 q1) λz s2 ⟨zv,H2,I2,r2,q2⟩=>?_;exact mx I2 hN hi hx r2 (λs3 I3=>⟨_,H2,I3,q2⟩) hf
 rcases l with ⟨hk,hm⟩|⟨hk,c,hc,Mi⟩
 · exact wpAny_loadName_local I.ok.kind hk hn hm go
 · rcases hk with hk|hk
   · exact wpAny_loadName_cell I.ok.kind hk hc Mi go
   · rcases hx with k|k
     · have:X.env.scope.names.lookup x=some .free:=hk;rw[k] at this;cases this
     · have:X.env.scope.names.lookup x=some .free:=hk;rw[k] at this;cases this
def Jr (to ti te:TE)(MW:V->V->Hp->VK->Prop)(Py:Ia)(MX:Gu):TS:=λD σ H=>to σ H λo H1=>ti σ H1 λi H2=>MW o i H2 λx H3=>te σ H3 λy H4=>Py x y H4 λz H5=>MX o i z H5 λH6=>D.nx σ H6
def Jd (X:Cx)(t:V->V->Hp->VK->Prop):Prop :=
 ∀(pins:aad) (s:Shared) (σ:St) (H:Hp) (o i:V) (ov iv:Value) (Q:VK),Inv X pins σ H s->RelV o ov->RelV i iv->t o i H Q ->
  wpAny (model X.prog X.w) X.A (getItem ov iv) (EP X pins σ Q) X.xe s
theorem Dn {o i e:Expr}{to ti te:TE}{MW:V->V->Hp->VK->Prop}{Py:Ia}{MX:Gu}{op:Operator}{LO:Pos}(ho:PE X o to)(hi:PE X i ti)(hg:Jd X MW)(he:PE X e te)(hp:Kw X op Py)(hs:Jg X MX)
  (ha:∀ov iv new,augStore i ov iv new=(do holding [new,ov,iv] (setItem ov iv new);release [new,ov,iv] [];pure .next):=by intros;rfl):PS X (.AugAssign (.Subscript o i LO) op e pos) (Jr to ti te MW Py MX):=by
 intro pins s σ H D I h;refine wpAny_AugAssign_SubscriptAny (bA (ho pins s σ H _ I h) λov s1 ⟨x1,H1,I1,r1,q1⟩=>?_) ha;refine bA (hi pins s1 σ H1 _ I1 q1) λiv s2 ⟨x2,H2,I2,r2,q2⟩=>?_;refine bA (hg pins s2 σ H2 x1 x2 ov iv _ I2 r1 r2 q2) λold s3 ⟨x3,H3,I3,r3,q3⟩=>?_;refine bA (he pins s3 σ H3 _ I3 q3) λv s4 ⟨x4,H4,I4,r4,q4⟩=>?_;refine bA (hp pins s4 σ H4 x3 x4 old v _ I4 r3 r4 q4) λnew s5 ⟨x5,H5,I5,r5,q5⟩=>?_;exact bA (hs pins s5 σ H5 x1 x2 x5 ov iv new _ I5 r1 r2 r5 q5) λ_ s6 ⟨H6,I6,q6⟩=>⟨σ,H6,I6,q6⟩
def Lk (f:Int->Int->Int):Ia:=λx y H Q=>∃i j,x=.int i/\y=.int j/\Q (.int (f i j)) H
theorem Cb:Kw X .Add (Lk λi j=>i+j):=by
 intro pins s σ H x y v u Q I r1 r2 h;obtain⟨i,j,e1,e2,q⟩:=h;subst e1;subst e2;obtain⟨t,rfl⟩:=r1;obtain⟨t',rfl⟩:=r2;exact iadd_int ⟨.int _,H,I.tok _,⟨_,rfl⟩,q⟩
end
section
variable {X:Cx}{pos:Pos}
def xQ (c:TT) (tb:TS):TS:=λD σ H=>∃W:Nat->St->Hp->Prop,(∃m,W m σ H)/\∀m σ H,W m σ H ->
 c σ H λb H1=>if b=true then ∃N:St->Hp->Prop,(∀σ' H',N σ' H'->∃m',m' < m/\W m' σ' H')/\tb {D with nx:=N,ct:=N,bk:=D.nx} σ H1 else D.nx σ H1
theorem BQ {c:Expr}{body:List Stmt}{tc:TT}{tb:TS}(hp:PassesOwn (model X.prog X.w) X.A X.env X.xe)(hc:PT X c tc)(hb:qT X body tb):PS X (.While c body [] pos) (xQ tc tb):=by
 intro pins s σ H D I h;obtain⟨W,⟨m0,w0⟩,turn⟩:=h;refine wpAny_While (codeAny_whileLoop (λn s'=>∃σ' H',Inv X pins σ' H' s'/\W n σ' H') ?_ m0 ⟨σ,H,I,w0⟩);rintro n s1 ⟨σ1,H1,I1,w1⟩;refine YI hp (bA (hc pins s1 σ1 H1 _ I1 (turn n σ1 H1 w1)) λb s2 ⟨H2,I2,q2⟩=>?_);cases b with
 |true =>
  obtain⟨N,hN,q2⟩:=q2;rw[Xp rfl];refine YI hp (bA (hb pins s2 σ1 H2 _ I2 q2) λf s3 q3=>?_);cases f with
  |next =>
   obtain⟨σ3,H3,I3,n3⟩:=q3;obtain⟨m',hm,w3⟩:=hN σ3 H3 n3;exact⟨m',hm,σ3,H3,I3,w3⟩
  |cont =>
   obtain⟨σ3,H3,I3,n3⟩:=q3;obtain⟨m',hm,w3⟩:=hN σ3 H3 n3;exact⟨m',hm,σ3,H3,I3,w3⟩
  |brk=>exact q3
  |ret v=>exact q3
 |false =>
  rw[Xo XO];exact Zl ⟨σ1,H2,I2,q2⟩
end
structure It where
 go:Nat->Hp->Prop
 vZ:Nat->Hp->V->Hp->Prop
 stop:Nat->Hp->Prop
def m8 (X:Cx)(pins:aad)(H:Hp)(b:Addr):Prop :=
 H b=none/\b≠X.env.locals/\b∉X.fs/\(b∈X.ex∨X.kJ.heap.objs.size<=b)/\(∀x c,X.env.cells.lookup x=some c->c≠b)/\∀p∈X.pn++pins,p.1≠b
theorem Inv.xx {X:Cx}{pins:aad}{σ:St}{H H':Hp}{s:Shared}{b:Addr}(I:Inv X pins σ H s)(hb:s.heap.objs.size<=b)(hn:H' b=none):m8 X pins H' b:=by
 refine⟨hn,Nat.ne_of_gt (X5 I.lt hb),I.J8 hb,.inr (Yb I.sz hb),λx c e z=>?_,λp hp z=>?_⟩
 · obtain⟨v,q⟩:=I.cell x c e;exact absurd (X5 q.lt (by rw[z];exact hb)) (YJ _)
 · exact absurd (X5 (XA (I.pin p hp).1) (by rw[z];exact hb)) (YJ _)
structure Turn (P:Program)(w:World)(K:aaa)(tg:Expr)(J:It)(fp:List Addr)(it:Addr)(tn:Nat->Heap->Prop):Prop where
 mem:it∈fp
 obj:∀i h,tn i h->∀b∈fp,∃o,h.get? b=some o/\∀v,o.data≠.cell v
 keep:∀i h h',tn i h->(∀b∈fp,∀o,h.get? b=some o->h'.get? b=some o)->tn i h'
 item:∀(X:Cx),X.prog=P->X.w=w->X.K=K->X.calm=true->∀(i:Nat) (pins:aad) (s:Shared) (σ:St) (H:Hp) (E:aab),Inv X pins σ H s->(∀b∈fp,m8 X pins H b)->tn i s.heap->J.go i H ->
  wpAny (model P w) X.A (pyNext (.ref it)) (λr s1=>∃u,r=some u /\
   wpAny (model P w) X.A (letOwnedTupleGo tg (.ref it) u) (λ_ s2=>∃x H',Inv X pins σ H' s2/\RelV x u/\J.vZ i H x H'/\tn (i+1) s2.heap/\∀b∈fp,H' b=none) E s1) E s
 done:∀(X:Cx),X.prog=P->X.w=w->X.K=K->X.calm=true->∀(i:Nat) (pins:aad) (s:Shared) (σ:St) (H:Hp) (E:aab),Inv X pins σ H s->(∀b∈fp,m8 X pins H b)->tn i s.heap->J.stop i H ->
  wpAny (model P w) X.A (pyNext (.ref it)) (λr s1=>r=none/\Inv X pins σ H s1) E s
 self:∀(A:Around) (i:Nat) (s:Shared) (Q:aab) (E:aab),tn i s.heap->Q (.ref it) s->wpAny (model P w) A (pyIter (.ref it)) Q E s
abbrev TI:=St->Hp->(It->Hp->Prop)->Prop
def J4 (X:Cx)(pins:aad)(σ:St)(tg:Expr)(R:It->Hp->Prop)(Pz:Value)(s2:Shared):Prop :=
 ∃(it:Addr) (fp:List Addr) (tn:Nat->Heap->Prop) (J:It) (H':Hp),Pz=.ref it/\Inv X pins σ H' s2/\Turn X.prog X.w X.K tg J fp it tn/\tn 0 s2.heap/\(∀b∈fp,m8 X pins H' b)/\R J H'
def PI (X:Cx)(tg iter:Expr)(wi:TI):Prop :=
 ∀(pins:aad) (s:Shared) (σ:St) (H:Hp) (R:It->Hp->Prop),Inv X pins σ H s->wi σ H R ->
  wpAny (model X.prog X.w) X.A (eval iter X.env) (λv s1=>wpAny (model X.prog X.w) X.A (pyIter v) (J4 X pins σ tg R) X.xe s1) X.xe s
theorem vi {M:Model}{A:Around}{E:aab}{s:Shared}{tg:Expr}{it:Addr}{u:Value}{o:Obj}{n:String}{vs:Array Value}{Q:Unit->Shared->Prop}(ho:s.heap.get? it=some o)(hc:o.cls=.type n)(hd:o.data=.fields vs)
  (hn:["enumerate","zip","dict_itemiterator","dict_reverseitemiterator","odict_iterator","itertools.zip_longest","itertools.pairwise"].contains n=false)(hQ:Q () s):wpAny M A (letOwnedTupleGo tg (.ref it) u) Q E s:=by
 unfold letOwnedTupleGo;cases tg <;> first
  |exact Xu hQ
  |(cases u <;> first
    |exact Xu hQ
    |(refine Xm (wpAny_load ho ?_)
      rw[hc,hd];show wpAny M A (if (["enumerate","zip","dict_itemiterator","dict_reverseitemiterator","odict_iterator","itertools.zip_longest","itertools.pairwise"].contains n&&vs[0]?==some (rawInt _))=true then _ else _) Q E s;rw[Xo (by intro h;rw[hn,Bool.false_and] at h;cases h)];exact Xu hQ))
def Bn (K:aaa)(a:Addr):It :=
 ⟨λi H=>∃xs x,aQ K H a xs/\xs[i]?=some x,λi H x H'=>H'=H/\∀xs,aQ K H a xs->xs[i]?=some x,λi H=>∃xs,aQ K H a xs/\xs.length<=i⟩
def Ij (K:aaa)(a:Addr):It :=
 ⟨λi H=>∃xs x,b7 K H a xs/\xs[i]?=some x,λi H x H'=>H'=H/\∀xs,b7 K H a xs->xs[i]?=some x,λi H=>∃xs,b7 K H a xs/\xs.length<=i⟩
def Az (lo:Int)(n:Nat):It:=⟨λi _=>i < n,λi H x H'=>H'=H/\x=.int (lo+i),λi _=>n<=i⟩
theorem zQ {P:Program}{w:World}{K:aaa}{tg:Expr}(a it:Addr):Turn P w K tg (Bn K a) [it] it (λi h=>h.IsListIter it a i) where
 mem:=by simp
 obj:=λi h st b hb=>by
  have e:b=it:=by simpa using hb
  subst e;obtain⟨o,e,c,d⟩:=st;exact⟨o,e,λv z=>by rw[d] at z;cases z⟩
 keep:=λi h h' st k=>st.at λo e=>k it (by simp) o e
 item:=by
  intro X hP hw hK hc i pins s σ H E I hf st hg;subst hP hw hK;obtain⟨xs,x,hq,hx⟩:=hg;obtain⟨Ly,rv,p,hz⟩:=I.list hq;obtain⟨u,hu,ru⟩:=rv.get hx;obtain⟨f0,f1,f2,f3,f4,f5⟩:=hf it (by simp);refine wpAny_pyNext_list_item st p.isList (x:=u) (by simpa using hu) λh' Mj sb=>?_;have I1:Inv X pins σ H {s with heap:=h'}:=I.turned (t':=s.toks) (λb o hb e=>(sb.2 b hb).trans e) f0 f1 f3 f4 f5;obtain⟨o,e,c,d⟩:=id Mj;exact⟨u,rfl,vi (s:={s with heap:=h'}) e c d (by decide) ⟨x,H,I1,ru,⟨rfl,λys hy=>by rw[I.pN hy hq];exact hx⟩,Mj,λb hb=>(hf b hb).1⟩⟩
 done:=by
  intro X hP hw hK hc i pins s σ H E I hf st hg;subst hP hw hK;obtain⟨xs,hq,hx⟩:=hg;obtain⟨Ly,rv,p,hz⟩:=I.list hq;obtain⟨f0,f1,f2,f3,f4,f5⟩:=hf it (by simp);have hl:=rv.length;exact wpAny_pyNext_list_end (I.ok.hd hc) st p.isList (by simp;omega) λh' eb=>⟨rfl,I.turned (t':=s.toks) (λb o hb e=>eb b o hb e) f0 f1 f3 f4 f5⟩
 self:=λ_ _ _ _ _ st h=>wpAny_pyIter_listiter st h
theorem wK {P:Program}{w:World}{K:aaa}{tg:Expr}(a it:Addr):Turn P w K tg (Ij K a) [it] it (λi h=>h.IsTupleIter it a i) where
 mem:=by simp
 obj:=λi h st b hb=>by
  have e:b=it:=by simpa using hb
  subst e;obtain⟨o,e,c,d⟩:=st;exact⟨o,e,λv z=>by rw[d] at z;cases z⟩
 keep:=λi h h' st k=>st.at λo e=>k it (by simp) o e
 item:=by
  intro X hP hw hK hc i pins s σ H E I hf st hg;subst hP hw hK;obtain⟨xs,x,hq,hx⟩:=hg;obtain⟨Ly,rv,p,hz⟩:=I.tuple hq;obtain⟨u,hu,ru⟩:=rv.get hx;obtain⟨f0,f1,f2,f3,f4,f5⟩:=hf it (by simp);refine wpAny_pyNext_tuple_item st (show s.heap.IsTuple a Ly.toArray from p) (x:=u) (by simpa using hu) λh' Mj sb=>?_;have I1:Inv X pins σ H {s with heap:=h'}:=I.turned (t':=s.toks) (λb o hb e=>(sb.2 b hb).trans e) f0 f1 f3 f4 f5;obtain⟨o,e,c,d⟩:=id Mj;exact⟨u,rfl,vi (s:={s with heap:=h'}) e c d (by decide) ⟨x,H,I1,ru,⟨rfl,λys hy=>by rw[I.sx hy hq];exact hx⟩,Mj,λb hb=>(hf b hb).1⟩⟩
 done:=by
  intro X hP hw hK hc i pins s σ H E I hf st hg;subst hP hw hK;obtain⟨xs,hq,hx⟩:=hg;obtain⟨Ly,rv,p,hz⟩:=I.tuple hq;obtain⟨f0,f1,f2,f3,f4,f5⟩:=hf it (by simp);have hl:=rv.length;exact wpAny_pyNext_tuple_end (I.ok.hd hc) st (show s.heap.IsTuple a Ly.toArray from p) (by simp;omega) λh' eb=>⟨rfl,I.turned (t':=s.toks) (λb o hb e=>eb b o hb e) f0 f1 f3 f4 f5⟩
 self:=λ_ _ _ _ _ st h=>wpAny_pyIter_tupleiter st h
theorem wJ {P:Program}{w:World}{K:aaa}{tg:Expr}(it:Addr)(lo:Int)(n:Nat):Turn P w K tg (Az lo n) [it] it (λi h=>IsRangeIter h it (lo+(i:Nat)*1) ((n:Int) - (i:Nat)) 1) where
 mem:=by simp
 obj:=λi h st b hb=>by
  have e:b=it:=by simpa using hb
  subst e;exact⟨_,st,λv z=>by
   have z':Data.fields _=Data.cell v:=z;cases z'⟩
 keep:=λi h h' st k=>k it (by simp) _ st
 item:=by
  intro X hP hw hK hc i pins s σ H E I hf st hg;subst hP hw hK;obtain⟨f0,f1,f2,f3,f4,f5⟩:=hf it (by simp);have W:=Walks.range (prog:=X.prog) (w:=X.w) (I.ok.hd hc) it lo 1 n;refine W.item i s _ _ hg st λv h' tk hv Mj kk=>?_;obtain⟨t,rfl⟩:=hv;have I1:Inv X pins σ H {s with heap:=h',toks:=tk}:=I.turned (λb o hb e=>kk b o (by simpa using hb) e) f0 f1 f3 f4 f5;refine⟨_,rfl,vi (s:={s with heap:=h',toks:=tk}) (n:="range_iterator") Mj rfl rfl (by decide) ⟨.int (lo+i),H,I1,⟨t,?_⟩,⟨rfl,rfl⟩,Mj,λb hb=>(hf b hb).1⟩⟩;rw[Int.mul_one]
 done:=by
  intro X hP hw hK hc i pins s σ H E I hf st hg;subst hP hw hK;obtain⟨f0,f1,f2,f3,f4,f5⟩:=hf it (by simp);exact wpAny_pyNext_range_end (I.ok.hd hc) st (by have:n<=i:=hg;omega) λh' eb=>⟨rfl,I.turned (t':=s.toks) (λb o hb e=>eb b o hb e) f0 f1 f3 f4 f5⟩
 self:=λ_ _ _ _ _ st h=>wpAny_pyIter_rangeiter st h
section
variable {X:Cx}{tg:Expr}
def FU (K:aaa) (tl:TE):TI:=λσ H R=>tl σ H λx H1=>∃a,x=.ref a/\(∃xs,aQ K H1 a xs)/\R (Bn K a) H1
def KN (K:aaa)(tl:TE):TI:=λσ H R=>tl σ H λx H1=>∃a,x=.ref a/\(∃xs,b7 K H1 a xs)/\R (Ij K a) H1
theorem bH {l:Expr}{tl:TE}(hl:PE X l tl):PI X tg l (FU X.K tl):=by
 intro pins s σ H R I h;refine bA (hl pins s σ H _ I h) λv s1 ⟨x,H1,I1,r1,q1⟩=>?_;obtain⟨a,e,⟨xs,hq⟩,q⟩:=q1;subst e;cases r1;obtain⟨Ly,rv,p,hz⟩:=I1.list hq;refine wpAny_pyIter_list p.isList ?_;refine⟨s1.heap.objs.size,[s1.heap.objs.size],_,_,H1,rfl,I1.kept (t':=s1.toks) λb o e=>Xq _ e,zQ a _,⟨_,XD _ rfl,rfl,rfl⟩,λb hb=>?_,q⟩;have e:b=s1.heap.objs.size:=by simpa using hb
 subst e;exact I1.xx (Xx _) (I1.bu.fresh (Xx _))
theorem Hk {l:Expr}{tl:TE}(hl:PE X l tl):PI X tg l (KN X.K tl):=by
 intro pins s σ H R I h;refine bA (hl pins s σ H _ I h) λv s1 ⟨x,H1,I1,r1,q1⟩=>?_;obtain⟨a,e,⟨xs,hq⟩,q⟩:=q1;subst e;cases r1;obtain⟨Ly,rv,p,hz⟩:=I1.tuple hq;refine wpAny_pyIter_tuple (show s1.heap.IsTuple a Ly.toArray from p) ?_;refine⟨s1.heap.objs.size,[s1.heap.objs.size],_,_,H1,rfl,I1.kept (t':=s1.toks) λb o e=>Xq _ e,wK a _,⟨_,XD _ rfl,rfl,rfl⟩,λb hb=>?_,q⟩;have e:b=s1.heap.objs.size:=by simpa using hb
 subst e;exact I1.xx (Xx _) (I1.bu.fresh (Xx _))
theorem uP {pins:aad}{σ:St}{H:Hp}{s:Shared}{R:It->Hp->Prop}{E:aab}{lo hi:Int}{t u v:Tok}{tk:Nat}(I:Inv X pins σ H s)(h1:-(2 ^ 62)<=lo)(h2:lo < 2 ^ 62)(h3:-(2 ^ 62)<=hi)(h4:hi < 2 ^ 62)
  (q:R (Az lo (hi - lo).toNat) H):wpAny (model X.prog X.w) X.A (pyIter (.ref s.heap.objs.size)) (J4 X pins σ tg R) E {s with heap:=s.heap.push {cls:=.type "range",data:=.fields #[.int lo t,.int hi u,.int 1 v]},toks:=tk}:=by
 refine wpAny_pyIter_range (IsRange.new ..) (small_one h1 h2 h3 h4) ?_;have I1:Inv X pins σ H {s with heap:=s.heap.push {cls:=.type "range",data:=.fields #[.int lo t,.int hi u,.int 1 v]},toks:=tk}:=I.kept λb o e=>Xq _ e;refine⟨(s.heap.push {cls:=.type "range",data:=.fields #[.int lo t,.int hi u,.int 1 v]}).objs.size,[(s.heap.push {cls:=.type "range",data:=.fields #[.int lo t,.int hi u,.int 1 v]}).objs.size],_,_,H,rfl,
  I1.kept (t':=tk) λb o e=>Xq _ e,wJ _ lo (hi - lo).toNat,?_,λb hb=>?_,q⟩
 · have e1:lo+((0:Nat):Int)*1=lo:=by simp
   have e2:(((hi - lo).toNat:Nat):Int) - ((0:Nat):Int)=Builtin.Range.rangeSize lo hi 1:=by rw[rangeSize_one];split <;> omega
   show IsRangeIter _ _ (lo+((0:Nat):Int)*1) ((((hi - lo).toNat:Nat):Int) - ((0:Nat):Int)) 1;rw[e1,e2];exact XD _ rfl
 · have e:b=(s.heap.push {cls:=.type "range",data:=.fields #[.int lo t,.int hi u,.int 1 v]}).objs.size:=by simpa using hb
   subst e;exact I1.xx (Xx _) (I1.bu.fresh (Xx _))
def AO (ta:TA):TI:=λσ H R=>ta σ H λvs H1=>∃j:Int,vs=[.int j]/\-(2 ^ 62)<=j/\j < 2 ^ 62/\R (Az 0 j.toNat) H1
def Fq (ta:TA):TI:=λσ H R=>ta σ H λvs H1=>∃i j:Int,vs=[.int i,.int j]/\(-(2 ^ 62)<=i/\i < 2 ^ 62/\-(2 ^ 62)<=j/\j < 2 ^ 62)/\R (Az i (j - i).toNat) H1
theorem gf {a:Expr}{ta:TA}{p pos:Pos}(hg:Gl X "range")(hm:X.mg "range"=none)(ha:PA X [a] ta)(hs:starEach [a] X.env=[(false,eval a X.env)]:=by rfl):PI X tg (.Call (.Name "range" p) [a] [] pos) (AO ta):=by
 intro pins s σ H R I h;refine Call_ (ly I hg hm boot_range (YQ (bA (ha pos pins s σ H _ I h) λus s1 ⟨vs,H1,I1,r1,q1⟩=>?_) hs rfl));obtain⟨j,e,q1,q2,q⟩:=q1;subst e;cases r1 with
 |cons r rr =>
  cases rr;obtain⟨t,rfl⟩:=r;exact call_range_1 (uP I1 (by omega) (by omega) q1 q2 (by simpa using q))
theorem rM {a b:Expr}{ta:TA}{p pos:Pos}(hg:Gl X "range")(hm:X.mg "range"=none)(ha:PA X [a,b] ta)(hs:starEach [a,b] X.env=[(false,eval a X.env),(false,eval b X.env)]:=by rfl)(NC:starEach [b] X.env=[(false,eval b X.env)]:=by rfl) :
  PI X tg (.Call (.Name "range" p) [a,b] [] pos) (Fq ta):=by
 intro pins s σ H R I h;refine Call_ (ly I hg hm boot_range (YQ (bA (ha pos pins s σ H _ I h) λus s1 ⟨vs,H1,I1,r1,q1⟩=>?_) (by rw[hs,NC]) (by rw[NC];rfl)));obtain⟨i,j,e,⟨q1,q2,q3,q4⟩,q⟩:=q1;subst e;cases r1 with
 |cons r rr =>
  cases rr with
  |cons r' rr =>
   cases rr;obtain⟨t,rfl⟩:=r;obtain⟨t',rfl⟩:=r';exact call_range_2 (uP I1 q1 q2 q3 q4 q)
def Hh (wi:TI)(g:TG)(tb:TS):TS:=λD σ H=>wi σ H λJ H1=>∃W:Nat->Nat->St->Hp->Prop,(∃m,W 0 m σ H1)/\∀i m σ H,W i m σ H ->
 (J.stop i H/\D.nx σ H)∨(J.go i H/\∃N:St->Hp->Prop,(∀σ' H',N σ' H'->∃m',m' < m/\W (i+1) m' σ' H')/\∀x H',J.vZ i H x H'->g x σ H' λσ2 H2=>tb {D with nx:=N,ct:=N,bk:=D.nx} σ2 H2)
def mY (fp:List Addr)(h:Heap):aad:=fp.filterMap λb=>(h.get? b).map λo=>(b,o)
theorem gi {fp:List Addr}{h:Heap}{b:Addr}{o:Obj}(hb:b∈fp)(e:h.get? b=some o):(b,o)∈mY fp h:=List.mem_filterMap.mpr ⟨b,hb,by rw[e];rfl⟩
theorem zU {fp:List Addr}{h:Heap}{p:Addr×Obj}(hp:p∈mY fp h):p.1∈fp/\h.get? p.1=some p.2:=by
 obtain⟨b,hb,e⟩:=List.mem_filterMap.mp hp;cases q:h.get? b with
 |none=>rw[q] at e;cases e
 |some o =>
  rw[q] at e;have e':(b,o)=p:=X2 e;subst e';exact⟨hb,q⟩
theorem Inv.pinned {pins:aad}{σ:St}{H:Hp}{s:Shared}{fp:List Addr}(I:Inv X pins σ H s)(hf:∀b∈fp,m8 X pins H b)(ho:∀b∈fp,∃o,s.heap.get? b=some o/\∀v,o.data≠.cell v):Inv X (pins++mY fp s.heap) σ H s :=
 I.lY λp hp=>(Yd.mp hp).elim (λz=>I.pin p (Yn _ z)) λz=>by
  obtain⟨hb,e⟩:=zU z;obtain⟨f0,f1,f2,_⟩:=hf p.1 hb;obtain⟨o,e',d⟩:=ho p.1 hb;rw[e] at e';cases e';exact⟨e,f0,f1,f2,d⟩
theorem Inv.iu {pins pl:aad}{σ:St}{H:Hp}{s:Shared}(I:Inv X (pins++pl) σ H s):Inv X pins σ H s:=I.lY λp hp=>I.pin p (Yn _ (List.mem_append_left _ hp))
theorem dm {iter:Expr}{body:List Stmt}{wi:TI}{g:TG}{tb:TS}{pos:Pos}(hp:PassesOwn (model X.prog X.w) X.A X.env X.xe)(hc:X.calm=true)(hi:PI X tg iter wi)(hg:PG X tg g)(hb:qT X body tb)
  (hs:∀x,foldedSetIterable iter X.env x=pure x:=by intro _;rfl):PS X (.For tg iter body [] pos) (Hh wi g tb):=by
 intro pins s σ H D I h;refine wpAny_For (bA (hi pins s σ H _ I h) λv s1 h1=>bA h1 λPz s2 h2=>?_) hs;obtain⟨it,fp,tn,J,H2,e,I2,T,N3,f2,W,⟨m0,w0⟩,turn⟩:=h2;subst e;have LR:∀{H':Hp},(∀b∈fp,H' b=none)->∀b∈fp,m8 X pins H' b:=λhn b hb=>⟨hn b hb,(f2 b hb).2⟩;refine codeAny_forLoop_any (λn s'=>∃i σ' H',Inv X pins σ' H' s'/\tn i s'.heap/\(∀b∈fp,H' b=none)/\W i n σ' H') ?_ m0 ⟨0,σ,H2,I2,N3,λb hb=>(f2 b hb).1,w0⟩;rintro n s3 ⟨i,σ3,H3,I3,ND,OD,w3⟩;rcases turn i n σ3 H3 w3 with ⟨stop,qn⟩|⟨go,N,hN,step⟩
 · refine YI hp (bA (T.done X rfl rfl rfl hc i pins s3 σ3 H3 X.xe I3 (LR OD) ND stop) λr s4 ⟨hr,I4⟩=>?_);subst hr;exact Zl ⟨σ3,H3,I4,qn⟩
 · refine YI hp (bA (T.item X rfl rfl rfl hc i pins s3 σ3 H3 X.xe I3 (LR OD) ND go) λr s4 ⟨u,hr,h4⟩=>?_);subst hr;refine YI hp (bA h4 λ_ s5 ⟨x,H5,I5,r5,y5,MN,QI⟩=>?_);have QJ:=I5.pinned (LR QI) (T.obj _ _ MN);refine YI hp (bA (hg _ s5 σ3 H5 x u _ QJ r5 (step x H5 y5)) λ_ s6 ⟨σ6,H6,I6,q6⟩=>?_);refine YI hp (bA (hb _ s6 σ6 H6 _ I6 q6) λf s7 q7=>?_);have again:∀{σ7:St} {H7:Hp},Inv X (pins++mY fp s5.heap) σ7 H7 s7->N σ7 H7->∃m,m < n/\∃i σ' H',Inv X pins σ' H' s7/\tn i s7.heap/\(∀b∈fp,H' b=none)/\W i m σ' H':=λ{σ7 H7} I7 n7=>by
    obtain⟨m',hm,w7⟩:=hN σ7 H7 n7;refine⟨m',hm,i+1,σ7,H7,I7.iu,T.keep _ _ _ MN λb hb o e=>(I7.pin (b,o) (Yn _ (Yn _ (gi hb e)))).1,λb hb=>?_,w7⟩;obtain⟨o,e,d⟩:=T.obj _ _ MN b hb;exact (I7.pin (b,o) (Yn _ (Yn _ (gi hb e)))).2.1
   cases f with
   |next=>obtain⟨σ7,H7,I7,n7⟩:=q7;exact again I7 n7
   |cont=>obtain⟨σ7,H7,I7,n7⟩:=q7;exact again I7 n7
   |brk=>obtain⟨σ7,H7,I7,q7⟩:=q7;exact⟨σ7,H7,I7.iu,q7⟩
   |ret v=>obtain⟨x7,σ7,H7,I7,r7,q7⟩:=q7;exact⟨x7,σ7,H7,I7.iu,r7,q7⟩
end
theorem cZ {K:aaa}{a:Addr}{xs:List V}{g:TG}{tb:TS}{D:Ends}{σ:St}{H:Hp}(Pv:Nat->St->Hp->Prop)(h0:Pv 0 σ H)(hl:∀i σ H,i<=xs.length->Pv i σ H->aQ K H a xs)
  (hs:∀i x σ H,xs[i]?=some x->Pv i σ H->g x σ H λσ2 H2=>tb {D with nx:=Pv (i+1),ct:=Pv (i+1),bk:=D.nx} σ2 H2)(hd:∀σ H,Pv xs.length σ H->D.nx σ H) :
  ∃W:Nat->Nat->St->Hp->Prop,(∃m,W 0 m σ H)/\∀i m σ H,W i m σ H ->
   ((Bn K a).stop i H/\D.nx σ H)∨((Bn K a).go i H/\∃N:St->Hp->Prop,(∀σ' H',N σ' H'->∃m',m' < m/\W (i+1) m' σ' H')/\∀x H',(Bn K a).vZ i H x H'->g x σ H' λσ2 H2=>tb {D with nx:=N,ct:=N,bk:=D.nx} σ2 H2):=by
 refine⟨λi m σ H=>m=xs.length - i/\i<=xs.length/\Pv i σ H,⟨xs.length,by simp,XW _,h0⟩,?_⟩;rintro i m σ H ⟨rfl,hi,p⟩;have q:=hl i σ H hi p;by_cases LC:i < xs.length
 · refine .inr ⟨⟨xs,xs[i],q,by simp[LC]⟩,Pv (i+1),λσ' H' p'=>⟨xs.length - (i+1),by omega,rfl,LC,p'⟩,λx H' y=>?_⟩;obtain⟨e,y⟩:=y;subst e;exact hs i x σ _ (y xs q) p
 · have e:i=xs.length:=by omega
   subst e;exact .inl ⟨⟨xs,q,Xx _⟩,hd σ H p⟩
theorem ng {lo:Int}{n:Nat}{g:TG}{tb:TS}{D:Ends}{σ:St}{H:Hp}(Pv:Nat->St->Hp->Prop)(h0:Pv 0 σ H)
  (hs:∀i σ H,i < n->Pv i σ H->g (.int (lo+i)) σ H λσ2 H2=>tb {D with nx:=Pv (i+1),ct:=Pv (i+1),bk:=D.nx} σ2 H2)(hd:∀σ H,Pv n σ H->D.nx σ H) :
  ∃W:Nat->Nat->St->Hp->Prop,(∃m,W 0 m σ H)/\∀i m σ H,W i m σ H ->
   ((Az lo n).stop i H/\D.nx σ H)∨((Az lo n).go i H/\∃N:St->Hp->Prop,(∀σ' H',N σ' H'->∃m',m' < m/\W (i+1) m' σ' H')/\∀x H',(Az lo n).vZ i H x H'->g x σ H' λσ2 H2=>tb {D with nx:=N,ct:=N,bk:=D.nx} σ2 H2):=by
 refine⟨λi m σ H=>m=n - i/\i<=n/\Pv i σ H,⟨n,by simp,XW _,h0⟩,?_⟩;rintro i m σ H ⟨rfl,hi,p⟩;by_cases LC:i < n
 · refine .inr ⟨LC,Pv (i+1),λσ' H' p'=>⟨n - (i+1),by omega,rfl,LC,p'⟩,λx H' y=>?_⟩;obtain⟨e,y⟩:=y;subst e y;exact hs i σ _ LC p
 · have e:i=n:=by omega
   subst e;exact .inl ⟨Xx _,hd σ H p⟩
abbrev R2:=V->V->Hp->VK->Prop
def jo (X:Cx)(f:Value->Value->Sem Value)(r:R2):Prop :=
 ∀(pins:aad) (s:Shared) (σ:St) (H:Hp) (x y:V) (v u:Value) (Q:VK),Inv X pins σ H s->RelV x v->RelV y u->r x y H Q ->
  wpAny (model X.prog X.w) X.A (f v u) (EP X pins σ Q) X.xe s
def Ke (X:Cx)(f:Value->Sem Value)(r:V->Hp->VK->Prop):Prop :=
 ∀(pins:aad) (s:Shared) (σ:St) (H:Hp) (x:V) (v:Value) (Q:VK),Inv X pins σ H s->RelV x v->r x H Q ->
  wpAny (model X.prog X.w) X.A (f v) (EP X pins σ Q) X.xe s
def iz (X:Cx)(f:Value)(r:List V->Hp->VK->Prop):Prop :=
 ∀(pins:aad) (s:Shared) (σ:St) (H:Hp) (xs:List V) (us:aae) (Q:VK),Inv X pins σ H s->Vals xs us->r xs H Q ->
  wpAny (model X.prog X.w) X.A (call f us) (EP X pins σ Q) X.xe s
def kI (r:R2)(ta tb:TE):TE:=λσ H Q=>ta σ H λx H1=>tb σ H1 λy H2=>r x y H2 Q
def K0 (r:V->Hp->VK->Prop)(ta:TE):TE:=λσ H Q=>ta σ H λx H1=>r x H1 Q
def rI (C:Int->Int->Prop)(g:Int->Int->V):R2:=λx y H Q=>∃i j,x=.int i/\y=.int j/\C i j/\Q (g i j) H
def qI (g:Int->Int->V):R2:=λx y H Q=>∃i j,x=.int i/\y=.int j/\Q (g i j) H
def rU (g:Int->V):V->Hp->VK->Prop:=λx H Q=>∃i,x=.int i/\Q (g i) H
section
variable {X:Cx}{a b c:Expr}{ta tb tc:TE}{pos:Pos}
theorem Gg (ha:PE X a ta) (hb:PE X b tb) {pins:aad} {s:Shared} {σ:St} {H:Hp} {R:V->V->Hp->Prop} (I:Inv X pins σ H s)
  (h:ta σ H λx H1=>tb σ H1 λy H2=>R x y H2) {Q:aab} {f:Value->Value->Sem Value}
  (hf:∀v u s2 x y H2,Inv X pins σ H2 s2->RelV x v->RelV y u->R x y H2->wpAny (model X.prog X.w) X.A (f v u) Q X.xe s2) :
  wpAny (model X.prog X.w) X.A (eval a X.env) (λv s₁=>wpAny (model X.prog X.w) X.A (eval b X.env) (λu s₂=>wpAny (model X.prog X.w) X.A (f v u) Q X.xe s₂) X.xe s₁) X.xe s:=by
 refine bA (ha pins s σ H _ I h) λv s1 ⟨x,H1,I1,r1,q1⟩=>?_;refine bA (hb pins s1 σ H1 _ I1 q1) λu s2 ⟨y,H2,I2,r2,q2⟩=>?_;exact hf v u s2 x y H2 I2 r1 r2 q2
theorem bG {op:Operator}{r:R2}(ho:jo X (binaryOp op) r)(ha:PE X a ta)(hb:PE X b tb):PE X (.BinOp a op b pos) (kI r ta tb):=by
 intro pins s σ H Q I h;exact wpAny_BinOp (Gg ha hb I h λv u s2 x y H2 I2 rx ry q=>ho pins s2 σ H2 x y v u Q I2 rx ry q)
theorem vn {op:UnaryOp}{r:V->Hp->VK->Prop}(ho:Ke X (unaryOp op) r)(ha:PE X a ta):PE X (.UnaryOp op a pos) (K0 r ta):=by
 intro pins s σ H Q I h;exact UnaryOp_ (bA (ha pins s σ H _ I h) λv s1 ⟨x,H1,I1,r1,q1⟩=>ho pins s1 σ H1 x v Q I1 r1 q1)
theorem Jk {f:Value->Value->Sem Value}{C:Int->Int->Prop}{g:Int->Int->Int}
  (rule:∀(i j:Int) (t u:Tok) (s:Shared) (Q:aab) (E:aab),C i j->Q (.int (g i j) s.toks) {s with toks:=s.toks+1}->wpAny (model X.prog X.w) X.A (f (.int i t) (.int j u)) Q E s) :
  jo X f (rI C λi j=>.int (g i j)):=by
 intro pins s σ H x y v u Q I rx ry h;obtain⟨i,j,rfl,rfl,hc,q⟩:=h;obtain⟨t,rfl⟩:=rx;obtain⟨t',rfl⟩:=ry;exact rule i j t t' s _ _ hc ⟨.int (g i j),H,I.tok _,⟨_,rfl⟩,q⟩
theorem GP {f:Value->Value->Sem Value}{g:Int->Int->Int}
  (rule:∀(i j:Int) (t u:Tok) (s:Shared) (Q:aab) (E:aab),Q (.int (g i j) s.toks) {s with toks:=s.toks+1}->wpAny (model X.prog X.w) X.A (f (.int i t) (.int j u)) Q E s) :
  jo X f (qI λi j=>.int (g i j)):=by
 intro pins s σ H x y v u Q I rx ry h;obtain⟨i,j,rfl,rfl,q⟩:=h;obtain⟨t,rfl⟩:=rx;obtain⟨t',rfl⟩:=ry;exact rule i j t t' s _ _ ⟨.int (g i j),H,I.tok _,⟨_,rfl⟩,q⟩
theorem Hn {f:Value->Value->Sem Value}{g:Int->Int->Bool}
  (rule:∀(i j:Int) (t u:Tok) (s:Shared) (Q:aab) (E:aab),Q (.bool (g i j)) s->wpAny (model X.prog X.w) X.A (f (.int i t) (.int j u)) Q E s) :
  jo X f (qI λi j=>.bl (g i j)):=by
 intro pins s σ H x y v u Q I rx ry h;obtain⟨i,j,rfl,rfl,q⟩:=h;obtain⟨t,rfl⟩:=rx;obtain⟨t',rfl⟩:=ry;exact rule i j t t' s _ _ ⟨.bl (g i j),H,I,rfl,q⟩
def Ky (i j:Int):Prop:=0 < j/\j < 1073741824
def Dh (i j:Int):Prop:=0<=j/\j<=1000000/\i.natAbs < 2 ^ 64
def Ab (i j:Int):Prop:=(-(2 ^ 64) < i/\i < 2 ^ 64)∨(-(2 ^ 64) < j/\j < 2 ^ 64)
theorem Ab.ok {i j:Int}(h:Ab i j):IntMulOk i j:=by
 rcases h with ⟨h1,h2⟩|⟨h1,h2⟩
 · exact .of_left (intBits_le_64 h1 h2)
 · exact .of_right (intBits_le_64 h1 h2)
theorem ej:jo X (binaryOp .Add) (qI λi j=>.int (i+j)):=GP λ_ _ _ _ _ _ _ q=>add_int q
theorem fE:jo X (binaryOp .Sub) (qI λi j=>.int (i - j)):=GP λ_ _ _ _ _ _ _ q=>sub_int q
theorem wY:jo X (binaryOp .Mult) (rI Ab λi j=>.int (i*j)):=Jk λ_ _ _ _ _ _ _ hc q=>mul_int q hc.ok
theorem EA:jo X (binaryOp .FloorDiv) (rI Ky λi j=>.int (i / j)):=Jk λi j _ _ _ _ _ hc q=>by
 have h1:(0:Int) < j:=hc.1;have h2:j < 1073741824:=hc.2;exact floordiv_int (by omega) (by rw[Int.fdiv_eq_ediv_of_nonneg i (by omega)];exact q) (.inl (PyProof.noPylong_small (by omega)))
theorem G6:jo X (binaryOp .Mod) (rI (λ_ j=>0 < j) λi j=>.int (i % j)):=Jk λi j _ _ _ _ _ hc q=>by
 have h1:(0:Int) < j:=hc;exact mod_int' (by omega) (by rw[Int.fmod_eq_emod_of_nonneg i (by omega)];exact q)
theorem Bt:jo X (binaryOp .LShift) (rI Dh λi j=>.int (i*2 ^ j.toNat)):=Jk λ_ _ _ _ _ _ _ hc q=>lshift_int_small hc.1 hc.2.1 hc.2.2 q
theorem Gy:jo X (binaryOp .BitAnd) (qI λi j=>.int (Builtin.bitAnd i j)):=GP λ_ _ _ _ _ _ _ q=>and_int q
theorem E7:jo X (inplaceOp .Mult) (rI Ab λi j=>.int (i*j)):=Jk λ_ _ _ _ _ _ _ hc q=>imul_int q hc.ok
theorem Ln {f:Value->Sem Value}{g:Int->Int}
  (rule:∀(i:Int) (t:Tok) (s:Shared) (Q:aab) (E:aab),Q (.int (g i) s.toks) {s with toks:=s.toks+1}->wpAny (model X.prog X.w) X.A (f (.int i t)) Q E s) :
  Ke X f (rU λi=>.int (g i)):=by
 intro pins s σ H x v Q I rx h;obtain⟨i,rfl,q⟩:=h;obtain⟨t,rfl⟩:=rx;exact rule i t s _ _ ⟨.int (g i),H,I.tok _,⟨_,rfl⟩,q⟩
theorem qz:Ke X (unaryOp .USub) (rU λi=>.int (-i)):=Ln λ_ _ _ _ _ q=>neg_int q
end
def EU:V->V->Bool
 |.cf,.cf=>true|.cf,.int _=>true|.int _,.cf=>true|.cf,.bl _=>true|.bl _,.cf=>true|.cf,.str _=>true|.str _,.cf=>true
 |.int _,.int _=>true|.bl _,.bl _=>true|.str _,.str _=>true|.v8 _,.v8 _=>true
 |.int _,.str _=>true|.str _,.int _=>true|.bl _,.str _=>true|.str _,.bl _=>true
 |_,_=>false
def JZ:R2:=λx y H Q=>EU x y=true/\Q (.bl (decide (x=y))) H
def K8:R2:=λx y H Q=>EU x y=true/\Q (.bl (!decide (x=y))) H
theorem aX {i j:Int}:decide (V.int i=V.int j)=(i==j):=by
 rw[X3];simp
theorem AR {i j:Bool}:decide (V.bl i=V.bl j)=(i==j):=by
 rw[X3];simp
theorem yo {i j:Str}:decide (V.str i=V.str j)=(i==j):=by
 rw[X3];simp
theorem yx {i j:Array UInt8}:decide (V.v8 i=V.v8 j)=(i.toList==j.toList):=by
 rw[X3];cases i;cases j;simp
section
variable {X:Cx}{a b c:Expr}{ta tb tc:TE}{pos:Pos}
theorem bq {pins:aad} {σ:St} {H:Hp} {s:Shared} {Q:VK} {k k':Bool} (I:Inv X pins σ H s) (q:Q (.bl k) H) (e:k=k'):EP X pins σ Q (.bool k') s:=by
 subst e;exact⟨.bl k,H,I,rfl,q⟩
theorem ck:jo X (compareOp .Eq) JZ:=by
 intro pins s σ H x y v u Q I rx ry h;obtain⟨hs,q⟩:=h;cases x with
 |cf =>
  cases rx;cases y with
  |cf=>cases ry;exact PySem.EqNone.eq_none_none (bq I q (by simp))
  |bl j=>cases ry;exact PySem.EqNone.eq_none_bool (bq I q (by simp))
  |int j=>obtain⟨t',rfl⟩:=ry;exact PySem.EqNone.eq_none_int (bq I q (by simp))
  |str j=>obtain⟨t',rfl⟩:=ry;exact PySem.EqNone.eq_none_str (bq I q (by simp))
  |_=>exact absurd (show false=true from hs) XO
 |bl i =>
  cases rx;cases y with
  |cf=>cases ry;exact PySem.EqNone.eq_bool_none (bq I q (by simp))
  |bl j=>cases ry;exact eq_bool (bq I q AR)
  |str j=>obtain⟨t',rfl⟩:=ry;exact PySem.EqMixed.eq_bool_str (bq I q (by simp))
  |_=>exact absurd (show false=true from hs) XO
 |int i =>
  obtain⟨t,rfl⟩:=rx;cases y with
  |cf=>cases ry;exact PySem.EqNone.eq_int_none (bq I q (by simp))
  |int j=>obtain⟨t',rfl⟩:=ry;exact eq_int (bq I q aX)
  |str j=>obtain⟨t',rfl⟩:=ry;exact PySem.EqMixed.eq_int_str (bq I q (by simp))
  |_=>exact absurd (show false=true from hs) XO
 |str i =>
  obtain⟨t,rfl⟩:=rx;cases y with
  |cf=>cases ry;exact PySem.EqNone.eq_str_none (bq I q (by simp))
  |bl j=>cases ry;exact PySem.EqMixed.eq_str_bool (bq I q (by simp))
  |int j=>obtain⟨t',rfl⟩:=ry;exact PySem.EqMixed.eq_str_int (bq I q (by simp))
  |str j=>obtain⟨t',rfl⟩:=ry;exact eq_str (bq I q yo)
  |_=>exact absurd (show false=true from hs) XO
 |v8 i =>
  obtain⟨t,rfl⟩:=rx;cases y with
  |v8 j=>obtain⟨t',rfl⟩:=ry;exact PySem.W.eq_bytes (bq I q yx)
  |_=>exact absurd (show false=true from hs) XO
 |_=>cases y <;> exact absurd (show false=true from hs) XO
theorem pE:jo X (compareOp .NotEq) K8:=by
 intro pins s σ H x y v u Q I rx ry h;obtain⟨hs,q⟩:=h;cases x with
 |cf =>
  cases rx;cases y with
  |cf=>cases ry;exact PySem.EqNone.ne_none_none (bq I q (by simp))
  |bl j=>cases ry;exact PySem.EqNone.ne_none_bool (bq I q (by simp))
  |int j=>obtain⟨t',rfl⟩:=ry;exact PySem.EqNone.ne_none_int (bq I q (by simp))
  |str j=>obtain⟨t',rfl⟩:=ry;exact PySem.EqNone.ne_none_str (bq I q (by simp))
  |_=>exact absurd (show false=true from hs) XO
 |bl i =>
  cases rx;cases y with
  |cf=>cases ry;exact PySem.EqNone.ne_bool_none (bq I q (by simp))
  |bl j=>cases ry;exact ne_bool (bq I q (Yv not AR))
  |str j=>obtain⟨t',rfl⟩:=ry;exact PySem.EqMixed.ne_bool_str (bq I q (by simp))
  |_=>exact absurd (show false=true from hs) XO
 |int i =>
  obtain⟨t,rfl⟩:=rx;cases y with
  |cf=>cases ry;exact PySem.EqNone.ne_int_none (bq I q (by simp))
  |int j=>obtain⟨t',rfl⟩:=ry;exact ne_int (bq I q (Yv not aX))
  |str j=>obtain⟨t',rfl⟩:=ry;exact PySem.EqMixed.ne_int_str (bq I q (by simp))
  |_=>exact absurd (show false=true from hs) XO
 |str i =>
  obtain⟨t,rfl⟩:=rx;cases y with
  |cf=>cases ry;exact PySem.EqNone.ne_str_none (bq I q (by simp))
  |bl j=>cases ry;exact PySem.EqMixed.ne_str_bool (bq I q (by simp))
  |int j=>obtain⟨t',rfl⟩:=ry;exact PySem.EqMixed.ne_str_int (bq I q (by simp))
  |str j=>obtain⟨t',rfl⟩:=ry;exact ne_str (bq I q (Yv not yo))
  |_=>exact absurd (show false=true from hs) XO
 |v8 i =>
  obtain⟨t,rfl⟩:=rx;cases y with
  |v8 j=>obtain⟨t',rfl⟩:=ry;exact PySem.W.ne_bytes (bq I q (Yv not yx))
  |_=>exact absurd (show false=true from hs) XO
 |_=>cases y <;> exact absurd (show false=true from hs) XO
theorem nS:jo X (compareOp .Lt) (qI λi j=>.bl (decide (i < j))):=Hn λ_ _ _ _ _ _ _ q=>lt_int q
theorem cb:jo X (compareOp .LtE) (qI λi j=>.bl (decide (i<=j))):=Hn λ_ _ _ _ _ _ _ q=>le_int q
theorem kQ:jo X (compareOp .Gt) (qI λi j=>.bl (decide (j < i))):=Hn λ_ _ _ _ _ _ _ q=>gt_int q
theorem ua:jo X (compareOp .Is) (λx y H Q=>y=.cf/\Q (.bl (decide (x=.cf))) H):=by
 intro pins s σ H x y v u Q I rx ry h;obtain⟨rfl,q⟩:=h;cases ry;refine is_none_gen (bq I q ?_);cases x <;> first
  |(cases rx;rfl)
  |(obtain⟨t,rfl⟩:=rx;rfl)
theorem aJ (b:Expr){op:CmpOp}(h:op≠.In:=by decide)(h2:op≠.NotIn:=by decide):behindInMarks op b=false:=by
 have e1:(op==CmpOp.In)=false:=by cases op <;> first|rfl|exact absurd rfl h
 have e2:(op==CmpOp.NotIn)=false:=by cases op <;> first|rfl|exact absurd rfl h2
 cases b <;> simp[behindInMarks,e1,e2]
theorem ft {op:CmpOp}{r:R2}(ho:jo X (compareOp op) r)(ha:PE X a ta)(hb:PE X b tb)(hm:behindInMarks op b=false):PE X (.Compare a [op] [b] pos) (kI r ta tb):=by
 intro pins s σ H Q I h;exact wpAny_Compare1 (Gg ha hb I h λv u s2 x y H2 I2 rx ry q=>ho pins s2 σ H2 x y v u Q I2 rx ry q) hm
def oO (t:TE):TT:=λσ H Q=>t σ H λx H'=>∃k,x=.bl k/\Q k H'
theorem aB {op:CmpOp}{r:R2}(ho:jo X (compareOp op) r)(ha:PE X a ta)(hb:PE X b tb)(hm:behindInMarks op b=false):PT X (.Compare a [op] [b] pos) (oO (kI r ta tb)):=by
 intro pins s σ H Q I h;refine wpAny_isTrue_Compare1 (bA (ha pins s σ H _ I h) λv s1 ⟨x,H1,I1,r1,q1⟩=>bA (hb pins s1 σ H1 _ I1 q1) λu s2 ⟨y,H2,I2,r2,q2⟩ =>
  bA (ho pins s2 σ H2 x y v u _ I2 r1 r2 q2) λc s3 ⟨z,H3,I3,r3,k,e,q3⟩=>?_) hm
 subst e;cases r3;exact YD ⟨H3,I3,q3⟩
def wD (r r':R2)(ta tb tc:TE):TE:=λσ H Q=>ta σ H λx H1=>tb σ H1 λy H2=>r x y H2 λz H3=>∃k,z=.bl k /\
 (if k=true then tc σ H3 λw' H4=>r' y w' H4 Q else Q (.bl false) H3)
theorem cA {op QK:CmpOp}{r r':R2}(ho:jo X (compareOp op) r)(LV:jo X (compareOp QK) r')(ha:PE X a ta)(hb:PE X b tb)(hc:PE X c tc)
  (hm:lastMarks [op,QK] [b,c]=false:=by with_unfolding_all rfl):PT X (.Compare a [op,QK] [b,c] pos) (oO (wD r r' ta tb tc)):=by
 intro pins s σ H Q I h;refine isTrue_chain (bA (ha pins s σ H _ I h) λv s1 ⟨x,H1,I1,r1,q1⟩=>test_link (bA (hb pins s1 σ H1 _ I1 q1) λu s2 ⟨y,H2,I2,r2,q2⟩ =>
  bA (ho pins s2 σ H2 x y v u _ I2 r1 r2 q2) λd s3 ⟨z,H3,I3,r3,k,e,q3⟩=>?_)) hm
 subst e;cases r3;refine YD ?_;cases k with
 |false =>
  obtain⟨k',e',q'⟩:=q3;cases e';exact ite_ff ⟨H3,I3,q'⟩
 |true =>
  refine ite_tt (test_last (bA (hc pins s3 σ H3 _ I3 q3) λw' s4 ⟨z',H4,I4,r4,q4⟩=>bA (LV pins s4 σ H4 y z' u w' _ I4 r2 r4 q4) λd' s5 ⟨z2,H5,I5,r5,k2,e2,q5⟩=>?_));subst e2;cases r5;exact YD ⟨H5,I5,q5⟩
theorem k8:(sizeLine:Nat) < 2 ^ 63:=by rw[XS];decide
theorem vals1 {x:V}{us:aae}(r:Vals [x] us):∃u,us=[u]/\RelV x u:=by
 cases r with
 |cons r1 r2=>cases r2;exact⟨_,rfl,r1⟩
theorem vals2 {x y:V}{us:aae}(r:Vals [x,y] us):∃u w',us=[u,w']/\RelV x u/\RelV y w':=by
 cases r with
 |cons r1 r2 =>
  cases r2 with
  |cons r3 r4=>cases r4;exact⟨_,_,rfl,r1,r3⟩
end
structure wX (h:Heap)(x dx C:Addr)(mA:aac):Prop where
 obj:h.get? x=some (PySem.W.instObj C dx)
 ns:h.Ns1 dx mA
 ne:dx≠x
theorem Ah {h:Heap}{dx:Addr}{mA:aac}(n:h.Ns1 dx mA):∃od,h.get? dx=some od/\∀name,PySem.W.lookIn name od=some (mA name):=by
 obtain⟨o,es,ep,ho,hd,hk,_,hm⟩:=n;refine⟨o,ho,λname=>?_⟩;have e:=hm name;unfold nsFind findBy at e;rw[←Array.find?_toList] at e;unfold PySem.W.lookIn;rw[hd];dsimp only;split
 · rename_i y q;rw[q] at e;exact Yv some e
 · rename_i q;rw[q] at e;have a:es.toList.any (·.refKey)=false:=by
    rw[List.any_eq_false];intro y hy;obtain⟨z,t,QL⟩:=hk y (Array.mem_toList_iff.mp hy);simp[DictEntry.refKey,QL]
   have a':¬es.toList.any (·.refKey)=true:=by rw[a];exact XO
   rw[Xo a'];exact Yv some e
theorem wX.look {h:Heap}{x dx C:Addr}{mA:aac}(I:wX h x dx C mA):∃od,PySem.W.InstAt h x (PySem.W.instObj C dx) C (some od)/\∀name,PySem.W.lookIn name od=some (mA name) :=
 let ⟨od,ho,hl⟩:=Ah I.ns
 ⟨od,⟨I.obj,rfl,rfl,ho⟩,hl⟩
section
variable {prog:Program}{w:World}{A:Around}{E:aab}{s:Shared}{K:aaa}{x dx C f:Addr}{mA:aac}{name:Str}{v:Value}
theorem get_map {expr:Bool} {Q:aab} (X:K.In s.heap) (I:wX s.heap x dx C mA) (hg:PySem.W.plainGet K C name=true) (hh:PySem.W.hasDictIn K C=true)
  (ha:PySem.W.findIn K (.ref C) name=some none) (hv:mA name=some v) (PB:PySem.W.handedIn v=true) (h:Q v {s with toks:=s.toks+1}) :
  wpAny (model prog w) A (getAttr (.ref x) name expr) Q E s:=by
 obtain⟨od,J,hl⟩:=I.look;exact PySem.W.get_value X J (PySem.W.plainGet_of hg).1 (PySem.W.findObj_own hh ha rfl (by rw[hl,hv])) PB h
theorem BC {pl:Sem Bool}{Q:Value×aae->Shared->Prop}(X:K.In s.heap)(I:wX s.heap x dx C mA)(hg:PySem.W.plainGet K C name=true)
  (hf:PySem.W.findIn K (.ref C) name=some (some (.ref f)))(ht:PySem.W.isFn K (.ref f)=true)(hv:mA name=none)(h:Q (.ref f,[.ref x]) s) :
  wpAny (model prog w) A (getMethod (.ref x) name pl) Q E s:=by
 obtain⟨od,J,hl⟩:=I.look;exact PySem.W.method_fn X J (PySem.W.plainGet_of hg).1 (PySem.W.plainGet_of hg).2 hf (Ye.mp ht) (by show (PySem.W.lookIn name od).map (·.isSome)=some false;rw[hl,hv];rfl) h
theorem Ek {ns:List Str}{Q:Unit->Shared->Prop}(X:K.In s.heap)(I:wX s.heap x dx C mA)
  (hs:PySem.W.findIn K (.ref C) "__setattr__"=some (some (.builtin "object.__setattr__")))(hp:PySem.W.plainOver K C=true)(ht:PySem.W.takerIn K C name=some none)(hh:PySem.W.hasDictIn K C=true)
  (hw:PySem.Within mA ns)(hsz:ns.length<=sizeLine)
  (h:∀h',wX h' x dx C (λy=>if y=name then some v else mA y)->Heap.SameBut dx s.heap h'->Q () {s with heap:=h',toks:=s.toks+2}) :
  wpAny (model prog w) A (setAttr (.ref x) name v) Q E s:=by
 obtain⟨od,J,hl⟩:=I.look;refine PySem.W.set_plain X J hs (PySem.W.osa_open (s:={s with toks:=s.toks+1}) (r:=none) X J hp ht λb=>?_);obtain⟨cd,hc,L8⟩:=PySem.W.any_some hh;have hx:s.heap.get? x=some ⟨.ref C,some dx,.plain,#[]⟩:=I.obj;refine Xm (Xu (Xm (Xm (wpAny_loadPart hx (Xm (PySem.W.Looks.here (s:={s with toks:=s.toks+1}) (PySem.W.looks_clsIn X hc) ?_))))));rw[L8];refine Xu (a:=some dx) (Xm (Xu (Xm ?_)));refine wpAny_nsSet1 (s:={s with toks:=s.toks+1}) I.ns λh' Se NC=>?_;obtain⟨oD,U0,U1,QM,QN,U2⟩:=Se.count (PySem.Within.cons name v hw);refine Xm (wpAny_lookBehind QM (by rw[QN];exact pastItsLine_dict (Yb U2 (by rw[Xz];omega))) ?_);exact Xu (h _ ⟨(NC.2 _ (Z2 I.ne)).trans I.obj,Se,I.ne⟩ NC)
theorem AH {R:Result->Shared->Prop}{vs:aae}{kw:List (Str×Value)}(X:K.In s.heap)(hm:PySem.W.makesIn K C=true)
  (hi:PySem.W.findIn K (.ref C) "__init__"=some (some (.ref f)))(hf:PySem.W.typeIn K (.ref f)=some (.type "function"))
  (h:codeAny (model prog w) (A.under (.builtin "type.__call__" ⟨.ref C::vs,kw⟩)) (.call (.ref f) ⟨.ref (s.heap.objs.size+1)::vs,kw⟩) (PySem.W.InitBack (s.heap.objs.size+1) R)
   {s with heap:=(s.heap.push PySem.W.emptyDict).push (PySem.W.instObj C s.heap.objs.size)}) :
  codeAny (model prog w) A (.call (.ref C) ⟨vs,kw⟩) R s:=by
 obtain⟨hh,g,d,t,os⟩:=s;exact PySem.W.make_core (PySem.W.makes_of X hm) (PySem.W.looks_findIn X hi) (λself=>PySem.W.bind_fn X self hf) (.inl rfl) h
end
def eG (f:Str)(v:V):List (Str×V)->List (Str×V)
 |[]=>[(f,v)]
 |(g,x)::r=>if g=f then (g,v)::r else (g,x)::eG f v r
theorem jt (f g:Str)(v:V):∀fs:List (Str×V),(eG f v fs).lookup g=if g=f then some v else fs.lookup g
 |[]=>by
  show List.lookup g [(f,v)]=_;by_cases h:g=f
  · have hb:(g==f)=true:=Ye.mpr h;simp only[List.lookup,hb,Xp h]
  · have hb:(g==f)=false:=XX.mpr h;simp only[List.lookup,hb,Xo h]
 |(k,x)::r=>by
  have ih:=jt f g v r;rw[show eG f v ((k,x)::r)=(if k=f then (k,v)::r else (k,x)::eG f v r) from rfl];by_cases hk:k=f
  · rw[Xp hk];by_cases h:g=k
    · have hb:(g==k)=true:=Ye.mpr h;simp only[List.lookup,hb,Xp (h.trans hk)]
    · have hb:(g==k)=false:=XX.mpr h;simp only[List.lookup,hb,Xo (λe:g=f=>h (e.trans hk.symm))]
  · rw[Xo hk];by_cases h:g=k
    · have hb:(g==k)=true:=Ye.mpr h;simp only[List.lookup,hb,Xo (λe:g=f=>hk (h.symm.trans e))]
    · have hb:(g==k)=false:=XX.mpr h;simp only[List.lookup,hb];exact ih
theorem mO (f:Str)(v:V):∀fs:List (Str×V),f∈(eG f v fs).map (·.1)/\∀g,g∈fs.map (·.1)->g∈(eG f v fs).map (·.1)
 |[]=>⟨by simp[eG],λg h=>by simp at h⟩
 |(k,x)::r=>by
  obtain⟨i1,i2⟩:=mO f v r;rw[show eG f v ((k,x)::r)=(if k=f then (k,v)::r else (k,x)::eG f v r) from rfl];by_cases hk:k=f
  · rw[Xp hk];subst hk;exact⟨by simp,λg h=>by simpa using h⟩
  · rw[Xo hk];refine⟨?_,λg h=>?_⟩
    · rw[XE];exact XG _ i1
    · rw[XE] at h ⊢;rcases Xr.mp h with e|e
      · exact Xr.mpr (.inl e)
      · exact XG _ (i2 g e)
theorem nM (f:Str)(v:V):∀fs:List (Str×V),(eG f v fs).length<=fs.length+1
 |[]=>by simp[eG]
 |(k,x)::r=>by
  have ih:=nM f v r;rw[show eG f v ((k,x)::r)=(if k=f then (k,v)::r else (k,x)::eG f v r) from rfl];by_cases hk:k=f
  · rw[Xp hk,Xz,Xz];omega
  · rw[Xo hk,Xz,Xz];omega
theorem i8.some_of {v:V}{o:Option Value}(r:i8 (some v) o):∃u,o=some u/\RelV v u:=by
 cases o with
 |none=>exact (show False from r).elim
 |some u=>exact⟨u,rfl,r⟩
theorem i8.none_of {o:Option Value}(r:i8 none o):o=none:=by
 cases o with
 |none=>rfl
 |some u=>exact (show False from r).elim
theorem rB {v:V}{u:Value}(r:RelV v u):PySem.W.handedIn u=true:=by
 cases v with
 |cf=>cases (show u=Value.none from r);rfl
 |bl b=>cases (show u=Value.bool b from r);rfl
 |int i=>obtain⟨t,e⟩:=(show ∃t,u=Value.int i t from r);cases e;rfl
 |str x=>obtain⟨t,e⟩:=(show ∃t,u=Value.str x t from r);cases e;rfl
 |v8 b=>obtain⟨t,e⟩:=(show ∃t,u=Value.bytes b t from r);cases e;rfl
 |flt b=>obtain⟨t,e⟩:=(show ∃t,u=Value.float b t from r);cases e;rfl
 |ref a=>cases (show u=Value.ref a from r);rfl
 |ty n=>cases (show u=Value.type n from r);rfl
section
variable {P:Program}{w:World}{H H':Hp}{h h':Heap}{a C dx:Addr}{fs L6:List (Str×V)}
theorem uz (bu:ie P w H h) (e:H a=some (.ins C dx fs)):∃mA,wX h a dx C mA/\(∀f,i8 (fs.lookup f) (mA f))/\PySem.Within mA (fs.map (·.1))/\fs.length<=1000/\H dx=some (.own a):=by
 obtain⟨d,z,ne,ob,mA,n,r,q⟩:=(show bK P w H h a (.ins C dx fs) from bu a _ e);exact⟨mA,⟨ob,n,ne⟩,r,q,z,d⟩
end
structure yj (K:aaa)(C:Addr):Prop where
 pg:PySem.W.plainGet K C Str.empty=true
 hd:PySem.W.hasDictIn K C=true
 po:PySem.W.plainOver K C=true
 sa:PySem.W.findIn K (.ref C) "__setattr__"=some (some (.builtin "object.__setattr__"))
theorem yj.get {K:aaa}{C:Addr}(c:yj K C)(f:Str):PySem.W.plainGet K C f=true:=c.pg
def hU (K:aaa)(C:Addr)(f:Str):Prop:=PySem.W.findIn K (.ref C) f=some none
theorem hU.IL {K:aaa}{C:Addr}{f:Str}(n:hU K C f):PySem.W.takerIn K C f=some none:=by
 unfold PySem.W.takerIn;rw[show PySem.W.findIn K (.ref C) f=some none from n];rfl
structure Meth (K:aaa)(C:Addr)(m:Str)(f:Addr):Prop where
 at_:PySem.W.findIn K (.ref C) m=some (some (.ref f))
 fn:PySem.W.isFn K (.ref f)=true
 kp:PySem.W.keepIn K (.ref f)=true
section
variable {X:Cx}{pins:aad}{σ:St}{H:Hp}{s:Shared}{a C dx:Addr}{fs:List (Str×V)}{f:Str}{v:V}{A:Around}{E:aab}
theorem qo {b:Bool} {Q:aab} (I:Inv X pins σ H s) (e:H a=some (.ins C dx fs)) (c:yj X.K C) (n:hU X.K C f) (l:fs.lookup f=some v)
  (h:∀u s',Inv X pins σ H s'->RelV v u->Q u s'):wpAny (model X.prog X.w) A (getAttr (.ref a) f b) Q E s:=by
 obtain⟨mA,O,r,_,_,_⟩:=uz I.bu e;obtain⟨u,hu,ru⟩:=i8.some_of (v:=v) (o:=mA f) (by rw[←l];exact r f);exact get_map I.m7 O (c.get f) c.hd n hu (rB ru) (h u _ (I.tok _) ru)
theorem p8 {m:Str}{g:Addr}{pl:Sem Bool}{Q:Value×aae->Shared->Prop}(I:Inv X pins σ H s)(e:H a=some (.ins C dx fs))(c:yj X.K C)(k:Meth X.K C m g)(l:fs.lookup m=none)
  (h:Q (.ref g,[.ref a]) s):wpAny (model X.prog X.w) A (getMethod (.ref a) m pl) Q E s:=by
 obtain⟨mA,O,r,_,_,_⟩:=uz I.bu e;have hn:mA m=none:=i8.none_of (by rw[←l];exact r m);exact BC I.m7 O (c.get m) k.at_ k.fn hn h
theorem pf {y:V}{u:Value}{Q:Unit->Shared->Prop}(I:Inv X pins σ H s)(e:H a=some (.ins C dx fs))(c:yj X.K C)(n:hU X.K C f)(hl:fs.length < 1000)(ry:RelV y u)
  (h:∀s',Inv X pins σ (upd H a (.ins C dx (eG f y fs))) s'->Q () s'):wpAny (model X.prog X.w) A (setAttr (.ref a) f u) Q E s:=by
 obtain⟨mA,O,r,wi,_,ho⟩:=uz I.bu e;have hz:(fs.map (·.1)).length<=sizeLine:=by rw[Xn,XS];omega
 refine Ek I.m7 O c.sa c.po n.IL c.hd wi hz λh' O' sb=>h _ ?_;have hd:∃o,h'.get? dx=some o:=let ⟨o,_,_,e',_⟩:=O'.ns;⟨o,e'⟩;refine I.write (x:=a) (e:=dx) (by rw[e];exact True.intro) (.inr ho) (λb q hb z=>(sb.2 b hb).trans z) hd ?_;refine⟨by rw[aq O.ne];exact ho,?_,O.ne,O'.obj,_,O'.ns,λg=>?_,λg hg=>?_⟩
 · have:=nM f y fs;omega
 · show i8 ((eG f y fs).lookup g) (if g=f then some u else mA g);rw[jt];by_cases q:g=f
   · rw[Xp q,Xp q];exact ry
   · rw[Xo q,Xo q];exact r g
 · by_cases q:g=f
   · rw[q];exact (mO f y fs).1
   · refine (mO f y fs).2 g (wi g λz=>hg ?_);show (if g=f then some u else mA g)=none;rw[Xo q];exact z
theorem Inv.made (I:Inv X pins σ H s):Inv X pins σ (upd (upd H s.heap.objs.size (.own (s.heap.objs.size+1))) (s.heap.objs.size+1) (.ins C s.heap.objs.size []))
  {s with heap:=(s.heap.push PySem.W.emptyDict).push (PySem.W.instObj C s.heap.objs.size)}:=by
 have e1:(s.heap.push PySem.W.emptyDict).get? s.heap.objs.size=some PySem.W.emptyDict:=XD s.heap rfl;have e2:((s.heap.push PySem.W.emptyDict).push (PySem.W.instObj C s.heap.objs.size)).get? (s.heap.objs.size+1)=some (PySem.W.instObj C s.heap.objs.size):=by
  have:=XD (s.heap.push PySem.W.emptyDict) (o:=PySem.W.instObj C s.heap.objs.size) rfl
  rwa [Yx] at this
 have e3:(s.heap.push PySem.W.emptyDict).Ns s.heap.objs.size (λ_=>none):=⟨PySem.W.emptyDict,#[],_,e1,rfl,(λe he=>absurd he (by simp)),λ_=>rfl⟩;have I1:=I.laid (a:=s.heap.objs.size) (o:=.own (s.heap.objs.size+1)) (h':=s.heap.push PySem.W.emptyDict) (t':=s.toks) (λb u q=>Xq _ q) (Xx _) ⟨_,e1⟩;refine I1.laid (a:=s.heap.objs.size+1) (o:=.ins C s.heap.objs.size []) (t':=s.toks) (λb u q=>Xq _ q) (Z3 (Yx _ _)) ?_;have ne:s.heap.objs.size≠s.heap.objs.size+1:=X1 (ZR _);refine⟨by rw[aq ne,ae],XW _,ne,e2,λ_=>none,(Heap.Ns1.of_empty e3).at λo q=>Xq _ q,λ_=>True.intro,λy hy=>absurd rfl hy⟩
theorem yl {prog:Program}{w:World}{env:Env}{e:Expr}{f:Str}{pos:Pos}{s:Shared}{Q:aab}(hb:attributeBase e f env (eval e env)=eval e env)
  (h:wpAny (model prog w) A (eval e env) (λo s₁=>wpAny (model prog w) A (getAttr o f true) Q E s₁) E s):wpAny (model prog w) A (eval (.Attribute e f pos) env) Q E s :=
 Attribute_any_ h (by rw[arm_eval_Attribute,hb])
end
def vJ (K:aaa)(ta:TE)(f:Str):TE:=λσ H Q=>ta σ H λx H1=>∃a C dx fs v,x=.ref a/\H1 a=some (.ins C dx fs)/\yj K C/\hU K C f/\fs.lookup f=some v/\Q v H1
def Kf (K:aaa)(ta tv:TE)(f:Str):TS:=λD σ H=>tv σ H λy H1=>ta σ H1 λx H2=>∃a C dx fs,x=.ref a/\H2 a=some (.ins C dx fs)/\yj K C/\hU K C f/\fs.length < 1000 /\
 D.nx σ (upd H2 a (.ins C dx (eG f y fs)))
def Jh (X:Cx)(op:Operator)(rd:V->V->Hp->VK->Prop):Prop :=
 ∀(pins:aad) (s:Shared) (σ:St) (H:Hp) (x y:V) (u v:Value) (Q:VK),Inv X pins σ H s->RelV x u->RelV y v->rd x y H Q->wpAny (model X.prog X.w) X.A (inplaceOp op u v) (EP X pins σ Q) X.xe s
def Ej (K:aaa)(ta tv:TE)(rd:V->V->Hp->VK->Prop)(f:Str):TS:=λD σ H=>ta σ H λx H1=>∃a C dx fs v,x=.ref a/\H1 a=some (.ins C dx fs)/\yj K C/\hU K C f/\fs.lookup f=some v /\
 tv σ H1 λy H2=>rd v y H2 λz H3=>∃Mw L6,H3 a=some (.ins C Mw L6)/\L6.length < 1000/\D.nx σ (upd H3 a (.ins C Mw (eG f z L6)))
section
variable {X:Cx}{o e value:Expr}{f:Str}{pos pos' LO:Pos}{ta tv:TE}
theorem aY (he:PE X e ta) (hb:attributeBase e f X.env (eval e X.env)=eval e X.env):PE X (.Attribute e f pos) (vJ X.K ta f):=by
 intro pins s σ H Q I h;refine yl hb (bA (he pins s σ H _ I h) λu s1 ⟨x,H1,I1,rx,a,C,dx,fs,v,ex,ea,c,n,l,q⟩=>?_);subst ex;obtain rfl:u=Value.ref a:=rx;exact qo I1 ea c n l λu' s2 I2 ru=>⟨v,H1,I2,ru,q⟩
theorem cD (ha:PE X o ta)(hv:PE X value tv)(hs:swapsWith value (some (.Attribute o f pos')) pos.line X.env=pure false):PS X (.Assign [.Attribute o f pos'] value pos) (Kf X.K ta tv f):=by
 intro pins s σ H D I h;refine plainObj_wpAny_Assign_Attribute (bA (hv pins s σ H _ I h) λu s1 ⟨y,H1,I1,ry,q⟩=>bA (ha pins s1 σ H1 _ I1 q) λov s2 ⟨x,H2,I2,rx,a,C,dx,fs,ex,ea,c,n,l,q2⟩=>?_) hs;subst ex;obtain rfl:ov=Value.ref a:=rx;exact pf I2 ea c n l ry λs3 I3=>⟨σ,_,I3,q2⟩
theorem rY {op:Operator}{rd:V->V->Hp->VK->Prop}(ha:PE X o ta)(hv:PE X value tv)(U3:Jh X op rd):PS X (.AugAssign (.Attribute o f LO) op value pos) (Ej X.K ta tv rd f):=by
 intro pins s σ H D I h;refine wpAny_AugAssign_AttributeAny (bA (ha pins s σ H _ I h) λov s1 ⟨x,H1,I1,rx,a,C,dx,fs,v,ex,ea,c,n,l,q⟩=>?_);subst ex;obtain rfl:ov=Value.ref a:=rx;refine qo I1 ea c n l λu s2 I2 ru=>bA (hv pins s2 σ H1 _ I2 q) λw3 s3 ⟨y,H2,I3,ry,q3⟩=>bA (U3 pins s3 σ H2 v y u w3 _ I3 ru ry q3) λw4 s4 ⟨z,H3,I4,rz,Mw,L6,U4,l',q4⟩=>?_;exact pf I4 U4 c n l' rz λs5 I5=>⟨σ,_,I5,q4⟩
def J9:V->V->Hp->VK->Prop:=λx y H Q=>∃i j,x=.int i/\y=.int j/\Q (.int (i+j)) H
theorem Bc:Jh X .Add J9:=by
 rintro pins s σ H x y u v Q I rx ry ⟨i,j,rfl,rfl,q⟩;obtain⟨t,rfl⟩:=(show ∃t,u=Value.int i t from rx);obtain⟨t',rfl⟩:=(show ∃t',v=Value.int j t' from ry);exact PyProof.Rows.iadd_int ⟨.int (i+j),H,I.tok _,⟨_,rfl⟩,q⟩
end
section
variable {X:Cx}{pins:aad}{σ:St}{H:Hp}{s:Shared}{A:Around}{E:aab}{Q:aab}{c:Value}{b:Bool}
end
structure cK (k:Nat)(A:Around):Prop where
 hd:A.handled=none
 dp:A.depth+3*k+5 < recursionLimit
 un:A.units+16*k+200 < cLine
theorem cK.mono {j k:Nat}{A:Around}(r:cK k A)(h:j<=k):cK j A:=⟨r.hd,by have:=r.dp;omega,by have:=r.un;omega⟩
theorem cK.deeper {k:Nat}{A:Around}(r:cK (k+1) A)(env:Env):cK k (A.deeper env) :=
 ⟨r.hd,by have:=r.dp;show A.depth+1+3*k+5 < _;omega,by have:=r.un;show A.units+3+16*k+200 < _;omega⟩
theorem xC {A:Around}{C:Addr}{us:aae}{kw:List (Str×Value)}:(A.under (.builtin "type.__call__" ⟨.ref C::us,kw⟩)).depth=A.depth+1:=by
 first|rfl|simp[Around.under,Code.weight,Code.isCreation,Code.isGuard,Code.isCaller,Code.frames,Code.isFrame,guardIds]
theorem wR {A:Around}{C:Addr}{us:aae}{kw:List (Str×Value)}:(A.under (.builtin "type.__call__" ⟨.ref C::us,kw⟩)).units=A.units+1:=by
 first|rfl|simp[Around.under,Code.cUnits,Code.frames,Code.isFrame]
theorem cK.make {k:Nat}{A:Around}(r:cK (k+1) A)(C:Addr)(us:aae)(kw:List (Str×Value)):cK k (A.under (.builtin "type.__call__" ⟨.ref C::us,kw⟩)) :=
 ⟨r.hd,by have:=r.dp;rw[xC];omega,by have:=r.un;rw[wR];omega⟩
theorem cK.depth {k:Nat}{A:Around}(r:cK k A):A.depth < recursionLimit:=by have:=r.dp;omega
theorem cK.units {k:Nat}{A:Around}(r:cK k A):A.units+64 < cLine:=by have:=r.un;omega
def eV:TA:=λ_ H Q=>Q [] H
def cM (ta:TE)(tr:TA):TA:=λσ H Q=>ta σ H λx H1=>tr σ H1 λxs H2=>Q (x::xs) H2
section
variable {X:Cx}{e:Expr}{es:List Expr}{te:TE}{t:TA}{pos:Pos}
theorem ah:PA X [] eV:=λ_ _ _ _ H Q I h=>Calls.spliced_nil ⟨[],H,I,.nil,h⟩
theorem aa (ha:PE X e te)(hr:PA X es t)(hs:starEach (e::es) X.env=(false,eval e X.env)::starEach es X.env:=by rfl):PA X (e::es) (cM te t):=by
 intro pos pins s σ H Q I h;rw[hs];show wpAny _ _ (spliced ((false,eval e X.env)::backTo pos (starEach es X.env))) _ _ s;refine Z8 (bA (ha pins s σ H _ I h) λu s1 ⟨x,H1,I1,r1,q1⟩=>?_);exact bA (hr pos pins s1 σ H1 _ I1 q1) λus s2 ⟨xs,H2,I2,r2,q2⟩=>⟨x::xs,H2,I2,.cons r1 r2,q2⟩
def Ki (t:TA):TE:=λσ H Q=>t σ H λxs H1=>xs.length<=sizeLine/\∀p,H1 p=none->Q (.ref p) (upd H1 p (.tup xs))
def Jl (t:TA):TE:=λσ H Q=>t σ H λxs H1=>xs.length<=sizeLine/\∀p,H1 p=none->Q (.ref p) (upd H1 p (.lst xs))
theorem di {x1}(h:PA X es t):PE X (.Tuple es x1 pos) (Ki t):=by
 intro pins s σ H Q I hq;refine wpAny_Tuple_spliced (bA (h pos pins s σ H _ I hq) λus s1 ⟨xs,H1,I1,r,z,q⟩=>⟨by rw[←r.length];exact z,?_⟩);have hf:H1 s1.heap.objs.size=none:=I1.bu.fresh (Xx _);refine⟨.ref s1.heap.objs.size,upd H1 s1.heap.objs.size (.tup xs),I1.laid (t':=s1.toks) (λb u e=>Xq _ e) (Xx _) ?_,rfl,q _ hf⟩;exact⟨z,us,r,⟨_,XD _ rfl,rfl,_,rfl⟩⟩
theorem bV (h:PA X es t):PE X (.List es pos) (Jl t):=by
 intro pins s σ H Q I hq;refine wpAny_List_spliced (bA (h pos pins s σ H _ I hq) λus s1 ⟨xs,H1,I1,r,z,q⟩=>⟨by rw[←r.length];exact z,?_⟩);have hf:H1 s1.heap.objs.size=none:=I1.bu.fresh (Xx _);refine⟨.ref s1.heap.objs.size,upd H1 s1.heap.objs.size (.lst xs),I1.laid (t':=s1.toks) (λb u e=>Xq _ e) (Xx _) ?_,rfl,q _ hf⟩;exact⟨z,us,0,r,XD _ rfl⟩
end
abbrev Sp:=List V->Hp->VK->XK->Prop
abbrev lO:=List Env->Hp->Shared->XK->Value->Shared->Prop
structure xO (P:Program)(w:World)(K:aaa)(mg:aac)(base:Heap)(A:Around)(outer:List Env)(s:Shared)(H:Hp):Prop where
 frames:A.frames=some outer
 mod:Mod K mg base
 bs:∀b o,base.get? b=some o->s.heap.get? b=some o/\H b=none
 CZ:base.objs.size<=s.heap.objs.size
 mI:s.heap.FunFrames base outer
 Fd:∀b∈vY outer,H b=none
 bu:ie P w H s.heap
 bare:AllBare s.gens
def CE (outer:List Env)(P:Program)(w:World)(H:Hp)(s:Shared)(Q:VK)(u:Value)(s':Shared):Prop :=
 ∃v H',s'.os=s.os/\AllBare s'.gens/\Un (vY outer) [] H H' s.heap s'.heap/\ie P w H' s'.heap/\RelV v u/\Q v H'
def CR (CX:lO)(outer:List Env)(P:Program)(w:World)(H:Hp)(s:Shared)(Q:VK)(E:XK)(r:Result)(s':Shared):Prop :=
 match r with
 |.ok (.ret u)=>CE outer P w H s Q u s'
 |.ok _=>False
 |.error e=>CX outer H s E e s'
structure a8 (P:Program)(w:World)(K:aaa)(mg:aac)(base:Heap)(CX:lO)(k:Nat)(f:Addr)(fd:FuncData)(ps:List Str)(sp:Sp):Prop where
 len:∀vs H Q E,sp vs H Q E->vs.length=ps.length
 run:∀(A:Around) (outer:List Env) (s:Shared) (H:Hp) (args:Args) (us:aae) (vs:List V) (Q:VK) (E:XK),cK k A->xO P w K mg base A outer s H->BindsTo s fd args (ps.zip us)->Vals vs us->sp vs H Q E ->
  codeAny (model P w) A (.call (.ref f) args) (CR CX outer P w H s Q E) s
theorem a8.mono {P:Program}{w:World}{K:aaa}{mg:aac}{base:Heap}{CX:lO}{j k:Nat}{f:Addr}{fd:FuncData}{ps:List Str}{sp:Sp}(F:a8 P w K mg base CX j f fd ps sp)(h:j<=k) :
  a8 P w K mg base CX k f fd ps sp:=⟨F.len,λA outer s H args us vs Q E hr=>F.run A outer s H args us vs Q E (hr.mono h)⟩
theorem xO.make {P:Program}{w:World}{K:aaa}{mg:aac}{base:Heap}{A:Around}{outer:List Env}{s:Shared}{H:Hp}(e:xO P w K mg base A outer s H)(C:Addr)(us:aae)(kw:List (Str×Value)) :
  xO P w K mg base (A.under (.builtin "type.__call__" ⟨.ref C::us,kw⟩)) outer s H:=⟨by first|exact e.frames|(simpa [Around.under,Code.envs,Code.isFrame,pushEnvs] using e.frames),e.mod,e.bs,e.CZ,e.mI,e.Fd,e.bu,e.bare⟩
section
variable {X:Cx}{pins:aad}{σ:St}{H:Hp}{s s':Shared}
theorem Inv.HE (I:Inv X pins σ H s):xO X.prog X.w X.K X.mg X.base X.A X.stack s H :=
 ⟨I.ok.frames,I.ok.mod,I.bs,Yb I.ok.CZ I.sz,I.stack,I.sI,I.bu,I.bare⟩
theorem Inv.after {Q:VK}{u:Value}(I:Inv X pins σ H s)(h:CE X.stack X.prog X.w H s Q u s'):EP X pins σ Q u s':=by
 obtain⟨v,H',os,bare,un,bu,r,q⟩:=h;obtain⟨hh,g,d,t,QO⟩:=s';obtain rfl:QO=s.os:=os;exact⟨v,H',I.call (h':=hh) (g':=g) (d':=d) (t':=t) (ch:=[]) un bu bare (λb z=>absurd z (by simp)),r,q⟩
end
def nE (sp:Sp)(LQ:List V)(E:XK)(t:TA):TE:=λσ H Q=>t σ H λvs H1=>sp (vs++LQ) H1 Q E
def uY (C:Addr)(m:Str)(sp:Sp)(LQ:List V)(E:XK)(ta:TE)(t:TA):TE:=λσ H Q=>ta σ H λx H1=>∃a dx fs,x=.ref a/\H1 a=some (.ins C dx fs)/\fs.lookup m=none /\
 t σ H1 λvs H2=>sp (x::(vs++LQ)) H2 Q E
def Fo (C:Addr)(sp:Sp)(LQ:List V)(E:XK)(t:TA):TE:=λσ H Q=>t σ H λvs H1=>∀x dx,H1 x=none->H1 dx=none->dx≠x ->
 sp (.ref x::(vs++LQ)) (upd (upd H1 dx (.own x)) x (.ins C dx [])) (λv H2=>v=.cf/\Q (.ref x) H2) E
def Binds (K:aaa)(fd:FuncData)(ps:List Str)(ds:aae):Prop :=
 ∀(s:Shared) (us:aae),K.In s.heap->(us++ds).length=ps.length->BindsTo s fd ⟨us,[]⟩ (ps.zip (us++ds))
theorem Binds.all {K:aaa}{fd:FuncData}{ps:List Str}(h:∀us:aae,us.length=ps.length->bindArgs fd ⟨us,[]⟩=pure (ps.zip us)):Binds K fd ps []:=λs us _ hl=>by
 rw[Yr] at hl ⊢;exact .of_eq (h us hl)
def Passes (CX:lO)(X:Cx)(E:XK):Prop:=∀(pins:aad) (σ:St) (H:Hp) (s:Shared) (e:Value) (s':Shared),Inv X pins σ H s->CX X.stack H s E e s'->X.xe e s'
section
variable {X:Cx}{CX:lO}{k:Nat}{f C:Addr}{fd:FuncData}{ps:List Str}{sp:Sp}{LQ:List V}{ds:aae}{E:XK}{x m:Str}{p pos apos:Pos}{e o:Expr}{es:List Expr}{ta:TE}{t:TA}
theorem xB {pins:aad} {σ:St} {H:Hp} {s:Shared} {Q:VK} {us:aae} {vs:List V} (F:a8 X.prog X.w X.K X.mg X.base CX k f fd ps sp) (hr:cK k X.A) (hb:Binds X.K fd ps ds) (hd:Vals LQ ds) (hx:Passes CX X E)
  (I:Inv X pins σ H s) (r:Vals vs us) (h:sp (vs++LQ) H Q E):wpAny (model X.prog X.w) X.A (call (.ref f) us) (EP X pins σ Q) X.xe s:=by
 have r2:Vals (vs++LQ) (us++ds):=r.append hd;have hl:(us++ds).length=ps.length:=by rw[←r2.length];exact F.len _ _ _ _ h
 refine wpAny_call (Z1 (F.run X.A X.stack s H ⟨us,[]⟩ (us++ds) (vs++LQ) Q E hr I.HE (hb s us I.m7 hl) r2 h) λr s' hq=>?_);cases r with
 |error e=>exact hx pins σ H s e s' I hq
 |ok fl =>
  cases fl with
  |ret u=>exact I.after hq
  |next=>exact False.elim hq
  |brk=>exact False.elim hq
  |cont=>exact False.elim hq
theorem C7 (F:a8 X.prog X.w X.K X.mg X.base CX k f fd ps sp)(hr:cK k X.A)(hg:Gl X x)(hm:X.mg x=some (.ref f))(hk:PySem.W.keepIn X.K (.ref f)=true)(hb:Binds X.K fd ps ds)(hd:Vals LQ ds)(hx:Passes CX X E)
  (ha:PA X (e::es) t)(Me:(x==("__debug__":Str))=false:=by decide)(he:starEach (e::es) X.env=(false,eval e X.env)::starEach es X.env:=by rfl)(LH:(backTo pos (starEach es X.env)).any (·.1)=false:=by rfl) :
  PE X (.Call (.Name x p) (e::es) [] pos) (nE sp LQ E t):=by
 intro pins s σ H Q I h;refine ZE (mE I hg hm ?_ Me);refine PySem.W.callWith_K (h₀:=X.base) I.ok.mod.Fc hk (bA (ha pos pins s σ H _ I h) λus s1 ⟨vs,H1,I1,r,q⟩=>⟨I1.m7,?_⟩) he LH;exact xB F hr hb hd hx I1 r q
theorem DV {pl:Sem Bool}(he:PE X o ta)(c:yj X.K C)(hm:Meth X.K C m f)(F:a8 X.prog X.w X.K X.mg X.base CX k f fd ps sp)(hr:cK k X.A)(hb:Binds X.K fd ps ds)(hd:Vals LQ ds)(hx:Passes CX X E)(ha:PA X (e::es) t)
  (Md:starEach (e::es) X.env=(false,eval e X.env)::starEach es X.env:=by rfl)(LH:(backTo pos (starEach es X.env)).any (·.1)=false:=by rfl)
  (ht:eval (.Call (.Attribute o m apos) (e::es) [] pos) X.env=(do
   let ov ←eval o X.env
   standAt apos.atName
   let (f,first) ←holding [ov] (getMethod ov m pl)
   callWith pos f first (backTo pos (starEach (e::es) X.env)) (backToKw pos (keywordEach [] X.env))):=by rfl) :
  PE X (.Call (.Attribute o m apos) (e::es) [] pos) (uY C m sp LQ E ta t):=by
 intro pins s σ H Q I h;refine PySem.W.methodCall_KW (pl:=pl) (bA (he pins s σ H _ I h) λu s1 ⟨x,H1,I1,rx,a,dx,fs,ex,ea,l,q⟩=>?_) ht;subst ex;obtain rfl:u=Value.ref a:=rx;refine p8 I1 ea c hm l ?_;refine PySem.W.callWith_K (first:=[.ref a]) (h₀:=X.base) I.ok.mod.Fc hm.kp (bA (ha pos pins s1 σ H1 _ I1 q) λus s2 ⟨vs,H2,I2,r,q2⟩=>⟨I2.m7,?_⟩) Md LH;exact xB (us:=.ref a::us) (vs:=.ref a::vs) F hr hb hd hx I2 (.cons rfl r) q2
theorem A6 {pl:Sem Bool}(he:PE X o ta)(c:yj X.K C)(hm:Meth X.K C m f)(F:a8 X.prog X.w X.K X.mg X.base CX k f fd ps sp)(hr:cK k X.A)(hb:Binds X.K fd ps ds)(hd:Vals LQ ds)(hx:Passes CX X E)
  (ht:eval (.Call (.Attribute o m apos) [] [] pos) X.env=(do
   let ov ←eval o X.env
   standAt apos.atName
   let (f,first) ←holding [ov] (getMethod ov m pl)
   callWith pos f first (backTo pos (starEach [] X.env)) (backToKw pos (keywordEach [] X.env))):=by rfl) :
  PE X (.Call (.Attribute o m apos) [] [] pos) (uY C m sp LQ E ta eV):=by
 intro pins s σ H Q I h;refine PySem.W.methodCall_KW (pl:=pl) (bA (he pins s σ H _ I h) λu s1 ⟨x,H1,I1,rx,a,dx,fs,ex,ea,l,q⟩=>?_) ht;subst ex;obtain rfl:u=Value.ref a:=rx;refine p8 I1 ea c hm l ?_;exact PySem.W.callWith_K0 (first:=[.ref a]) I1.m7 hm.kp (xB (us:=[.ref a]) (vs:=[.ref a]) F hr hb hd hx I1 (.cons rfl .nil) q)
structure Mk (K:aaa)(C f:Addr):Prop where
 makes:PySem.W.makesIn K C=true
 init:PySem.W.findIn K (.ref C) "__init__"=some (some (.ref f))
 fn:PySem.W.isFn K (.ref f)=true
 kp:PySem.W.keepIn K (.ref C)=true
theorem CM {pins:aad}{σ:St}{H:Hp}{s:Shared}{Q:VK}{us:aae}{vs:List V}(M:Mk X.K C f)(F:a8 X.prog X.w X.K X.mg X.base CX k f fd ps sp)(hr:cK (k+1) X.A)(hb:Binds X.K fd ps ds)(hd:Vals LQ ds)
  (hx:Passes CX X E)(I:Inv X pins σ H s)(r:Vals vs us)
  (h:∀x dx,H x=none->H dx=none->dx≠x->sp (.ref x::(vs++LQ)) (upd (upd H dx (.own x)) x (.ins C dx [])) (λv H2=>v=.cf/\Q (.ref x) H2) E) :
  wpAny (model X.prog X.w) X.A (call (.ref C) us) (EP X pins σ Q) X.xe s:=by
 have hq:=h (s.heap.objs.size+1) s.heap.objs.size (I.bu.fresh (Nat.le_succ _)) (I.bu.fresh (Xx _)) (X1 (ZR _));have I2:=Inv.made (C:=C) I;have r2:Vals (V.ref (s.heap.objs.size+1)::(vs++LQ)) (Value.ref (s.heap.objs.size+1)::(us++ds)):=.cons rfl (r.append hd);have hl:(Value.ref (s.heap.objs.size+1)::us++ds).length=ps.length:=by
  have e:=r2.length;rw[F.len _ _ _ _ hq] at e;exact e.symm
 refine wpAny_call (AH (f:=f) I.m7 M.makes M.init (Ye.mp M.fn) (Z1 (F.run _ X.stack _ _ ⟨Value.ref (s.heap.objs.size+1)::us,[]⟩ (Value.ref (s.heap.objs.size+1)::(us++ds)) _ _ E (hr.make C us [])
  (I2.HE.make C us []) (hb _ (Value.ref (s.heap.objs.size+1)::us) I2.m7 hl) r2 hq) λr s' MO=>?_))
 cases r with
 |error e=>exact hx pins σ _ _ e s' I2 MO
 |ok fl =>
  cases fl with
  |ret u =>
   obtain⟨v,H',I3,rv,ev,q3⟩:=I2.after MO;subst ev;exact⟨rv,⟨V.ref (s.heap.objs.size+1),H',I3,rfl,q3⟩⟩
  |next=>exact False.elim MO
  |brk=>exact False.elim MO
  |cont=>exact False.elim MO
theorem EZ (M:Mk X.K C f)(F:a8 X.prog X.w X.K X.mg X.base CX k f fd ps sp)(hr:cK (k+1) X.A)(hg:Gl X x)(hm:X.mg x=some (.ref C))(hb:Binds X.K fd ps ds)(hd:Vals LQ ds)(hx:Passes CX X E)
  (ha:PA X (e::es) t)(Me:(x==("__debug__":Str))=false:=by decide)(he:starEach (e::es) X.env=(false,eval e X.env)::starEach es X.env:=by rfl)(LH:(backTo pos (starEach es X.env)).any (·.1)=false:=by rfl) :
  PE X (.Call (.Name x p) (e::es) [] pos) (Fo C sp LQ E t):=by
 intro pins s σ H Q I h;refine ZE (mE I hg hm ?_ Me);refine PySem.W.callWith_K (h₀:=X.base) I.ok.mod.Fc M.kp (bA (ha pos pins s σ H _ I h) λus s1 ⟨vs,H1,I1,r,q⟩=>⟨I1.m7,?_⟩) he LH;exact CM M F hr hb hd hx I1 r q
end
section
variable {X:Cx}{CX:lO}{k:Nat}{f C:Addr}{fd:FuncData}{ps ks:List Str}{sp:Sp}{E:XK}{x m:Str}{p pos apos kpos:Pos}{e o:Expr}{es:List Expr}{kws:List Keyword}{te ta:TE}{t tk:TA}{nm:Option Str}
variable {g:aae->aae->aae} {gV:List V->List V->List V}
end
structure aG (N P:List Str)(sc:Scope):Prop where
 kind:sc.kind=.function
 co:sc.isCoroutine=false
 gen:sc.isGenerator=false
 nd:N.Nodup
 pre:N.take P.length=P
 par:∀x∈P,sc.names.lookup x=some .local∨sc.names.lookup x=some .cell
 Hc:∀y∈sc.names,y.2≠.free
theorem sh {kindOf:Str->Option NameKind}{x:Str}:∀{binds:List (Str×Value)} {m:aac},(∀v,(x,v)∉binds)->bindL kindOf binds m x=m x
 |[],_,_=>rfl
 |(n,v)::r,m,h=>by
  unfold bindL;rw[sh λw hw=>h w (XG _ hw)];split
  · have:x≠n:=by rintro rfl;exact h v X_
    simp[this]
  · rfl
theorem rG {kindOf:Str->Option NameKind}{x:Str}:∀{binds:List (Str×Value)} {m:aac},(∀v,(x,v)∉binds)->bindC kindOf binds m x=m x
 |[],_,_=>rfl
 |(n,v)::r,m,h=>by
  unfold bindC;rw[rG λw hw=>h w (XG _ hw)];split
  · rfl
  · have:x≠n:=by rintro rfl;exact h v X_
    simp[this]
theorem rL {kindOf:Str->Option NameKind}{x:Str}{v:Value}:∀{P:List Str} {vs:aae} {i:Nat} {m:aac},P.Nodup->P[i]?=some x->vs[i]?=some v->kindOf x=some .local ->
  bindL kindOf (P.zip vs) m x=some v
 |[],_,_,_,_,h,_,_=>by simp at h
 |_::_,[],_,_,_,_,h,_=>by simp at h
 |p::P,w::vs,0,m,nd,h1,h2,hk=>by
  simp at h1 h2;subst h1;subst h2;show bindL kindOf ((p,w)::P.zip vs) m p=_;unfold bindL;rw[sh λv hv=>(YA.mp nd).1 (List.of_mem_zip hv).1,Xp hk];simp
 |p::P,w::vs,i+1,m,nd,h1,h2,hk=>by
  show bindL kindOf ((p,w)::P.zip vs) m x=_;unfold bindL;exact rL (i:=i) (YA.mp nd).2 (by simpa using h1) (by simpa using h2) hk
theorem sy {kindOf:Str->Option NameKind}{x:Str}{v:Value}:∀{P:List Str} {vs:aae} {i:Nat} {m:aac},P.Nodup->P[i]?=some x->vs[i]?=some v->kindOf x≠some .local ->
  bindC kindOf (P.zip vs) m x=some v
 |[],_,_,_,_,h,_,_=>by simp at h
 |_::_,[],_,_,_,_,h,_=>by simp at h
 |p::P,w::vs,0,m,nd,h1,h2,hk=>by
  simp at h1 h2;subst h1;subst h2;show bindC kindOf ((p,w)::P.zip vs) m p=_;unfold bindC;rw[rG λv hv=>(YA.mp nd).1 (List.of_mem_zip hv).1,Xo hk];simp
 |p::P,w::vs,i+1,m,nd,h1,h2,hk=>by
  show bindC kindOf ((p,w)::P.zip vs) m x=_;unfold bindC;exact sy (i:=i) (YA.mp nd).2 (by simpa using h1) (by simpa using h2) hk
def start (N:List Str)(vs:List V):St:=vs.map some++List.replicate (N.length - vs.length) none
def ni (CX:lO)(P:Program)(w:World)(K:aaa)(mg:aac)(base:Heap)(N:List Str)(qual:Str)(scope:Scope)(f:Addr)(cd:Value)(A:Around)(outer:List Env)(s:Shared)(H:Hp)(E:XK):Cx where
 prog:=P
 w:=w
 K:=K
 mg:=mg
 base:=base
 A:=A.deeper (envOfC qual scope s.heap.objs.size f cd)
 N:=N
 kJ:=s
 Ib:=H
 env:=envOfC qual scope s.heap.objs.size f cd
 outer:=outer
 stack:=envOfC qual scope s.heap.objs.size f cd::outer
 ex:=[]
 calm:=true
 fn:=λ_=>true
 pn:=[]
 xe:=λe s'=>wpAny (model P w) (A.deeper (envOfC qual scope s.heap.objs.size f cd)) (leaving (envOfC qual scope s.heap.objs.size f cd) e) (λ_ PD=>CX outer H s E e PD) (λe' PD=>CX outer H s E e' PD) s'
theorem vC {sc:Scope}{n:Nat}{x:Str}(h:sc.names.lookup x=some .cell):∃c,(cellsFrom n sc.names []).lookup x=some c:=by
 have q:=PySem.W.cellsFrom_some sc.names n [] (.inl h);exact Zz.mp q
theorem Aj {CX:lO}{P:Program}{w:World}{K:aaa}{mg:aac}{base:Heap}{N ps:List Str}{qual:Str}{scope:Scope}{f:Addr}{cd:Value}{A:Around}{outer:List Env}{s s1:Shared}{H:Hp}{E:XK}{us:aae}{vs:List V}
  (S:aG N ps scope)(hd:A.handled=none)(e0:xO P w K mg base A outer s H)(hl:vs.length=ps.length)(r:Vals vs us)
  (x:InCallC s s.heap.objs.size (bindL (envOfC qual scope s.heap.objs.size f cd).kindOf (ps.zip us) λ_=>none) (cellsFrom (s.heap.objs.size+1) scope.names []) (bindC (envOfC qual scope s.heap.objs.size f cd).kindOf (ps.zip us) λ_=>none) s1) :
  Inv (ni CX P w K mg base N qual scope f cd A outer s H E) [] (start N vs) H s1:=by
 have LH:ps.length<=N.length:=by have:=Yv List.length S.pre;rw[XN] at this;omega
 obtain⟨h1,tk,rfl,hk⟩:=x.done;have N4:∀b:Addr,b∉(ni CX P w K mg base N qual scope f cd A outer s H E).ex:=λb z=>absurd (show b∈([]:List Addr) from z) (by simp);refine⟨⟨e0.mod,S.kind,rfl,rfl,Xx _,λy z c h1 h2=>?_,λy hy=>?_,λy c _ h=>?_,λ_=>hd,Around.frames_deeper e0.frames,.inr ⟨rfl,rfl⟩,λb z=>absurd z (N4 b),e0.bs,e0.CZ,λb _ _=>N4 b,λb z=>absurd z (N4 b),e0.mI,e0.Fd⟩,
  rfl,e0.bare,Un.kept hk,⟨_,x.toInCall.ns,λi y v h1 h2 h3=>?_⟩,λy c h=>⟨_,x.cell y c h⟩,e0.bu.fresh (Xx _),λy c h=>?_,λp hp=>absurd (show p∈([]:aad) from hp) (by simp),e0.bu.kept hk,?_⟩
 · exact name_of_addr x.apart (PySem.mem_of_lookup h1) (PySem.mem_of_lookup h2)
 · have hy:scope.names.lookup y=some .cell∨scope.names.lookup y=some .free:=hy;rcases hy with hy|hy
   · exact vC hy
   · exact absurd rfl (S.Hc _ (PySem.mem_of_lookup hy))
 · exact Nat.le_of_lt (x.above y c (PySem.mem_of_lookup h))
 · have hi:i < vs.length:=by
    unfold start at h2;by_cases hi:i < vs.length
    · exact hi
    · rw[Z7 (by simpa using hi)] at h2;rw[List.getElem?_replicate] at h2;split at h2 <;> cases h2
   have ha:vs[i]?=some v:=by
    unfold start at h2;rw[List.getElem?_append_left (by simpa using hi),Xs] at h2;cases e:vs[i]? with
    |none=>rw[e] at h2;cases h2
    |some a=>rw[e] at h2;cases h2;rfl
   obtain⟨u,hu,rv⟩:=r.get ha;have hp:ps[i]?=some y:=by
    rw[←S.pre,List.getElem?_take_of_lt (by omega)];exact h1
   have Sg:ps.Nodup:=by rw[←S.pre];exact S.nd.sublist (List.take_sublist _ _)
   refine⟨u,rv,?_⟩;rcases S.par y (XT hp) with k|k
   · exact .inl ⟨k,rL Sg hp hu k⟩
   · obtain⟨c,e⟩:=vC (n:=s.heap.objs.size+1) k;refine .inr ⟨.inl k,c,e,?_⟩;have q:=x.cell y c e;rw[sy Sg hp hu (by show scope.names.lookup y≠_;rw[k];decide)] at q;exact q
 · exact e0.bu.fresh (Nat.le_of_lt (x.above y c (PySem.mem_of_lookup h)))
 · unfold start;show _=N.length;rw[XM,Xn,XZ];omega
theorem BZ {CX:lO}{P:Program}{w:World}{K:aaa}{mg:aac}{base:Heap}{k:Nat}{f:Addr}{name qual:Str}{params:Arguments}{body:List Stmt}{scope:Scope}{dV kV doc pm Lz ct oc:Value}{an od:Option Addr}
  {Ms:Array (Option Value)}{N ps:List Str}{sp:Sp}(lk:K.lookup f=some ⟨oc,od,.func (PySem.W.fnOf name qual params body scope dV kV doc pm an Lz ct),Ms⟩)(Ma:PySem.W.codeIn K Lz qual=true)(S:aG N ps scope)
  (len:∀vs H Q E,sp vs H Q E->vs.length=ps.length)
  (LF:∀(A:Around) (outer:List Env) (s:Shared) (H:Hp) (vs:List V) (Q:VK) (E:XK),cK k (A.deeper (envOfC qual scope s.heap.objs.size f Lz))->sp vs H Q E ->
   ∃t,AK (ni CX P w K mg base N qual scope f Lz A outer s H E) body t/\t {nx:=λ_ H'=>Q .cf H',rt:=Q} (start N vs) H) :
  a8 P w K mg base CX (k+1) f (PySem.W.fnOf name qual params body scope dV kV doc pm an Lz ct) ps sp:=by
 refine⟨len,λA outer s H args us vs Q E hr e0 hb r Mb=>?_⟩;have hl:=len _ _ _ _ Mb;have KX:K.In s.heap:=e0.mod.Fc.keeps λb o e=>(e0.bs b o e).1;have lim:s.heap.NoLimit:=e0.mod.nolimit.keeps λb o e=>(e0.bs b o e).1;have OE:∀y∈ps.zip us,scope.names.lookup y.1=some .local∨(scope.names.lookup y.1=some .cell/\((cellsFrom (s.heap.objs.size+1) scope.names []).lookup y.1).isSome=true):=λ⟨n,v⟩ hy=>by
  rcases S.par n (List.of_mem_zip hy).1 with q|q
  · exact .inl q
  · exact .inr ⟨q,PySem.W.cellsFrom_some _ _ _ (.inl q)⟩
 refine codeAny_call_function hr.depth (KX _ _ lk) rfl S.co S.gen rfl (PySem.W.codeRec_of KX Ma) (hb _ _ _ _ ?_);refine wpAny_newFunctionEnv_cells S.kind OE λenv he s1 x=>?_;subst he;refine⟨lim.keeps x.toInCall.keep,codeAny_func ?_⟩;obtain⟨t,ht,hq⟩:=LF A outer s H vs Q E (hr.deeper _) Mb;have I:Inv (ni CX P w K mg base N qual scope f Lz A outer s H E) [] (start N vs) H s1:=Aj S hr.hd e0 hl r x;refine YG (ht s1 (start N vs) H _ I hq) (λfl s' hs=>?_) λe s' hs=>hs;have fin:∀{σ':St} {H':Hp} {v:V} {u:Value},Inv (ni CX P w K mg base N qual scope f Lz A outer s H E) [] σ' H' s'->RelV v u->Q v H'->CE outer P w H s Q u s' :=
  λ{σ' H' v u} J rv q=>⟨v,H',J.os,J.bare,J.base,J.bu,rv,q⟩
 cases fl with
 |ret u =>
  obtain⟨v,σ',H',J,rv,q⟩:=hs;exact fin J rv q
 |next =>
  obtain⟨σ',H',J,q⟩:=hs;exact fin (v:=V.cf) (u:=Value.none) J rfl q
 |brk =>
  obtain⟨_,_,_,q⟩:=hs;exact False.elim q
 |cont =>
  obtain⟨_,_,_,q⟩:=hs;exact False.elim q
theorem FY {CX:lO}{P:Program}{w:World}{K:aaa}{mg:aac}{base:Heap}{k:Nat}{f:Addr}{name qual:Str}{params:Arguments}{body:List Stmt}{scope:Scope}{dV kV doc pm Lz ct oc:Value}{an od:Option Addr}
  {Ms:Array (Option Value)}{N ps:List Str}{sp:Sp}(lk:K.lookup f=some ⟨oc,od,.func (PySem.W.fnOf name qual params body scope dV kV doc pm an Lz ct),Ms⟩)(Ma:PySem.W.codeIn K Lz qual=true)(S:aG N ps scope)
  (len:∀vs H Q E,sp vs H Q E->vs.length=ps.length)
  (LF:∀(A:Around) (outer:List Env) (s:Shared) (H:Hp) (vs:List V) (Q:VK) (E:XK),cK k (A.deeper (envOfC qual scope s.heap.objs.size f Lz))->sp vs H Q E ->
   ∃t,qT (ni CX P w K mg base N qual scope f Lz A outer s H E) body t/\t {nx:=λ_ H'=>Q .cf H',rt:=Q} (start N vs) H) :
  a8 P w K mg base CX (k+1) f (PySem.W.fnOf name qual params body scope dV kV doc pm an Lz ct) ps sp:=BZ lk Ma S len λA outer s H vs Q E hr hs=>let ⟨t,ht,hq⟩:=LF A outer s H vs Q E hr hs;⟨t,λs σ H D=>ht [] s σ H D,hq⟩
section
variable {X:Cx}{x:Str}{p pos:Pos}{e:Expr}{es:List Expr}{t:TA}{id T:String}{r:List V->Hp->VK->Prop}
def GF (r:List V->Hp->VK->Prop) (t:TA):TE:=λσ H Q=>t σ H λvs H1=>r vs H1 Q
theorem bY (hc:iz X (.builtin id) r)(hg:Gl X x)(hm:X.mg x=none)(hv:bootBuiltins x=some (.builtin id))(ha:PA X (e::es) t)(hn:x≠"__name__":=by decide)(Me:(x==("__debug__":Str))=false:=by decide)
  (he:starEach (e::es) X.env=(false,eval e X.env)::starEach es X.env:=by rfl)(LH:(backTo pos (starEach es X.env)).any (·.1)=false:=by rfl):PE X (.Call (.Name x p) (e::es) [] pos) (GF r t):=by
 intro pins s σ H Q I h;refine ZE (ly I hg hm hv ?_ hn Me);exact PyProof.Rows.callWith_builtin1 (bA (ha pos pins s σ H _ I h) λus s1 ⟨vs,H1,I1,r1,q1⟩=>hc pins s1 σ H1 vs us Q I1 r1 q1) he LH
theorem kj (hc:iz X (.type T) r)(hg:Gl X x)(hm:X.mg x=none)(hv:bootBuiltins x=some (.type T))(ha:PA X (e::es) t)(hn:x≠"__name__":=by decide)(Me:(x==("__debug__":Str))=false:=by decide)
  (he:starEach (e::es) X.env=(false,eval e X.env)::starEach es X.env:=by rfl)(LH:(backTo pos (starEach es X.env)).any (·.1)=false:=by rfl):PE X (.Call (.Name x p) (e::es) [] pos) (GF r t):=by
 intro pins s σ H Q I h;refine ZE (ly I hg hm hv ?_ hn Me);exact YQ (bA (ha pos pins s σ H _ I h) λus s1 ⟨vs,H1,I1,r1,q1⟩=>hc pins s1 σ H1 vs us Q I1 r1 q1) he LH
end
end L2
namespace HT
open PySem PyProof.Rows
section
open PySem.SeqAt
open PySem.AutoSeq1 (wpAny_loadPart')
open PySem.MeetsSeq PySem.MeetsSeq2 PySem.MeetsSeq3
end
section
variable {prog:Program}{w:World}{A:Around}{E:aab}{s:Shared}
theorem Dg {t b:Addr} {vs ws:aae} {Q:aab} (ht:IsTup s.heap t vs.toArray) (hb:IsTup s.heap b ws.toArray) (hv:vs≠[])
  (h1:ws=[]->Q (.ref t) s) (h2:ws≠[]->Q (.ref s.heap.objs.size) {s with heap:=s.heap.push {cls:=.type "tuple",data:=.seq (vs++ws).toArray}})
  (hsz:vs.length+ws.length<=sizeLine):wpAny (model prog w) A (binaryOp .Add (.ref t) (.ref b)) Q E s:=by
 obtain⟨⟨cls,dd,data,sl⟩,ho,hc,n,hd⟩:=id ht;obtain⟨⟨cls2,Sh,data2,Si⟩,PF,Sj,n2,hd2⟩:=id hb;simp only at hc hd Sj hd2;subst hc hd Sj hd2;have e:vs.toArray++ws.toArray=(vs++ws).toArray:=by simp
 by_cases hw:ws=[]
 · exact concat_meets ⟨_,ho,rfl⟩ ⟨_,PF,rfl⟩ noFill_tuple_add seq_tuple_add PySem.F.slot_tuple_add PySem.F.entry_tuple_add (PySem.F.args_tuple_add_2 _ _)
    (tuple_addW1 t b vs.toArray ws.toArray n n2 dd Sh sl Si (by simpa using hv) (by simp[hw])) ⟨ho,PF,h1 hw⟩
 · refine concat_meets ⟨_,ho,rfl⟩ ⟨_,PF,rfl⟩ noFill_tuple_add seq_tuple_add PySem.F.slot_tuple_add PySem.F.entry_tuple_add (PySem.F.args_tuple_add_2 _ _)
    (tuple_addW2 t b vs.toArray ws.toArray n n2 dd Sh sl Si (by simpa using hv) (by simpa using hw) (by rw[XJ,XJ];exact hsz)) ⟨ho,PF,?_⟩
   rw[e];exact h2 hw
def b_ (n d:Nat):Option Int->Nat
 |none=>d
 |some v=>if v < 0 then (v+(n:Int)).toNat else min v.toNat n
theorem jO (n d:Nat):b_ n d none=d:=rfl
theorem kq (n d k:Nat):b_ n d (some (k:Int))=min k n:=by
 show (if (k:Int) < 0 then ((k:Int)+(n:Int)).toNat else min (k:Int).toNat n)=min k n;rw[Xo (by omega),X9]
theorem xj (n d:Nat)(hd:d<=n)(o:Option Int):b_ n d o<=n:=by
 cases o with
 |none=>exact hd
 |some v =>
  show (if v < 0 then (v+(n:Int)).toNat else min v.toNat n)<=n;by_cases hv:v < 0
  · rw[Xp hv];omega
  · rw[Xo hv];exact Nat.min_le_right _ _
theorem yP (v:Int)(n d:Nat):(if v < 0 then max (v+(n:Int)) 0 else min v (n:Int))=((b_ n d (some v):Nat):Int):=by
 show (if v < 0 then max (v+(n:Int)) 0 else min v (n:Int))=(((if v < 0 then (v+(n:Int)).toNat else min v.toNat n):Nat):Int);by_cases hv:v < 0
 · simp only[Xp hv];omega
 · simp only[Xo hv];omega
theorem wH (lo hi:Option Int)(n:Nat):Builtin.Slice.sliceAdjust lo hi 1 (n:Int)=(((b_ n 0 lo:Nat):Int),((b_ n n hi:Nat):Int)):=by
 have h1:¬((1:Int) < 0):=by omega
 unfold Builtin.Slice.sliceAdjust;simp only[h1,Zm];refine Prod.ext ?_ ?_
 · cases lo with
   |none=>rfl
   |some v=>exact yP v n 0
 · cases hi with
   |none=>rfl
   |some v=>exact yP v n n
theorem v_ (i j:Nat):Builtin.Slice.slicePlaces (i:Int) (j:Int) 1=j - i:=by
 unfold Builtin.Slice.slicePlaces;have h1:(1:Int) > 0:=by omega
 simp only[h1,Y8,Int.ediv_one];split <;> omega
theorem o8 {v:Value}{o:Option Int}{Q:Option Int->Shared->Prop}(p:IsPart v o)(h:Q o s):wpAny (model prog w) A (Builtin.Slice.slicePartIndex v) Q E s:=by
 cases p with
 |none=>exact slicePart_none h
 |int i t=>exact slicePart_int h
theorem iC {sl:Addr}{vl vu:Value}{lo hi:Option Int}{n:Nat}{Q:Int×Int×Nat->Shared->Prop}(hs:s.heap.IsSliceOf sl vl vu .none)(pl:IsPart vl lo)(pu:IsPart vu hi)
  (h:Q (((b_ n 0 lo:Nat):Int),1,b_ n n hi - b_ n 0 lo) s):wpAny (model prog w) A (Builtin.Slice.sliceApplied (.ref sl) (pure (n:Int))) Q E s:=by
 obtain⟨os,MY,NF,NG⟩:=id hs;unfold Builtin.Slice.sliceApplied Builtin.Slice.sliceFields;refine Xm (Xm (wpAny_field MY NG (x:=vl) rfl (Xm (wpAny_field MY NG (x:=vu) rfl (Xm (wpAny_field MY NG (x:=.none) rfl (Xu ?_)))))));refine Xm (slicePart_none ?_);show wpAny _ _ (if ((1:Int)==0)=true then _ else _) _ _ s;rw[Xo (by decide)];refine Xm (o8 pl (Xm (o8 pu (Xm (Xu ?_)))));show wpAny _ _ (match Builtin.Slice.sliceAdjust lo hi 1 (n:Int) with|(lo,hi)=>pure (lo,(1:Int),Builtin.Slice.slicePlaces lo hi 1)) _ _ s;rw[wH lo hi n];show wpAny _ _ (pure (((b_ n 0 lo:Nat):Int),(1:Int),Builtin.Slice.slicePlaces ((b_ n 0 lo:Nat):Int) ((b_ n n hi:Nat):Int) 1)) _ _ s;rw[v_];exact Xu h
theorem B0 (xs:Array Value)(i k:Nat):((List.range k).filterMap λ(m:Nat)=>xs[((i:Int)+(m:Int)*1).toNat]?).toArray=((xs.toList.drop i).take k).toArray:=by
 have e:(λ(m:Nat)=>xs[((i:Int)+(m:Int)*1).toNat]?)=λm=>xs[i+m]?:=by
  funext m;have:((i:Int)+(m:Int)*1).toNat=i+m:=by omega
  rw[this]
 rw[e];have:=pick_run xs i k;rw[List.filterMap_map] at this;have e2:((λx=>xs[x]?) ∘ λx=>i+x)=λm=>xs[i+m]?:=rfl;rw[e2] at this;rw[this]
theorem mq {t sl:Addr}{items:Array Value}{vl vu:Value}{lo hi:Option Int}{Q:aab}(ht:IsTup s.heap t items)(hs:s.heap.IsSliceOf sl vl vu .none)(pl:IsPart vl lo)(pu:IsPart vu hi)
  (hw:¬(b_ items.size 0 lo=0/\b_ items.size items.size hi=items.size))
  (h:Q (.ref s.heap.objs.size) {s with heap:=s.heap.push {cls:=.type "tuple",data:=.seq ((items.toList.drop (b_ items.size 0 lo)).take (b_ items.size items.size hi - b_ items.size 0 lo)).toArray}})
  (hsz:items.size<=sizeLine):wpAny (model prog w) A (getItem (.ref t) (.ref sl)) Q E s:=by
 have Ml:sizeOk (.seq ((items.toList.drop (b_ items.size 0 lo)).take (b_ items.size items.size hi - b_ items.size 0 lo)).toArray):=by
  show ((items.toList.drop (b_ items.size 0 lo)).take (b_ items.size items.size hi - b_ items.size 0 lo)).toArray.size<=sizeLine;rw[XJ,XN,Yh,Y_];omega
 have hj:b_ items.size items.size hi<=items.size:=xj _ _ (Xx _) hi;obtain⟨os,MY,NF,NG⟩:=id hs;have U5:s.TypeIs (.ref sl) "slice":=⟨os,MY,NF⟩;unfold getItem
 try with_reducible refine Zo ?_
 first|refine Xm (Xu ?_)|skip
 refine Xm (wpAny_sequenceKey ht.typeIs (by decide) ?_);refine Xm (YE (name:=Str.ofString "__getitem__") ht.typeIs YF
  (YK YF ht.typeIs entry_tuple_getitem ?_ (args_tuple_getitem _ _)))
 show wpAny _ _ (Builtin.Tuple.tupleItemsOf (.ref t) >>= _) _ _ s;refine Xm (tupleItemsOf_ ht ?_);refine Xm (wpAny_typeOf U5 ?_);rw[Xp (by decide)];refine Xm (iC hs pl pu ?_);have MP:¬((((b_ items.size 0 lo:Nat):Int)==0&&(1:Int)==1&&(b_ items.size items.size hi - b_ items.size 0 lo)==items.size)=true):=by
  intro q;rw[Xv,Xv] at q;have q1:((b_ items.size 0 lo:Nat):Int)=0:=YT q.1.1;have q2:b_ items.size items.size hi - b_ items.size 0 lo=items.size:=YT q.2;exact hw ⟨by omega,by omega⟩
 show wpAny _ _ (if (((b_ items.size 0 lo:Nat):Int)==0&&(1:Int)==1&&(b_ items.size items.size hi - b_ items.size 0 lo)==items.size)=true then _ else _) _ _ s;rw[Xo MP,B0]
 first
  |exact Xm (m:=Builtin.Tuple.tupleExact _) (YR (Xu ⟨_,rfl,Xu h⟩) Ml)
  |exact Xm (m:=Builtin.Tuple.tupleExact _) (YR (Xm (Xu (Xu ⟨_,rfl,Xu h⟩))) Ml)
  |exact Xm (Xm (m:=Builtin.Tuple.tupleExact _) (YR (Xu (Xu ⟨_,rfl,Xu h⟩)) Ml))
  |exact Xm (Xm (m:=Builtin.Tuple.tupleExact _) (YR (Xu ⟨_,rfl,Xu h⟩) Ml))
end
end HT
namespace L2
open PySem PySem.Spec PyProof.Rows
abbrev TO:=St->Hp->(Option Int->Hp->Prop)->Prop
def PO (X:Cx)(e:Option Expr)(t:TO):Prop :=
 ∀(pins:aad) (s:Shared) (σ:St) (H:Hp) (Q:Option Int->Hp->Prop),Inv X pins σ H s->t σ H Q ->
  wpAny (model X.prog X.w) X.A (evalPart e X.env) (λu s'=>∃o H',Inv X pins σ H' s'/\IsPart u o/\Q o H') X.xe s
def DX:TO:=λ_ H Q=>Q none H
def JD (t:TE):TO:=λσ H Q=>t σ H λx H1=>∃i,x=.int i/\Q (some i) H1
theorem intsAre_of {ns:List Int}:∀{us:aae},Vals (ns.map V.int) us->IntsAre us ns:=by
 induction ns with
 |nil=>intro us r;rw[YN] at r;cases r;exact .nil
 |cons n ns ih =>
  intro us r;rw[XE] at r;cases r with
  |cons r1 r2 =>
   obtain⟨t,e⟩:=r1;subst e;exact .cons n t (ih r2)
section
variable {X:Cx}{e:Expr}{te:TE}{lo hi:Option Expr}{tl th:TO}{pos p2:Pos}
theorem fX:PO X none DX:=by
 intro pins s σ H Q I h;rw[evalPart_none];exact Xu ⟨none,H,I,.none,h⟩
theorem dv (h:PE X e te):PO X (some e) (JD te):=by
 intro pins s σ H Q I hw;rw[evalPart_some];refine bA (h pins s σ H _ I hw) λu s1 ⟨x,H1,I1,r1,q1⟩=>?_;obtain⟨i,rfl,q⟩:=q1;obtain⟨t,rfl⟩:=r1;exact⟨some i,H1,I1,.int i t,q⟩
def IV (X:Cx)(r:V->Option Int->Option Int->Hp->VK->Prop):Prop :=
 ∀(pins:aad) (s:Shared) (σ:St) (H:Hp) (x:V) (v vl vu:Value) (lo hi:Option Int) (sl:Addr) (Q:VK),Inv X pins σ H s->RelV x v->s.heap.IsSliceOf sl vl vu .none->IsPart vl lo->IsPart vu hi->r x lo hi H Q ->
  ∃T id,typeLookup (.type T) "__getitem__"=pure (some (.builtin id))/\s.TypeIs v T/\wpAny (model X.prog X.w) X.A (getItem v (.ref sl)) (EP X pins σ Q) X.xe s
def Lv (r:V->Option Int->Option Int->Hp->VK->Prop)(te:TE)(tl th:TO):TE:=λσ H Q=>te σ H λx H1=>tl σ H1 λl H2=>th σ H2 λu H3=>r x l u H3 Q
theorem dq {r:V->Option Int->Option Int->Hp->VK->Prop}(hr:IV X r)(he:PE X e te)(hl:PO X lo tl)(hu:PO X hi th):PE X (.Subscript e (.Slice lo hi none p2) pos) (Lv r te tl th):=by
 intro pins s σ H Q I h;refine Subscript_ (bA (he pins s σ H _ I h) λv s1 ⟨x,H1,I1,r1,q1⟩=>?_);refine wpAny_Slice (bA (hl pins s1 σ H1 _ I1 q1) λvl s2 ⟨l,H2,I2,pl,q2⟩=>bA (hu pins s2 σ H2 _ I2 q2) λvu s3 ⟨u,H3,I3,pu,q3⟩=>?_);rw[evalPart_none];refine Xu ?_;have I4:Inv X pins σ H3 {s3 with heap:=s3.heap.push {cls:=.type "slice",data:=.fields #[vl,vu,.none]}}:=I3.kept (t':=s3.toks) λb ob q=>Xq _ q;obtain⟨T,id,hT,ht,hg⟩:=hr pins {s3 with heap:=s3.heap.push {cls:=.type "slice",data:=.fields #[vl,vu,.none]}} σ H3 x v vl vu l u s3.heap.objs.size Q I4 r1 (Heap.IsSliceOf.new ..) pl pu q3;show wpAny (model X.prog X.w) X.A (subscriptTail e (.Slice lo hi none p2) v (.ref s3.heap.objs.size)) (EP X pins σ Q) X.xe {s3 with heap:=s3.heap.push {cls:=.type "slice",data:=.fields #[vl,vu,.none]}};exact tail_any (ops:=[.ref s3.heap.objs.size,v]) ht hT hg (by with_unfolding_all rfl)
def fQ (xs:List V)(lo hi:Option Int):List V:=(xs.drop (HT.b_ xs.length 0 lo)).take (HT.b_ xs.length xs.length hi - HT.b_ xs.length 0 lo)
theorem nO (xs:List V)(lo hi:Option Int):(fQ xs lo hi).length<=xs.length:=by
 unfold fQ;rw[XN,Yh];omega
def Km (K:aaa):V->Option Int->Option Int->Hp->VK->Prop:=λx lo hi H Q=>∃a xs,x=.ref a/\b7 K H a xs /\
 ¬(HT.b_ xs.length 0 lo=0/\HT.b_ xs.length xs.length hi=xs.length)/\∀p,H p=none->Q (.ref p) (upd H p (.tup (fQ xs lo hi)))
theorem Gr:IV X (Km X.K):=by
 intro pins s σ H x v vl vu lo hi sl Q I rx hs pl pu h;obtain⟨a,xs,rfl,hx,hw,q⟩:=h;cases rx;obtain⟨Ly,r,ht,hz⟩:=I.tuple hx;have hlen:Ly.toArray.size=xs.length:=by rw[XJ];exact r.length.symm
 refine⟨"tuple",_,YF.lookup,ht.typeIs,?_⟩;refine HT.mq ht hs pl pu (by rw[hlen];exact hw) ?_ (by rw[hlen];exact hz);rw[hlen];refine⟨.ref s.heap.objs.size,_,I.laid (t':=s.toks) (o:=.tup (fQ xs lo hi)) (λb ob q=>Xq _ q) (Xx _) ?_,rfl,q _ (I.bu.fresh (Xx _))⟩;exact⟨Yb (nO xs lo hi) hz,_,(r.drop (HT.b_ xs.length 0 lo)).take (HT.b_ xs.length xs.length hi - HT.b_ xs.length 0 lo),IsTup.new _ _⟩
def JH (K:aaa):R2:=λx y H Q=>∃a b xs ys,x=.ref a/\y=.ref b/\b7 K H a xs/\b7 K H b ys/\xs≠[]/\xs.length+ys.length<=sizeLine /\
 (ys=[]->Q (.ref a) H)/\(ys≠[]->∀p,H p=none->Q (.ref p) (upd H p (.tup (xs++ys))))
theorem Vals.ou {xs:List V}{us:aae}(r:Vals xs us):us=[]↔xs=[]:=by
 cases r with
 |nil=>simp
 |cons _ _=>simp
theorem D4:jo X (binaryOp .Add) (JH X.K):=by
 intro pins s σ H x y v u Q I rx ry h;obtain⟨a,b,xs,ys,rfl,rfl,ha,hb,hx,hz,q1,q2⟩:=h;cases rx;cases ry;obtain⟨Ly,r1,p1,_⟩:=I.tuple ha;obtain⟨L0,r2,p2,_⟩:=I.tuple hb;refine HT.Dg p1 p2 (λz=>hx (r1.ou.mp z)) (λz=>⟨.ref a,H,I,rfl,q1 (r2.ou.mp z)⟩) (λz=>?_) (by rw[←r1.length,←r2.length];exact hz);refine⟨.ref s.heap.objs.size,_,I.laid (t':=s.toks) (o:=.tup (xs++ys)) (λb ob q=>Xq _ q) (Xx _) ?_,rfl,q2 (λw=>z (r2.ou.mpr w)) _ (I.bu.fresh (Xx _))⟩;exact⟨by rw[XM];exact hz,_,r1.append r2,IsTup.new _ _⟩
end
def EL (n:Nat)(i:Int):Option Nat:=if 0<=i then (if i < n then some i.toNat else none) else if -(n:Int)<=i then some (i+n).toNat else none
def nW {α:Type}(xs:List α)(i:Int):Option α:=(EL xs.length i).bind λj=>xs[j]?
theorem yC {n:Nat}{i:Int}{j:Nat}(h:EL n i=some j):seqIndex? i n=some j/\j < n/\-(n:Int)<=i/\i < n:=by
 unfold EL at h;by_cases h0:0<=i
 · rw[Xp h0] at h;by_cases h1:i < n
   · rw[Xp h1] at h;have e:i.toNat=j:=X2 h;exact⟨by rw[seqIndex_of h0 h1,e],by omega,by omega,h1⟩
   · rw[Xo h1] at h;cases h
 · rw[Xo h0] at h;by_cases h1:-(n:Int)<=i
   · rw[Xp h1] at h;have e:(i+n).toNat=j:=X2 h;exact⟨by rw[seqIndex_neg (by omega) h1,e],by omega,h1,by omega⟩
   · rw[Xo h1] at h;cases h
theorem sP {α:Type}{xs:List α}{i:Int}{v:α}(h:nW xs i=some v):∃j,seqIndex? i xs.length=some j/\xs[j]?=some v/\j < xs.length/\-(xs.length:Int)<=i/\i < xs.length:=by
 unfold nW at h;cases e:EL xs.length i with
 |none=>rw[e] at h;cases h
 |some j =>
  rw[e] at h;obtain⟨h1,h2,h3,h4⟩:=yC e;exact⟨j,h1,h,h2,h3,h4⟩
theorem cw {α:Type}{xs:List α}{j:Nat}{v:α}(h:xs[j]?=some v):nW xs (j:Int)=some v:=by
 have hj:j < xs.length:=(XB.mp h).1;have e:EL xs.length (j:Int)=some j:=by
  unfold EL;rw[Xp (by omega),Xp (by omega)];simp
 unfold nW;rw[e];exact h
def EB (b:Expr):Prop:=∀o i,subscripted b false o i=operate [o,i] (getItem o i)
def JP (X:Cx)(r:R2):Prop :=
 ∀(value slice:Expr) (pins:aad) (s:Shared) (σ:St) (H:Hp) (x y:V) (v u:Value) (Q:VK),Inv X pins σ H s->RelV x v->RelV y u->r x y H Q ->
  subscripted slice false v u=operate [v,u] (getItem v u)->wpAny (model X.prog X.w) X.A (subscriptTail value slice v u) (EP X pins σ Q) X.xe s
def B2 (X:Cx)(id:String)(r:V->List V->Hp->VK->Prop):Prop :=
 ∀(pins:aad) (s:Shared) (σ:St) (H:Hp) (x:V) (xs:List V) (v:Value) (us:aae) (Q:VK),Inv X pins σ H s->RelV x v->Vals xs us->r x xs H Q ->
  wpAny (model X.prog X.w) X.A (call (.builtin id) (v::us)) (EP X pins σ Q) X.xe s
section
variable {X:Cx}{a b:Expr}{ta tb:TE}{pos:Pos}
theorem bo {r:R2} (hr:JP X r) (ha:PE X a ta) (hb:PE X b tb) (hs:EB b):PE X (.Subscript a b pos) (kI r ta tb):=by
 intro pins s σ H Q I h;exact Subscript_ (Gg ha hb I h λv u s2 x y H2 I2 rx ry q=>hr a b pins s2 σ H2 x y v u Q I2 rx ry q (hs _ _))
def zm (K:aaa):R2:=λx y H Q=>∃p xs i v,x=.ref p/\y=.int i/\aQ K H p xs/\nW xs i=some v/\Q v H
def Jz (K:aaa):R2:=λx y H Q=>∃p xs i v,x=.ref p/\y=.int i/\b7 K H p xs/\nW xs i=some v/\Q v H
def Jt:R2:=λx y H Q=>∃z i c,x=.str z/\y=.int i/\z.length<=sizeLine/\nW z.cps.toList i=some c/\Q (.str ⟨#[c]⟩) H
theorem aL:JP X (zm X.K):=by
 intro value slice pins s σ H x y v u Q I rx ry h hs;obtain⟨p,xs,i,z,rfl,rfl,hq,he,q⟩:=h;cases rx;obtain⟨t,rfl⟩:=ry;obtain⟨Ly,r,pl,hz⟩:=I.list hq;obtain⟨j,h1,h2,h3,h4,h5⟩:=sP he;obtain⟨w,ew,NH⟩:=r.get h2;have hl:=r.length;have hn:=k8;have fin:EP X pins σ Q w s:=⟨z,H,I,NH,q⟩;by_cases h0:0<=i
 · have hj:i.toNat=j:=by
    rw[seqIndex_of h0 h5] at h1;exact X2 h1
   exact item_listR pl.isList h0 (by omega) (by rw[hj];simpa using ew) fin hs
 · have hj:(i+(Ly.toArray.size:Int)).toNat=j:=by
    rw[seqIndex_neg (by omega) h4] at h1;rw[XJ,←hl];exact X2 h1
   exact subscriptTail_builtinR (x:=w) pl.isList.typeIs slot_list_getitem.lookup
    (wpAny_getItem_list_neg (Q:=λr s'=>r=w/\EP X pins σ Q r s') pl.isList (by omega) (by rw[XJ] <;> omega) (by omega) (by rw[hj];simpa using ew) ⟨rfl,fin⟩) hs
theorem Cf:JP X (Jz X.K):=by
 intro value slice pins s σ H x y v u Q I rx ry h hs;obtain⟨p,xs,i,z,rfl,rfl,hq,he,q⟩:=h;cases rx;obtain⟨t,rfl⟩:=ry;obtain⟨Ly,r,pl,hz⟩:=I.tuple hq;obtain⟨j,h1,h2,h3,h4,h5⟩:=sP he;obtain⟨w,ew,NH⟩:=r.get h2;have hl:=r.length;have hn:=k8;have fin:EP X pins σ Q w s:=⟨z,H,I,NH,q⟩;exact subscriptTail_builtinR (x:=w) pl.typeIs slot_tuple_getitem.lookup
  (getItem_tuple (j:=j) (Q:=λr s'=>r=w/\EP X pins σ Q r s') pl (by omega) (by omega) (by rw[XJ,←hl];exact h1) (by simpa using ew) ⟨rfl,fin⟩) hs
theorem sL:JP X Jt:=by
 intro value slice pins s σ H x y v u Q I rx ry h hs;obtain⟨z,i,c,rfl,rfl,hz,he,q⟩:=h;obtain⟨t,rfl⟩:=rx;obtain⟨t',rfl⟩:=ry;obtain⟨j,h1,h2,h3,h4,h5⟩:=sP he;have hl:z.cps.toList.length=z.length:=by simp[Str.length]
 rw[hl] at h1 h4 h5;have hn:=k8;exact tail_any (ZQ s z t) slot_str_getitem.lookup (getItem_str (c:=c) (by
  have e1:decide (i < -(2 ^ 63:Int))=false:=Yc (by omega);have e2:decide (i ≥ 2 ^ 63)=false:=Yc (by omega);rw[e1,e2,ZD]) (by rw[h1];simpa using h2) ⟨.str ⟨#[c]⟩,H,I.tok _,⟨_,rfl⟩,q⟩) hs
theorem xc (Ly:aae)(n j:Nat)(u:Value):Obj.mapSeq (·.setIfInBounds j u) {cls:=.type "list",data:=.seq Ly.toArray n}={cls:=.type "list",data:=.seq (Ly.set j u).toArray n}:=by
 simp[Obj.mapSeq]
theorem Inv.lst {pins:aad}{σ:St}{H:Hp}{s:Shared}{p:Addr}{xs:List V}(I:Inv X pins σ H s)(h:H p=some (.lst xs)) :
  ∃(Ly:aae) (n:Nat),Vals xs Ly/\s.heap.get? p=some {cls:=.type "list",data:=.seq Ly.toArray n}/\xs.length<=sizeLine:=by
 obtain⟨z,Ly,n,r,e⟩:=I.bu p _ h;exact⟨Ly,n,r,e,z⟩
theorem Inv.F7 {pins:aad}{σ:St}{H:Hp}{s:Shared}{p:Addr}{xs ys:List V}{Ly its':aae}{n n':Nat}{f:Obj->Obj}(I:Inv X pins σ H s)(h:H p=some (.lst xs))
  (ho:s.heap.get? p=some {cls:=.type "list",data:=.seq Ly.toArray n})(hf:f {cls:=.type "list",data:=.seq Ly.toArray n}={cls:=.type "list",data:=.seq its'.toArray n'})(r:Vals ys its')(hz:ys.length<=sizeLine)(t:Nat) :
  Inv X pins σ (upd H p (.lst ys)) {s with heap:=s.heap.update p f,toks:=t}:=by
 have e:(s.heap.update p f).get? p=some {cls:=.type "list",data:=.seq its'.toArray n'}:=by
  rw[Yo f ho (by rw[hf] <;> rfl),hf]
 refine I.write (x:=p) (e:=p) (by rw[h];trivial) (.inl rfl) (λb u hb q=>(Zk _ _ (Z2 hb)).trans q) ⟨_,e⟩ ?_;exact⟨hz,its',n',r,e⟩
def Ji:V->V->V->Hp->(Hp->Prop)->Prop:=λo i v H Q=>∃p xs k j,o=.ref p/\i=.int k/\H p=some (.lst xs)/\EL xs.length k=some j/\Q (upd H p (.lst (xs.set j v)))
theorem set_list:Jg X Ji:=by
 intro pins s σ H o i v ov iv u Q I ro ri rv h;obtain⟨p,xs,k,j,rfl,rfl,hp,hj,q⟩:=h;cases ro;obtain⟨t,rfl⟩:=ri;obtain⟨Ly,n,r,ho,hz⟩:=I.lst hp;obtain⟨h1,h2,h3,h4⟩:=yC hj;have hl:=r.length;have hn:=k8;have I':Inv X pins σ (upd H p (.lst (xs.set j v))) {s with heap:=s.heap.update p (Obj.mapSeq (·.setIfInBounds j u))} :=
  I.F7 hp ho (xc Ly n j u) (r.set rv j) (by rw[List.length_set];exact hz) s.toks
 by_cases h0:0<=k
 · have hk:k.toNat=j:=by
    rw[seqIndex_of h0 h4] at h1;exact X2 h1
   exact PySem.W.ki_setAt ho h0 (by omega) (by rw[XJ,←hl];exact h4) (by rw[hk];exact⟨_,I',q⟩)
 · have hk:(k+(Ly.toArray.size:Int)).toNat=j:=by
    rw[seqIndex_neg (by omega) h3] at h1;rw[XJ,←hl];exact X2 h1
   exact PySem.W.ki_setBack ho (by omega) (by rw[XJ,←hl];exact h3) (by omega) (by rw[hk];exact⟨_,I',q⟩)
theorem tw (lo hi:Option Int)(n:Nat):(sliceBounds lo hi none n).1=((HT.b_ n 0 lo:Nat):Int)/\(sliceBounds lo hi none n).2.1=((HT.b_ n n hi:Nat):Int)/\(sliceBounds lo hi none n).2.2=1:=by
 refine⟨?_,?_,rfl⟩
 · cases lo with
   |none=>simp[sliceBounds,HT.b_]
   |some i =>
    simp only[sliceBounds,HT.b_,Option.getD_none,show (1:Int) > 0 by decide,Y8];by_cases h:i < 0
    · simp only[h,Y8] <;> omega
    · simp only[h,Zm] <;> omega
 · cases hi with
   |none=>simp[sliceBounds,HT.b_]
   |some i =>
    simp only[sliceBounds,HT.b_,Option.getD_none,show (1:Int) > 0 by decide,Y8];by_cases h:i < 0
    · simp only[h,Y8] <;> omega
    · simp only[h,Zm] <;> omega
theorem qQ (Ly:aae)(lo hi:Option Int):slicePick Ly.toArray lo hi none=((Ly.drop (HT.b_ Ly.length 0 lo)).take (HT.b_ Ly.length Ly.length hi - HT.b_ Ly.length 0 lo)).toArray:=by
 obtain⟨h1,h2,h3⟩:=tw lo hi Ly.toArray.size;unfold slicePick;rw[h1,h2,h3];simp only[sliceRange_one,pick_run,XJ] <;> rfl
def KU (K:aaa):V->Option Int->Option Int->Hp->VK->Prop:=λx lo hi H Q=>∃a xs,x=.ref a/\aQ K H a xs/\∀p,H p=none->Q (.ref p) (upd H p (.lst (fQ xs lo hi)))
theorem fW:IV X (KU X.K):=by
 intro pins s σ H x v vl vu lo hi sl Q I rx hs pl pu h;obtain⟨a,xs,rfl,hx,q⟩:=h;cases rx;obtain⟨Ly,r,ht,hz⟩:=I.list hx;have hlen:=r.length;refine⟨"list",_,slot_list_getitem.lookup,ht.isList.typeIs,?_⟩;refine wpAny_getItem_list_slice ht.isList hs pl pu .none (by simp) ?_ (by rw[XJ] <;> omega);rw[qQ,←hlen];refine⟨.ref s.heap.objs.size,_,I.laid (t':=s.toks) (o:=.lst (fQ xs lo hi)) (λb ob q=>Xq _ q) (Xx _) ?_,rfl,q _ (I.bu.fresh (Xx _))⟩;exact⟨Yb (nO xs lo hi) hz,_,0,(r.drop (HT.b_ xs.length 0 lo)).take (HT.b_ xs.length xs.length hi - HT.b_ xs.length 0 lo),XD _ rfl⟩
def dJ:V->Bool
 |.cf=>true
 |.bl _=>true
 |.int _=>true
 |.str _=>true
 |_=>false
def sE:V->V->Bool
 |.cf,.cf=>true
 |.bl a,.bl b=>a==b
 |.bl a,.int b=>(if a then 1 else 0)==b
 |.int a,.bl b=>a==(if b then 1 else 0)
 |.int a,.int b=>a==b
 |.str a,.str b=>a==b
 |_,_=>false
theorem HF {A:Around}{s:Shared}{y x:V}{u v:Value}(ry:RelV y u)(rx:RelV x v)(fy:dJ y=true)(fx:dJ x=true):SeqAt.EqAt A s u v (sE y x):=by
 cases y with
 |cf =>
  cases ry;cases x with
  |cf=>cases rx;exact SeqAt.EqAt.same _
  |bl b=>cases rx;exact SeqAt.EqAt.none_bool b
  |int b=>obtain⟨t,rfl⟩:=rx;exact SeqAt.EqAt.none_int b t
  |str b=>obtain⟨t,rfl⟩:=rx;exact SeqAt.EqAt.none_str b t
  |_=>exact absurd (show false=true from fx) XO
 |bl a =>
  cases ry;cases x with
  |cf=>cases rx;exact SeqAt.EqAt.bool_none a
  |bl b=>cases rx;exact SeqAt.EqAt.bool_bool a b
  |int b=>obtain⟨t,rfl⟩:=rx;exact SeqAt.EqAt.bool_int a b t
  |str b=>obtain⟨t,rfl⟩:=rx;exact SeqAt.EqAt.bool_str a b t
  |_=>exact absurd (show false=true from fx) XO
 |int a =>
  obtain⟨t',rfl⟩:=ry;cases x with
  |cf=>cases rx;exact SeqAt.EqAt.int_none a t'
  |bl b=>cases rx;exact SeqAt.EqAt.int_bool a t' b
  |int b=>obtain⟨t,rfl⟩:=rx;exact SeqAt.EqAt.int_int a t' b t
  |str b=>obtain⟨t,rfl⟩:=rx;exact SeqAt.EqAt.int_str a t' b t
  |_=>exact absurd (show false=true from fx) XO
 |str a =>
  obtain⟨t',rfl⟩:=ry;cases x with
  |cf=>cases rx;exact SeqAt.EqAt.str_none a t'
  |bl b=>cases rx;exact SeqAt.EqAt.str_bool a t' b
  |int b=>obtain⟨t,rfl⟩:=rx;exact SeqAt.EqAt.str_int a t' b t
  |str b=>obtain⟨t,rfl⟩:=rx;exact SeqAt.EqAt.str_str a t' b t
  |_=>exact absurd (show false=true from fx) XO
 |_=>exact absurd (show false=true from fy) XO
def vX (x:V)(u:Value):Bool:=match u with
 |.none=>sE .cf x
 |.bool b=>sE (.bl b) x
 |.int i _=>sE (.int i) x
 |.str z _=>sE (.str z) x
 |_=>false
theorem k9 {x y:V}{u:Value}(r:RelV y u)(f:dJ y=true):vX x u=sE y x:=by
 cases y with
 |cf=>cases r;rfl
 |bl b=>cases r;rfl
 |int i=>obtain⟨t,rfl⟩:=r;rfl
 |str z=>obtain⟨t,rfl⟩:=r;rfl
 |_=>exact absurd (show false=true from f) XO
theorem lT {x:V}:∀{xs:List V} {us:aae},Vals xs us->xs.all dJ=true->us.any (vX x)=xs.any λy=>sE y x
 |_,_,.nil,_=>rfl
 |y::xs,u::us,.cons r t,f=>by
  rw[ZC,Xv] at f;rw[YX,YX,k9 r f.1,lT t f.2]
theorem gD {A:Around}{s:Shared}{x:V}{v:Value}(rx:RelV x v)(fx:dJ x=true):∀{xs:List V} {us:aae},Vals xs us->xs.all dJ=true->∀u∈us,SeqAt.EqAt A s u v (vX x u)
 |_,_,.nil,_=>λu hu=>by cases hu
 |y::xs,u::us,.cons r t,f=>λu' hu=>by
  rw[ZC,Xv] at f;rcases Xr.mp hu with rfl|hu
  · rw[k9 r f.1];exact HF r rx f.1 fx
  · exact gD rx fx t f.2 u' hu
def oh (x:V)(xs:List V):Bool:=xs.any λy=>sE y x
def G2 (K:aaa)(neg:Bool):R2:=λx y H Q=>∃p xs,y=.ref p/\(aQ K H p xs∨b7 K H p xs)/\dJ x=true/\xs.all dJ=true/\Q (.bl (if neg then !oh x xs else oh x xs)) H
theorem gd:jo X (compareOp .In) (G2 X.K false):=by
 intro pins s σ H x y v u Q I rx ry h;obtain⟨p,xs,rfl,hq,fx,fs,q⟩:=h;cases ry;rcases hq with hq|hq
 · obtain⟨Ly,r,pl,hz⟩:=I.list hq;refine SeqAt.in_listAt (vX x) pl.isList (λw hw=>gD rx fx r fs w (by simpa using hw)) ⟨.bl _,H,I,rfl,?_⟩;rw[show Ly.toArray.any (vX x)=Ly.any (vX x) by simp,lT r fs];exact q
 · obtain⟨Ly,r,pl,hz⟩:=I.tuple hq;refine SeqAt.in_tupleAt (vX x) pl (λw hw=>gD rx fx r fs w (by simpa using hw)) ⟨.bl _,H,I,rfl,?_⟩;rw[show Ly.toArray.any (vX x)=Ly.any (vX x) by simp,lT r fs];exact q
theorem eQ:jo X (compareOp .NotIn) (G2 X.K true):=by
 intro pins s σ H x y v u Q I rx ry h;obtain⟨p,xs,rfl,hq,fx,fs,q⟩:=h;cases ry;rcases hq with hq|hq
 · obtain⟨Ly,r,pl,hz⟩:=I.list hq;refine SeqAt.notIn_listAt (vX x) pl.isList (λw hw=>gD rx fx r fs w (by simpa using hw)) ⟨.bl _,H,I,rfl,?_⟩;rw[show Ly.toArray.any (vX x)=Ly.any (vX x) by simp,lT r fs];exact q
 · obtain⟨Ly,r,pl,hz⟩:=I.tuple hq;refine SeqAt.notIn_tupleAt (vX x) pl (λw hw=>gD rx fx r fs w (by simpa using hw)) ⟨.bl _,H,I,rfl,?_⟩;rw[show Ly.toArray.any (vX x)=Ly.any (vX x) by simp,lT r fs];exact q
theorem uA:iz X (.builtin "len") (λxs H Q=>∃p ys,xs=[.ref p]/\(aQ X.K H p ys∨b7 X.K H p ys)/\Q (.int ys.length) H):=by
 intro pins s σ H xs us Q I r h;obtain⟨p,ys,rfl,hq,q⟩:=h;obtain⟨u,rfl,rx⟩:=vals1 r;cases rx;have hn:=k8;rcases hq with hq|hq
 · obtain⟨Ly,r',pl,hz⟩:=I.list hq;have hlen:=r'.length;exact Calls.call_len_list pl.isList (by simp only[XJ] <;> omega) ⟨.int ys.length,H,I.tok _,⟨s.toks+1,by rw[XJ,hlen]⟩,q⟩
 · obtain⟨Ly,r',pl,hz⟩:=I.tuple hq;have hlen:=r'.length;exact len_tuple pl (by simp only[XJ] <;> omega) ⟨.int ys.length,H,I.tok _,⟨s.toks+1,by rw[XJ,hlen]⟩,q⟩
theorem fO:iz X (.builtin "len") (λxs H Q=>∃z,xs=[.str z]/\z.length<=sizeLine/\Q (.int z.length) H):=by
 intro pins s σ H xs us Q I r h;obtain⟨z,rfl,hz,q⟩:=h;obtain⟨u,rfl,t,rfl⟩:=vals1 r;have hn:=k8;exact len_str (by omega) ⟨.int z.length,H,I.tok _,⟨_,rfl⟩,q⟩
theorem qR:iz X (.type "tuple") (λxs H Q=>∃p ys,xs=[.ref p]/\((aQ X.K H p ys/\∀l,H l=none->Q (.ref l) (upd H l (.tup ys)))∨(b7 X.K H p ys/\Q (.ref p) H))):=by
 intro pins s σ H xs us Q I r h;obtain⟨p,ys,rfl,h⟩:=h;obtain⟨u,rfl,rx⟩:=vals1 r;cases rx;rcases h with ⟨hq,q⟩|⟨hq,q⟩
 · obtain⟨Ly,r',pl,hz⟩:=I.list hq;have hlen:=r'.length;refine call_tuple_list pl.isList (λh' kp=>?_) (by simp only[XJ] <;> omega);have I1:Inv X pins σ H {s with heap:=h'}:=I.kept (t':=s.toks) kp;have I2:Inv X pins σ (upd H h'.objs.size (.tup ys)) {s with heap:=h'.push {cls:=.type "tuple",data:=.seq Ly.toArray}} :=
    I1.laid (t':=s.toks) (λb o e=>Xq _ e) (Xx _) (show bK X.prog X.w _ _ _ (.tup ys) from ⟨hz,Ly,r',IsTup.new _ _⟩)
   exact⟨.ref h'.objs.size,_,I2,rfl,q _ (I1.bu.fresh (Xx _))⟩
 · obtain⟨Ly,r',pl,hz⟩:=I.tuple hq;exact call_tuple_same pl ⟨.ref p,H,I,rfl,q⟩
def KZ (K:aaa)(T:String)(x:V)(H:Hp):Prop:=match x with
 |.str _=>T="str"
 |.int _=>T="int"
 |.ref p=>(T="list"/\∃xs,aQ K H p xs)∨(T="tuple"/\∃o,K.lookup p=some o/\o.cls=.type "tuple"/\o.dict=none) ∨
   (T="dict"/\((∃Lx,H p=some (.dK Lx))∨∃Lx,H p=some (.dT Lx)))∨(T="set"/\∃S n,H p=some (.set S n))
 |_=>False
theorem HU {pins:aad}{σ:St}{H:Hp}{s:Shared}{T:String}{x:V}{v:Value}(I:Inv X pins σ H s)(r:RelV x v)(ty:KZ X.K T x H) :
  s.TypeIs v T/\∀a,v=.ref a->∃ob,s.heap.get? a=some ob/\ob.dict=none:=by
 cases x with
 |str z =>
  obtain⟨t,rfl⟩:=r;cases (show T="str" from ty);exact⟨ZQ s z t,λ_ e=>nomatch e⟩
 |int i =>
  obtain⟨t,rfl⟩:=r;cases (show T="int" from ty);exact⟨typeIs_int s i t,λ_ e=>nomatch e⟩
 |ref p =>
  cases r;rcases ty with ⟨rfl,xs,hq⟩|⟨rfl,o,hk,hc,hd⟩|⟨rfl,hk⟩|⟨rfl,S,n,hk⟩
  · obtain⟨Ly,_,pl,_⟩:=I.list hq;refine⟨pl.isList.typeIs,λa e=>?_⟩;cases e;obtain⟨o,n,e,c,hd,_⟩:=pl;exact⟨o,e,hd⟩
  · refine⟨⟨o,I.m7 p o hk,hc⟩,λa e=>?_⟩;cases e;exact⟨o,I.m7 _ o hk,hd⟩
  · have z:∃o,s.heap.get? p=some o/\o.ExactDict:=by
     rcases hk with ⟨Lx,hk⟩|⟨Lx,hk⟩
     · obtain⟨_,_,_,_,o,_,_,e,ex,_⟩:=I.bu p _ hk;exact⟨o,e,ex⟩
     · obtain⟨_,_,_,_,o,_,_,e,ex,_⟩:=I.bu p _ hk;exact⟨o,e,ex⟩
    obtain⟨o,e,ex⟩:=z;refine⟨⟨o,e,ex.1⟩,λa e2=>?_⟩;cases e2;exact⟨o,e,ex.2.1⟩
  · obtain⟨o,_,_,_,e,ex,_⟩:=I.bu p _ hk;refine⟨⟨o,e,ex.1⟩,λa e2=>?_⟩;cases e2;exact⟨o,e,ex.2.1⟩
 |_=>exact False.elim ty
def Lu (K:aaa)(T:String)(r:V->List V->Hp->VK->Prop)(to:TE)(t:TA):TE:=λσ H Q=>to σ H λx H1=>KZ K T x H1/\t σ H1 λxs H2=>r x xs H2 Q
variable {o e:Expr}{es:List Expr}{to:TE}{t:TA}{name:Str}{apos LD:Pos}{T id:String}{r:V->List V->Hp->VK->Prop}
theorem qA (pa:PlainAttrs T) (slot:Slot T name id) (N5:typeOf (.builtin id)=pure (.type "method_descriptor")) (hm:B2 X id r) (ho:PE X o to) (ha:PA X (e::es) t)
  (LM:attributeBase o name X.env (eval o X.env)=eval o X.env:=by rfl)
  (QP:((backTo LD (starEach (e::es) X.env)).all (λx=>!x.1)&&(backToKw LD (keywordEach [] X.env)).all (λx=>x.1.isSome)
   && decide ((e::es).length+([]:List Keyword).length+(if ([]:List Keyword).isEmpty then 0 else 1) < 30))=true:=by rfl)
  (LN:(apos.endLine==LD.line)=true:=by rfl) (hs:starEach (e::es) X.env=(false,eval e X.env)::starEach es X.env:=by rfl) (NI:(backTo LD (starEach es X.env)).any (·.1)=false:=by rfl) :
  PE X (.Call (.Attribute o name apos) (e::es) [] LD) (Lu X.K T r to t):=by
 intro pins s σ H Q I h;refine wpAny_Call_method_late LM QP LN rfl (bA (ho pins s σ H _ I h) λv s1 ⟨x,H1,I1,r1,ty,q1⟩=>?_);obtain⟨h1,h2⟩:=HU I1 r1 ty;refine⟨T,id,pa,slot,N5,h1,h2,?_⟩;have hA:=ha LD pins s1 σ H1 _ I1 q1;rw[hs] at hA ⊢;refine ZO (by show (false||(backTo LD (starEach es X.env)).any (·.1))=false;rw[NI] <;> rfl) (Calls.evalArgs_plain ?_);exact bA hA λus s2 ⟨vs,H2,I2,r2,q2⟩=>hm pins s2 σ H2 x vs v us Q I2 r1 r2 q2
end
def K4 (X:Cx)(id:String)(r:V->List V->Hp->VK->Prop):Prop :=
 ∀(pins:aad) (s:Shared) (σ:St) (H:Hp) (x:V) (xs:List V) (v:Value) (us:aae) (Q:VK),Inv X pins σ H s->RelV x v->Vals xs us->r x xs H Q ->
  wpAny (model X.prog X.w) X.A (call (.builtin id) (v::us)) (EP X pins σ Q) X.xe s
theorem Vals.one:∀{x:V} {us:aae},Vals [x] us->∃u,us=[u]/\RelV x u
 |_,_,.cons r .nil=>⟨_,rfl,r⟩
section
variable {X:Cx}{pins:aad}{σ:St}{H:Hp}{s:Shared}{l b:Addr}{xs ys zs:List V}
theorem Inv.Kg {Ly its':aae} {n:Nat} {f:Array Value->Array Value} {t':Nat} (I:Inv X pins σ H s) (hH:H l=some (.lst xs))
  (e:s.heap.get? l=some {cls:=.type "list",data:=.seq Ly.toArray n}) (hf:f Ly.toArray=its'.toArray) (hv:Vals ys its') (hz:ys.length<=sizeLine) :
  Inv X pins σ (upd H l (.lst ys)) {s with heap:=s.heap.update l (Obj.mapSeq f),toks:=t'}:=by
 have q:=PySem.IsL.update e f;rw[hf] at q;refine I.write (x:=l) (e:=l) (by rw[hH];exact trivial) (.inl rfl) (λb' u hb hu=>(Zk s.heap (Obj.mapSeq f) (Z2 hb)).trans hu) ⟨_,q⟩ ?_;exact⟨hz,its',_,hv,q⟩
theorem Inv.Kb {Ly:aae}{t':Nat}(I:Inv X pins σ H s)(hv:Vals ys Ly)(hz:ys.length<=sizeLine) :
  Inv X pins σ (upd H s.heap.objs.size (.lst ys)) {s with heap:=s.heap.push {cls:=.type "list",data:=.seq Ly.toArray},toks:=t'} :=
 I.laid (λ_ _ q=>Xq _ q) (Xx _) ⟨hz,Ly,0,hv,XD _ rfl⟩
theorem Inv.fresh (I:Inv X pins σ H s):H s.heap.objs.size=none:=I.bu.fresh (Xx _)
theorem Inv.Hi (I:Inv X pins σ H s)(hH:H l=some (.lst xs)):xs.length<=sizeLine/\∃(Ly:aae) (n:Nat),Vals xs Ly/\xs.length=Ly.length/\s.heap.get? l=some {cls:=.type "list",data:=.seq Ly.toArray n}:=by
 obtain⟨z,Ly,n,r,e⟩:=I.bu l _ hH;exact⟨z,Ly,n,r,r.length,e⟩
end
section
variable {X:Cx}
def DU:V->List V->Hp->VK->Prop:=λx vs H Q=>∃l xs y,x=.ref l/\vs=[y]/\H l=some (.lst xs)/\xs.length < sizeLine/\Q .cf (upd H l (.lst (xs++[y])))
theorem ic:K4 X "list.append" DU:=by
 intro pins s σ H x vs v us Q I rx rv h;obtain⟨l,xs,y,rfl,rfl,hH,hz,q⟩:=h;cases rx;obtain⟨u,rfl,ru⟩:=rv.one;obtain⟨z,Ly,n,r,hl,e⟩:=I.Hi hH;refine call_meets F.slot_list_append ⟨_,e,rfl⟩ F.entry_list_append (F.args_list_append_2 _ _) (PySem.list_append l Ly.toArray n u (by rw[XJ];omega)) ⟨e,?_⟩;refine⟨.cf,_,I.Kg (its':=Ly++[u]) hH e (by simp) (r.append (.cons ru .nil)) ?_,rfl,q⟩;rw[XM,YC];omega
def Kd:R2:=λx y H Q=>∃l b xs zs,x=.ref l/\y=.ref b/\H l=some (.lst xs)/\H b=some (.lst zs)/\xs.length+zs.length<=sizeLine/\∀p,H p=none->Q (.ref p) (upd H p (.lst (xs++zs)))
theorem yc:jo X (binaryOp .Add) Kd:=by
 intro pins s σ H x y v u Q I rx ry h;obtain⟨l,b,xs,zs,rfl,rfl,hH,hB,hz,q⟩:=h;cases rx;cases ry;obtain⟨z,Ly,n,r,hl,e⟩:=I.Hi hH;obtain⟨z2,L0,n2,r2,UW,e2⟩:=I.Hi hB;refine PySem.P.add_list e e2 ?_ (by rw[XJ,XJ];omega);have ea:Ly.toArray++L0.toArray=(Ly++L0).toArray:=by simp
 rw[ea];exact⟨.ref _,_,I.Kb (t':=s.toks) (r.append r2) (by rw[XM];omega),rfl,q _ I.fresh⟩
end
section
variable {prog:Program}{w:World}{A:Around}{E:aab}{s:Shared}
end
section
variable {X:Cx}
end
theorem Vals.ints:∀{ns:List Int} {us:aae},Vals (ns.map V.int) us->IntsAre us ns
 |[],us,h=>by
  rw[YN] at h;cases h;exact IntsAre.nil
 |n::ns,us,h=>by
  rw[XE] at h;cases h with
  |cons r t =>
   obtain⟨k,rfl⟩:=r;exact IntsAre.cons n k (Vals.ints t)
theorem lJ:∀{us:aae} {ns:List Int},IntsAre us ns->Vals (ns.map V.int) us
 |_,_,.nil=>by rw[YN];exact Paired.nil
 |_,_,.cons n t h=>by rw[XE];exact Paired.cons (show RelV (V.int n) (Value.int n t) from ⟨t,rfl⟩) (lJ h)
theorem Vals.Kj:∀{bs:List Bool} {us:aae},Vals (bs.map V.bl) us->us=bs.map Value.bool
 |[],us,h=>by
  rw[YN] at h;cases h;rfl
 |b::bs,us,h=>by
  rw[XE] at h;cases h with
  |cons r t =>
   cases r;rw[Vals.Kj t,XE]
theorem Vals.we {a:Addr}{us:aae}(r:Vals [V.ref a] us):us=[Value.ref a]:=by
 cases r with
 |cons r t =>
  cases t;cases r;rfl
section
variable {prog:Program}{w:World}{A:Around}{E:aab}{s:Shared}{l:Addr}{Ly:aae}{ns:List Int}{Q:aab}
theorem Ed (hh:A.handled=none) (hl:s.heap.IsList l Ly.toArray) (hi:IntsAre Ly ns)
  (h:∀h' tk t',(∀b o,s.heap.get? b=some o->h'.get? b=some o)->Q (.int ns.sum t') {s with heap:=h',toks:=tk}):wpAny (model prog w) A (call (.builtin "sum") [.ref l]) Q E s:=by
 obtain⟨xs,e⟩:=hi.allInts.items;have hn:numsOf (intItems xs).toList=ns:=by rw[←e];exact hi.numsOf
 rw[nums_intItems] at hn;rw[e] at hl;refine PySem.sum_intListG hh hl λh' tk t' hk=>?_;have:=h h' tk t' hk;rw[preSum_eq,Yl (by simp),hn];exact this
end
section
variable {X:Cx}
def I_ (K:aaa):List V->Hp->VK->Prop:=λvs H Q=>∃(a:Addr) (ns:List Int),vs=[V.ref a]/\aQ K H a (ns.map V.int)/\Q (.int ns.sum) H
theorem xr (hc:X.calm=true):iz X (.builtin "sum") (I_ X.K):=by
 intro pins s σ H vs us Q I r h;obtain⟨a,ns,rfl,hs,q⟩:=h;obtain⟨Ly,rv,hl,_⟩:=I.list hs;rw[Vals.we r];exact Ed (I.ok.hd hc) hl.isList rv.ints λh' tk t' hk=>⟨.int _,H,I.kept hk,⟨_,rfl⟩,q⟩
theorem yh {n:Nat}(h:n < 64):n<=sizeLine:=by rw[XS];omega
end
section
variable {X:Cx}
def HI (K:aaa):V->List V->Hp->VK->Prop:=λx xs H Q=>∃(a:Addr) (ys:List V) (y:V) (j:Nat) (z:V),x=V.ref a/\xs=[y]/\aQ K H a ys/\dJ y=true/\ys.all dJ=true/\ys[j]?=some z/\sE z y=true /\
 (∀(m:Nat) (z':V),m < j->ys[m]?=some z'->sE z' y=false)/\Q (.int (j:Nat)) H
theorem yT {ys:List V}(f:ys.all dJ=true){j:Nat}{z:V}(h:ys[j]?=some z):dJ z=true:=XU.mp f z (XT h)
theorem Cv:B2 X "list.index" (HI X.K):=by
 intro pins s σ H x xs v us Q I rx QQ h;obtain⟨a,ys,y,j,z,rfl,rfl,hs,fy,Nd,hz,U6,MP,q⟩:=h;cases rx;cases QQ with
 |cons ry rt =>
  rename_i uy ut;cases rt;obtain⟨Ly,rv,⟨⟨cls,dd,data,sl⟩,n,ho,hc,PH,hd⟩,hlen⟩:=I.list hs;simp only at hc hd;subst hc hd;obtain⟨u,hu,ru⟩:=rv.get hz;obtain⟨N6,U7⟩:=XB.mp hu;have hvl:=rv.length;have hj:j < Ly.toArray.size:=by simpa using N6
  have NJ:=XS;refine call_meets PySem.F.slot_list_index ⟨_,ho,rfl⟩ PySem.F.entry_list_index (PySem.F.args_list_index_2 _ _)
   (SeqAt.list_indexAt a Ly.toArray n dd sl uy (vX y) j hj (by omega) ?_ ?_) ⟨ho,λu' QR=>gD ry fy rv Nd u' (by simpa using QR),?_⟩
  · have e1:Ly.toArray[j]=u:=by simpa using U7
    rw[e1,k9 ru (yT Nd hz)];exact U6
  · intro m hm U8;have Nf:m < Ly.length:=by simpa using hm
    have U9:m < ys.length:=by omega
    have Ng:ys[m]?=some ys[m]:=Xy U9;obtain⟨u2,QS,QT⟩:=rv.get Ng;obtain⟨_,U_⟩:=XB.mp QS;have e1:Ly.toArray[m]=u2:=by simpa using U_
    rw[e1,k9 QT (yT Nd Ng)];exact MP m _ U8 Ng
  · exact⟨.int (j:Nat),H,I.tok _,⟨_,rfl⟩,q⟩
end
section
variable {X:Cx}
end
theorem vy {prog:Program}{w:World}{A:Around}{E:aab}{s:Shared}{l:Addr}{items:Array Value}{Q:aab}(hl:s.heap.IsList l items)
  (h:∀s₂:Shared,s₂={s with heap:=s.heap.push {cls:=.type "list_iterator",data:=.fields #[.ref l,.int 0 0]}} ->
   (s₂.heap.IsListIter s.heap.objs.size l 0/\s₂.heap.IsList l items)->l≠s.heap.objs.size->Q (.ref s.heap.objs.size) s₂):wpAny (model prog w) A (pyIter (.ref l)) Q E s:=by
 have LC:l < s.heap.objs.size:=by obtain⟨_,e,_⟩:=hl;exact XA e
 exact wpAny_pyIter_list hl (h _ rfl ⟨⟨_,XD _ rfl,rfl,rfl⟩,hl.push _⟩ (X1 LC))
theorem nU {prog:Program}{w:World}{A:Around}{bs:List Bool}{Ly:aae}(e:Ly=bs.map Value.bool) :
  TruthOf prog w A (λi v=>Ly.toArray[i]?=some v) (λi=>bs.getD i false):=λi v s Q E hv hq=>by
 have PB:Ly[i]?=some v:=by simpa using hv
 rw[e,Xs] at PB;obtain⟨b,hb,rfl⟩:=X0.mp PB;have hg:bs.getD i false=b:=by rw[X7,hb] <;> rfl
 have MO:Q (bs.getD i false) s:=hq;rw[hg] at MO;exact YD MO
theorem any_range:∀bs:List Bool,(List.range bs.length).any (λi=>bs.getD i false)=bs.any id
 |[]=>rfl
 |b::bs=>by
  rw[Xz,List.range_succ_eq_map,YX,ZM,YX,←any_range bs]
  all_goals rfl
theorem all_range:∀bs:List Bool,(List.range bs.length).all (λi=>bs.getD i false)=bs.all id
 |[]=>rfl
 |b::bs=>by
  rw[Xz,List.range_succ_eq_map,ZC,Zw,ZC,←all_range bs]
  all_goals rfl
section
variable {X:Cx}
def KD (K:aaa):List V->Hp->VK->Prop:=λvs H Q=>∃(a:Addr) (bs:List Bool),vs=[V.ref a]/\aQ K H a (bs.map V.bl)/\Q (.bl (bs.any id)) H
def J0 (K:aaa):List V->Hp->VK->Prop:=λvs H Q=>∃(a:Addr) (bs:List Bool),vs=[V.ref a]/\aQ K H a (bs.map V.bl)/\Q (.bl (bs.all id)) H
theorem Ci (hc:X.calm=true):iz X (.builtin "any") (KD X.K):=by
 intro pins s σ H vs us Q I r h;obtain⟨a,bs,rfl,hs,q⟩:=h;obtain⟨Ly,rv,hl,_⟩:=I.list hs;rw[Vals.we r];have hb:=rv.Kj;refine call_any_walk (vy hl.isList λs₂ e2 st LJ=>?_);subst e2;refine⟨_,_,_,_,_,_,_,rfl,Walks.list (A:=X.A.in1) (I.ok.hd hc) _ a LJ Ly.toArray,st,nU hb,λh' tk hk=>?_⟩;refine⟨.bl _,H,I.kept λb o eo=>hk b o (λMf=>?_) (Xq _ eo),?_,q⟩
 · rcases Xr.mp Mf with e1|Mf
   · exact absurd (e1 ▸ XA eo) (YJ _)
   · cases Mf
 · show Value.bool _=Value.bool _;rw[←any_range,hb,XJ,Xn]
theorem wg (hc:X.calm=true):iz X (.builtin "all") (J0 X.K):=by
 intro pins s σ H vs us Q I r h;obtain⟨a,bs,rfl,hs,q⟩:=h;obtain⟨Ly,rv,hl,_⟩:=I.list hs;rw[Vals.we r];have hb:=rv.Kj;refine call_all_walk (vy hl.isList λs₂ e2 st LJ=>?_);subst e2;refine⟨_,_,_,_,_,_,_,rfl,Walks.list (A:=X.A.in1) (I.ok.hd hc) _ a LJ Ly.toArray,st,nU hb,λh' tk hk=>?_⟩;refine⟨.bl _,H,I.kept λb o eo=>hk b o (λMf=>?_) (Xq _ eo),?_,q⟩
 · rcases Xr.mp Mf with e1|Mf
   · exact absurd (e1 ▸ XA eo) (YJ _)
   · cases Mf
 · show Value.bool _=Value.bool _;rw[←all_range,hb,XJ,Xn]
end
mutual
inductive Dp (K:aaa)(H:Hp):V->PyData->Prop
 |cf:Dp K H .cf .none
 |bl (b:Bool):Dp K H (.bl b) (.bool b)
 |int (i:Int):Dp K H (.int i) (.int i)
 |str (x:Str):Dp K H (.str x) (.str x)
 |lst {a:Addr} {xs:List V} {ds:List PyData}:aQ K H a xs->rR K H xs ds->Dp K H (.ref a) (.list ds)
 |tup {a:Addr} {xs:List V} {ds:List PyData}:b7 K H a xs->rR K H xs ds->Dp K H (.ref a) (.tuple ds)
inductive rR (K:aaa)(H:Hp):List V->List PyData->Prop
 |nil:rR K H [] []
 |cons {v:V} {vs:List V} {d:PyData} {ds:List PyData}:Dp K H v d->rR K H vs ds->rR K H (v::vs) (d::ds)
end
section
variable {X:Cx}{pins:aad}{σ:St}{H:Hp}{s:Shared}
mutual
theorem Dp.reads (I:Inv X pins σ H s):∀(d:PyData) (v:V) (u:Value),Dp X.K H v d->RelV v u->∃as,Reads s.heap u d as
 |.none,_,_,h,r=>by
  cases h;cases r;exact⟨_,Reads.none⟩
 |.bool b,_,_,h,r=>by
  cases h;cases r;exact⟨_,Reads.bool b⟩
 |.int i,_,_,h,r=>by
  cases h;obtain⟨t,rfl⟩:=r;exact⟨_,Reads.int i t⟩
 |.str x,_,_,h,r=>by
  cases h;obtain⟨t,rfl⟩:=r;exact⟨_,Reads.str x t⟩
 |.list ds,_,_,h,r=>by
  cases h with
  |lst hs ha =>
   cases r;obtain⟨Ly,rv,⟨o,n,ho,hc,_,hd⟩,_⟩:=I.list hs;obtain⟨as,hr⟩:=Dp.readsAll I ds _ Ly ha rv;exact⟨_,Reads.list ho hc hd hr⟩
 |.tuple ds,_,_,h,r=>by
  cases h with
  |tup hs ha =>
   cases r;obtain⟨Ly,rv,⟨o,ho,hc,n,hd⟩,_⟩:=I.tuple hs;obtain⟨as,hr⟩:=Dp.readsAll I ds _ Ly ha rv;exact⟨_,Reads.tuple ho hc hd hr⟩
 |.dict _,_,_,h,_=>by cases h
theorem Dp.readsAll (I:Inv X pins σ H s):∀(ds:List PyData) (vs:List V) (us:aae),rR X.K H vs ds->Vals vs us->∃as,ReadsAll s.heap us ds as
 |[],_,_,h,r=>by
  cases h;cases r;exact⟨_,ReadsAll.nil⟩
 |d::ds,_,_,h,r=>by
  cases h with
  |cons h1 h2 =>
   cases r with
   |cons r1 r2 =>
    obtain⟨as,q1⟩:=Dp.reads I d _ _ h1 r1;obtain⟨bs,q2⟩:=Dp.readsAll I ds _ _ h2 r2;exact⟨_,ReadsAll.cons q1 q2⟩
end
end
section
variable {X:Cx}
def KO (K:aaa):R2:=λx y H Q=>∃d e,Dp K H x d/\Dp K H y e/\SeqAt.shaped d=true/\SeqAt.shaped e=true/\Q (.bl (PyData.eqv d e)) H
theorem HX (hu:X.A.units+64 < cLine):jo X (compareOp .Eq) (KO X.K):=by
 intro pins s σ H x y v u Q I rx ry h;obtain⟨d,e,hd,he,sd,se,q⟩:=h;obtain⟨as,r1⟩:=Dp.reads I d x v hd rx;obtain⟨bs,r2⟩:=Dp.reads I e y u he ry;exact SeqAt.compareEq_shaped r1 r2 sd se hu ⟨.bl _,H,I,rfl,q⟩
end
end L2
namespace L2
open PySem PySem.Spec PyProof.Rows
abbrev Bz (h:Heap)(c:Addr)(v:Option Value):Prop:=h.IsCell c v
def J3 (scope sc:Scope):Scope :=
 {scope with names:=scope.names.map λ(n,k)=>if (k==.free&&sc.kind==.function&&sc.names.lookup n==some .cell) then (n,.cell) else (n,k)}
def bM (cells:List (Str×Addr)):List (Str×NameKind)->List (Str×Addr)->List (Str×Addr)
 |[],acc=>acc
 |(n,k)::r,acc=>if k==.free then bM cells r ((n,(cells.lookup n).getD 0)::acc) else bM cells r acc
theorem lL (env:Env)(f:Str×NameKind->List (Str×Addr)->Sem (ForInStep (List (Str×Addr))))
  (hf:∀n k c,f (n,k) c=if k==.free then (do let a ←cellOf env n;pure (.yield ((n,a)::c))) else pure (.yield c)) :
  ∀(names:List (Str×NameKind)) (acc:List (Str×Addr)),(∀y∈names,y.2=.free->∃c,env.cells.lookup y.1=some c)->forIn names acc f=pure (bM env.cells names acc)
 |[],acc,_=>by rw[List.forIn_nil];rfl
 |(n,k)::r,acc,h=>by
  rw[List.forIn_cons,hf];have ih:=λacc=>lL env f hf r acc λy hy=>h y (XG _ hy);unfold bM;by_cases hk:(k==NameKind.free)=true
  · rw[Xp hk,Xp hk];obtain⟨c,hc⟩:=h (n,k) X_ (by simpa using hk);have e:cellOf env n=pure c:=by unfold cellOf;rw[hc]
    rw[e];have e2:(env.cells.lookup n).getD 0=c:=by rw[hc];rfl
    rw[e2];exact ih _
  · rw[Xo hk,Xo hk];exact ih _
theorem xa {scope:Scope}{env:Env}(h:∀y∈scope.names,y.2=.free->∃c,env.cells.lookup y.1=some c):closureFor scope env=pure (bM env.cells scope.names []):=by
 simp only[closureFor];rw[lL env _ (λn k c=>rfl) scope.names [] h];rfl
theorem mem_lookup {α:Type}:∀{l:List (Str×α)} {n:Str} {c:α},(n,c)∈l->∃c',l.lookup n=some c'
 |(k,v)::r,n,c,h=>by
  rw[Zd];cases hb:n==k with
  |true=>exact⟨_,rfl⟩
  |false =>
   rcases Xr.mp h with e|h
   · cases e;simp at hb
   · exact mem_lookup h
theorem gR {cells:List (Str×Addr)}:∀{names:List (Str×NameKind)} {acc:List (Str×Addr)} {n:Str} {c:Addr},(n,c)∈bM cells names acc->(n,c)∈acc∨((n,.free)∈names/\c=(cells.lookup n).getD 0)
 |[],_,_,_,h=>.inl h
 |(m,k)::r,acc,n,c,h=>by
  unfold bM at h;split at h
  · rename_i hk;have hk:k=.free:=by simpa using hk
    rcases gR h with h|⟨h1,h2⟩
    · rcases Xr.mp h with e|h
      · cases e;exact .inr ⟨hk ▸ X_,rfl⟩
      · exact .inl h
    · exact .inr ⟨XG _ h1,h2⟩
  · rcases gR h with h|⟨h1,h2⟩
    · exact .inl h
    · exact .inr ⟨XG _ h1,h2⟩
theorem jx {cells:List (Str×Addr)}:∀{names:List (Str×NameKind)} {acc:List (Str×Addr)} {p:Str×Addr},p∈acc->p∈bM cells names acc
 |[],_,_,h=>h
 |(m,k)::r,acc,p,h=>by
  unfold bM;split
  · exact jx (XG _ h)
  · exact jx h
theorem jL {cells:List (Str×Addr)}:∀{names:List (Str×NameKind)} {acc:List (Str×Addr)} {n:Str},(n,.free)∈names->(n,(cells.lookup n).getD 0)∈bM cells names acc
 |(m,k)::r,acc,n,h=>by
  unfold bM;rcases Xr.mp h with e|h
  · cases e;exact jx X_
  · split
    · exact jL h
    · exact jL h
theorem iw:∀{names:List (Str×NameKind)} {h:Heap} {acc:List (Str×Addr)} {x:Str} {c:Addr},(x,c)∈cellsFrom h.objs.size names acc ->
  (x,c)∈acc∨((x,.cell)∈names/\h.objs.size<=c/\Bz (pushCells h names) c none)
 |[],_,_,_,_,h=>.inl h
 |(n,k)::r,h,acc,x,c,hm=>by
  unfold cellsFrom at hm;unfold pushCells;split at hm
  · rename_i hk;rw[Xp hk];have hk:k=.cell:=by simpa using hk
    rw[←Yx h {cls:=.type "cell",data:=.cell none}] at hm;rcases iw hm with hm|⟨h1,h2,h3⟩
    · rcases Xr.mp hm with e|hm
      · cases e;exact .inr ⟨hk ▸ X_,Xx _,_,pushCells_keeps r _ _ _ (XD _ rfl),rfl⟩
      · exact .inl hm
    · rw[Yx] at h2;exact .inr ⟨XG _ h1,Nat.le_of_succ_le h2,h3⟩
  · rename_i hk;rw[Xo hk];rcases iw hm with hm|⟨h1,h2,h3⟩
    · exact .inl hm
    · exact .inr ⟨XG _ h1,h2,h3⟩
theorem jW:∀{names:List (Str×NameKind)} {n:Nat} {acc:List (Str×Addr)} {p:Str×Addr},p∈acc->p∈cellsFrom n names acc
 |[],_,_,_,h=>h
 |(m,k)::r,n,acc,p,h=>by
  unfold cellsFrom;split
  · exact jW (XG _ h)
  · exact jW h
theorem nv:∀{names:List (Str×NameKind)} {n:Nat} {acc:List (Str×Addr)} {x:Str},(x,.cell)∈names->∃c,(x,c)∈cellsFrom n names acc
 |(m,k)::r,n,acc,x,h=>by
  unfold cellsFrom;rcases Xr.mp h with e|h
  · cases e;exact⟨n,jW X_⟩
  · split
    · exact nv h
    · exact nv h
theorem mX:∀{names:List (Str×NameKind)} {h:Heap} {acc:List (Str×Addr)} {x y:Str} {c:Addr},(∀p∈acc,p.2 < h.objs.size)->(∀x y c,(x,c)∈acc->(y,c)∈acc->x=y) ->
  (x,c)∈cellsFrom h.objs.size names acc->(y,c)∈cellsFrom h.objs.size names acc->x=y
 |[],_,_,_,_,_,_,hi,h1,h2=>hi _ _ _ h1 h2
 |(n,k)::r,h,acc,x,y,c,hl,hi,h1,h2=>by
  unfold cellsFrom at h1 h2;split at h1
  · rename_i hk;rw[Xp hk] at h2;rw[←Yx h {cls:=.type "cell",data:=.cell none}] at h1 h2;refine mX (h:=h.push _) (λp hp=>?_) (λx y c a b=>?_) h1 h2
    · rw[Yx];rcases Xr.mp hp with rfl|hp
      · exact ZR _
      · exact Nat.lt_succ_of_lt (hl p hp)
    · rcases Xr.mp a with e|a <;> rcases Xr.mp b with e'|b
      · cases e;cases e';rfl
      · cases e;exact absurd (hl _ b) (YJ _)
      · cases e';exact absurd (hl _ a) (YJ _)
      · exact hi _ _ _ a b
  · rename_i hk;rw[Xo hk] at h2;exact mX hl hi h1 h2
theorem vc {M:Model}{A:Around}{E:aab}{s:Shared}{scope:Scope}{globals:Addr}{closure:List (Str×Addr)}{qual:Str}{func:Option Addr}{code:Value}{around:Env}{builtins:Addr}{Q:Env->Shared->Prop}
  (h:Q (newEnv scope s.heap.objs.size globals (cellsFrom (s.heap.objs.size+1) scope.names closure) qual func code (some around) builtins)
   {s with heap:=pushCells (s.heap.push {cls:=.type "dict",data:=.dict #[]}) scope.names}) :
  wpAny M A (newFunctionEnv scope globals closure [] qual func code (some around) builtins) Q E s:=by
 simp only[newFunctionEnv,Option.isSome_some,Y8];refine Xm (wpAny_alloc ?_);refine Xm (wpAny_layCells _ (λn k c=>rfl) scope.names closure _ _ ?_);rw[show ({s with heap:=s.heap.push {cls:=.type "dict",data:=.dict #[]}}:Shared).heap.objs.size=s.heap.objs.size+1 from Yx ..];rw[List.forIn_nil];exact Xm (Xu (Xu h))
theorem jG {sc:Scope}:∀{names:List (Str×NameKind)} {x:Str} {k:NameKind},
  (names.map λ(n,k)=>if (k==NameKind.free&&sc.kind==.function&&sc.names.lookup n==some .cell) then (n,NameKind.cell) else (n,k)).lookup x=some k ->
  ∃k',names.lookup x=some k'/\(k=k'∨(k'=.free/\k=.cell))
 |[],_,_,h=>by simp at h
 |(n,k₀)::r,x,k,h=>by
  have ih:=@jG sc r x k;have h':List.lookup x ((if (k₀==NameKind.free&&sc.kind==.function&&sc.names.lookup n==some .cell)=true then (n,NameKind.cell) else (n,k₀))::(r.map _))=some k:=h;cases hx:x==n with
  |true =>
   simp only[Zd,hx];by_cases hc:(k₀==NameKind.free&&sc.kind==.function&&sc.names.lookup n==some .cell)=true
   · rw[Xp hc] at h';simp only[Zd,hx] at h';cases h';simp only[Xv,Ye] at hc;exact⟨k₀,rfl,.inr ⟨hc.1.1,rfl⟩⟩
   · rw[Xo hc] at h';simp only[Zd,hx] at h';cases h';exact⟨_,rfl,.inl rfl⟩
  |false =>
   simp only[Zd,hx];by_cases hc:(k₀==NameKind.free&&sc.kind==.function&&sc.names.lookup n==some .cell)=true
   · rw[Xp hc] at h';simp only[Zd,hx] at h';exact ih h'
   · rw[Xo hc] at h';simp only[Zd,hx] at h';exact ih h'
structure uX (N:List Str)(sc scope:Scope)(own:List (Str×Nat)):Prop where
 kind:scope.kind=.function
 uniq:∀y∈scope.names,scope.names.lookup y.1=some y.2
 ix:∀p∈own,N[p.2]?=some p.1
 free:∀y∈scope.names,y.2=.free->sc.names.lookup y.1=some .cell∨sc.names.lookup y.1=some .free
 own:∀y∈scope.names,y.2=.local∨y.2=.cell->y.1∈own.map (·.1)∨y.1∉N
def wipe (σ:St):Z_->St
 |[]=>σ
 |v::vs=>(wipe σ vs).set v none
theorem jS (σ:St):∀vs:Z_,(wipe σ vs).length=σ.length
 |[]=>rfl
 |v::vs=>by unfold wipe;rw[List.length_set,jS σ vs]
theorem mR {σ:St}{i:Nat}{x:V}:∀{vs:Z_},(wipe σ vs)[i]?=some (some x)->σ[i]?=some (some x)/\i∉vs
 |[],h=>⟨h,by simp⟩
 |v::vs,h=>by
  unfold wipe at h;by_cases hi:v=i
  · subst hi;by_cases hv:v < (wipe σ vs).length
    · rw[ZJ hv] at h;cases h
    · rw[Ys (by simpa using hv)] at h;cases h
  · rw[List.getElem?_set_ne hi] at h;obtain⟨h1,h2⟩:=mR h;exact⟨h1,by simp only[Xr,not_or];exact⟨λe=>hi e.symm,h2⟩⟩
abbrev Cx.qK (X:Cx)(s:Shared)(H:Hp)(scope:Scope)(LB:Env)(fp:List Addr):Cx:={X with kJ:=s,Ib:=H,env:=LB,outer:=X.stack,ex:=fp,fn:=λx=>scope.names.lookup x==some .cell,pn:=[],xe:=λ_ _=>False}
section
variable {X:Cx}{pins:aad}{σ:St}{H:Hp}{s:Shared}
theorem u9 {scope:Scope} {own:List (Str×Nat)} {fp:List Addr} (I:Inv X pins σ H s) (ok:uX X.N X.env.scope scope own) (hN:X.N.Nodup) (Nh:∀b∈fp,m8 X pins H b/\b < s.heap.objs.size) :
  Inv (X.qK s H scope (compEnvC scope (cellsFrom (s.heap.objs.size+1) scope.names (bM X.env.cells scope.names [])) s.heap.objs.size X.env) fp) [] (wipe σ (own.map (·.2))) H {s with heap:=pushCells (s.heap.push {cls:=.type "dict",data:=.dict #[]}) scope.names}:=by
 have LX:∀y∈scope.names,y.2=.free->∃c,X.env.cells.lookup y.1=some c:=λy hy e=>by
  rcases ok.free y hy e with k|k
  · exact I.ok.has _ (.inl k)
  · exact I.ok.has _ (.inr k)
 generalize L9:compEnvC scope (cellsFrom (s.heap.objs.size+1) scope.names (bM X.env.cells scope.names [])) s.heap.objs.size X.env=LB;have kp:∀b o,s.heap.get? b=some o->(pushCells (s.heap.push {cls:=.type "dict",data:=.dict #[]}) scope.names).get? b=some o:=λb o e=>pushCells_keeps _ _ _ _ (Xq _ e);have hL:LB.locals=s.heap.objs.size:=by rw[←L9];rfl
 have NK:LB.cells=cellsFrom (s.heap.objs.size+1) scope.names (bM X.env.cells scope.names []):=by rw[←L9];rfl
 have QU:LB.scope=J3 scope X.env.scope:=by rw[←L9];rfl
 rw[←Yx s.heap {cls:=.type "dict",data:=.dict #[]}] at NK;have cm:∀{y c},(y,c)∈bM X.env.cells scope.names []->X.env.cells.lookup y=some c/\c < s.heap.objs.size:=λ{y c} hm=>by
  rcases gR hm with hm|⟨h1,rfl⟩
  · cases hm
  · obtain⟨c,hc⟩:=LX _ h1 rfl;rw[hc];obtain⟨w,z⟩:=I.cell _ _ hc;exact⟨rfl,z.lt⟩
 have mem:∀{y c},LB.cells.lookup y=some c->(X.env.cells.lookup y=some c/\c < s.heap.objs.size)∨(s.heap.objs.size+1<=c/\Bz (pushCells (s.heap.push {cls:=.type "dict",data:=.dict #[]}) scope.names) c none):=λ{y c} e=>by
  rw[NK] at e;rcases iw (PySem.mem_of_lookup e) with hm|⟨_,h2,h3⟩
  · exact .inl (cm hm)
  · rw[Yx] at h2;exact .inr ⟨h2,h3⟩
 have look:∀{y},scope.names.lookup y=some .free->∃c,LB.cells.lookup y=some c/\X.env.cells.lookup y=some c:=λ{y} hl=>by
  have hy:(y,NameKind.free)∈scope.names:=PySem.mem_of_lookup hl;obtain⟨c',e'⟩:=mem_lookup (jW (names:=scope.names) (n:=(s.heap.push {cls:=.type "dict",data:=.dict #[]}).objs.size) (jL (cells:=X.env.cells) (acc:=[]) hy));rw[←NK] at e';refine⟨c',e',?_⟩;rw[NK] at e';rcases iw (PySem.mem_of_lookup e') with hm|⟨h1,_,_⟩
  · exact (cm hm).1
  · have:=ok.uniq _ h1;rw[hl] at this;cases this
 have Va:(X.qK s H scope LB fp).Ok:=by
  refine⟨I.ok.mod,by show LB.scope.kind=_;rw[QU];exact ok.kind,by show LB.globals=_;rw[←L9];exact I.ok.glob,by show LB.builtins=_;rw[←L9];exact I.ok.blt,by show s.heap.objs.size<=LB.locals;rw[hL];exact Xx _,
   λy z c e1 e2=>?_,λy hy=>?_,λy c z e=>?_,I.ok.hd,I.ok.frames,.inl rfl,λb hb=>⟨?_,λy c e z=>?_⟩,I.bs,Yb I.ok.CZ I.sz,λb o e hb=>?_,λb hb z=>?_,I.stack,I.sI⟩
  · have e1:LB.cells.lookup y=some c:=e1;have e2:LB.cells.lookup z=some c:=e2;rw[NK] at e1 e2;refine mX (λp hp=>?_) (λy z c a b=>I.ok.inj y z c (cm a).1 (cm b).1) (PySem.mem_of_lookup e1) (PySem.mem_of_lookup e2);rw[Yx];exact Nat.lt_succ_of_lt (cm (y:=p.1) (c:=p.2) hp).2
  · show ∃c,LB.cells.lookup y=some c;have key:∀k,LB.kindOf y=some k->(k=.cell∨k=.free)->∃c,LB.cells.lookup y=some c:=λk hk QV=>by
     unfold Env.kindOf at hk;rw[QU] at hk;obtain⟨k',e,r⟩:=jG hk;have:k'=.cell∨k'=.free:=by
      rcases r with rfl|⟨rfl,_⟩
      · exact QV
      · exact .inr rfl
     rcases this with rfl|rfl
     · obtain⟨c,hm⟩:=nv (n:=(s.heap.push {cls:=.type "dict",data:=.dict #[]}).objs.size) (acc:=bM X.env.cells scope.names []) (PySem.mem_of_lookup e);obtain⟨c',e'⟩:=mem_lookup hm;exact⟨c',by rw[NK];exact e'⟩
     · obtain⟨c,h1,_⟩:=look e;exact⟨c,h1⟩
    rcases hy with hy|hy
    · exact key _ hy (.inl rfl)
    · exact key _ hy (.inr rfl)
  · have z:(scope.names.lookup y==some NameKind.cell)=true:=z;have z:scope.names.lookup y=some .cell:=by simpa using z
    have e:LB.cells.lookup y=some c:=e;rw[NK] at e;rcases iw (PySem.mem_of_lookup e) with hm|⟨_,h2,_⟩
    · rcases gR hm with hm|⟨h1,_⟩
      · cases hm
      · have q:=ok.uniq _ h1;rw[z] at q;cases q
    · rw[Yx] at h2;exact Nat.le_of_succ_le h2
  · show b≠LB.locals;rw[hL];exact X1 (Nh b hb).2
  · have e:LB.cells.lookup y=some c:=e;rcases mem e with ⟨h1,_⟩|⟨h1,_⟩
    · exact (Nh b hb).1.2.2.2.2.1 y c h1 z
    · have h2:s.heap.objs.size+1<=b:=by rw[←z];exact h1
      exact absurd (X5 (Nh b hb).2 (Nat.le_of_succ_le h2)) (YJ _)
  · rcases (Nh b hb).1.2.2.2.1 with z|z
    · exact I.ok.Af b o e z
    · exact absurd (X5 (XA e) (Yb I.ok.CZ z)) (YJ _)
  · rcases Xr.mp (I.xo b z) with z|z
    · exact (Nh b hb).1.2.1 z
    · exact (Nh b hb).1.2.2.1 z
 refine⟨Va,rfl,I.bare,Un.kept kp,⟨λ_=>none,?_,λi y av e1 e2 e3=>?_⟩,λy c e=>?_,?_,λy c e=>?_,λp hp=>?_,I.bu.kept kp,by rw[jS];exact I.len⟩
 · show Heap.Ns _ LB.locals _;rw[hL];exact Heap.Ns.keeps (Heap.Ns.new ..) λb o e=>pushCells_keeps _ _ _ _ e
 · obtain⟨e2,LJ⟩:=mR e2;have PJ:scope.names.lookup y=some .free/\(LB.kindOf y=some .cell∨LB.kindOf y=some .free):=by
    have key:∀k,LB.scope.names.lookup y=some k->k=.local∨k=.cell∨k=.free->scope.names.lookup y=some .free/\(LB.kindOf y=some .cell∨LB.kindOf y=some .free):=λk hk QV=>by
     have Oz:=hk;rw[QU] at hk;obtain⟨k',e,r⟩:=jG hk;have no:¬(k'=.local∨k'=.cell):=λhh=>by
      rcases ok.own _ (PySem.mem_of_lookup e) hh with e'|e'
      · obtain⟨p,hp,Vb⟩:=XY.mp e';have e3:=ok.ix p hp;have:p.1=y:=Vb;rw[this] at e3;exact LJ (XY.mpr ⟨p,hp,pS hN e3 e1⟩)
      · exact e' (XT e1)
     rcases r with rfl|⟨rfl,rfl⟩
     · rcases QV with rfl|rfl|rfl
       · exact absurd (.inl rfl) no
       · exact absurd (.inr rfl) no
       · exact⟨e,.inr Oz⟩
     · exact⟨e,.inl Oz⟩
    have e3:Ic LB.scope y:=e3;rcases e3 with e3|e3|e3
    · exact key _ e3 (.inl rfl)
    · exact key _ e3 (.inr (.inl rfl))
    · exact key _ e3 (.inr (.inr rfl))
   obtain⟨m,hn,hl⟩:=I.loc;have QW:Ic X.env.scope y:=(ok.free _ (PySem.mem_of_lookup PJ.1) rfl).elim (λk=>.inr (.inl k)) (λk=>.inr (.inr k));obtain⟨w,r,q⟩:=hl i y av e1 e2 QW;refine⟨w,r,.inr ⟨PJ.2,?_⟩⟩;obtain⟨c,h1,h2⟩:=look PJ.1;rcases q with ⟨k,_⟩|⟨_,c',e',z⟩
   · have k:X.env.scope.names.lookup y=some .local:=k;rcases ok.free _ (PySem.mem_of_lookup PJ.1) rfl with k'|k' <;> rw[show X.env.scope.names.lookup y=_ from k'] at k <;> cases k
   · rw[h2] at e';cases e';exact⟨c,h1,z.keeps kp⟩
 · have e:LB.cells.lookup y=some c:=e;rcases mem e with ⟨h1,_⟩|⟨_,z⟩
   · obtain⟨w,z⟩:=I.cell y c h1;exact⟨w,z.keeps kp⟩
   · exact⟨_,z⟩
 · show H LB.locals=none;rw[hL];exact I.bu.fresh (Xx _)
 · have e:LB.cells.lookup y=some c:=e;rcases mem e with ⟨h1,_⟩|⟨h1,_⟩
   · exact I.gj y c h1
   · exact I.bu.fresh (Nat.le_of_succ_le h1)
 · exact absurd (show p∈([]:aad)++[] from hp) (by simp)
theorem G8 {E:aab}{D:Addr}{xs:List V}{y:V}{v:Value}{Q:aab}(I:Inv X pins σ H s)(hD:H D=some (.lst xs))(hz:xs.length < sizeLine)(r:RelV y v)
  (h:∀s',Inv X pins σ (upd H D (.lst (xs++[y]))) s'->Q .none s'):wpAny (model X.prog X.w) X.A (call (.builtin "list.append") [.ref D,v]) Q E s:=by
 obtain⟨hz',Ly,n,ri,e⟩:=I.bu D _ hD;have hl:=ri.length;refine append_at (hsz:=by rw[XJ];omega) e λh' sb LV=>?_;refine h {s with heap:=h'} (I.write (t':=s.toks) (by rw[hD];trivial) (.inl rfl) (λb u hb q=>(sb.2 b hb).trans q) ⟨_,LV⟩ ⟨by rw[XM];exact hz,Ly++[v],n+1,ri.append (.cons r .nil),?_⟩);rw[LV];simp
def Ik (X:Cx)(ifs:List Expr)(t:TT):Prop :=
 ∀(pins:aad) (s:Shared) (σ:St) (H:Hp) (Q:Bool->Hp->Prop),Inv X pins σ H s->t σ H Q ->
  wpAny (model X.prog X.w) X.A (forIn ifs true λc r=>if r=true then do let ok ←isTrue c X.env (eval c X.env);pure (ForInStep.yield ok) else pure (ForInStep.yield r)) (TP X pins σ Q) X.xe s
def AV:TT:=λ_ H Q=>Q true H
theorem cq:Ik X [] AV:=λ_ _ _ H _ I h=>wpAny_tests_nil ⟨H,I,h⟩
theorem ow {c:Expr}{t:TT}(h:PT X c t):Ik X [c] t:=λpins s σ H Q I hw=>wpAny_tests_one (h pins s σ H Q I hw)
end
theorem zG {α:Type}{t:Sem α}{Q Q':α->Shared->Prop}{M:Model}{A:Around}{E:aab}{s:Shared}(h:wpAny M A t Q (λ_ _=>False) s)(hQ:∀a s,Q a s->Q' a s):wpAny M A t Q' E s:=YG h hQ λ_ _ z=>False.elim z
theorem ud {prog:Program}{w:World}{A:Around}{R:Result->Shared->Prop}{s:Shared}{elt target iter:Expr}{ifs:List Expr}{scope:Scope}{pos:Pos}{it acc:Value}{env:Env}(I:Nat->Shared->Prop)
  (turn:∀n s,I n s->wpAny (model prog w) A (pyNext it) (λr s₁=>match r with
   |none=>R (.ok .next) s₁
   |some v=>wpAny (model prog w) A (letOwnedTupleGo target it v) (λ_ s₁'=>wpAny (model prog w) A (assign target env v) (λ_ s₂ =>
     wpAny (model prog w) A (forIn ifs true λc r=>if r=true then do let ok ←isTrue c env (eval c env);pure (ForInStep.yield ok) else pure (ForInStep.yield r)) (λok s₃ =>
      if ok=true then wpAny (model prog w) A (eval elt env) (λx s₄ =>
       wpAny (model prog w) A (call (.builtin "list.append") [acc,x]) (λ_ s₅=>∃m,m < n/\I m s₅) (notedBy (model prog w) A env λe s'=>R (.error e) s') s₄) (notedBy (model prog w) A env λe s'=>R (.error e) s') s₃
      else ∃m,m < n/\I m s₃) (notedBy (model prog w) A env λe s'=>R (.error e) s') s₂) (notedBy (model prog w) A env λe s'=>R (.error e) s') s₁') (notedBy (model prog w) A env λe s'=>R (.error e) s') s₁) (notedBy (model prog w) A env λe s'=>R (.error e) s') s)
  (n:Nat) (h:I n s) :
  codeAny (model prog w) A (.compLoop (.ListComp elt [⟨target,iter,ifs,0⟩] scope pos) 0 it acc env) R s:=by
 refine codeAny_loop rfl I (λn s hI=>?_) n h;show wpAny _ A ((compTurn (.ListComp elt [⟨target,iter,ifs,0⟩] scope pos) 0 it acc env).onRaise (λx=>do noteFrame x env;theTreesLotGoes x)) _ _ s;refine wpAny_noted ?_;rw[compTurn_list];refine Xm (wpAny_standAt (Xm (YG (turn n s hI) (λr s₁ h₁=>?_) λ_ _ h'=>h')));cases r with
 |none=>exact Xu h₁
 |some v =>
  refine Xm (YG h₁ (λ_ s₁' h₁'=>?_) λ_ _ h'=>h');refine Xm (YG h₁' (λ_ s₂ h₂=>Xm (YG h₂ (λok s₃ h₃=>?_) λ_ _ h'=>h')) λ_ _ h'=>h');cases ok with
  |false=>exact Xu ⟨rfl,h₃⟩
  |true =>
   exact Xm (Xm (YG h₃ (λx s₄ h₄=>Xm (YG h₄ (λ_ s₅ h₅=>Xu (Xu ⟨rfl,h₅⟩)) λ_ _ h'=>h')) λ_ _ h'=>h'))
section
variable {X:Cx}
def HM (wi:TI) (g:TG) (tt:TT) (te:TE) (vs:Z_):TE:=λσ H Q=>wi σ H λJ H1=>∀D,H1 D=none->∃W:Nat->Nat->Hp->Prop,(∃m,W 0 m (upd H1 D (.lst [])))/\∀i m H,W i m H ->
 (J.stop i H/\Q (.ref D) H)∨(J.go i H/\∃Nx:Hp->Prop,(∀H',Nx H'->∃m',m' < m/\W (i+1) m' H')/\∀x H',J.vZ i H x H'->g x (wipe σ vs) H' λσ2 H2=>wipe σ2 vs=wipe σ vs/\tt σ2 H2 λb H3 =>
  if b=true then te σ2 H3 λy H4=>∃acc,H4 D=some (.lst acc)/\acc.length < sizeLine/\Nx (upd H4 D (.lst (acc++[y]))) else Nx H3)
theorem zh {pins:aad}{s:Shared}{σ:St}{H:Hp}{Q:VK}{elt tg iter:Expr}{ifs:List Expr}{scope:Scope}{own:List (Str×Nat)}{pos pos':Pos}{wi:TI}{g:TG}{tt:TT}{te:TE}{use:Option (Value->Sem Unit)}{Qf:aab}
  (hc:X.calm=true)(hN:X.N.Nodup)(I:Inv X pins σ H s)(hi:PI X tg iter wi)(ok:uX X.N X.env.scope scope own)
  (hg:∀(s:Shared) (H:Hp) (C:Addr) (cl:List (Str×Addr)) (fp:List Addr),PG (X.qK s H scope (compEnvC scope cl C X.env) fp) tg g)(ht:∀(s:Shared) (H:Hp) (C:Addr) (cl:List (Str×Addr)) (fp:List Addr),Ik (X.qK s H scope (compEnvC scope cl C X.env) fp) ifs tt)
  (he:∀(s:Shared) (H:Hp) (C:Addr) (cl:List (Str×Addr)) (fp:List Addr),PE (X.qK s H scope (compEnvC scope cl C X.env) fp) elt te)(hs:∀x,foldedSetIterable iter X.env x=pure x)
  (h:HM wi g tt te (own.map (·.2)) σ H Q)
  (Vc:∀D C s' m H',Inv X pins σ H' s'->Q (.ref D) H'->s'.heap.Ns C m->m8 X pins H' C->compPost (model X.prog X.w) X.A X.xe use Qf (.ref D) C (.ok .next) s') :
  wpAny (model X.prog X.w) X.A (comprehension (.ListComp elt [⟨tg,iter,ifs,0⟩] scope pos) scope X.env pos' (newList []) false (eval iter X.env) use) Qf X.xe s:=by
 have LX:∀y∈scope.names,y.2=.free->∃c,X.env.cells.lookup y.1=some c:=λy hy e=>by
  rcases ok.free y hy e with k|k
  · exact I.ok.has _ (.inl k)
  · exact I.ok.has _ (.inr k)
 refine wpAny_comprehension_free (use:=use) rfl hs (xa LX) ok.kind (λy hy e=>by rw[ok.uniq y hy,e])
  (bA (hi pins s σ H _ I h) λxv s1 hx=>bA hx λPz s2 h2=>?_)
 obtain⟨it,fp,tn,J,H2,e,I2,T,N3,f2,q⟩:=h2;subst e;refine YR (vc ?_) (by show 0<=sizeLine;decide);generalize hD:s2.heap.objs.size=D;have Vd:H2 D=none:=I2.bu.fresh (Z3 hD);obtain⟨W,⟨m0,w0⟩,turn⟩:=q D Vd;generalize Sk:({s2 with heap:=s2.heap.push {cls:=.type "list",data:=.seq ([]:aae).toArray}}:Shared)=s3;have I3:Inv X pins σ (upd H2 D (.lst [])) s3:=by
  rw[←Sk];refine I2.laid (t':=s2.toks) (λb o e=>Xq _ e) (Z3 hD) ⟨XW _,[],0,.nil,?_⟩;rw[←hD];exact XD _ rfl
 have h3:s3.heap=s2.heap.push {cls:=.type "list",data:=.seq ([]:aae).toArray}:=by rw[←Sk]
 have sz:∀b∈fp,b < s2.heap.objs.size:=λb hb=>by
  obtain⟨o,e,_⟩:=T.obj _ _ N3 b hb;exact XA e
 have f3:∀b∈fp,m8 X pins (upd H2 D (.lst [])) b/\b < s3.heap.objs.size:=λb hb=>by
  have LC:=sz b hb;refine⟨⟨?_,(f2 b hb).2⟩,by rw[h3,Yx];exact Nat.lt_succ_of_lt LC⟩;rw[aq (by rw[←hD];exact X1 LC)];exact (f2 b hb).1
 have ND:tn 0 s3.heap:=T.keep _ _ _ N3 λb _ o e=>by rw[h3];exact Xq _ e
 have I4:=u9 I3 ok hN f3;have pg:=hg s3 (upd H2 D (.lst [])) s3.heap.objs.size (cellsFrom (s3.heap.objs.size+1) scope.names (bM X.env.cells scope.names [])) fp;have pt:=ht s3 (upd H2 D (.lst [])) s3.heap.objs.size (cellsFrom (s3.heap.objs.size+1) scope.names (bM X.env.cells scope.names [])) fp;have pe:=he s3 (upd H2 D (.lst [])) s3.heap.objs.size (cellsFrom (s3.heap.objs.size+1) scope.names (bM X.env.cells scope.names [])) fp;show codeAny _ _ (.compStart (.ListComp elt [⟨tg,iter,ifs,0⟩] scope pos) 0 (.ref it) (.ref D) (compEnvC scope (cellsFrom (s3.heap.objs.size+1) scope.names (bM X.env.cells scope.names [])) s3.heap.objs.size X.env)) (compPost (model X.prog X.w) X.A X.xe use Qf (.ref D) s3.heap.objs.size) {s3 with heap:=pushCells (s3.heap.push {cls:=.type "dict",data:=.dict #[]}) scope.names};have OF:∀b∈fp,(upd H2 D (.lst [])) b=none:=λb hb=>(f3 b hb).1.1;generalize Ve:compEnvC scope (cellsFrom (s3.heap.objs.size+1) scope.names (bM X.env.cells scope.names [])) s3.heap.objs.size X.env=ce at I4 pg pt pe ⊢;have cL:ce.locals=s3.heap.objs.size:=by subst Ve;rfl
 generalize hH3:upd H2 D (.lst [])=H3 at I3 I4 pg pt pe w0 OF f3;generalize Vf:({s3 with heap:=pushCells (s3.heap.push {cls:=.type "dict",data:=.dict #[]}) scope.names}:Shared)=s4 at I4 ⊢;have Sm:tn 0 s4.heap:=T.keep _ _ _ ND λb _ o e=>by rw[←Vf];exact pushCells_keeps _ _ _ _ (Xq _ e)
 have LR:∀{σ':St} {H':Hp} {s':Shared},Inv (X.qK s3 H3 scope ce fp) [] σ' H' s'->(∀b∈fp,H' b=none)->∀b∈fp,m8 (X.qK s3 H3 scope ce fp) [] H' b:=λ{σ' H' s'} I' hn b hb =>
  ⟨hn b hb,(I'.ok.Jq b hb).1,I'.ok.zA b hb,.inl hb,λx c e=>(I'.ok.Jq b hb).2 x c e,λp hp=>absurd (show p∈([]:aad)++[] from hp) (by simp)⟩
 have loop:codeAny (model X.prog X.w) X.A (.compLoop (.ListComp elt [⟨tg,iter,ifs,0⟩] scope pos) 0 (.ref it) (.ref D) ce) (compPost (model X.prog X.w) X.A X.xe use Qf (.ref D) s3.heap.objs.size) s4:=by
  refine ud (λn s'=>∃i H',Inv (X.qK s3 H3 scope ce fp) [] (wipe σ (own.map (·.2))) H' s'/\tn i s'.heap/\(∀b∈fp,H' b=none)/\W i n H') ?_ m0 ⟨0,H3,I4,Sm,OF,w0⟩;rintro n s5 ⟨i,H5,I5,MN,n5,w5⟩;rcases turn i n H5 w5 with ⟨stop,qq⟩|⟨go,Nx,Vg,step⟩
  · have td:=T.done (X.qK s3 H3 scope ce fp) rfl rfl rfl hc i [] s5 _ H5 (λ_ _=>False) I5 (LR I5 n5) MN stop;refine zG td λr s6 ⟨hr,I6⟩=>?_;subst hr;have I7:Inv X pins σ H5 s6:=I3.Fp (ch:=fp) I6.os I6.base I6.bu I6.bare λb hb=>⟨(f3 b hb).1.2.2.2.1,(f3 b hb).1.2.1,(f3 b hb).1.2.2.2.2.1,(f3 b hb).1.2.2.2.2.2⟩;have nC:H5 s3.heap.objs.size=none:=by
     have z:H5 ce.locals=none:=I6.free;rw[cL] at z;exact z
    obtain⟨m,hn,_⟩:=I6.loc;have hn:s6.heap.Ns ce.locals m:=hn;rw[cL] at hn;exact Vc D s3.heap.objs.size s6 m H5 I7 qq hn (I3.xx (Xx _) nC)
  · have ti:=T.item (X.qK s3 H3 scope ce fp) rfl rfl rfl hc i [] s5 _ H5 (λ_ _=>False) I5 (LR I5 n5) MN go;refine zG ti λr s6 ⟨u,hr,h6⟩=>?_;subst hr;refine zG h6 λ_ s7 ⟨x,H7,I7,r7,y7,QX,n7⟩=>?_;have Vh:=I7.pinned (LR I7 n7) (T.obj _ _ QX);refine zG (pg _ s7 _ H7 x u _ Vh r7 (step x H7 y7)) λ_ s8 ⟨σ8,H8,I8,So,q8⟩=>?_;refine zG (pt _ s8 σ8 H8 _ I8 q8) λb s9 ⟨H9,I9,q9⟩=>?_;have fin:∀{s':Shared} {H':Hp},Inv (X.qK s3 H3 scope ce fp) ([]++mY fp s7.heap) σ8 H' s'->Nx H'->∃m,m < n/\∃i H',Inv (X.qK s3 H3 scope ce fp) [] (wipe σ (own.map (·.2))) H' s'/\tn i s'.heap/\(∀b∈fp,H' b=none)/\W i m H':=λ{s' H'} I' nx=>by
     obtain⟨m',hm,w'⟩:=Vg H' nx;have OG:∀b∈fp,∀o,s7.heap.get? b=some o->s'.heap.get? b=some o/\H' b=none:=λb hb o e =>
      let z:=I'.pin (b,o) (Yn _ (Yn _ (gi hb e)))
      ⟨z.1,z.2.1⟩
     have hl:(wipe σ (own.map (·.2))).length=σ8.length:=by rw[←So,jS]
     refine⟨m',hm,i+1,H',(I'.iu (pins:=[])).weak hl (λj v e=>?_),T.keep _ _ _ QX λb hb o e=>(OG b hb o e).1,λb hb=>?_,w'⟩
     · rw[←So] at e;exact (mR e).1
     · obtain⟨o,e,_⟩:=T.obj _ _ QX b hb;exact (OG b hb o e).2
    cases b with
    |false =>
     simp only[YO,Zm] at q9 ⊢;exact fin I9 q9
    |true =>
     simp only[Y8] at q9 ⊢;refine zG (pe _ s9 σ8 H9 _ I9 q9) λz s10 ⟨yv,H10,Vi,Vj,acc,QY,QZ,nx⟩=>?_;exact G8 (X:=X.qK s3 H3 scope ce fp) Vi QY QZ Vj λs11 Vk=>fin Vk nx
 exact codeAny_compStart_list loop (T.self X.A 0 _ _ _ Sm loop)
theorem fA {elt tg iter:Expr}{ifs:List Expr}{scope:Scope}{own:List (Str×Nat)}{pos:Pos}{wi:TI}{g:TG}{tt:TT}{te:TE}(hc:X.calm=true)(hN:X.N.Nodup)(hi:PI X tg iter wi)(ok:uX X.N X.env.scope scope own)
  (hg:∀(s:Shared) (H:Hp) (C:Addr) (cl:List (Str×Addr)) (fp:List Addr),PG (X.qK s H scope (compEnvC scope cl C X.env) fp) tg g)(ht:∀(s:Shared) (H:Hp) (C:Addr) (cl:List (Str×Addr)) (fp:List Addr),Ik (X.qK s H scope (compEnvC scope cl C X.env) fp) ifs tt)
  (he:∀(s:Shared) (H:Hp) (C:Addr) (cl:List (Str×Addr)) (fp:List Addr),PE (X.qK s H scope (compEnvC scope cl C X.env) fp) elt te)(hs:∀x,foldedSetIterable iter X.env x=pure x:=by intro _;rfl) :
  PE X (.ListComp elt [⟨tg,iter,ifs,0⟩] scope pos) (HM wi g tt te (own.map (·.2))):=by
 intro pins s σ H Q I h;rw[eval_ListComp];refine zh hc hN I hi ok hg ht he hs h λD C s' m H' I' q hn f=>⟨m,hn,λNi sb=>?_⟩;obtain⟨f0,f1,f2,f3,f4,f5⟩:=f;exact⟨.ref D,H',I'.turned (t':=s'.toks) (λb o hb e=>(sb.2 b hb).trans e) f0 f1 f3 f4 f5,rfl,q⟩
theorem pd {i:Nat}{y:Str}{py:Pos}{elt tg iter:Expr}{ifs:List Expr}{scope:Scope}{own:List (Str×Nat)}{pos OH:Pos}{wi:TI}{g:TG}{tt:TT}{te:TE}(hc:X.calm=true)(hN:X.N.Nodup)(hy:X.N[i]?=some y)(Sq:X.env.scope.names.lookup y=some .local)
  (Vl:swapsWith (.ListComp elt [⟨tg,iter,ifs,0⟩] scope pos) (some (.Name y py)) OH.line X.env=pure true)(hi:PI X tg iter wi)(ok:uX X.N X.env.scope scope own)
  (hg:∀(s:Shared) (H:Hp) (C:Addr) (cl:List (Str×Addr)) (fp:List Addr),PG (X.qK s H scope (compEnvC scope cl C X.env) fp) tg g)(ht:∀(s:Shared) (H:Hp) (C:Addr) (cl:List (Str×Addr)) (fp:List Addr),Ik (X.qK s H scope (compEnvC scope cl C X.env) fp) ifs tt)
  (he:∀(s:Shared) (H:Hp) (C:Addr) (cl:List (Str×Addr)) (fp:List Addr),PE (X.qK s H scope (compEnvC scope cl C X.env) fp) elt te)(hs:∀x,foldedSetIterable iter X.env x=pure x:=by intro _;rfl) :
  PS X (.Assign [.Name y py] (.ListComp elt [⟨tg,iter,ifs,0⟩] scope pos) OH) (An (HM wi g tt te (own.map (·.2))) (fH i)):=by
 intro pins s σ H D I h;rw[exec_Assign_Name_used _ _ _ _ Vl];refine Xm (wpAny_standAt (Xm ?_));show wpAny _ X.A (do let _ ←comprehension (.ListComp elt [⟨tg,iter,ifs,0⟩] scope pos) scope X.env (firstIterPos [⟨tg,iter,ifs,0⟩] pos) (newList []) false (eval iter X.env) (some (assign (.Name y py) X.env))) _ _ s;have h:HM wi g tt te (own.map (·.2)) σ H (λx H1=>fH i x σ H1 D.nx):=h;refine Xm (bA (zh (Qf:=λ_ s'=>SP X pins D .next s') hc hN I hi ok hg ht he hs h λL C s' m H' I' q hn f=>?_) λ_ s' hq=>Xu (Xu hq));show wpAny _ _ (assign (.Name y py) X.env (.ref L)) _ _ _;refine wpAny_assign_Name (sC (v:=V.ref L) I' hN hy (.inl Sq) rfl (λs2 I2 ⟨a,sb,ha⟩=>?_) (.inr Sq));obtain⟨f0,f1,f2,f3,f4,f5⟩:=f;have Vm:C≠a:=by
  rcases ha with z|z
  · rw[z];exact f1
  · exact λe=>f4 y a z e.symm
 refine⟨m,hn.sameBut sb Vm,λh3 Vn=>?_⟩;exact⟨_,H',I2.turned (t':=s2.toks) (λb o hb e=>(Vn.2 b hb).trans e) f0 f1 f3 f4 f5,q⟩
theorem s_ {elt:Expr}{gs:List Comprehension}{scope:Scope}{pos py:Pos}{y:Str}{l:Nat}{env:Env}(hk:env.scope.kind=.function)(hy:env.scope.names.lookup y=some .local)(hl:(py.line==pos.line)=true)
  (ha:(scope.names.any λ(n,k)=>n==y&&(k==.local||k==.cell))=false):swapsWith (.ListComp elt gs scope pos) (some (.Name y py)) l env=pure true:=by
 have ky:env.kindOf y=some .local:=hy;have hb:env.blockKind=.function:=by unfold Env.blockKind;rw[hk];rfl
 unfold swapsWith;simp only[hb,ky,ha,Expr.pos,hl];rfl
end
theorem lK {lo:Int}{n:Nat}{g:TG}{tt:TT}{te:TE}{vs:Z_}{σ:St}{H1:Hp}{D:Addr}{Qd:Hp->Prop}(Pv:Nat->Hp->Prop)(h0:Pv 0 (upd H1 D (.lst [])))
  (hs:∀i H,i < n->Pv i H->g (.int (lo+i)) (wipe σ vs) H λσ2 H2=>wipe σ2 vs=wipe σ vs/\tt σ2 H2 λb H3 =>
   if b=true then te σ2 H3 λy H4=>∃acc,H4 D=some (.lst acc)/\acc.length < sizeLine/\Pv (i+1) (upd H4 D (.lst (acc++[y]))) else Pv (i+1) H3) (hd:∀H,Pv n H->Qd H) :
  ∃W:Nat->Nat->Hp->Prop,(∃m,W 0 m (upd H1 D (.lst [])))/\∀i m H,W i m H ->
   ((Az lo n).stop i H/\Qd H)∨((Az lo n).go i H/\∃Nx:Hp->Prop,(∀H',Nx H'->∃m',m' < m/\W (i+1) m' H')/\∀x H',(Az lo n).vZ i H x H'->g x (wipe σ vs) H' λσ2 H2=>wipe σ2 vs=wipe σ vs/\tt σ2 H2 λb H3 =>
    if b=true then te σ2 H3 λy H4=>∃acc,H4 D=some (.lst acc)/\acc.length < sizeLine/\Nx (upd H4 D (.lst (acc++[y]))) else Nx H3):=by
 refine⟨λi m H=>m=n - i/\i<=n/\Pv i H,⟨n,by simp,XW _,h0⟩,?_⟩;rintro i m H ⟨rfl,hi,p⟩;by_cases LC:i < n
 · refine .inr ⟨LC,Pv (i+1),λH' p'=>⟨n - (i+1),by omega,rfl,LC,p'⟩,λx H' y=>?_⟩;obtain⟨e,y⟩:=y;subst e y;exact hs i _ LC p
 · have e:i=n:=by omega
   subst e;exact .inl ⟨Xx _,hd H p⟩
theorem jf {K:aaa}{a:Addr}{xs:List V}{g:TG}{tt:TT}{te:TE}{vs:Z_}{σ:St}{H1:Hp}{D:Addr}{Qd:Hp->Prop}(Pv:Nat->Hp->Prop)(h0:Pv 0 (upd H1 D (.lst [])))(hl:∀i H,i<=xs.length->Pv i H->aQ K H a xs)
  (hs:∀i x H,xs[i]?=some x->Pv i H->g x (wipe σ vs) H λσ2 H2=>wipe σ2 vs=wipe σ vs/\tt σ2 H2 λb H3 =>
   if b=true then te σ2 H3 λy H4=>∃acc,H4 D=some (.lst acc)/\acc.length < sizeLine/\Pv (i+1) (upd H4 D (.lst (acc++[y]))) else Pv (i+1) H3) (hd:∀H,Pv xs.length H->Qd H) :
  ∃W:Nat->Nat->Hp->Prop,(∃m,W 0 m (upd H1 D (.lst [])))/\∀i m H,W i m H ->
   ((Bn K a).stop i H/\Qd H)∨((Bn K a).go i H/\∃Nx:Hp->Prop,(∀H',Nx H'->∃m',m' < m/\W (i+1) m' H')/\∀x H',(Bn K a).vZ i H x H'->g x (wipe σ vs) H' λσ2 H2=>wipe σ2 vs=wipe σ vs/\tt σ2 H2 λb H3 =>
    if b=true then te σ2 H3 λy H4=>∃acc,H4 D=some (.lst acc)/\acc.length < sizeLine/\Nx (upd H4 D (.lst (acc++[y]))) else Nx H3):=by
 refine⟨λi m H=>m=xs.length - i/\i<=xs.length/\Pv i H,⟨xs.length,by simp,XW _,h0⟩,?_⟩;rintro i m H ⟨rfl,hi,p⟩;have q:=hl i H hi p;by_cases LC:i < xs.length
 · refine .inr ⟨⟨xs,xs[i],q,by simp[LC]⟩,Pv (i+1),λH' p'=>⟨xs.length - (i+1),by omega,rfl,LC,p'⟩,λx H' y=>?_⟩;obtain⟨e,y⟩:=y;subst e;exact hs i x _ (y xs q) p
 · have e:i=xs.length:=by omega
   subst e;exact .inl ⟨⟨xs,q,Xx _⟩,hd H p⟩
theorem Hr {K:aaa}{a:Addr}{xs:List V}{g:TG}{tt:TT}{te:TE}{vs:Z_}{σ:St}{H1:Hp}{D:Addr}{Qd:Hp->Prop}(Pv:Nat->Hp->Prop)(h0:Pv 0 (upd H1 D (.lst [])))(hl:∀i H,i<=xs.length->Pv i H->b7 K H a xs)
  (hs:∀i x H,xs[i]?=some x->Pv i H->g x (wipe σ vs) H λσ2 H2=>wipe σ2 vs=wipe σ vs/\tt σ2 H2 λb H3 =>
   if b=true then te σ2 H3 λy H4=>∃acc,H4 D=some (.lst acc)/\acc.length < sizeLine/\Pv (i+1) (upd H4 D (.lst (acc++[y]))) else Pv (i+1) H3) (hd:∀H,Pv xs.length H->Qd H) :
  ∃W:Nat->Nat->Hp->Prop,(∃m,W 0 m (upd H1 D (.lst [])))/\∀i m H,W i m H ->
   ((Ij K a).stop i H/\Qd H)∨((Ij K a).go i H/\∃Nx:Hp->Prop,(∀H',Nx H'->∃m',m' < m/\W (i+1) m' H')/\∀x H',(Ij K a).vZ i H x H'->g x (wipe σ vs) H' λσ2 H2=>wipe σ2 vs=wipe σ vs/\tt σ2 H2 λb H3 =>
    if b=true then te σ2 H3 λy H4=>∃acc,H4 D=some (.lst acc)/\acc.length < sizeLine/\Nx (upd H4 D (.lst (acc++[y]))) else Nx H3):=by
 refine⟨λi m H=>m=xs.length - i/\i<=xs.length/\Pv i H,⟨xs.length,by simp,XW _,h0⟩,?_⟩;rintro i m H ⟨rfl,hi,p⟩;have q:=hl i H hi p;by_cases LC:i < xs.length
 · refine .inr ⟨⟨xs,xs[i],q,by simp[LC]⟩,Pv (i+1),λH' p'=>⟨xs.length - (i+1),by omega,rfl,LC,p'⟩,λx H' y=>?_⟩;obtain⟨e,y⟩:=y;subst e;exact hs i x _ (y xs q) p
 · have e:i=xs.length:=by omega
   subst e;exact .inl ⟨⟨xs,q,Xx _⟩,hd H p⟩
def Io (N:List Str)(sc scope:Scope)(own:List (Str×Nat)):Bool :=
 (match scope.kind with|.function=>true|_=>false)&&(scope.names.all λy=>decide (scope.names.lookup y.1=some y.2))&&(own.all λp=>decide (N[p.2]?=some p.1)) &&
  (scope.names.all λy=>match y.2 with
   |.free=>(match sc.names.lookup y.1 with|some .cell=>true|some .free=>true|_=>false)
   |.local=>decide (y.1∈own.map (·.1))||decide (y.1∉N)
   |.cell=>decide (y.1∈own.map (·.1))||decide (y.1∉N)
   |_=>true)
theorem bz {N:List Str}{sc scope:Scope}{own:List (Str×Nat)}(h:Io N sc scope own=true):uX N sc scope own:=by
 unfold Io at h;simp only[Xv,XU,Xw] at h;obtain⟨⟨⟨h1,h2⟩,h3⟩,h4⟩:=h;refine⟨?_,h2,h3,λy hy e=>?_,λy hy e=>?_⟩
 · split at h1
   · assumption
   · cases h1
 · have q:=h4 y hy;simp only[e] at q;split at q <;> first|exact .inl (by assumption)|exact .inr (by assumption)|cases q
 · have q:=h4 y hy;rcases e with e|e <;> (simp only[e,Yp,Xw] at q;exact q)
section
variable {prog:Program}{w:World}{A:Around}{R:Result->Shared->Prop}{s:Shared}{elt t0 i0 t1 i1:Expr}{ifs0 ifs1:List Expr}{scope:Scope}{pos:Pos}{it acc:Value}{env:Env}
end
section
variable {X:Cx}
end
section
variable {κ:Type} [DecidableEq κ]
def cS (Lx:List (κ×V)) (k:κ):Option V:=(Lx.find? λkv=>decide (kv.1=k)).map (·.2)
def putK (Lx:List (κ×V))(k:κ)(v:V):List (κ×V) :=
 if (Lx.any λkv=>decide (kv.1=k))=true then Lx.map (λkv=>if kv.1=k then (kv.1,v) else kv) else Lx++[(k,v)]
theorem cY {p:κ×V}{r:List (κ×V)}{k:κ}(e:p.1=k):cS (p::r) k=some p.2:=by simp[cS,Y3,e]
theorem c_ {p:κ×V}{r:List (κ×V)}{k:κ}(e:¬p.1=k):cS (p::r) k=cS r k:=by simp[cS,Y3,e]
theorem mw (k:κ):∀Lx:List (κ×V),(Lx.any λkv=>decide (kv.1=k))=(cS Lx k).isSome
 |[]=>rfl
 |p::r=>by
  rw[YX];by_cases e:p.1=k
  · simp only[cY e,X4 e,Bool.true_or,Option.isSome_some]
  · rw[c_ e,Yc e,Bool.false_or];exact mw k r
theorem vA (k j:κ)(y:V):∀Lx:List (κ×V),cS (Lx.map λkv=>if kv.1=k then (kv.1,y) else kv) j=(cS Lx j).map λx=>if j=k then y else x
 |[]=>rfl
 |p::r=>by
  have ih:=vA k j y r;rw[XE];by_cases h:p.1=k
  · rw[Xp h];by_cases e:p.1=j
    · rw[cY (p:=(p.1,y)) e,cY e,Option.map_some,Xp (e.symm.trans h)]
    · rw[c_ (p:=(p.1,y)) e,c_ e,ih]
  · rw[Xo h];by_cases e:p.1=j
    · rw[cY (p:=p) e,cY e,Option.map_some,Xo (λz=>h (e.trans z))]
    · rw[c_ (p:=p) e,c_ e,ih]
theorem r8 (k j:κ)(y:V):∀Lx:List (κ×V),cS Lx k=none->cS (Lx++[(k,y)]) j=if j=k then some y else cS Lx j
 |[],_=>by
  by_cases e:k=j
  · rw[Xp e.symm];exact cY (p:=(k,y)) e
  · rw[Xo (λz=>e z.symm)];exact c_ (p:=(k,y)) e
 |p::r,hn=>by
  rw[Zv];have hk:¬p.1=k:=λz=>by rw[cY z] at hn;cases hn
  rw[c_ hk] at hn;have ih:=r8 k j y r hn;by_cases e:p.1=j
  · rw[cY e,cY e,Xo (λz=>hk (e.trans z))]
  · rw[c_ e,c_ e,ih]
theorem qx (Lx:List (κ×V))(k j:κ)(y:V):cS (putK Lx k y) j=if j=k then some y else cS Lx j:=by
 unfold putK;by_cases a:(Lx.any λkv=>decide (kv.1=k))=true
 · rw[Xp a,vA];rw[mw] at a;by_cases e:j=k
   · obtain⟨x,hx⟩:=Zz.mp a;rw[Xp e,e,hx,Option.map_some,Xp rfl]
   · rw[Xo e];cases cS Lx j with
     |none=>rfl
     |some x=>rw[Option.map_some,Xo e]
 · rw[Xo a];refine r8 k j y Lx ?_;rw[mw] at a;cases q:cS Lx k with
   |none=>rfl
   |some x=>rw[q] at a;exact (a rfl).elim
theorem gL (Lx:List (κ×V))(k:κ)(v:V):(putK Lx k v).length<=Lx.length+1:=by
 unfold putK;split
 · rw[Xn];omega
 · rw[XM,Xz,YZ];omega
theorem i8.ir {o:Option V}{u:Option Value}(r:i8 o u):o.isSome=u.isSome:=by
 cases o with
 |none=>cases u with
  |none=>rfl
  |some _=>exact (show False from r).elim
 |some _=>cases u with
  |none=>exact (show False from r).elim
  |some _=>rfl
theorem i8.getD {o:Option V}{u:Option Value}{d:V}{d':Value}(r:i8 o u)(rd:RelV d d'):RelV (o.getD d) (u.getD d'):=by
 cases o with
 |none=>cases u with
  |none=>exact rd
  |some _=>exact (show False from r).elim
 |some _=>cases u with
  |none=>exact (show False from r).elim
  |some _=>exact r
theorem KV.val {Lx:List (κ×V)}{vs:List (κ×Value)}(r:KV Lx vs)(k:κ):i8 (cS Lx k) (valueAt vs k):=by
 unfold KV at r
 induction r with
 |nil=>exact True.intro
 |@cons p q ps qs h t ih =>
  obtain⟨h1,h2⟩:=h;by_cases e:p.1=k
  · have e':q.1=k:=h1.symm.trans e;have b:valueAt (q::qs) k=some q.2:=by simp[valueAt,Y3,e']
    rw[cY e,b];exact h2
  · have e':¬q.1=k:=λz=>e (h1.trans z);have b:valueAt (q::qs) k=valueAt qs k:=by simp[valueAt,Y3,e']
    rw[c_ e,b];exact ih
theorem KV.any {Lx:List (κ×V)}{vs:List (κ×Value)}(r:KV Lx vs)(k:κ):(Lx.any λkv=>decide (kv.1=k))=vs.any λkv=>decide (kv.1=k):=by
 unfold KV at r
 induction r with
 |nil=>rfl
 |cons h t ih=>rw[YX,YX,ih,h.1]
theorem KV.F8 {Lx:List (κ×V)}{vs:List (κ×Value)}(r:KV Lx vs)(k:κ){y:V}{u:Value}(ry:RelV y u) :
  KV (Lx.map λkv=>if kv.1=k then (kv.1,y) else kv) (vs.map λkv=>if kv.1=k then (kv.1,u) else kv):=by
 unfold KV at r ⊢
 induction r with
 |nil=>exact .nil
 |@cons p q ps qs h t ih =>
  rw[XE,XE];refine .cons ?_ ih;obtain⟨h1,h2⟩:=h;by_cases e:p.1=k
  · rw[Xp e,Xp (h1.symm.trans e)];exact⟨h1,ry⟩
  · rw[Xo e,Xo (λz=>e (h1.trans z))];exact⟨h1,h2⟩
theorem KV.put {Lx:List (κ×V)}{vs:List (κ×Value)}(r:KV Lx vs)(k:κ){y:V}{u:Value}(ry:RelV y u):KV (putK Lx k y) (stored vs k u):=by
 unfold putK stored;rw[r.any k];by_cases e:(vs.any λkv=>decide (kv.1=k))=true
 · rw[Xp e,Xp e];exact r.F8 k ry
 · rw[Xo e,Xo e];exact Paired.snoc r ⟨rfl,ry⟩
theorem KV.length {Lx:List (κ×V)}{vs:List (κ×Value)}(r:KV Lx vs):Lx.length=vs.length:=Paired.length r
end
theorem pU {P:Program}{w:World}{k:Key}{u:Value}(r:RelV (kV k) u):(cx P w).is k u=true:=by
 cases k with
 |inl i=>obtain⟨t,e⟩:=(show ∃t,u=Value.int i t from r);subst e;exact vB P w i t
 |inr x=>obtain⟨t,e⟩:=(show ∃t,u=Value.str x t from r);subst e;exact uL P w x t
theorem sD {P:Program}{w:World}:∀{ks:List Key} {us:aae},Vals (ks.map kV) us->ItemsAre (cx P w) ks us
 |[],_,r=>by rw[YN] at r;cases r;exact .nil
 |k::ks,_,r=>by
  rw[XE] at r;cases r with
  |cons h t=>exact .cons (pU h) (sD t)
abbrev KT (H:Hp):List (List Key×V)->List (List Key×Addr×Value)->Prop:=Paired λp q=>p.1=q.1/\H q.2.1=some (.tup (p.1.map kV))/\RelV p.2 q.2.2
theorem KT.val {H:Hp}{Lx:List (List Key×V)}{xs:List (List Key×Addr×Value)}(r:KT H Lx xs)(k:List Key):i8 (cS Lx k) ((atKey xs k).map (·.2)):=by
 induction r with
 |nil=>exact True.intro
 |@cons p q ps qs h t ih =>
  obtain⟨h1,_,h2⟩:=h;by_cases e:p.1=k
  · have e':q.1=k:=h1.symm.trans e;have b:atKey (q::qs) k=some q.2:=by simp[atKey,Y3,e']
    rw[cY e,b];exact h2
  · have e':¬q.1=k:=λz=>e (h1.trans z);have b:atKey (q::qs) k=atKey qs k:=by simp[atKey,Y3,e']
    rw[c_ e,b];exact ih
theorem KT.F8 {H:Hp}{Lx:List (List Key×V)}{xs:List (List Key×Addr×Value)}(r:KT H Lx xs)(k:List Key){y:V}{u:Value}(ry:RelV y u) :
  KT H (Lx.map λkv=>if kv.1=k then (kv.1,y) else kv) (xs.map (putAt k u)):=by
 induction r with
 |nil=>exact .nil
 |@cons p q ps qs h t ih =>
  rw[XE,XE];refine .cons ?_ ih;obtain⟨h1,h2,h3⟩:=h;unfold putAt;by_cases e:p.1=k
  · rw[Xp e,Xp (h1.symm.trans e)];exact⟨h1,h2,ry⟩
  · rw[Xo e,Xo (λz=>e (h1.trans z))];exact⟨h1,h2,h3⟩
theorem KT.put {H:Hp}{Lx:List (List Key×V)}{xs:List (List Key×Addr×Value)}(r:KT H Lx xs)(k:List Key){b:Addr}{y:V}{u:Value}(hb:H b=some (.tup (k.map kV)))(ry:RelV y u) :
  KT H (putK Lx k y) (storedH xs k b u):=by
 have e:(Lx.any λkv=>decide (kv.1=k))=(atKey xs k).isSome:=by
  rw[mw,(r.val k).ir,Option.isSome_map]
 unfold putK storedH;rw[e];by_cases q:(atKey xs k).isSome=true
 · rw[Xp q,Xp q];exact r.F8 k ry
 · rw[Xo q,Xo q];exact Paired.snoc r ⟨rfl,hb,ry⟩
theorem KT.keeps {H H':Hp}{Lx:List (List Key×V)}{xs:List (List Key×Addr×Value)}(r:KT H Lx xs)(ht:∀b ys,H b=some (.tup ys)->H' b=some (.tup ys)):KT H' Lx xs :=
 Paired.d8 r λ_ _ z=>⟨z.1,ht _ _ z.2.1,z.2.2⟩
section
variable {P:Program}{w:World}{H:Hp}{h:Heap}{a:Addr}
theorem Ft {u:HO} (ok:ie P w H h) (e:Rd H a u):bK P w H h a u:=e.ok ok
theorem uJ {Lx:List (Key×V)}(ok:ie P w H h)(e:Rd H a (.dK Lx)):Lx.length<=sizeLine/\(a==sysModules)=false/\∃vs,KV Lx vs/\h.DictOf (cx P w) a vs :=
 show bK P w H h a (.dK Lx) from Ft ok e
theorem IU {Lx:List (Key×V)}(ok:ie P w H h)(e:H a=some (.dK Lx)):Lx.length<=sizeLine/\(a==sysModules)=false/\∃vs,KV Lx vs/\h.DictOf (cx P w) a vs:=uJ ok (.inl e)
theorem pR {ks:List Key}(ok:ie P w H h)(e:H a=some (.tup (ks.map kV))):(tupleKind (cx P w)).is h ks a:=by
 obtain⟨_,Ly,r,o,h1,h2,n,h3⟩:=(show bK P w H h a (.tup (ks.map kV)) from ok a _ e);exact⟨o,Ly.toArray,n,h1,h2,h3,by simpa using sD r⟩
theorem vq {Lx:List (List Key×V)}(ok:ie P w H h)(e:Rd H a (.dT Lx)):Lx.length<=sizeLine/\(a==sysModules)=false /\
  ∃xs,KT H Lx xs/\h.DictOfH (tupleKind (cx P w)) a xs:=by
 obtain⟨z,y,xs,r,o,es,ep,h1,h2,h3,h4,h5⟩:=(show bK P w H h a (.dT Lx) from Ft ok e);refine⟨z,y,xs,r,o,es,ep,h1,h2,h3,h4,λx hx=>?_,h5⟩;have all:∀{l:List (List Key×V)} {m:List (List Key×Addr×Value)},KT H l m->∀x∈m,(tupleKind (cx P w)).is h x.1 x.2.1:=by
  intro l m q
  induction q with
  |nil=>intro x hx;exact nomatch hx
  |@cons p q ps qs hq t ih =>
   intro x hx;rcases Xr.mp hx with e|hx
   · subst e;exact pR ok (by rw[←hq.1];exact hq.2.1)
   · exact ih x hx
 exact all r x hx
theorem Jm {Lx:List (List Key×V)}(ok:ie P w H h)(e:H a=some (.dT Lx)):Lx.length<=sizeLine/\(a==sysModules)=false /\
  ∃xs,KT H Lx xs/\h.DictOfH (tupleKind (cx P w)) a xs:=vq ok (.inl e)
end
def gp (H:Hp)(a:Addr)(y:V)(r:Option V):Prop :=
 (∃Lx k,Rd H a (.dK Lx)/\y=kV k/\r=cS Lx k)∨∃Lx k b,Rd H a (.dT Lx)/\y=.ref b/\H b=some (.tup (k.map kV))/\r=cS Lx k
def Jp (H:Hp)(a:Addr)(y v:V)(H':Hp):Prop :=
 (∃Lx k,H a=some (.dK Lx)/\y=kV k/\Lx.length < sizeLine/\H'=upd H a (.dK (putK Lx k v))) ∨
 ∃Lx k b,H a=some (.dT Lx)/\y=.ref b/\H b=some (.tup (k.map kV))/\Lx.length < sizeLine/\H'=upd H a (.dT (putK Lx k v))
theorem gp.k {H:Hp}{a:Addr}{Lx:List (Key×V)}{k:Key}(e:H a=some (.dK Lx)):gp H a (kV k) (cS Lx k):=.inl ⟨Lx,k,.inl e,rfl,rfl⟩
theorem gp.t {H:Hp}{a b:Addr}{Lx:List (List Key×V)}{k:List Key}(e:H a=some (.dT Lx))(eb:H b=some (.tup (k.map kV))):gp H a (.ref b) (cS Lx k):=.inr ⟨Lx,k,b,.inl e,rfl,eb,rfl⟩
section
variable {X:Cx}{pins:aad}{σ:St}{H:Hp}{s:Shared}{a:Addr}{y v:V}{u r:Value}{o:Option V}{A:Around}{E:aab}
theorem Inv.big (I:Inv X pins σ H s):sysModules < s.heap.objs.size:=by
 have h:mainGlobals < s.heap.objs.size:=(I.mod.glob.keeps I.bk).lt;exact Nat.lt_trans (by decide) h
theorem KH {Q:aab}(hu:A.units+1 < cLine)(I:Inv X pins σ H s)(g:gp H a y o)(ry:RelV y u)(h:∀s',Inv X pins σ H s'->Q (.bool o.isSome) s') :
  wpAny (model X.prog X.w) A (compareOp .In u (.ref a)) Q E s:=by
 rcases g with ⟨Lx,k,e,ey,l⟩|⟨Lx,k,b,e,ey,eb,l⟩
 · subst ey;obtain⟨z,hd,vs,rel,dd⟩:=uJ I.bu e;refine wpAny_in_of (pU ry) hd dd.mapOf ?_;rw[←(rel.val k).ir,←l];exact h _ (I.tok _)
 · subst ey;cases (show u=Value.ref b from ry);obtain⟨z,hd,xs,rel,dd⟩:=vq I.bu e;refine wpAny_in_heap (Z4 hu) (pR I.bu eb) hd dd ?_;have q:=(rel.val k).ir;rw[Option.isSome_map] at q;rw[←q,←l];exact h _ (I.tok _)
theorem Ey {Q:aab}(hu:A.units+1 < cLine)(I:Inv X pins σ H s)(g:gp H a y o)(ry:RelV y u)(h:∀s',Inv X pins σ H s'->Q (.bool (!o.isSome)) s') :
  wpAny (model X.prog X.w) A (compareOp .NotIn u (.ref a)) Q E s:=by
 rcases g with ⟨Lx,k,e,ey,l⟩|⟨Lx,k,b,e,ey,eb,l⟩
 · subst ey;obtain⟨z,hd,vs,rel,dd⟩:=uJ I.bu e;refine wpAny_notIn_of (pU ry) hd dd.mapOf ?_;rw[←(rel.val k).ir,←l];exact h _ (I.tok _)
 · subst ey;cases (show u=Value.ref b from ry);obtain⟨z,hd,xs,rel,dd⟩:=vq I.bu e;refine wpAny_notIn_heap (Z4 hu) (pR I.bu eb) hd dd ?_;have q:=(rel.val k).ir;rw[Option.isSome_map] at q;rw[←q,←l];exact h _ (I.tok _)
theorem yr {h':Heap}{t':Nat}{ob:HO}(I:Inv X pins σ H s)(mu:JM (H a))(hs:Heap.SameBut a s.heap h')(he:∃q,h'.get? a=some q)(new:bK X.prog X.w (upd H a ob) h' a ob) :
  Inv X pins σ (upd H a ob) {s with heap:=h',toks:=t'} :=
 I.write (x:=a) (e:=a) mu (.inl rfl) (λb q hb z=>(hs.2 b hb).trans z) he new
theorem Gb {P:Program}{w:World}{H':Hp}{h':Heap}{Lx:List (Key×V)}{vs:List (Key×Value)}(z:Lx.length<=sizeLine)(hd:(a==sysModules)=false)(rel:KV Lx vs)(dd:h'.DictOf (cx P w) a vs) :
  bK P w H' h' a (.dK Lx):=⟨z,hd,vs,rel,dd⟩
theorem Ag {H':Hp}{Q:Unit->Shared->Prop}(hu:A.units+1 < cLine)(I:Inv X pins σ H s)(g:Jp H a y v H')(ry:RelV y u)(rv:RelV v r)(h:∀s',Inv X pins σ H' s'->Q () s') :
  wpAny (model X.prog X.w) A (setItem (.ref a) u r) Q E s:=by
 rcases g with ⟨Lx,k,e,ey,l,eH⟩|⟨Lx,k,b,e,ey,eb,l,eH⟩
 · subst ey eH;obtain⟨z,hd,vs,rel,dd⟩:=IU I.bu e;have hz:vs.length<=sizeLine:=by rw[←rel.length];exact z
   have hl:(putK Lx k v).length<=sizeLine:=by have:=gL Lx k v;omega
   refine wpAny_setItem_pairs (hsz:=hz) (pU ry) dd λh' PK hs=>h _ ?_;have he:∃q,h'.get? a=some q:=let ⟨q,_,_,hq,_⟩:=PK;⟨q,hq⟩;exact yr I (by rw[e];exact True.intro) hs he (Gb hl hd (rel.put k rv) PK)
 · subst ey eH;cases (show u=Value.ref b from ry);obtain⟨z,hd,xs,rel,dd⟩:=Jm I.bu e;have hz:xs.length<=sizeLine:=by rw[←Paired.length rel];exact z
   have hl:(putK Lx k v).length<=sizeLine:=by have:=gL Lx k v;omega
   refine wpAny_setItem_heap (hsz:=hz) (Z4 hu) (pR I.bu eb) dd λh' PK hs=>h _ ?_;obtain⟨q,es,ep,hq,h2,h3,h4,_,h5⟩:=PK;refine yr I (by rw[e];exact True.intro) hs ⟨q,hq⟩ ⟨hl,hd,_,(rel.put k eb rv).keeps λc ys ec=>?_,q,es,ep,hq,h2,h3,h4,h5⟩;rw[aq (dE ec e (λz=>nomatch z))];exact ec
end
section
variable {X:Cx}{pins:aad}{σ:St}{H:Hp}{s:Shared}{a:Addr}{Lx:List (Key×V)}{k:Key}{u:Value}{A:Around}{E:aab}
end
def IG (i:Expr):Prop:=∀ov iv,subscripted i false ov iv=operate [ov,iv] (getItem ov iv)
theorem DW {prog:Program}{w:World}{A:Around}{E:aab}{s:Shared}{env:Env}{value slice:Expr}{pos:Pos}{T id:String}{Q:aab}
  (hl:typeLookup (.type T) "__getitem__"=pure (some (.builtin id)))(hs:IG slice)
  (h:wpAny (model prog w) A (eval value env) (λo s₁=>wpAny (model prog w) A (eval slice env) (λi s₂=>s₂.TypeIs o T/\wpAny (model prog w) A (getItem o i) Q E s₂) E s₁) E s) :
  wpAny (model prog w) A (eval (.Subscript value slice pos) env) Q E s:=by
 refine Subscript_ (YG h (λo s₁ h₁=>YG h₁ (λi s₂ h₂=>?_) λ_ _ x=>x) λ_ _ x=>x);obtain⟨hT,h₂⟩:=h₂;unfold subscriptTail;refine Xm ?_;rw[getitemInPython_of_ne hT.not_modules];refine Xm (wpAny_specialOf hT hl ?_);have fin:wpAny (model prog w) A (subscripted slice false o i) (λr s₃=>wpAny (model prog w) A (letTemporaryGo value o r >>= λ_=>pure r) Q E s₃) E s₂:=by
  rw[hs o i];exact wpAny_operating (YG h₂ (λr s₃ h₃=>Xm (wpAny_letTemporaryGo (Xu h₃))) λ_ _ x=>x)
 first
  |exact Xu (Xm fin)
  |exact Xm (Xu (Xm fin))
  |exact Xm fin
def JG (ty td:TE):TE:=λσ H Q=>ty σ H λy H1=>td σ H1 λx H2=>∃a o,x=.ref a/\gp H2 a y o/\Q (.bl o.isSome) H2
def Dj (ty td:TE):TE:=λσ H Q=>ty σ H λy H1=>td σ H1 λx H2=>∃a o,x=.ref a/\gp H2 a y o/\Q (.bl (!o.isSome)) H2
def Jc (td ty tv:TE):TS:=λD σ H=>tv σ H λv H1=>td σ H1 λx H2=>ty σ H2 λy H3=>∃a H4,x=.ref a/\Jp H3 a y v H4/\D.nx σ H4
section
variable {X:Cx}{o i e value:Expr}{pos pos' LO:Pos}{td ty tv:TE}
theorem tE (hu:X.A.units+1 < cLine) (hi:PE X i ty) (ho:PE X o td):PC X .In i o (JG ty td):=by
 intro pins s σ H Q I h;refine bA (hi pins s σ H _ I h) λiv s1 ⟨y,H1,I1,ry,q1⟩=>bA (ho pins s1 σ H1 _ I1 q1) λu s2 ⟨x,H2,I2,rx,a,ov,ex,g,q2⟩=>?_;subst ex;obtain rfl:u=Value.ref a:=rx;exact KH hu I2 g ry λs3 I3=>⟨.bl ov.isSome,H2,I3,rfl,q2⟩
theorem zV (hu:X.A.units+1 < cLine)(hi:PE X i ty)(ho:PE X o td):PC X .NotIn i o (Dj ty td):=by
 intro pins s σ H Q I h;refine bA (hi pins s σ H _ I h) λiv s1 ⟨y,H1,I1,ry,q1⟩=>bA (ho pins s1 σ H1 _ I1 q1) λu s2 ⟨x,H2,I2,rx,a,ov,ex,g,q2⟩=>?_;subst ex;obtain rfl:u=Value.ref a:=rx;exact Ey hu I2 g ry λs3 I3=>⟨.bl (!ov.isSome),H2,I3,rfl,q2⟩
theorem ma (hu:X.A.units+1 < cLine)(ho:PE X o td)(hi:PE X i ty)(hv:PE X value tv)(hs:swapsWith value (some (.Subscript o i pos')) pos.line X.env=pure false) :
  PS X (.Assign [.Subscript o i pos'] value pos) (Jc td ty tv):=by
 intro pins s σ H D I h;refine wpAny_Assign_Subscript (bA (hv pins s σ H _ I h) λr s1 ⟨v,H1,I1,rv,q1⟩=>bA (ho pins s1 σ H1 _ I1 q1) λu s2 ⟨x,H2,I2,rx,q2⟩=>bA (hi pins s2 σ H2 _ I2 q2) λiv s3 ⟨y,H3,I3,ry,a,H4,ex,g,q3⟩=>?_) hs;subst ex;obtain rfl:u=Value.ref a:=rx;exact Ag hu I3 g ry rv λs4 I4=>⟨σ,H4,I4,q3⟩
end
theorem CS {P:Program}{w:World}{H:Hp}(h:Heap)(hb:sysModules < h.objs.size):bK P w H (h.push {cls:=.type "dict",data:=.dict #[]}) h.objs.size (.dK []) :=
 ⟨XW _,XX.mpr (Z2 (X1 hb)),[],.nil,Heap.DictOf.new h⟩
theorem Bs {P:Program}{w:World}{H:Hp}(h:Heap)(hb:sysModules < h.objs.size):bK P w H (h.push {cls:=.type "dict",data:=.dict #[]}) h.objs.size (.dT []) :=
 ⟨XW _,XX.mpr (Z2 (X1 hb)),[],.nil,_,#[],0,XD _ rfl,⟨rfl,rfl,rfl⟩,rfl,rfl,List.nodup_nil⟩
def GS:TE:=λ_ H Q=>∀p,H p=none->Q (.ref p) (upd H p (.dK []))
def G1:TE:=λ_ H Q=>∀p,H p=none->Q (.ref p) (upd H p (.dT []))
section
variable {X:Cx}{pos:Pos}
theorem qf:PE X (.Dict [] [] pos) GS:=λpins s σ H Q I h =>
 wpAny_Dict_empty ⟨.ref s.heap.objs.size,_,I.laid (a:=s.heap.objs.size) (o:=.dK []) (t':=s.toks) (λ_ _ q=>Xq _ q) (Xx _) (CS s.heap I.big),rfl,h _ (I.bu.fresh (Xx _))⟩
theorem oS:PE X (.Dict [] [] pos) G1:=λpins s σ H Q I h =>
 wpAny_Dict_empty ⟨.ref s.heap.objs.size,_,I.laid (a:=s.heap.objs.size) (o:=.dT []) (t':=s.toks) (λ_ _ q=>Xq _ q) (Xx _) (Bs s.heap I.big),rfl,h _ (I.bu.fresh (Xx _))⟩
end
structure M2 (X:Cx)(o:Expr)(m:Str)(apos:Pos)(e f:Expr)(LD:Pos):Prop where
 base:attributeBase o m X.env (eval o X.env)=eval o X.env
 v9:((backTo LD (starEach [e,f] X.env)).all (λx=>!x.1)&&(backToKw LD (keywordEach [] X.env)).all (λx=>x.1.isSome)
  && decide (([e,f]:List Expr).length+([]:List Keyword).length+(if ([]:List Keyword).isEmpty then 0 else 1) < 30))=true
 line:(apos.endLine==LD.line)=true
 trees:backTo LD (starEach [e,f] X.env)=[(false,eval e X.env),(false,eval f X.env)]
def K_ (H:Hp)(a:Addr):Prop:=(∃Lx,Rd H a (.dK Lx))∨∃Lx,Rd H a (.dT Lx)
theorem Gp {X:Cx}{pins:aad}{σ:St}{H:Hp}{s:Shared}{a:Addr}(I:Inv X pins σ H s)(d:K_ H a) :
  s.TypeIs (.ref a) "dict"/\(∀b,Value.ref a=.ref b->∃ob,s.heap.get? b=some ob/\ob.dict=none)/\(a==sysModules)=false:=by
 rcases d with ⟨Lx,e⟩|⟨Lx,e⟩
 · obtain⟨_,hd,vs,_,dd⟩:=uJ I.bu e;refine⟨dd.typeIs,λb q=>?_,hd⟩;cases q;obtain⟨ob,_,_,h1,h2,_⟩:=dd;exact⟨ob,h1,h2.2.1⟩
 · obtain⟨_,hd,xs,_,dd⟩:=vq I.bu e;refine⟨dd.typeIs,λb q=>?_,hd⟩;cases q;obtain⟨ob,_,_,h1,h2,_⟩:=dd;exact⟨ob,h1,h2.2.1⟩
section
variable {X:Cx}{pins:aad}{σ:St}{H:Hp}{s:Shared}{a:Addr}{y d:V}{u r:Value}{o:Option V}{A:Around}{E:aab}
theorem F6 {Q:aab} (hu:A.units+1 < cLine) (I:Inv X pins σ H s) (g:gp H a y o) (ry:RelV y u) (rd:RelV d r) (h:∀w' s',Inv X pins σ H s'->RelV (o.getD d) w'->Q w' s') :
  wpAny (model X.prog X.w) A (call (.builtin "dict.get") [.ref a,u,r]) Q E s:=by
 rcases g with ⟨Lx,k,e,ey,l⟩|⟨Lx,k,b,e,ey,eb,l⟩
 · subst ey;obtain⟨z,hd,vs,rel,dd⟩:=uJ I.bu e;refine call_meetsIn PySem.F.slot_dict_get dd.typeIs PySem.F.entry_dict_get (PySem.F.args_dict_get_3 _ _ _) (meets_dict_get_default (cx X.prog X.w) a (pU ry) hd r) ⟨_,dd.mapOf,h _ _ (I.tok _) ?_⟩;rw[l];exact (rel.val k).getD rd
 · subst ey;cases (show u=Value.ref b from ry);obtain⟨z,hd,xs,rel,dd⟩:=vq I.bu e;refine call_meetsIn PySem.F.slot_dict_get dd.typeIs PySem.F.entry_dict_get (PySem.F.args_dict_get_3 _ _ _) (meetsH_dict_get_default (tupleKind (cx X.prog X.w)) a b hd r) ⟨Z4 hu,k,xs,pR I.bu eb,dd,h _ _ (I.tok _) ?_⟩;rw[l];exact (rel.val k).getD rd
end
def Ht (td ty tx:TE):TE:=λσ H Q=>td σ H λx H1=>∃a,x=.ref a/\K_ H1 a/\ty σ H1 λy H2=>tx σ H2 λz H3=>∃o,gp H3 a y o/\Q (o.getD z) H3
section
variable {X:Cx}{o e f:Expr}{apos LD:Pos}{td ty tx:TE}
theorem vF (hu:X.A.units+1 < cLine) (ho:PE X o td) (he:PE X e ty) (hf:PE X f tx) (m:M2 X o "get" apos e f LD):PE X (.Call (.Attribute o "get" apos) [e,f] [] LD) (Ht td ty tx):=by
 intro pins s σ H Q I h;refine wpAny_Call_method m.base m.v9 m.line PySem.F.plainAttrs_dict PySem.F.slot_dict_get PySem.F.type_dict_get (bA (ho pins s σ H _ I h) λu s1 ⟨x,H1,I1,rx,a,ex,d,q1⟩=>?_);subst ex;obtain rfl:u=Value.ref a:=rx;obtain⟨t1,t2,_⟩:=Gp I1 d;refine⟨t1,t2,?_⟩;rw[m.trees];refine ZO rfl (Calls.evalArgs_plain (Z8 (bA (he pins s1 σ H1 _ I1 q1) λiv s2 ⟨y,H2,I2,ry,q2⟩ =>
  Z8 (bA (hf pins s2 σ H2 _ I2 q2) λfv s3 ⟨z,H3,I3,rz,ov,g,q3⟩=>Calls.spliced_nil ?_))))
 exact F6 hu I3 g ry rz λw' s4 I4 NH=>⟨_,H3,I4,NH,q3⟩
end
section
variable {X:Cx}{pins:aad}{σ:St}{H:Hp}{s:Shared}{a:Addr}{Lx:List (Key×V)}{A:Around}{E:aab}
end
section
variable {X:Cx}{pins:aad}{σ:St}{H:Hp}{s:Shared}{a:Addr}{y:V}{u:Value}{A:Around}{E:aab}
end
section
variable {prog:Program}{w:World}{A:Around}{E:aab}
end
section
variable {X:Cx}
end
section
variable {X:Cx}{pins:aad}{σ:St}{H:Hp}{s:Shared}{h':Heap}
theorem Inv.El {t':Nat} {ch:List Addr} (I:Inv X pins σ H s) (k:∀b o,b∉ch->s.heap.get? b=some o->h'.get? b=some o) (hf:∀b∈ch,m8 X pins H b):Inv X pins σ H {s with heap:=h',toks:=t'}:=by
 have Nc:∀b u,H b=some u->b∉ch:=λb u e z=>by
  have q:=(hf b z).1;rw[q] at e;cases e
 refine I.step (g':=s.gens) (d':=s.drawn) (ch:=ch) (λb hb=>⟨(hf b hb).2.2.2.1,(hf b hb).2.1,(hf b hb).2.2.2.2.1,(hf b hb).2.2.2.2.2⟩) (λb o _ _ hc e _=>k b o hc e) (λb o _ _ hc e _=>⟨o.slots,k b o hc e⟩)
  (λ_ _ _ _ n=>n) (λb o hc e=>⟨o,k b o hc e⟩) (λ_ _ e=>e) (λ_ _ _ e=>e) (λb ps e=>⟨#[],by rw[e];simp⟩) (λm hm=>?_) (λb u e=>?_) I.bare
 · obtain⟨o,es,ep,ho,r⟩:=hm;exact⟨o,es,ep,k _ o (λz=>(hf _ z).2.1 rfl) ho,r⟩
 · refine (I.bu b u e).kr (λc v hc q=>k c v ?_ q) (λ_ q=>q) λ_ _ q=>q;rcases hc with z|z
   · rw[z];exact Nc b u e
   · exact Nc c _ z
theorem Inv.sr {t':Nat}{ch:List Addr}{T:Addr}{ob:HO}(I:Inv X pins σ H s)(k:∀b o,b∉ch->s.heap.get? b=some o->h'.get? b=some o)(hf:∀b∈ch,m8 X pins H b)(hT:s.heap.objs.size<=T)
  (new:bK X.prog X.w (upd H T ob) h' T ob):Inv X pins σ (upd H T ob) {s with heap:=h',toks:=t'}:=by
 have hn:H T=none:=I.bu.fresh hT;have Nc:∀b u,H b=some u->b∉ch:=λb u e z=>by
  have q:=(hf b z).1;rw[q] at e;cases e
 refine I.step (g':=s.gens) (d':=s.drawn) (ch:=ch) (λb hb=>⟨(hf b hb).2.2.2.1,(hf b hb).2.1,(hf b hb).2.2.2.2.1,(hf b hb).2.2.2.2.2⟩) (λb o _ _ hc e _=>k b o hc e) (λb o _ _ hc e _=>⟨o.slots,k b o hc e⟩)
  (λb o _ e n=>?_) (λb o hc e=>⟨o,k b o hc e⟩) (λb xs e=>?_) (λb o u e=>?_) (λb ps e=>⟨#[],?_⟩) (λm hm=>?_) (λb u e=>?_) I.bare
 · rw[aq (X1 (X5 (XA e) hT))];exact n
 · rw[aq (ao e hn)];exact e
 · rw[aq (ao e hn)];exact e
 · rw[aq (ao e hn),e];simp
 · obtain⟨o,es,ep,ho,r⟩:=hm;exact⟨o,es,ep,k _ o (λz=>(hf _ z).2.1 rfl) ho,r⟩
 · by_cases hb:b=T
   · subst hb;rw[ae] at e;cases e;exact new
   · rw[aq hb] at e;refine (I.bu b u e).kr (λc v hc q=>k c v ?_ q) (λc q=>by rw[aq (ao q hn)];exact q) λc xs q=>by rw[aq (ao q hn)];exact q
     rcases hc with z|z
     · rw[z];exact Nc b u e
     · exact Nc c _ z
end
section
variable {X:Cx}
theorem xh {tg:Expr} {pins:aad} {σ:St} {H:Hp} {s:Shared} {R:It->Hp->Prop} {J:It} {tn:Nat->Heap->Prop} {tk:Nat} (I:Inv X pins σ H s) (o:Obj)
  (T:Turn X.prog X.w X.K tg J [s.heap.objs.size] s.heap.objs.size tn) (st:tn 0 (s.heap.push o)) (q:R J H):J4 X pins σ tg R (.ref s.heap.objs.size) {s with heap:=s.heap.push o,toks:=tk}:=by
 refine⟨s.heap.objs.size,[s.heap.objs.size],tn,J,H,rfl,I.kept λb ob e=>Xq _ e,T,st,λb hb=>?_,q⟩;have e:b=s.heap.objs.size:=by simpa using hb
 subst e;exact I.xx (Xx _) (I.bu.fresh (Xx _))
end
def HZ (lo c:Int)(n:Nat):It:=⟨λi _=>i < n,λi H x H'=>H'=H/\x=.int (lo+(i:Nat)*c),λi _=>n<=i⟩
theorem vQ {P:Program}{w:World}{K:aaa}{tg:Expr}(it:Addr)(lo c:Int)(n:Nat):Turn P w K tg (HZ lo c n) [it] it (λi h=>IsRangeIter h it (lo+(i:Nat)*c) ((n:Int) - (i:Nat)) c) where
 mem:=by simp
 obj:=λi h st b hb=>by
  have e:b=it:=by simpa using hb
  subst e;exact⟨_,st,λv z=>nomatch z⟩
 keep:=λi h h' st k=>k it (by simp) _ st
 item:=by
  intro X hP hw hK hc i pins s σ H E I hf st hg;subst hP hw hK;obtain⟨f0,f1,f2,f3,f4,f5⟩:=hf it (by simp);have W:=Walks.range (prog:=X.prog) (w:=X.w) (I.ok.hd hc) it lo c n;refine W.item i s _ _ hg st λv h' tk hv Mj kk=>?_;obtain⟨t,rfl⟩:=hv;have I1:Inv X pins σ H {s with heap:=h',toks:=tk}:=I.turned (λb o hb e=>kk b o (by simpa using hb) e) f0 f1 f3 f4 f5;exact⟨_,rfl,vi (s:={s with heap:=h',toks:=tk}) (n:="range_iterator") Mj rfl rfl (by decide) ⟨.int (lo+(i:Nat)*c),H,I1,⟨t,rfl⟩,⟨rfl,rfl⟩,Mj,λb hb=>(hf b hb).1⟩⟩
 done:=by
  intro X hP hw hK hc i pins s σ H E I hf st hg;subst hP hw hK;obtain⟨f0,f1,f2,f3,f4,f5⟩:=hf it (by simp);exact wpAny_pyNext_range_end (I.ok.hd hc) st (by have:n<=i:=hg;omega) λh' eb=>⟨rfl,I.turned (t':=s.toks) (λb o hb e=>eb b o hb e) f0 f1 f3 f4 f5⟩
 self:=λA i s Q E st h=>wpAny_pyIter_rangeiter st h
def JJ (i j c:Int)(n:Nat):Prop:=c≠0/\c.natAbs < 1073741824/\Builtin.Range.small i j c=true/\Builtin.Range.rangeSize i j c=n
theorem JJ.neg {i j:Int}(ha:-(2 ^ 62)<=i)(Q0:i < 2 ^ 62)(hb:-(2 ^ 62)<=j)(PL:j < 2 ^ 62):JJ i j (-1) (i - j).toNat :=
 ⟨by decide,by decide,PySem.W.small_down ha Q0 hb PL,PySem.W.rangeSize_downNat i j⟩
def Fi (ta:TA):TI:=λσ H R=>ta σ H λvs H1=>∃(i j c:Int) (n:Nat),vs=[.int i,.int j,.int c]/\JJ i j c n/\R (HZ i c n) H1
section
variable {X:Cx}{tg:Expr}
theorem qU {a b c:Expr} {ta:TA} {p pos:Pos} (hg:Gl X "range") (hm:X.mg "range"=none) (ha:PA X [a,b,c] ta)
  (hs:starEach [a,b,c] X.env=(false,eval a X.env)::starEach [b,c] X.env:=by rfl) (LH:(backTo pos (starEach [b,c] X.env)).any (·.1)=false:=by rfl) :
  PI X tg (.Call (.Name "range" p) [a,b,c] [] pos) (Fi ta):=by
 intro pins s σ H R I h;refine Call_ (ly I hg hm boot_range (YQ (bA (ha pos pins s σ H _ I h) λus s1 ⟨vs,H1,I1,r1,q1⟩=>?_) hs LH));obtain⟨i,j,k,n,e,⟨c0,c1,c2,c3⟩,q⟩:=q1;subst e;cases r1 with
 |cons r rr =>
  cases rr with
  |cons r' rr =>
   cases rr with
   |cons Vo rr =>
    cases rr;obtain⟨t,rfl⟩:=r;obtain⟨t',rfl⟩:=r';obtain⟨Vp,rfl⟩:=Vo;refine call_range_3 c0 ?_ (.inl (PyProof.noPylong_small c1));refine wpAny_pyIter_range (IsRange.new ..) c2 ?_;have I2:Inv X pins σ H1 {s1 with heap:=s1.heap.push {cls:=.type "range",data:=.fields #[.int i t,.int j t',.int k Vp]}}:=I1.kept (t':=s1.toks) λb o e=>Xq _ e;refine xh (tk:=s1.toks) I2 _ (vQ _ i k n) ?_ q;have e1:i+((0:Nat):Int)*k=i:=by simp
    have e2:(n:Int) - ((0:Nat):Int)=Builtin.Range.rangeSize i j k:=by rw[c3];simp
    show IsRangeIter _ _ (i+((0:Nat):Int)*k) ((n:Int) - ((0:Nat):Int)) k;rw[e1,e2];exact XD _ rfl
end
theorem qE {lo c:Int}{n:Nat}{g:TG}{tb:TS}{D:Ends}{σ:St}{H:Hp}(Pv:Nat->St->Hp->Prop)(h0:Pv 0 σ H)
  (hs:∀i σ H,i < n->Pv i σ H->g (.int (lo+(i:Nat)*c)) σ H λσ2 H2=>tb {D with nx:=Pv (i+1),ct:=Pv (i+1),bk:=D.nx} σ2 H2)(hd:∀σ H,Pv n σ H->D.nx σ H) :
  ∃W:Nat->Nat->St->Hp->Prop,(∃m,W 0 m σ H)/\∀i m σ H,W i m σ H ->
   ((HZ lo c n).stop i H/\D.nx σ H)∨((HZ lo c n).go i H/\∃N:St->Hp->Prop,(∀σ' H',N σ' H'->∃m',m' < m/\W (i+1) m' σ' H')/\∀x H',(HZ lo c n).vZ i H x H'->g x σ H' λσ2 H2=>tb {D with nx:=N,ct:=N,bk:=D.nx} σ2 H2):=by
 refine⟨λi m σ H=>m=n - i/\i<=n/\Pv i σ H,⟨n,by simp,XW _,h0⟩,?_⟩;rintro i m σ H ⟨rfl,hi,p⟩;by_cases LC:i < n
 · refine .inr ⟨LC,Pv (i+1),λσ' H' p'=>⟨n - (i+1),by omega,rfl,LC,p'⟩,λx H' y=>?_⟩;obtain⟨e,y⟩:=y;subst e y;exact hs i σ _ LC p
 · have e:i=n:=by omega
   subst e;exact .inl ⟨Xx _,hd σ H p⟩
section
variable {X:Cx}{tg:Expr}
end
def Iz (x:Str):It:=⟨λi _=>i < x.cps.size,λi H v H'=>H'=H/\∃c,x.cps[i]?=some c/\v=.str ⟨#[c]⟩,λi _=>x.cps.size<=i⟩
theorem uH {P:Program}{w:World}{K:aaa}{tg:Expr}(it:Addr)(x:Str)(t:Tok)(ty:String)(N5:ty="str_ascii_iterator"∨ty="str_iterator") :
  Turn P w K tg (Iz x) [it] it (λi h=>h.IsStrIter it ty x t i) where
 mem:=by simp
 obj:=λi h st b hb=>by
  have e:b=it:=by simpa using hb
  subst e;obtain⟨o,e,c,d⟩:=st;exact⟨o,e,λv z=>by rw[d] at z;cases z⟩
 keep:=λi h h' st k=>let ⟨o,ho,r⟩:=st;⟨o,k it (by simp) o ho,r⟩
 item:=by
  intro X hP hw hK hc i pins s σ H E I hf st hg;subst hP hw hK;obtain⟨f0,f1,f2,f3,f4,f5⟩:=hf it (by simp);have W:Walks X.prog X.w X.A it [it] [it] x.cps.size (SignAt x) (λi h=>h.IsStrIter it ty x t i):=by
   rcases N5 with e|e
   · rw[e];exact Walks.strAscii (I.ok.hd hc) it x t
   · rw[e];exact Walks.strWide (I.ok.hd hc) it x t
  have MP:["enumerate","zip","dict_itemiterator","dict_reverseitemiterator","odict_iterator","itertools.zip_longest","itertools.pairwise"].contains ty=false:=by
   rcases N5 with e|e
   · rw[e];decide
   · rw[e];decide
  refine W.item i s _ _ hg st λv h' tk hv Mj kk=>?_;obtain⟨c,u,Vq,rfl⟩:=hv;have I1:Inv X pins σ H {s with heap:=h',toks:=tk}:=I.turned (λb o hb e=>kk b o (by simpa using hb) e) f0 f1 f3 f4 f5;obtain⟨oi,e,cc,dd⟩:=id Mj;exact⟨_,rfl,vi (s:={s with heap:=h',toks:=tk}) e cc dd MP ⟨.str ⟨#[c]⟩,H,I1,⟨u,rfl⟩,⟨rfl,c,Vq,rfl⟩,Mj,λb hb=>(hf b hb).1⟩⟩
 done:=by
  intro X hP hw hK hc i pins s σ H E I hf st hg;subst hP hw hK;obtain⟨f0,f1,f2,f3,f4,f5⟩:=hf it (by simp);have hx:x.cps[i]?=none:=Array.getElem?_eq_none hg;rcases N5 with e|e
  · rw[e] at st;exact wpAny_pyNext_ascii_end (I.ok.hd hc) st hx λh' eb=>⟨rfl,I.turned (t':=s.toks) (λb o hb e=>eb b o hb e) f0 f1 f3 f4 f5⟩
  · rw[e] at st;exact wpAny_pyNext_wide_end (I.ok.hd hc) st hx λh' eb=>⟨rfl,I.turned (t':=s.toks) (λb o hb e=>eb b o hb e) f0 f1 f3 f4 f5⟩
 self:=λA i s Q E st h=>by
  rcases N5 with e|e
  · rw[e] at st;exact wpAny_pyIter_striter_ascii st h
  · rw[e] at st;exact wpAny_pyIter_striter_wide st h
def KS (te:TE):TI:=λσ H R=>te σ H λv H1=>∃x,v=.str x/\R (Iz x) H1
theorem HC {X:Cx}{tg e:Expr}{te:TE}(he:PE X e te):PI X tg e (KS te):=by
 intro pins s σ H R I h;refine bA (he pins s σ H _ I h) λv s1 ⟨y,H1,I1,r1,x,ex,q⟩=>?_;subst ex;obtain⟨t,rfl⟩:=r1;cases ha:x.cps.all (· < 128)
 · exact wpAny_pyIter_wide ha (xh (tk:=s1.toks) I1 _ (uH _ x t "str_iterator" (.inr rfl)) ⟨_,XD _ rfl,rfl,rfl⟩ q)
 · exact wpAny_pyIter_ascii ha (xh (tk:=s1.toks) I1 _ (uH _ x t "str_ascii_iterator" (.inl rfl)) ⟨_,XD _ rfl,rfl,rfl⟩ q)
section
variable {prog:Program}{w:World}{A:Around}{E:aab}{s:Shared}
theorem zF {d:Addr} {o:Obj} {es:Array DictEntry} {ep:Nat} {Q:aab} (hd:(d==sysModules)=false) (ho:s.heap.get? d=some o) (hc:o.ExactDict) (OI:o.data=.dict es ep)
  (hQ:Q (.ref s.heap.objs.size) {s with heap:=s.heap.push {cls:=.type "dict_keyiterator",data:=.fields #[.ref d,.int 0 0,.int es.size 0,.int ep 0]}}) :
  wpAny (model prog w) A (pyIter (.ref d)) Q E s:=by
 have hT:s.TypeIs (.ref d) "dict":=⟨o,ho,hc.1⟩;refine wpAny_pyIter_slot hT F.slot_dict_iter (YK F.slot_dict_iter hT F.entry_dict_iter ?_ (F.args_dict_iter_1 _));unfold Builtin.«dict.__iter__»;refine Xm ?_;unfold Builtin.Dict.dictSlotNone;refine Xm (wpAny_notOrdered_dict hT ?_);show wpAny _ _ (pure (Value.ref d)) _ _ s;refine Xu ?_;show wpAny _ _ (Builtin.Dict.showsAll d >>= _) _ _ s;unfold Builtin.Dict.showsAll;rw[Xo (by rw[hd];exact XO)];refine Xm (Xu ?_);refine Xm (wpAny_dictEntries ho OI ?_);refine Xm (wpAny_dictEpoch ho OI ?_);refine Xm (YR (Xu ⟨_,rfl,"dict_keyiterator",_,⟨_,XD _ rfl,rfl⟩,Y0.lookup,?_⟩));simpa [rawInt] using hQ
theorem qP {it d:Addr}{i n ep:Nat}{od:Obj}{es:Array DictEntry}{en:DictEntry}{Q:Option Value->Shared->Prop}(hit:s.heap.IsKeyIter it d i n ep)(OJ:s.heap.get? d=some od)(OK:od.data=.dict es ep)
  (hsz:es.size=n)(hx:es[i]?=some en)(hQ:∀h',h'.IsKeyIter it d (i+1) n ep->Heap.SameBut it s.heap h'->Q (some en.key) {s with heap:=h'}):wpAny (model prog w) A (pyNext (.ref it)) Q E s:=by
 obtain⟨o,ho,hc,hd⟩:=id hit;unfold pyNext;refine Xm (wpAny_attempt (YE (name:=Str.ofString "__next__") hit.typeIs Y0
  (YK Y0 hit.typeIs F.entry_dict_keyiterator_next ?_ (F.args_dict_keyiterator_next_1 _))))
 refine Xm (Xu ?_);refine Xm ?_;refine Xm ?_
 first|refine Xm (Zh hit.typeIs (Xu ?_))|refine Xm (Zy hit.typeIs (Xu ?_))
 refine Xm (wpAny_fieldsOf ho hd ?_);have NL:Builtin.Dict_items.ownsTuple "dict_keyiterator"=false:=by decide
 simp only[NL,YO,Zm];show wpAny _ _ (if (Value.ref d==Value.none)=true then _ else _) _ _ s;rw[Xo (show ¬((Value.ref d==Value.none)=true) from XO)];refine Xm (Xu ?_);refine Xm (wpAny_dictEntries OJ OK ?_);rw[Xo (by rw[hsz];simp)];refine Xm (Xu ?_);refine Xm (wpAny_dictEpoch OJ OK ?_);rw[Xo (by simp)];refine Xu ?_;obtain⟨Q1,N7⟩:=Array.getElem?_eq_some_iff.mp hx;simp only[show ¬((i:Int) < 0) from by omega,Zm,X9,Array.getElem?_eq_getElem Q1];refine Xm ?_
 first|refine Xm (Zh hit.typeIs (Xu ?_))|refine Xm (Zy hit.typeIs (Xu ?_))
 refine Xm (wpAny_isOneOf_keyiter hit.typeIs ?_);show wpAny _ _ (setField (.ref it) 1 (rawInt ((i:Int)+1)) >>= _) _ _ s;refine Xm (wpAny_setField ho hd (by simp) ?_);have MZ:(s.heap.update it (Obj.mapFields (·.setIfInBounds 1 (rawInt ((i:Int)+1))))).IsKeyIter it d (i+1) n ep :=
  ⟨_,Yo _ ho (Obj.isFreed_of_fields (Obj.data_mapFields hd _)),(Obj.cls_mapFields ..).trans hc,by rw[Obj.data_mapFields hd];simp[rawInt]⟩
 refine Xm (Zo ?_);refine Xm (wpAny_isOneOf_keyiter (s:={s with heap:=s.heap.update it (Obj.mapFields (·.setIfInBounds 1 (rawInt ((i:Int)+1))))}) MZ.typeIs ?_);show wpAny _ _ (pure es[i].key) _ _ _;rw[N7];exact Xu (Xu ⟨_,rfl,Xu (hQ _ MZ (XQ ..))⟩)
theorem t_ {it d:Addr}{i n ep:Nat}{od:Obj}{es:Array DictEntry}{Q:Option Value->Shared->Prop}(hh:A.handled=none)(hit:s.heap.IsKeyIter it d i n ep)(OJ:s.heap.get? d=some od)(OK:od.data=.dict es ep)
  (hsz:es.size=n)(Vr:n<=i)(hQ:∀h',Heap.ExtBut it s.heap h'->Q none {s with heap:=h'}):wpAny (model prog w) A (pyNext (.ref it)) Q E s:=by
 obtain⟨o,ho,hc,hd⟩:=id hit;unfold pyNext;refine Xm (wpAny_attempt (YE (name:=Str.ofString "__next__") hit.typeIs Y0
  (YK Y0 hit.typeIs F.entry_dict_keyiterator_next ?_ (F.args_dict_keyiterator_next_1 _))))
 refine Xm (Xu ?_);refine Xm ?_;refine Xm ?_
 first|refine Xm (Zh hit.typeIs (Xu ?_))|refine Xm (Zy hit.typeIs (Xu ?_))
 refine Xm (wpAny_fieldsOf ho hd ?_);have NL:Builtin.Dict_items.ownsTuple "dict_keyiterator"=false:=by decide
 simp only[NL,YO,Zm];show wpAny _ _ (if (Value.ref d==Value.none)=true then _ else _) _ _ s;rw[Xo (show ¬((Value.ref d==Value.none)=true) from XO)];refine Xm (Xu ?_);refine Xm (wpAny_dictEntries OJ OK ?_);rw[Xo (by rw[hsz];simp)];refine Xm (Xu ?_);refine Xm (wpAny_dictEpoch OJ OK ?_);rw[Xo (by simp)];refine Xu ?_;have Q2:es.size<=i:=by rw[hsz];exact Vr
 simp only[show ¬((i:Int) < 0) from by omega,Zm,X9,Array.getElem?_eq_none Q2];refine Xm ?_
 first|refine Xm (Zh hit.typeIs (Xu ?_))|refine Xm (Zy hit.typeIs (Xu ?_))
 show wpAny _ _ (setField (.ref it) 0 .none >>= _) _ _ s;refine Xm (wpAny_setField ho hd (by simp) ?_);show wpAny _ _ (newExc (.type "StopIteration") [] >>= _) _ _ _;refine Xm ?_;simp only[newExc,newTuple];refine Xm (YR ?_ (by size_fits));refine Xm (m:=firstArgMember _ _) (wpAny_of_eq (a:=Value.none) (by first|rfl|(simp only[firstArgMember];rfl)) ?_);refine YR ?_ (by size_fits);simp only[raiseNew];refine Xm (wpAny_handled ?_);rw[show A.in1.handled=none from hh];refine Xm (Xu (wpAny_throw ?_));refine Xm (wpAny_isInstance (T:="StopIteration") (b:=true) ⟨_,XD _ rfl,rfl⟩ isSubtype_stop ?_);exact Xu (hQ _ (((XQ ..).extBut.push _).push _))
end
theorem ya {α β:Type}{G:α->β->Prop}{l₁:List α}{l₂:List β}(h:Paired G l₁ l₂):∀{i:Nat} {a:α},l₁[i]?=some a->∃b,l₂[i]?=some b/\G a b:=by
 induction h with
 |nil=>intro i a e;simp at e
 |@cons a b l₁ l₂ r t ih =>
  intro i a' e;cases i with
  |zero =>
   simp only[List.getElem?_cons_zero,Option.some.injEq] at e;subst e;exact⟨b,rfl,r⟩
  |succ j =>
   simp only[List.getElem?_cons_succ] at e ⊢;exact ih e
section
variable {X:Cx}{pins:aad}{σ:St}{H:Hp}{s:Shared}{d:Addr}{o:Obj}
end
section
variable {P:Program}{w:World}{K:aaa}{tg:Expr}{d:Addr}{o:Obj}{es:Array DictEntry}{ep:Nat}
end
section
variable {X:Cx}{tg e:Expr}{td:TE}{apos LD:Pos}
end
def Fs (K:aaa)(a:Addr):It :=
 ⟨λi H=>∃(xs:List V) (x:V),aQ K H a xs/\xs[i]?=some x,λi H v H'=>∃T x,v=.ref T/\H T=none/\H'=upd H T (.tup [.int (i:Nat),x])/\∀xs,aQ K H a xs->xs[i]?=some x,λi H=>∃xs:List V,aQ K H a xs/\xs.length<=i⟩
theorem zP {P:Program}{w:World}{K:aaa}{elts:List Expr}{kk:Nat}{LO:Pos}(a e it:Addr) :
  Turn P w K (.Tuple elts kk LO) (Fs K a) [e,it] e (λi h=>(∃old,IsEnum h e it ((i:Nat):Int) old)/\h.IsListIter it a i/\e≠it) where
 mem:=by simp
 obj:=λi h st b hb=>by
  obtain⟨⟨old,he⟩,⟨o,ho,hc,hd⟩,_⟩:=st;have e':b=e∨b=it:=by simpa using hb
  rcases e' with z|z
  · rw[z];exact⟨_,he,λv q=>nomatch q⟩
  · rw[z];exact⟨o,ho,λv q=>by rw[hd] at q;cases q⟩
 keep:=λi h h' st k=>let ⟨⟨old,he⟩,hi,LJ⟩:=st;⟨⟨old,k e (by simp) _ he⟩,hi.at λo q=>k it (by simp) o q,LJ⟩
 item:=by
  intro X hP hw hK hc i pins s σ H E I hf st hg;subst hP hw hK;obtain⟨⟨old,he⟩,hit,LJ⟩:=st;obtain⟨xs,x,hq,hx⟩:=hg;obtain⟨Ly,rv,p,hz⟩:=I.list hq;obtain⟨u,hu,ru⟩:=rv.get hx;have Sr:e < s.heap.objs.size:=XA he;have LG:it < s.heap.objs.size:=by obtain⟨_,q,_⟩:=hit;exact XA q
  refine wpAny_pyNext_enum_item he hit p.isList (x:=u) (by simpa using hu) LJ λh' ho MZ hT hsz hk=>?_;refine⟨_,rfl,wpAny_letOwnedTupleGo_enum (s:={s with heap:=h',toks:=s.toks+1}) ho λNi Vs sb=>?_⟩;have Mx:Ni.get? s.heap.objs.size=some {cls:=.type "tuple",data:=.seq #[.int i s.toks,u]}:=(sb.2 _ (Nat.ne_of_gt Sr)).trans hT;have new:bK X.prog X.w (upd H s.heap.objs.size (.tup [.int (i:Nat),x])) Ni s.heap.objs.size (.tup [.int (i:Nat),x]) :=
   ⟨by show 2<=sizeLine;decide,[.int i s.toks,u],.cons ⟨_,rfl⟩ (.cons ru .nil),⟨_,Mx,rfl,_,rfl⟩⟩
  have I1:Inv X pins σ (upd H s.heap.objs.size (.tup [.int (i:Nat),x])) {s with heap:=Ni,toks:=s.toks+1} :=
   I.sr (ch:=[e,it]) (λb ob hb q=>(sb.2 b (λz=>hb (by simp[z]))).trans (hk b ob (λz=>hb (by simp[z])) (λz=>hb (by simp[z])) q)) hf (Xx _) new
  refine⟨.ref s.heap.objs.size,_,I1,rfl,⟨_,x,rfl,I.bu.fresh (Xx _),rfl,λys hy=>by rw[I.pN hy hq];exact hx⟩,⟨⟨u,?_⟩,MZ.at λo q=>(sb.2 it (Z2 LJ)).trans q,LJ⟩,λb hb=>?_⟩
  · have e1:((i+1:Nat):Int)=(i:Int)+1:=by omega
    rw[e1];exact Vs
  · have PL:b < s.heap.objs.size:=by
     have e':b=e∨b=it:=by simpa using hb
     rcases e' with z|z
     · rw[z];exact Sr
     · rw[z];exact LG
    rw[aq (X1 PL)];exact (hf b hb).1
 done:=by
  intro X hP hw hK hc i pins s σ H E I hf st hg;subst hP hw hK;obtain⟨⟨old,he⟩,hit,LJ⟩:=st;obtain⟨xs,hq,hx⟩:=hg;obtain⟨Ly,rv,p,hz⟩:=I.list hq;obtain⟨f0,f1,f2,f3,f4,f5⟩:=hf it (by simp);have hl:=rv.length;exact wpAny_pyNext_enum_end (I.ok.hd hc) he hit p.isList (by simp;omega) λh' eb=>⟨rfl,I.turned (t':=s.toks) (λb o hb q=>eb b o hb q) f0 f1 f3 f4 f5⟩
 self:=λA i s Q E st h=>let ⟨⟨_,he⟩,_⟩:=st;wpAny_pyIter_enum he h
def Ju (K:aaa)(ta:TA):TI:=λσ H R=>ta σ H λvs H1=>∃a xs,vs=[.ref a]/\aQ K H1 a xs/\R (Fs K a) H1
theorem sT {X:Cx}{e:Expr}{ta:TA}{p pos LO:Pos}{elts:List Expr}{kk:Nat}(hg:Gl X "enumerate")(hm:X.mg "enumerate"=none)(ha:PA X [e] ta)(hs:starEach [e] X.env=[(false,eval e X.env)]:=by rfl) :
  PI X (.Tuple elts kk LO) (.Call (.Name "enumerate" p) [e] [] pos) (Ju X.K ta):=by
 intro pins s σ H R I h;refine Call_ (ly I hg hm boot_enumerate (YQ (bA (ha pos pins s σ H _ I h) λus s1 ⟨vs,H1,I1,r1,q1⟩=>?_) hs rfl));obtain⟨a,xs,ex,hq,q⟩:=q1;subst ex;cases r1 with
 |cons r rr =>
  cases rr;cases r;obtain⟨Ly,rv,p',hz⟩:=I1.list hq;refine call_enumerate_list p'.isList λh' he hit hsz hk=>wpAny_pyIter_enum he ?_;have I2:Inv X pins σ H1 {s1 with heap:=h'}:=I1.kept (t':=s1.toks) hk;refine⟨s1.heap.objs.size+1,[s1.heap.objs.size+1,s1.heap.objs.size],_,_,H1,rfl,I2,zP a (s1.heap.objs.size+1) s1.heap.objs.size,⟨⟨.none,he⟩,hit,Nat.succ_ne_self _⟩,λb hb=>?_,q⟩;have e':b=s1.heap.objs.size+1∨b=s1.heap.objs.size:=by simpa using hb
  have hle:s1.heap.objs.size<=b:=by
   rcases e' with z|z
   · rw[z];exact ZS _ _
   · rw[z];exact Xx _
  exact I1.xx hle (I1.bu.fresh hle)
theorem zO:bootBuiltins "zip"=some (.type "zip"):=by decide +kernel
end L2
section
namespace Q3
open PySem PyProof.Rows
end Q3
end
section
namespace TL
open PySem PySem.Builtin PySem.Builtin.Str PySem.StrLaws
abbrev tl (x:Str):Z_:=x.cps.toList
theorem lH (x:Str):x.length=(tl x).length:=by simp[tl,Str.length]
theorem wF {x y:Str}(h:tl x=tl y):x=y:=Str.ext' (Array.toList_inj.mp h)
theorem rm (x y:Str):tl (x++y)=tl x++tl y:=by
 show (x++y).cps.toList=_;rw[Str.cps_append,Array.toList_append]
theorem ph:∀{l m:List Str},l.map tl=m.map tl->l=m
 |[],[],_=>rfl
 |[],_::_,h=>by simp at h
 |_::_,[],h=>by simp at h
 |x::l,y::m,h=>by
  rw[XE,XE] at h;injection h with h1 h2;rw[wF h1,ph h2]
theorem gP (s:String):tl (Str.ofString s)=s.toList.map Char.toNat:=PyProof.Rows.signs_ofString s
def pre (S l:Z_):Bool:=l.take S.length==S
def nG (S:Z_):Nat->Z_->Z_->Z9
 |_,acc,[]=>[acc]
 |0,acc,c::r=>if pre S (c::r)=true then acc::nG S (S.length - 1) [] r else nG S 0 (acc++[c]) r
 |k+1,acc,_::r=>nG S k acc r
theorem oz (S:Z_)(k:Nat)(acc:Z_):nG S k acc []=[acc]:=by cases k <;> rfl
theorem yn {S acc r:Z_}{c:Nat}(h:pre S (c::r)=true):nG S 0 acc (c::r)=acc::nG S (S.length - 1) [] r:=by
 show (if pre S (c::r)=true then acc::nG S (S.length - 1) [] r else nG S 0 (acc++[c]) r)=_;rw[Xp h]
theorem u6 {S acc r:Z_}{c:Nat}(h:pre S (c::r)=false):nG S 0 acc (c::r)=nG S 0 (acc++[c]) r:=by
 show (if pre S (c::r)=true then acc::nG S (S.length - 1) [] r else nG S 0 (acc++[c]) r)=_;rw[Xo (by rw[h];exact XO)]
theorem vt (S:Z_):∀(k:Nat) (acc l:Z_),nG S k acc l=nG S 0 acc (l.drop k)
 |0,_,_=>by rw[List.drop_zero]
 |k+1,acc,[]=>by rw[List.drop_nil,oz,oz]
 |k+1,acc,c::r=>by
  show nG S k acc r=nG S 0 acc (r.drop k);exact vt S k acc r
theorem mi {S:Z_}(hS:S≠[]):pre S []=false:=by
 cases S with
 |nil=>exact absurd rfl hS
 |cons s S=>rfl
theorem vL {s c:Nat}(S r:Z_)(h:c≠s):pre (s::S) (c::r)=false:=by
 cases hp:pre (s::S) (c::r) with
 |false=>rfl
 |true =>
  have e:(c::r).take (s::S).length=s::S:=YT hp;rw[Xz,List.take_succ_cons] at e;injection e with e1 e2;exact absurd e1 h
theorem lR {L:Z_}{a:Nat}(h:a < L.length):∃c,L.drop a=c::L.drop (a+1):=⟨L[a],YL h⟩
theorem tQ (S L:Z_):∀(m a:Nat) (acc:Z_),a+m<=L.length->(∀k,a<=k->k < a+m->pre S (L.drop k)=false) ->
  nG S 0 acc (L.drop a)=nG S 0 (acc++(L.drop a).take m) (L.drop (a+m))
 |0,a,acc,_,_=>by rw[List.take_zero,Yr,Nat.add_zero]
 |m+1,a,acc,h,hn=>by
  have LC:a < L.length:=by omega
  obtain⟨c,e⟩:=lR LC;have h0:=hn a (Xx _) (by omega);have ih:=tQ S L m (a+1) (acc++[c]) (by omega) (λk h1 h2=>hn k (by omega) (by omega));have e2:a+1+m=a+(m+1):=by omega
  rw[e2] at ih;rw[e] at h0;rw[e,u6 h0,ih,List.take_succ_cons,YS] <;> rfl
theorem Bv (L:Z_)(a b:Nat):(L.drop a).drop b=L.drop (a+b):=by
 first
  |rw[List.drop_drop]
  |rw[List.drop_drop,Nat.add_comm]
theorem HK {S L:Z_}(hS:S≠[]){c:Nat}{acc:Z_}(h:pre S (L.drop c)=true):nG S 0 acc (L.drop c)=acc::nG S 0 [] (L.drop (c+S.length)):=by
 rw[←Bv];cases e:L.drop c with
 |nil=>rw[e,mi hS] at h;cases h
 |cons d r =>
  rw[e] at h;rw[yn h,vt];cases S with
  |nil=>exact absurd rfl hS
  |cons s S=>rfl
theorem CV {x y:Str}(hy:tl y≠[])(i:Nat):At x y x.length i↔pre (tl y) ((tl x).drop i)=true:=by
 have hx:=lH x;have hl:=lH y;constructor
 · intro h;have h2:=h.2;rw[subAt_eq,hl] at h2;exact h2
 · intro h;have e:((tl x).drop i).take (tl y).length=tl y:=YT h;have e1:=Yv List.length e;rw[XN,Yh] at e1;have e2:0 < (tl y).length:=Yt.mpr hy;refine⟨by omega,?_⟩;rw[subAt_eq,hl];exact h
theorem FJ {x y:Str}(hy:tl y≠[]){i:Nat}(h:¬At x y x.length i):pre (tl y) ((tl x).drop i)=false:=by
 cases hp:pre (tl y) ((tl x).drop i) with
 |false=>rfl
 |true=>exact absurd ((CV hy i).mpr hp) h
theorem Kc {y:Str}(hy:tl y≠[]):1<=y.length:=by
 have e2:0 < (tl y).length:=Yt.mpr hy;rw[lH y];exact e2
theorem rA (x:Str)(i j:Nat):tl (strSub x i j)=((tl x).drop i).take (j - i):=strSub_toList x i j
theorem qS (x:Str)(i:Nat):tl (strSub x i x.length)=(tl x).drop i:=by
 rw[rA,lH x];exact Yl (by rw[Yh] <;> omega)
theorem rX {x y:Str}(hy:tl y≠[]):∀(OL:Z_) (a f:Nat),a<=(tl x).length->ChainG x y x.length a OL f->(∀k,f<=k->¬At x y x.length k) ->
  (partsFrom x y.length a OL).map tl=nG (tl y) 0 [] ((tl x).drop a)
 |[],a,f,ha,h,hn=>by
  have e:f=a:=h;subst e;show [tl (strSub x f x.length)]=_;have run:=tQ (tl y) (tl x) ((tl x).length - f) f [] (by omega) (λk h1 _=>FJ hy (hn k h1));have e2:f+((tl x).length - f)=(tl x).length:=by omega
  rw[e2,Zg,oz,Yk,Yl (by rw[Yh] <;> omega)] at run;rw[run,qS]
 |c::r,a,f,ha,h,hn=>by
  obtain⟨h1,h2,h3,h4⟩:=h;have hc:c+y.length<=x.length:=h2.1;have hx:=lH x;have hl:=lH y;have ih:=rX hy r (c+y.length) f (by omega) h4 hn;show tl (strSub x a c)::(partsFrom x y.length (c+y.length) r).map tl=_;have run:=tQ (tl y) (tl x) (c - a) a [] (by omega) (λk k1 k2=>FJ hy (h3 k k1 (by omega)));have e2:a+(c - a)=c:=by omega
  rw[e2,Yk,HK hy ((CV hy c).mp h2)] at run;rw[run,ih,rA,hl]
theorem Ar (x y:Str)(hy:tl y≠[])(hk:¬Builtin.Str.strKind x < Builtin.Str.strKind y):(Txt.split x y).map tl=nG (tl y) 0 [] (tl x):=by
 obtain⟨f,g,hn⟩:=occ_tight x y (Kc hy);have key:=rX hy _ 0 f (XW _) g hn;rw[List.drop_zero] at key;have LY:occurrences x y 0 x.length (x.length+1)=[]->[x].map tl=nG (tl y) 0 [] (tl x):=λho=>by
  rw[ho] at key;rw[←key];show [tl x]=[tl (strSub x 0 x.length)];rw[sub_whole]
 unfold Txt.split;by_cases h1:(decide (x.length < y.length)||decide (Builtin.Str.strKind x < Builtin.Str.strKind y))=true
 · rw[Xp h1];have LC:x.length < y.length:=by
    simp only[Yp,Xw] at h1;rcases h1 with h|h
    · exact h
    · exact absurd h hk
   refine LY ?_;cases ho:occurrences x y 0 x.length (x.length+1) with
   |nil=>rfl
   |cons c r =>
    rw[ho] at g;have hc:c+y.length<=x.length:=g.2.1.1;omega
 · rw[Xo h1];by_cases h2:(occurrences x y 0 x.length (x.length+1)).isEmpty=true
   · rw[Xp h2];exact LY (Y1.mp h2)
   · rw[Xo h2,partsBetween_eq];exact key
theorem E1 {x y:Str}(h:y.cps.all (· < 256)=true):¬Builtin.Str.strKind x < Builtin.Str.strKind y:=by
 have e:Builtin.Str.strKind y=1:=by unfold PySem.Builtin.Str.strKind;rw[Xp h]
 rw[e];unfold PySem.Builtin.Str.strKind;split
 · omega
 · split <;> omega
def dI (S:Z_):Z9->Z_
 |[]=>[]
 |[p]=>p
 |p::q::r=>p++(S++dI S (q::r))
theorem yQ (y:Str):∀parts:List Str,tl (Str.join y parts)=dI (tl y) (parts.map tl)
 |[]=>rfl
 |[_]=>rfl
 |x::z::r=>by
  show tl (x++y++Str.join y (z::r))=tl x++(tl y++dI (tl y) ((z::r).map tl));rw[rm,rm,yQ y (z::r),YS]
theorem join_eq (y:Str)(parts:List Str):Txt.join y parts=Str.join y parts:=glued_eq_join y parts
end TL
end
namespace L2
open PySem PySem.Spec PyProof.Rows
theorem rW:∀l:List (Str×Tok),Vals ((l.map (·.1)).map V.str) (strValues l)
 |[]=>.nil
 |p::r=>.cons ⟨p.2,rfl⟩ (rW r)
theorem iX:∀{ys:List Str} {us:aae},Vals (ys.map V.str) us->StrsAre us ys
 |[],_,.nil=>.nil
 |y::ys,_,.cons r t=>by
  obtain⟨k,rfl⟩:=r;exact .cons y k (iX t)
def px (ys:List Str):Hp->VK->Prop:=λH Q=>∀p,H p=none->Q (.ref p) (upd H p (.lst (ys.map V.str)))
section
variable {X:Cx}{pins:aad}{σ:St}{H:Hp}{s:Shared}{Q:VK}
theorem m_ {l:List (Str×Tok)} {ys:List Str} {k:Nat} (I:Inv X pins σ H s) (e:l.map (·.1)=ys) (hz:ys.length<=sizeLine) (h:px ys H Q) :
  EP X pins σ Q (.ref s.heap.objs.size) {s with toks:=k,heap:=s.heap.push {cls:=.type "list",data:=.seq (strValues l).toArray}}:=by
 have hp:=I.bu.fresh (Xx _);refine⟨.ref s.heap.objs.size,upd H s.heap.objs.size (.lst (ys.map V.str)),I.laid (λb u q=>Xq _ q) (Xx _) ⟨by rw[Xn];exact hz,strValues l,_,?_,XD _ rfl⟩,rfl,h _ hp⟩;rw[←e];exact rW l
end
section
variable {X:Cx}
theorem BU:B2 X "str.split" (λx xs H Q=>∃a b,x=.str a/\xs=[.str b]/\(b.length==0)=false/\a.length+2<=sizeLine/\px (Txt.split a b) H Q):=by
 intro pins s σ H x xs v us Q I rx rs h;obtain⟨a,b,rfl,rfl,hb,hz,h⟩:=h;obtain⟨t,rfl⟩:=rx;cases rs with
 |cons r1 rs =>
  cases rs;obtain⟨u,rfl⟩:=r1;have hl:(Txt.split a b).length<=sizeLine:=Yb (PyProof.Rows.split_le a b) hz;have hn:(Builtin.Str.partsBetween a (Builtin.Str.occurrences a b 0 a.length (a.length+1)) b.length).length<=sizeLine:=by
   have e1:=StrLaws.occ_length_le a b 0 a.length (a.length+1);rw[length_partsBetween];omega
  cases h1:(decide (a.length < b.length)||decide (Builtin.Str.strKind a < Builtin.Str.strKind b))
  · cases hf:(Builtin.Str.occurrences a b 0 a.length (a.length+1)).isEmpty
    · refine call_meets F.slot_str_split (ZQ _ _ _) F.entry_str_split (F.args_str_split_2 _ _) (meets_str_split_sep a b t u h1 hb hf (by omega) hn) ?_;show EP X pins σ Q (.ref s.heap.objs.size) {s with toks:=_,heap:=s.heap.push {cls:=.type "list",data:=.seq (strsFrom s.toks (Builtin.Str.partsBetween a (Builtin.Str.occurrences a b 0 a.length (a.length+1)) b.length)).toArray}};rw[strsFrom_eq];exact m_ (ys:=Txt.split a b) I ((numbered_texts _ _).trans ((Xo (ne_true_of_eq_false h1)).trans (Xo (ne_true_of_eq_false hf))).symm) hl h
    · refine call_meets F.slot_str_split (ZQ _ _ _) F.entry_str_split (F.args_str_split_2 _ _) (meets_str_split_not_found a b t u h1 hb hf) ?_;exact m_ (l:=[(a,t)]) (ys:=Txt.split a b) (k:=s.toks) I ((Xo (ne_true_of_eq_false h1)).trans (Xp hf)).symm hl h
  · refine call_meets F.slot_str_split (ZQ _ _ _) F.entry_str_split (F.args_str_split_2 _ _) (meets_str_split_cannot_occur a b t u h1) ?_;exact m_ (l:=[(a,t)]) (ys:=Txt.split a b) (k:=s.toks) I (Xp h1).symm hl h
theorem ER:B2 X "str.join" (λx xs H Q=>∃a p,∃ys:List Str,x=.str a/\xs=[.ref p]/\(aQ X.K H p (ys.map V.str)∨b7 X.K H p (ys.map V.str)) /\
  (ys.map (·.length)).sum+ys.length*a.length<=16777216/\Q (.str (Txt.join a ys)) H):=by
 intro pins s σ H x xs v us Q I rx rs h;obtain⟨a,p,ys,rfl,rfl,hp,hz,h⟩:=h;obtain⟨t,rfl⟩:=rx;cases rs with
 |cons r1 rs =>
  cases rs;cases r1;rcases hp with hp|hp
  · obtain⟨Ly,r,⟨o,n,ho,hc,_,hd⟩,_⟩:=I.list hp;exact PyProof.Rows.join_list (items:=Ly.toArray) ⟨o,ho,hc,n,hd⟩ (by rw[List.toList_toArray];exact iX r) hz λt' k=>⟨.str _,H,I.tok k,⟨t',rfl⟩,h⟩
  · obtain⟨Ly,r,ht,_⟩:=I.tuple hp;exact PyProof.Rows.join_tuple (items:=Ly.toArray) ht (by rw[List.toList_toArray];exact iX r) hz λt' k=>⟨.str _,H,I.tok k,⟨t',rfl⟩,h⟩
theorem La {id:String}{C:Str->Prop}{g:Str->V}(rule:∀(a:Str) (t:Tok) (s:Shared) (Q:aab),C a->(∀(u:Value) (k:Nat),RelV (g a) u->Q u {s with toks:=k}) ->
  wpAny (model X.prog X.w) X.A (call (.builtin id) [.str a t]) Q X.xe s):B2 X id (λx xs H Q=>∃a,x=.str a/\xs=[]/\C a/\Q (g a) H):=by
 intro pins s σ H x xs v us Q I rx rs h;obtain⟨a,rfl,rfl,hc,h⟩:=h;obtain⟨t,rfl⟩:=rx;cases rs;exact rule a t s _ hc λu k r=>⟨g a,H,I.tok k,r,h⟩
theorem wO:B2 X "str.isdigit" (λx xs H Q=>∃a,x=.str a/\xs=[]/\True/\Q (.bl (Txt.isdigit a)) H) :=
 La (C:=λ_=>True) (g:=λa=>.bl (Txt.isdigit a)) λ_ _ s _ _ h=>PySem.SC.isdigit (h _ s.toks rfl)
theorem Lg {id:String}{g:Str->Str->V}(rule:∀(a b:Str) (t u:Tok) (s:Shared) (Q:aab),(∀(v:Value) (k:Nat),RelV (g a b) v->Q v {s with toks:=k}) ->
  wpAny (model X.prog X.w) X.A (call (.builtin id) [.str a t,.str b u]) Q X.xe s):B2 X id (λx xs H Q=>∃a b,x=.str a/\xs=[.str b]/\Q (g a b) H):=by
 intro pins s σ H x xs v us Q I rx rs h;obtain⟨a,b,rfl,rfl,h⟩:=h;obtain⟨t,rfl⟩:=rx;cases rs with
 |cons r1 rs =>
  cases rs;obtain⟨u,rfl⟩:=r1;exact rule a b t u s _ λv k r=>⟨g a b,H,I.tok k,r,h⟩
theorem vW:B2 X "str.endswith" (λx xs H Q=>∃a b,x=.str a/\xs=[.str b]/\Q (.bl (Txt.endswith a b)) H) :=
 Lg (g:=λa b=>.bl (Txt.endswith a b)) λ_ _ _ _ s _ h=>PySem.SC.endswith (h _ s.toks rfl)
theorem tf:iz X (.type "int") (λxs H Q=>∃a n,xs=[.str a]/\PySem.intText? a=some n/\a.length<=640/\Q (.int n) H):=by
 intro pins s σ H xs us Q I rs h;obtain⟨a,n,rfl,hn,hl,h⟩:=h;cases rs with
 |cons r1 rs =>
  cases rs;obtain⟨t,rfl⟩:=r1;exact PySem.W.KIN.call_text hn hl ⟨.int n,H,I.tok _,⟨_,rfl⟩,h⟩
end
section
variable {X:Cx}{o e:Expr}{to te:TE}
def K7 (r:V->List V->Hp->VK->Prop) (to:TE):TE:=λσ H Q=>to σ H λx H1=>(∃a,x=.str a)/\r x [] H1 Q
def J6 (r:V->List V->Hp->VK->Prop)(to te:TE):TE:=λσ H Q=>to σ H λx H1=>(∃a,x=.str a)/\te σ H1 λy H2=>r x [y] H2 Q
theorem JO {id:String}{name:Str}{apos pos:Pos}{r:V->List V->Hp->VK->Prop}(slot:Slot "str" name id)(ty:typeOf (.builtin id)=pure (.type "method_descriptor"))(rule:B2 X id r)(ho:PE X o to)
  (LM:attributeBase o name X.env (eval o X.env)=eval o X.env:=by rfl)(LN:(apos.endLine==pos.line)=true:=by rfl):PE X (.Call (.Attribute o name apos) [] [] pos) (K7 r to):=by
 intro pins s σ H Q I h;refine PySem.Call_method0 LM LN (bA (ho pins s σ H _ I h) λv s1 ⟨x,H1,I1,r1,q1⟩=>?_);obtain⟨⟨a,rfl⟩,q1⟩:=q1;obtain⟨t,rfl⟩:=_root_.id r1;exact⟨"str",_,F.plainAttrs_str,slot,ty,ZQ _ _ _,(λ_ e=>nomatch e),ZO rfl (PySem.evalArgs_none (rule pins s1 σ H1 _ [] _ [] Q I1 r1 .nil q1))⟩
theorem AM {id:String}{name:Str}{apos pos:Pos}{r:V->List V->Hp->VK->Prop}(slot:Slot "str" name id)(ty:typeOf (.builtin id)=pure (.type "method_descriptor"))(rule:B2 X id r)(ho:PE X o to)(he:PE X e te)
  (hs:starEach [e] X.env=[(false,eval e X.env)]:=by rfl)(LM:attributeBase o name X.env (eval o X.env)=eval o X.env:=by rfl)(LN:(apos.endLine==pos.line)=true:=by rfl) :
  PE X (.Call (.Attribute o name apos) [e] [] pos) (J6 r to te):=by
 intro pins s σ H Q I h;refine PySem.Call_method1 LM hs LN (bA (ho pins s σ H _ I h) λv s1 ⟨x,H1,I1,r1,q1⟩=>?_);obtain⟨⟨a,rfl⟩,q1⟩:=q1;obtain⟨t,rfl⟩:=_root_.id r1;refine⟨"str",_,F.plainAttrs_str,slot,ty,ZQ _ _ _,(λ_ e=>nomatch e),ZO rfl (Calls.evalArgs_plain (Z8 ?_))⟩;exact bA (he pins s1 σ H1 _ I1 q1) λu s2 ⟨y,H2,I2,r2,q2⟩=>Calls.spliced_nil (rule pins s2 σ H2 _ [y] _ [u] Q I2 r1 (.cons r2 .nil) q2)
theorem mB {apos pos:Pos}(ho:PE X o to)(he:PE X e te)(hs:starEach [e] X.env=[(false,eval e X.env)]:=by rfl)(LM:attributeBase o "split" X.env (eval o X.env)=eval o X.env:=by rfl)(LN:(apos.endLine==pos.line)=true:=by rfl) :
  PE X (.Call (.Attribute o "split" apos) [e] [] pos) (J6 (λx xs H Q=>∃a b,x=.str a/\xs=[.str b]/\(b.length==0)=false/\a.length+2<=sizeLine/\px (Txt.split a b) H Q) to te) :=
 AM F.slot_str_split F.type_str_split BU ho he hs LM LN
theorem Dl {apos pos:Pos}(ho:PE X o to)(he:PE X e te)(hs:starEach [e] X.env=[(false,eval e X.env)]:=by rfl)(LM:attributeBase o "join" X.env (eval o X.env)=eval o X.env:=by rfl)(LN:(apos.endLine==pos.line)=true:=by rfl) :
  PE X (.Call (.Attribute o "join" apos) [e] [] pos) (J6 (λx xs H Q=>∃a p,∃ys:List Str,x=.str a/\xs=[.ref p]/\(aQ X.K H p (ys.map V.str)∨b7 X.K H p (ys.map V.str)) /\
   (ys.map (·.length)).sum+ys.length*a.length<=16777216/\Q (.str (Txt.join a ys)) H) to te) :=
 AM F.slot_str_join F.type_str_join ER ho he hs LM LN
end
section
variable {X:Cx}
theorem qm:jo X (compareOp .In) (λx y H Q=>∃(c:Nat) (z:Str),x=.str ⟨#[c]⟩/\y=.str z/\Q (.bl (decide (c∈z.cps.toList))) H):=by
 intro pins s σ H x y v u Q I rx ry h;obtain⟨c,z,rfl,rfl,q⟩:=h;obtain⟨t,rfl⟩:=rx;obtain⟨t',rfl⟩:=ry;exact PyProof.Rows.in_str (bq I q (PySem.StrLaws.found_one z c).symm)
theorem qL:jo X (compareOp .NotIn) (λx y H Q=>∃(c:Nat) (z:Str),x=.str ⟨#[c]⟩/\y=.str z/\Q (.bl (!decide (c∈z.cps.toList))) H):=by
 intro pins s σ H x y v u Q I rx ry h;obtain⟨c,z,rfl,rfl,q⟩:=h;obtain⟨t,rfl⟩:=rx;obtain⟨t',rfl⟩:=ry;exact PyProof.Rows.notIn_str (bq I q (Yv Bool.not (PySem.StrLaws.found_one z c).symm))
end
theorem IsPart.raw {v:Value}{o:Option Int}(p:IsPart v o):∃l:Option (Int×Tok),v=partValue l/\l.map (·.1)=o:=by
 cases p with
 |none=>exact⟨none,rfl,rfl⟩
 |int i t=>exact⟨some (i,t),rfl,rfl⟩
def vK (n d:Nat):Option Int->Int
 |none=>(d:Int)
 |some i=>max 0 (min (if i < 0 then i+(n:Int) else i) (n:Int))
theorem uG (n d:Nat)(o:Option Int):vK n d o=((HT.b_ n d o:Nat):Int):=by
 cases o with
 |none=>rfl
 |some v =>
  show max (0:Int) (min (if v < 0 then v+(n:Int) else v) (n:Int))=(((if v < 0 then (v+(n:Int)).toNat else min v.toNat n):Nat):Int);by_cases hv:v < 0
  · simp only[Xp hv];omega
  · simp only[Xo hv];omega
theorem zW (a b:Option Int)(n:Nat):Builtin.Str.strSliceIndices a b 1 n=sliceRange (vK n 0 a) (vK n n b) 1:=by
 have h1:((1:Int) > 0)=True:=by simp
 cases a <;> cases b <;> first
  |rfl
  |(simp only[Builtin.Str.strSliceIndices,vK,h1,Y8];rfl)
  |simp[Builtin.Str.strSliceIndices,vK]
theorem J2 (a b:Option Int)(n:Nat):Builtin.Str.strSliceIndices a b 1 n=(List.range (HT.b_ n n b - HT.b_ n 0 a)).map (λk=>HT.b_ n 0 a+k):=by
 rw[zW,uG,uG];generalize HT.b_ n 0 a=p;generalize HT.b_ n n b=q;simp only[sliceRange,show ((1:Int) > 0)=True from by simp,Y8];by_cases LC:(p:Int) < q
 · have e3:(((q:Int) - p+1 - 1) / 1).toNat=q - p:=by first|omega|(simp;done)|(simp;omega)
   simp only[LC,Y8,e3];refine Yi λk _=>?_;omega
 · have:q - p=0:=by omega
   simp[LC,this]
def Aa (z:Str)(lo hi:Option Int):Str :=
 ⟨((z.cps.toList.drop (HT.b_ z.length 0 lo)).take (HT.b_ z.length z.length hi - HT.b_ z.length 0 lo)).toArray⟩
theorem kN (z:Str)(lo hi:Option Int):PySem.StrLaws.sliceText z lo hi=Aa z lo hi:=by
 have h1:HT.b_ z.length 0 lo<=z.length:=HT.xj _ _ (XW _) _;have h2:HT.b_ z.length z.length hi<=z.length:=HT.xj _ _ (Xx _) _;have hp:HT.b_ z.length 0 lo<=max (HT.b_ z.length 0 lo) (HT.b_ z.length z.length hi):=Nat.le_max_left _ _;have hq:max (HT.b_ z.length 0 lo) (HT.b_ z.length z.length hi)<=z.length:=Nat.max_le.mpr ⟨h1,h2⟩;have hd:max (HT.b_ z.length 0 lo) (HT.b_ z.length z.length hi) - HT.b_ z.length 0 lo=HT.b_ z.length z.length hi - HT.b_ z.length 0 lo:=by omega
 have e:Builtin.Str.strSliceIndices lo hi 1 z.length =
   Builtin.Str.strSliceIndices (some ((HT.b_ z.length 0 lo:Nat):Int)) (some ((max (HT.b_ z.length 0 lo) (HT.b_ z.length z.length hi):Nat):Int)) 1 z.length:=by
  rw[PySem.StrLaws.strSliceIndices_plain hp hq,hd,J2]
 have e2:PySem.StrLaws.sliceText z lo hi =
   PySem.StrLaws.sliceText z (some ((HT.b_ z.length 0 lo:Nat):Int)) (some ((max (HT.b_ z.length 0 lo) (HT.b_ z.length z.length hi):Nat):Int)):=by
  unfold PySem.StrLaws.sliceText;rw[e]
 rw[e2,PySem.StrLaws.sliceText_nat z hp hq,hd];rfl
theorem nX (z:Str)(lo hi:Option Int):(Aa z lo hi).length<=z.length:=by
 show (((z.cps.toList.drop (HT.b_ z.length 0 lo)).take (HT.b_ z.length z.length hi - HT.b_ z.length 0 lo)).toArray).size<=z.cps.size;rw[XJ,XN,Yh,Y_];omega
def KJ:V->Option Int->Option Int->Hp->VK->Prop:=λx lo hi H Q=>∃z,x=.str z/\z.length<=sizeLine/\Q (.str (Aa z lo hi)) H
theorem HS {X:Cx}:IV X KJ:=by
 intro pins s σ H x v vl vu lo hi sl Q I rx hs pl pu h;obtain⟨z,rfl,hz,q⟩:=h;obtain⟨t,rfl⟩:=rx;obtain⟨os,MY,NF,NG⟩:=hs;obtain⟨l,rfl,rfl⟩:=IsPart.raw pl;obtain⟨u,rfl,rfl⟩:=IsPart.raw pu;refine⟨"str",_,F.slot_str_getitem.lookup,ZQ _ _ _,?_⟩;refine wpAny_getItem_str_slice (l:=l) (u:=u) (st:=none) ⟨os,MY,NF,NG⟩ rfl ?_;have hl:(PySem.StrLaws.sliceText z (l.map (·.1)) (u.map (·.1))).length<=sizeLine:=by
  rw[kN];exact Yb (nX z _ _) hz
 rw[←kN] at q;unfold PySem.StrLaws.sliceText at q hl;show Made.post (if ((1:Int)==1&&(Builtin.Str.strSliceIndices (l.map (·.1)) (u.map (·.1)) 1 z.length).length==z.length)=true then Made.val (.str z t)
  else Made.str ⟨((Builtin.Str.strSliceIndices (l.map (·.1)) (u.map (·.1)) 1 z.length).filterMap (z.cps[·]?)).toArray⟩) (EP X pins σ Q) s
 by_cases c:((1:Int)==1&&(Builtin.Str.strSliceIndices (l.map (·.1)) (u.map (·.1)) 1 z.length).length==z.length)=true
 · rw[Xp c] at q ⊢;exact⟨.str z,H,I,⟨t,rfl⟩,q⟩
 · rw[Xo c] at q hl ⊢;exact⟨hl,.str _,H,I.tok _,⟨_,rfl⟩,q⟩
end L2
namespace Att
open PySem PySem.W PySem.Calls PyProof.Rows
section
variable {prog:Program}{w:World}{A:Around}{E:aab}{s:Shared}{K:Frag}
end
end Att
namespace L2
open PySem PySem.Spec PyProof.Rows
end L2
section
set_option Elab.async false
set_option linter.all false
set_option maxRecDepth 100000
set_option maxHeartbeats 2000000
namespace L2
open PySem PySem.Spec PyProof.Rows
open PySem.W (WData Codec OpenSpec Well WellAll ReadsW ReadsAllW)
mutual
inductive Dw (K:aaa)(H:Hp):V->WData->Prop
 |cf:Dw K H .cf .none
 |bl (b:Bool):Dw K H (.bl b) (.bool b)
 |int (i:Int):Dw K H (.int i) (.int i)
 |str (x:Str):Dw K H (.str x) (.str x)
 |v8 (b:Array UInt8):Dw K H (.v8 b) (.bytes b.toList)
 |lst {a:Addr} {xs:List V} {ds:List WData}:aQ K H a xs->iE K H xs ds->Dw K H (.ref a) (.list ds)
 |tup {a:Addr} {xs:List V} {ds:List WData}:b7 K H a xs->iE K H xs ds->Dw K H (.ref a) (.tuple ds)
inductive iE (K:aaa)(H:Hp):List V->List WData->Prop
 |nil:iE K H [] []
 |cons {v:V} {vs:List V} {d:WData} {ds:List WData}:Dw K H v d->iE K H vs ds->iE K H (v::vs) (d::ds)
end
theorem ym {K:aaa}{H:Hp}:∀ns:List Int,iE K H (ns.map V.int) (ns.map WData.int)
 |[]=>.nil
 |n::r=>.cons (.int n) (ym r)
theorem tD {K:aaa}{H:Hp}:∀(ns:List Int) (xs:List V),iE K H xs (ns.map WData.int)->xs=ns.map V.int
 |[],xs,h=>by
  cases h;rfl
 |n::r,xs,h=>by
  cases h with
  |cons h1 h2 =>
   cases h1;rw[tD r _ h2] <;> rfl
section
variable {P:Program}{w:World}{K:aaa}{H:Hp}{h:Heap}{R:PySem.W.WRecords}{cl:Str->Option Addr}
theorem Gn {a:Addr} {xs:List V} (bu:ie P w H h) (KX:K.In h) (q:aQ K H a xs):∃(Ly:aae) (o:Obj) (n:Nat),Vals xs Ly/\h.get? a=some o/\o.cls=.type "list"/\o.data=.seq Ly.toArray n:=by
 rcases q with q|⟨o,Ly,n,e,hc,_,hd,_,hv⟩
 · obtain⟨_,Ly,n,hv,e⟩:=(show bK P w H h a (.lst xs) from q.ok bu);exact⟨Ly,_,n,hv,e,rfl,rfl⟩
 · exact⟨Ly.toList,o,n,hv,KX _ _ e,hc,by simp[hd]⟩
theorem Gx {a:Addr}{xs:List V}(bu:ie P w H h)(KX:K.In h)(q:b7 K H a xs):∃(Ly:aae) (o:Obj) (n:Nat),Vals xs Ly/\h.get? a=some o/\o.cls=.type "tuple"/\o.data=.seq Ly.toArray n:=by
 rcases q with q|⟨o,Ly,n,e,hc,hd,_,hv⟩
 · obtain⟨_,Ly,hv,o,e,hc,n,hd⟩:=(show bK P w H h a (.tup xs) from q.ok bu);exact⟨Ly,o,n,hv,e,hc,hd⟩
 · exact⟨Ly.toList,o,n,hv,KX _ _ e,hc,by simp[hd]⟩
mutual
theorem Dw.reads (bu:ie P w H h)(KX:K.In h):∀(d:WData) (v:V) (u:Value),Dw K H v d->RelV v u->∃as,ReadsW R cl h u d as
 |.none,_,_,x,r=>by
  cases x;cases r;exact⟨_,ReadsW.none⟩
 |.bool b,_,_,x,r=>by
  cases x;cases r;exact⟨_,ReadsW.bool b⟩
 |.int i,_,_,x,r=>by
  cases x;obtain⟨t,rfl⟩:=r;exact⟨_,ReadsW.int i t⟩
 |.str s,_,_,x,r=>by
  cases x;obtain⟨t,rfl⟩:=r;exact⟨_,ReadsW.str s t⟩
 |.bytes b,_,_,x,r=>by
  cases x;obtain⟨t,rfl⟩:=r;exact⟨_,ReadsW.bytes _ t⟩
 |.list ds,_,_,x,r=>by
  cases x with
  |lst hs ha =>
   cases r;obtain⟨Ly,o,n,rv,ho,hc,hd⟩:=Gn bu KX hs;obtain⟨as,hr⟩:=Dw.readsAll bu KX ds _ Ly ha rv;exact⟨_,ReadsW.list ho hc hd hr⟩
 |.tuple ds,_,_,x,r=>by
  cases x with
  |tup hs ha =>
   cases r;obtain⟨Ly,o,n,rv,ho,hc,hd⟩:=Gx bu KX hs;obtain⟨as,hr⟩:=Dw.readsAll bu KX ds _ Ly ha rv;exact⟨_,ReadsW.tuple ho hc hd hr⟩
 |.float _,_,_,x,_=>by cases x
 |.dict _,_,_,x,_=>by cases x
 |.bytearray _,_,_,x,_=>by cases x
 |.set _,_,_,x,_=>by cases x
 |.frozenset _,_,_,x,_=>by cases x
 |.obj _ _,_,_,x,_=>by cases x
theorem Dw.readsAll (bu:ie P w H h)(KX:K.In h):∀(ds:List WData) (vs:List V) (us:aae),iE K H vs ds->Vals vs us->∃as,ReadsAllW R cl h us ds as
 |[],_,_,x,r=>by
  cases x;cases r;exact⟨_,ReadsAllW.nil⟩
 |d::ds,_,_,x,r=>by
  cases x with
  |cons h1 h2 =>
   cases r with
   |cons r1 r2 =>
    obtain⟨as,q1⟩:=Dw.reads bu KX d _ _ h1 r1;obtain⟨bs,q2⟩:=Dw.readsAll bu KX ds _ _ h2 r2;exact⟨_,ReadsAllW.cons q1 q2⟩
end
end
mutual
def yp:WData->Bool
 |.none=>true
 |.bool _=>true
 |.int _=>true
 |.str _=>true
 |.bytes _=>true
 |.list xs=>og xs
 |.tuple xs=>og xs
 |_=>false
def og:List WData->Bool
 |[]=>true
 |x::r=>yp x&&og r
end
theorem vG {α:Type}{f:α->WData}(h:∀a,yp (f a)=true):∀l:List α,og (l.map f)=true
 |[]=>rfl
 |x::r=>by
  show (yp (f x)&&og (r.map f))=true;rw[h x,vG h r] <;> rfl
theorem jP:∀(c:Codec) (a:c.denote),yp (c.enc a)=true
 |.unit,_=>rfl
 |.bool,_=>rfl
 |.int _ _,_=>rfl
 |.nat _ _,_=>rfl
 |.u8,_=>rfl
 |.bytes _ _,_=>rfl
 |.text _ _ _ _,_=>rfl
 |.list _ _ c,a=>vG (λx=>jP c x) a
 |.pair c d,a=>by
  show (yp (c.enc a.1)&&(yp (d.enc a.2)&&true))=true;rw[jP c a.1,jP d a.2] <;> rfl
 |.triple c d e,a=>by
  show (yp (c.enc a.1)&&(yp (d.enc a.2.1)&&(yp (e.enc a.2.2)&&true)))=true;rw[jP c a.1,jP d a.2.1,jP e a.2.2] <;> rfl
 |.option c,none=>rfl
 |.option c,some x=>jP c x
theorem rQ:∀(cs:List Codec) (a:Codec.denoteAll cs),og (Codec.encAll cs a)=true
 |[],_=>rfl
 |c::cs,a=>by
  show (yp (c.enc a.1)&&og (Codec.encAll cs a.2))=true;rw[jP c a.1,rQ cs a.2] <;> rfl
theorem lG:∀{xs:List WData} {d:WData},d∈xs->d.weight<=WData.weightAll xs
 |[],d,h=>absurd h (by simp)
 |x::r,d,h=>by
  show d.weight<=x.weight+1+WData.weightAll r;rcases Xr.mp h with e|m
  · rw[e];omega
  · have z:=lG m;omega
def toV:Value->V
 |.none=>.cf
 |.bool b=>.bl b
 |.int i _=>.int i
 |.str x _=>.str x
 |.bytes b _=>.v8 b
 |.ref a=>.ref a
 |_=>.cf
def Aq (A:List Addr):Value->Prop
 |.none=>True
 |.bool _=>True
 |.int _ _=>True
 |.str _ _=>True
 |.bytes _ _=>True
 |.ref a=>a∈A
 |_=>False
theorem Aq.mono {A B:List Addr}(h:∀a∈A,a∈B):∀{u:Value},Aq A u->Aq B u:=λ{u} x=>by
 cases u with
 |ref a=>exact h a x
 |none=>trivial
 |bool b=>trivial
 |int i t=>trivial
 |str s t=>trivial
 |bytes b t=>trivial
 |_=>exact False.elim x
theorem Ck {A:List Addr}{u:Value}(x:Aq A u):RelV (toV u) u:=by
 cases u with
 |ref a=>rfl
 |none=>rfl
 |bool b=>rfl
 |int i t=>exact⟨t,rfl⟩
 |str s t=>exact⟨t,rfl⟩
 |bytes b t=>exact⟨t,rfl⟩
 |_=>exact False.elim x
theorem iD {A:List Addr}:∀{vs:aae},(∀u∈vs,Aq A u)->Vals (vs.map toV) vs
 |[],_=>.nil
 |u::r,h=>.cons (Ck (h u (X_ ..))) (iD λx hx=>h x (XG _ hx))
def ji (h:Heap)(A:List Addr)(a:Addr):Prop:=∃vs:aae,vs.length<=sizeLine/\(∀u∈vs,Aq A u) /\
 (h.get? a=some {cls:=.type "list",data:=.seq vs.toArray}∨h.get? a=some {cls:=.type "tuple",data:=.seq vs.toArray})
theorem ji.mono {h:Heap}{A B:List Addr}{a:Addr}(k:∀a∈A,a∈B)(x:ji h A a):ji h B a:=by
 obtain⟨vs,h1,h2,h3⟩:=x;exact⟨vs,h1,λu hu=>(h2 u hu).mono k,h3⟩
theorem gM {P:Params}{h:Heap}:∀{vs:aae} {ds:List WData},WellAll P h vs ds->vs.length=ds.length
 |_,_,.nil=>rfl
 |_,_,.cons _ b=>by
  show _+1=_+1;rw[gM b]
theorem su {P:Params}{h:Heap}{v:Value}{ds:List WData}(x:Well P h v (.list ds)):∃(a:Addr) (vs:aae),v=.ref a/\h.get? a=some {cls:=.type "list",data:=.seq vs.toArray}/\WellAll P h vs ds:=by
 cases x with
 |list ho LK=>exact⟨_,_,rfl,ho,LK⟩
theorem o_ {P:Params}{h:Heap}{v:Value}{ds:List WData}(x:Well P h v (.tuple ds)):∃(a:Addr) (vs:aae),v=.ref a/\h.get? a=some {cls:=.type "tuple",data:=.seq vs.toArray}/\WellAll P h vs ds:=by
 cases x with
 |tuple ho LK=>exact⟨_,_,rfl,ho,LK⟩
theorem rF {P:Params}{h:Heap}{us:aae}{d:WData}{ds:List WData}(x:WellAll P h us (d::ds)):∃(v:Value) (vs:aae),us=v::vs/\Well P h v d/\WellAll P h vs ds:=by
 cases x with
 |cons a b=>exact⟨_,_,rfl,a,b⟩
theorem zf {n:Nat}(h:n<=1048576):n<=sizeLine:=Yb h (by decide)
section
variable {P:Params}{h:Heap}
mutual
theorem Cz:∀(d:WData) (v:Value),Well P h v d->yp d=true->d.weight<=1048576->∃A:List Addr,Aq A v/\∀a∈A,ji h A a
 |.none,_,x,_,_=>by
  cases x;exact⟨[],trivial,λa m=>absurd m (by simp)⟩
 |.bool b,_,x,_,_=>by
  cases x;exact⟨[],trivial,λa m=>absurd m (by simp)⟩
 |.int i,_,x,_,_=>by
  cases x;exact⟨[],trivial,λa m=>absurd m (by simp)⟩
 |.str s,_,x,_,_=>by
  cases x;exact⟨[],trivial,λa m=>absurd m (by simp)⟩
 |.bytes b,_,x,_,_=>by
  cases x;exact⟨[],trivial,λa m=>absurd m (by simp)⟩
 |.list ds,_,x,p,z=>by
  obtain⟨a,vs,rfl,ho,LK⟩:=su x;have z2:WData.weightAll ds<=1048576:=z;obtain⟨A,h1,h2⟩:=mr ds _ LK p λd hd=>Yb (lG hd) z2;have k:∀b∈A,b∈a::A:=λb hb=>XG _ hb;refine⟨a::A,X_ ..,λb hb=>?_⟩;rcases Xr.mp hb with e|m
  · rw[e];exact⟨vs,zf (by rw[gM LK];exact Yb (PySem.W.length_le_weightAllW ds) z2),λu hu=>(h1 u hu).mono k,.inl ho⟩
  · exact (h2 b m).mono k
 |.tuple ds,_,x,p,z=>by
  obtain⟨a,vs,rfl,ho,LK⟩:=o_ x;have z2:WData.weightAll ds<=1048576:=z;obtain⟨A,h1,h2⟩:=mr ds _ LK p λd hd=>Yb (lG hd) z2;have k:∀b∈A,b∈a::A:=λb hb=>XG _ hb;refine⟨a::A,X_ ..,λb hb=>?_⟩;rcases Xr.mp hb with e|m
  · rw[e];exact⟨vs,zf (by rw[gM LK];exact Yb (PySem.W.length_le_weightAllW ds) z2),λu hu=>(h1 u hu).mono k,.inr ho⟩
  · exact (h2 b m).mono k
 |.float _,_,_,p,_=>Bool.noConfusion (show false=true from p)
 |.dict _,_,_,p,_=>Bool.noConfusion (show false=true from p)
 |.bytearray _,_,_,p,_=>Bool.noConfusion (show false=true from p)
 |.set _,_,_,p,_=>Bool.noConfusion (show false=true from p)
 |.frozenset _,_,_,p,_=>Bool.noConfusion (show false=true from p)
 |.obj _ _,_,_,p,_=>Bool.noConfusion (show false=true from p)
theorem mr:∀(ds:List WData) (vs:aae),WellAll P h vs ds->og ds=true->(∀d∈ds,d.weight<=1048576)->∃A:List Addr,(∀u∈vs,Aq A u)/\∀a∈A,ji h A a
 |[],_,x,_,_=>by
  cases x;exact⟨[],λu m=>absurd m (by simp),λa m=>absurd m (by simp)⟩
 |d::ds,_,x,p,z=>by
  obtain⟨v,vs,rfl,x1,x2⟩:=rF x;have q:yp d=true/\og ds=true:=ZW.mp p;obtain⟨A,a1,a2⟩:=Cz d v x1 q.1 (z d (X_ ..));obtain⟨B,b1,b2⟩:=mr ds vs x2 q.2 λe he=>z e (XG _ he);have kA:∀b∈A,b∈A++B:=λb hb=>Yd.mpr (.inl hb);have kB:∀b∈B,b∈A++B:=λb hb=>Yd.mpr (.inr hb);refine⟨A++B,λu hu=>?_,λb hb=>?_⟩
  · rcases Xr.mp hu with e|m
    · rw[e];exact a1.mono kA
    · exact (b1 u m).mono kB
  · rcases Yd.mp hb with m|m
    · exact (a2 b m).mono kA
    · exact (b2 b m).mono kB
end
end
def De (o:Obj):Option HO:=match o.data with
 |.seq vs _=>if (o.cls==Value.type "list")=true then some (.frz o (.lst (vs.toList.map toV))) else some (.frz o (.tup (vs.toList.map toV)))
 |_=>none
def i6 (K:aaa)(h:Heap)(A:List Addr):Hp:=λb=>if b∈A then (if (K.lookup b).isNone=true then (h.get? b).bind De else none) else none
def uK (H:Hp):Prop:=∀b,H b=none∨∃o u,H b=some (.frz o u)
theorem uF (vs:aae):De {cls:=.type "list",data:=.seq vs.toArray}=some (.frz {cls:=.type "list",data:=.seq vs.toArray} (.lst (vs.map toV))):=by
 show (if (Value.type "list"==Value.type "list")=true then some (HO.frz {cls:=.type "list",data:=.seq vs.toArray} (.lst (vs.toArray.toList.map toV))) else some (HO.frz {cls:=.type "list",data:=.seq vs.toArray} (.tup (vs.toArray.toList.map toV))))=_;rw[Xp (beq_self_eq_true _)]
theorem vx (vs:aae):De {cls:=.type "tuple",data:=.seq vs.toArray}=some (.frz {cls:=.type "tuple",data:=.seq vs.toArray} (.tup (vs.map toV))):=by
 show (if (Value.type "tuple"==Value.type "list")=true then some (HO.frz {cls:=.type "tuple",data:=.seq vs.toArray} (.lst (vs.toArray.toList.map toV))) else some (HO.frz {cls:=.type "tuple",data:=.seq vs.toArray} (.tup (vs.toArray.toList.map toV))))=_;rw[Xo (by decide)]
section
variable {P:Program}{w:World}{K:aaa}{h:Heap}{A:List Addr}
theorem oA {b:Addr} {o:Obj} (hb:b∈A) (hk:K.lookup b=none) (e:h.get? b=some o):i6 K h A b=De o:=by
 unfold i6;rw[Xp hb,hk,Xp (show (none:Option Obj).isNone=true from rfl),e] <;> rfl
theorem E2 {b:Addr}{u:HO}(q:i6 K h A b=some u):b∈A/\K.lookup b=none:=by
 unfold i6 at q;by_cases hb:b∈A
 · rw[Xp hb] at q;cases hk:K.lookup b with
   |none=>exact⟨hb,rfl⟩
   |some o =>
    rw[hk,Xo (by simp)] at q;cases q
 · rw[Xo hb] at q;cases q
theorem oH (ar:∀a∈A,ji h A a){b:Addr}{u:HO}(q:i6 K h A b=some u):K.lookup b=none/\∃vs:aae,vs.length<=sizeLine/\(∀u∈vs,Aq A u) /\
  ((h.get? b=some {cls:=.type "list",data:=.seq vs.toArray}/\u=.frz {cls:=.type "list",data:=.seq vs.toArray} (.lst (vs.map toV))) ∨
   (h.get? b=some {cls:=.type "tuple",data:=.seq vs.toArray}/\u=.frz {cls:=.type "tuple",data:=.seq vs.toArray} (.tup (vs.map toV)))):=by
 obtain⟨hb,hk⟩:=E2 q;obtain⟨vs,h1,h2,h3⟩:=ar b hb;refine⟨hk,vs,h1,h2,?_⟩;rcases h3 with e|e
 · rw[oA hb hk e,uF] at q;exact .inl ⟨e,(X2 q).symm⟩
 · rw[oA hb hk e,vx] at q;exact .inr ⟨e,(X2 q).symm⟩
theorem zl (ar:∀a∈A,ji h A a):uK (i6 K h A):=λb=>by
 cases q:i6 K h A b with
 |none=>exact .inl rfl
 |some u =>
  obtain⟨_,vs,_,_,⟨_,e⟩|⟨_,e⟩⟩:=oH ar q
  · exact .inr ⟨_,_,by rw[e]⟩
  · exact .inr ⟨_,_,by rw[e]⟩
theorem D1 (ar:∀a∈A,ji h A a):ie P w (i6 K h A) h:=λb u q=>by
 obtain⟨_,vs,h1,h2,⟨e,rfl⟩|⟨e,rfl⟩⟩:=oH ar q
 · exact⟨e,by rw[Xn];exact h1,vs,_,iD h2,e⟩
 · exact⟨e,by rw[Xn];exact h1,vs,iD h2,_,e,rfl,_,rfl⟩
theorem ox {c c':Value}{vs us:aae}(e:(some {cls:=c,data:=.seq vs.toArray}:Option Obj)=some {cls:=c',data:=.seq us.toArray}):c=c'/\vs=us:=by
 have e1:=X2 e;have e2:c=c':=Yv Obj.cls e1;have e3:Data.seq vs.toArray=Data.seq us.toArray:=Yv Obj.data e1;injection e3 with e4;refine⟨e2,?_⟩;have e5:=Yv Array.toList e4;simpa using e5
theorem Kx (KX:K.In h)(ar:∀a∈A,ji h A a){a:Addr}{vs:aae}(ha:a∈A)(e:h.get? a=some {cls:=.type "list",data:=.seq vs.toArray}):(∀u∈vs,Aq A u)/\aQ K (i6 K h A) a (vs.map toV):=by
 obtain⟨us,h1,h2,h3⟩:=ar a ha;have hu:us=vs:=by
  rcases h3 with q|q
  · rw[e] at q;exact (ox q).2.symm
  · rw[e] at q;exact absurd (Value.type.inj (ox q).1) (by decide)
 subst hu;refine⟨h2,?_⟩;cases hk:K.lookup a with
 |none=>exact .inl (.inr ⟨_,by rw[oA ha hk e,uF]⟩)
 |some o =>
  have e2:=KX a o hk;rw[e] at e2;obtain rfl:=X2 e2;exact .inr ⟨_,us.toArray,_,hk,rfl,rfl,rfl,by rw[XJ];exact h1,by simpa using iD h2⟩
theorem Kt (KX:K.In h)(ar:∀a∈A,ji h A a){a:Addr}{vs:aae}(ha:a∈A)(e:h.get? a=some {cls:=.type "tuple",data:=.seq vs.toArray}):(∀u∈vs,Aq A u)/\b7 K (i6 K h A) a (vs.map toV):=by
 obtain⟨us,h1,h2,h3⟩:=ar a ha;have hu:us=vs:=by
  rcases h3 with q|q
  · rw[e] at q;exact absurd (Value.type.inj (ox q).1) (by decide)
  · rw[e] at q;exact (ox q).2.symm
 subst hu;refine⟨h2,?_⟩;cases hk:K.lookup a with
 |none=>exact .inl (.inr ⟨_,by rw[oA ha hk e,vx]⟩)
 |some o =>
  have e2:=KX a o hk;rw[e] at e2;obtain rfl:=X2 e2;exact .inr ⟨_,us.toArray,_,hk,rfl,rfl,by rw[XJ];exact h1,by simpa using iD h2⟩
mutual
theorem Ha {Pm:Params}(KX:K.In h)(ar:∀a∈A,ji h A a):∀(d:WData) (v:Value),Well Pm h v d->yp d=true->Aq A v->Dw K (i6 K h A) (toV v) d
 |.none,_,x,_,_=>by
  cases x;exact .cf
 |.bool b,_,x,_,_=>by
  cases x;exact .bl b
 |.int i,_,x,_,_=>by
  cases x;exact .int i
 |.str s,_,x,_,_=>by
  cases x;exact .str s
 |.bytes b,_,x,_,_=>by
  cases x;have z:=Dw.v8 (K:=K) (H:=i6 K h A) b.toArray;exact z
 |.list ds,_,x,p,hu=>by
  obtain⟨a,vs,rfl,ho,LK⟩:=su x;obtain⟨h2,hs⟩:=Kx KX ar hu ho;exact .lst hs (ui KX ar ds _ LK p h2)
 |.tuple ds,_,x,p,hu=>by
  obtain⟨a,vs,rfl,ho,LK⟩:=o_ x;obtain⟨h2,hs⟩:=Kt KX ar hu ho;exact .tup hs (ui KX ar ds _ LK p h2)
 |.float _,_,_,p,_=>Bool.noConfusion (show false=true from p)
 |.dict _,_,_,p,_=>Bool.noConfusion (show false=true from p)
 |.bytearray _,_,_,p,_=>Bool.noConfusion (show false=true from p)
 |.set _,_,_,p,_=>Bool.noConfusion (show false=true from p)
 |.frozenset _,_,_,p,_=>Bool.noConfusion (show false=true from p)
 |.obj _ _,_,_,p,_=>Bool.noConfusion (show false=true from p)
theorem ui {Pm:Params}(KX:K.In h)(ar:∀a∈A,ji h A a):∀(ds:List WData) (vs:aae),WellAll Pm h vs ds->og ds=true->(∀u∈vs,Aq A u)->iE K (i6 K h A) (vs.map toV) ds
 |[],_,x,_,_=>by
  cases x;exact .nil
 |d::ds,_,x,p,hu=>by
  obtain⟨v,vs,rfl,x1,x2⟩:=rF x;have q:yp d=true/\og ds=true:=ZW.mp p;exact .cons (Ha KX ar d v x1 q.1 (hu _ (X_ ..))) (ui KX ar ds vs x2 q.2 λu m=>hu u (XG _ m))
end
end
theorem zL {P:Program}{w:World}{K:aaa}{mg mb:aac}{CX:lO}{k:Nat}{fa:Addr}{fd:FuncData}{ps:List Str}{sp:Sp}{s₁:Shared}{vals:aae}{ds:List WData}{R:PySem.W.WRecords}{cl:Str->Option Addr}{d0:WData}
  (KX:K.In s₁.heap)(OM:s₁.heap.Ns mainGlobals mg)(hb:s₁.heap.Ns builtinsNs mb)(Vt:∀x:Str,x≠"__name__"->mb x=bootBuiltins x)(Q4:s₁.heap.NoLimit)(hg:s₁.gens=#[])
  (MQ:WellAll w.params s₁.heap vals ds)(LH:og ds=true)(Vu:∀d∈ds,d.weight<=1048576)(hr:cK k callerA)
  (F:∀base:Heap,K.In base->base.Ns mainGlobals mg->a8 P w K mg base CX k fa fd ps sp)(ON:∀(s:Shared) (us:aae),us.length=ps.length->BindsTo s fd ⟨us,[]⟩ (ps.zip us))(hlen:ds.length=ps.length)
  (Mb:∀(H:Hp) (xs:List V),uK H->iE K H xs ds->sp xs H (λv H'=>Dw K H' v d0) λ_ _ _=>False)
  (OO:∀H e s',CX [] H s₁ (λ_ _ _=>False) e s'->False) :
  codeAny (model P w) callerA (.call (.ref fa) ⟨vals,[]⟩) (λr s'=>∃u as,r=.ok (.ret u)/\ReadsW R cl s'.heap u d0 as/\OldK s₁.heap s'.heap/\s'.os=s₁.os/\AllBare s'.gens) s₁:=by
 obtain⟨A,ho,ar⟩:=mr ds vals MQ LH Vu;have hO:uK (i6 K s₁.heap A):=zl ar;have bu:ie P w (i6 K s₁.heap A) s₁.heap:=D1 ar;have hS:=ui KX ar ds vals MQ LH ho;have hV:=iD ho;have hK:∀b u,i6 K s₁.heap A b=some u->K.lookup b=none:=λb u q=>(oH ar q).1;have N4:∀{b:Addr} {o:Obj} {es:Array DictEntry} {ep:Nat},s₁.heap.get? b=some o->o.data=.dict es ep->i6 K s₁.heap A b=none:=λ{b o es ep} e d=>by
  cases q:i6 K s₁.heap A b with
  |none=>rfl
  |some u =>
   obtain⟨_,vs,_,_,⟨e2,_⟩|⟨e2,_⟩⟩:=oH ar q
   · rw[e2] at e;cases e;have d':Data.seq vs.toArray _=Data.dict es ep:=d;cases d'
   · rw[e2] at e;cases e;have d':Data.seq vs.toArray _=Data.dict es ep:=d;cases d'
 generalize i6 K s₁.heap A=H at hO bu hS hK N4;have Mm:∀{b:Addr} {o:Obj},s₁.heap.get? b=some o->H b=none->(uh s₁.heap H).get? b=some o:=λe n=>A7 e n;have C2:∀{b:Addr} {m:aac},s₁.heap.Ns b m->(uh s₁.heap H).Ns b m:=λ{b m} ⟨o,es,ep,e,d,r⟩=>⟨o,es,ep,Mm e (N4 e d),d,r⟩;have nK:∀b o,K.lookup b=some o->H b=none:=λb o e=>by
  cases q:H b with
  |none=>rfl
  |some u =>
   rw[hK b u q] at e;cases e
 have Ss:K.In (uh s₁.heap H):=λb o e=>Mm (KX b o e) (nK b o e);have hM:Mod K mg (uh s₁.heap H):=⟨Ss,C2 OM,⟨mb,C2 hb,Vt⟩,let ⟨mc,h1,h2⟩:=Q4;⟨mc,C2 h1,h2⟩⟩;have e0:xO P w K mg (uh s₁.heap H) callerA [] s₁ H:=⟨rfl,hM,λb o e=>EM e,Z3 (zz _ _),trivial,λb hb=>absurd (show b∈([]:List Addr) from hb) (by simp),bu,.of_eq hg⟩;have hl:vals.length=ps.length:=by rw[gM MQ];exact hlen
 refine Z1 ((F _ Ss (C2 OM)).run callerA [] s₁ H ⟨vals,[]⟩ vals (vals.map toV) _ _ hr e0 (ON s₁ vals hl) hV (Mb H _ hO hS)) λr s' x=>?_;cases r with
 |error e=>exact (OO H e s' x).elim
 |ok fl =>
  cases fl with
  |next=>exact False.elim x
  |brk=>exact False.elim x
  |cont=>exact False.elim x
  |ret u =>
   obtain⟨v,H',os,bare,un,OP,r',q⟩:=x;have kept:∀b o,s₁.heap.get? b=some o->s'.heap.get? b=some o:=λb o e=>by
    cases q2:H b with
    |none=>exact un.keep b o e q2 (by intro z;exact absurd (show b∈([]:List Addr) from z) (by simp)) (by simp)
    |some u2 =>
     rcases hO b with z|⟨ob,u3,z⟩
     · rw[q2] at z;cases z
     · have z2:=un.nc b ob _ z;obtain⟨e1,_⟩:=bu b _ z;obtain⟨e2,_⟩:=OP b _ z2;rw[e] at e1;cases e1;exact e2
   have Vv:K.In s'.heap:=λb o e=>kept b o (KX b o e);obtain⟨as,Su⟩:=Dw.reads (R:=R) (cl:=cl) OP Vv d0 v u q r';exact⟨u,as,rfl,Su,OldK.of_keep kept,os,bare⟩
theorem qC {ds:List WData}(h:WData.layableAll ds=true):∀d∈ds,d.weight<=1048576:=λd hd =>
 (PySem.W.layableW_iff.mp (XU.mp h d hd)).2.2
theorem o9:∀(cs:List Codec) (a:Codec.denoteAll cs),(Codec.encAll cs a).length=cs.length
 |[],_=>rfl
 |c::cs,a=>by
  show (Codec.encAll cs a.2).length+1=cs.length+1;rw[o9 cs a.2]
theorem Ax {r:OpenSpec}{k:Nat}{q:Program}{loose:List Str}{XP:(Str->Option Value)->Heap->Prop}{YP:World->Heap->Prop}{d:DefRec}{K:Params->aaa}{CX:World->lO}{ps:List Str}{sp:World->Sp}
  (MD:r.wellSaid=true)(Sv:d.params.defaults=[])(hlen:r.args.length=ps.length)(hr:cK k callerA)
  (hY:∀(w:World) (h:Heap),YP w h->(K w.params).In h)
  (F:∀(w:World) (mg:aac) (fa:Addr) (h:Heap),YP w h->(K w.params).In h->h.Ns mainGlobals mg->mg d.name=some (.ref fa) ->
   ∃fd:FuncData,(∀(s:Shared) (us:aae),us.length=ps.length->BindsTo s fd ⟨us,[]⟩ (ps.zip us)) /\
    ∀base:Heap,(K w.params).In base->base.Ns mainGlobals mg->a8 r.prog w (K w.params) mg base (CX w) k fa fd ps (sp w))
  (Mb:∀(w:World) (H:Hp) (xs:List V) (a:Codec.denoteAll r.args),uK H->Codec.withinAll r.args a=true->Codec.app r.args r.asked a=true->iE (K w.params) H xs (Codec.encAll r.args a) ->
   sp w xs H (λv H'=>Dw (K w.params) H' v (r.ret.enc (Codec.app r.args r.f a))) λ_ _ _=>False)
  (OO:∀(w:World) (H:Hp) (s:Shared) (e:Value) (s':Shared),CX w [] H s (λ_ _ _=>False) e s'->False) :
  PySem.W.WalkOS q loose XP YP r d [] (λf vs=>PySem.call f vs):=by
 intro w kJ s₁ mg mb G Y fa o pm cd doc dV kV ho hd Ma hD OQ hg args vals as Q5 Q6 Su MQ QA;obtain⟨a,e1,e2⟩:=PySem.W.os_pre_some Q5;obtain⟨e3,N8⟩:=Codec.encAll_of_decAll r.args args a e1;subst e3;have KX:=hY w _ Y;obtain⟨fd,hb,hF⟩:=F w mg fa _ Y KX G.T.g OQ;refine PySem.W.enter_call (Z1 (zL (R:=[]) (cl:=classAt kJ.heap) (d0:=r.ret.enc (Codec.app r.args r.f a)) KX G.T.g G.T.b G.T.builtins G.T.nolimit hg MQ (rQ _ _) (qC Q6) hr hF hb (by rw[o9];exact hlen)
  (λH xs hO hS=>Mb w H xs a hO N8 e2 hS) λH e s'=>OO w H s₁ e s') λr' s' hq=>?_)
 obtain⟨u,Vw,rfl,h1,h2,h3,h4⟩:=hq;exact⟨.inl ⟨u,_,Vw,rfl,λ_=>rfl,h1,(OpenSpec.post_iff MD N8 _ _).mpr rfl,λz=>Bool.noConfusion (show false=true from z)⟩,h2,h3,h4⟩
theorem xt {r:OpenSpec}{k:Nat}{q:Program}{loose:List Str}{XP:(Str->Option Value)->Heap->Prop}{YP:World->Heap->Prop}{d:DefRec}{K:Params->aaa}{CX:lO}{ps:List Str}{sp:aaa->Sp}
  (MD:r.wellSaid=true)(Sv:d.params.defaults=[])(hlen:r.args.length=ps.length)(hr:cK k callerA)
  (hY:∀(w:World) (h:Heap),YP w h->(K w.params).In h)
  (F:∀(w:World) (mg:aac) (fa:Addr) (h:Heap),YP w h->(K w.params).In h->h.Ns mainGlobals mg->mg d.name=some (.ref fa) ->
   ∃fd:FuncData,(∀(s:Shared) (us:aae),us.length=ps.length->BindsTo s fd ⟨us,[]⟩ (ps.zip us)) /\
    ∀base:Heap,(K w.params).In base->base.Ns mainGlobals mg->a8 r.prog w (K w.params) mg base CX k fa fd ps (sp (K w.params)))
  (Mb:∀(K:aaa) (H:Hp) (xs:List V) (a:Codec.denoteAll r.args),uK H->Codec.withinAll r.args a=true->Codec.app r.args r.asked a=true->iE K H xs (Codec.encAll r.args a) ->
   sp K xs H (λv H'=>Dw K H' v (r.ret.enc (Codec.app r.args r.f a))) λ_ _ _=>False)
  (OO:∀(H:Hp) (s:Shared) (e:Value) (s':Shared),CX [] H s (λ_ _ _=>False) e s'->False) :
  PySem.W.WalkOS q loose XP YP r d [] (λf vs=>PySem.call f vs) :=
 Ax (K:=K) (CX:=λ_=>CX) (sp:=λw=>sp (K w.params)) MD Sv hlen hr hY F (λw H xs a h1 h2 h3 h4=>Mb (K w.params) H xs a h1 h2 h3 h4) λ_ H s e s'=>OO H s e s'
end L2
end
namespace L2
open PySem PySem.Spec PyProof.Rows
abbrev bE:lO:=λ_ _ _ _ _ _=>False
abbrev E0:XK:=λ_ _ _=>False
theorem a_ {X:Cx}:Passes bE X E0:=λ_ _ _ _ _ _ _ h=>h.elim
structure de (K:aaa)(x qual:Str)(st:Stmt)(f:Addr)(fd:FuncData):Prop where
 ex:∃(oc:Value) (od:Option Addr) (kV doc pm:Value) (an:Option Addr) (Lz ct:Value) (Ms:Array (Option Value)),
  fd=PySem.W.fnOf x qual (cU st) (b6 st) (aw st) .none kV doc pm an Lz ct/\K.lookup f=some ⟨oc,od,.func fd,Ms⟩/\PySem.W.codeIn K Lz qual=true
 kp:PySem.W.keepIn K (.ref f)=true
section
variable {P:Program}{w:World}{K:aaa}{mg:aac}{base:Heap}
theorem de.ok {x qual:Str} {st:Stmt} {f:Addr} {fd:FuncData} {N ps:List Str} {k:Nat} {sp:Sp} (F:de K x qual st f fd) (S:aG N ps (aw st)) (len:∀vs H Q E,sp vs H Q E->vs.length=ps.length)
  (LF:∀(Lz:Value) (A:Around) (outer:List Env) (s:Shared) (H:Hp) (vs:List V) (Q:VK) (E:XK),cK k (A.deeper (envOfC qual (aw st) s.heap.objs.size f Lz))->sp vs H Q E ->
   ∃t,qT (ni bE P w K mg base N qual (aw st) f Lz A outer s H E).He (b6 st) t/\t {nx:=λ_ H'=>Q .cf H',rt:=Q} (start N vs) H):a8 P w K mg base bE (k+1) f fd ps sp:=by
 obtain⟨oc,od,kV,doc,pm,an,Lz,ct,Ms,rfl,lk,Ma⟩:=F.ex;refine FY lk Ma S len λA outer s H vs Q E hr Mb=>?_;obtain⟨t,h,q⟩:=LF Lz A outer s H vs Q E hr Mb;exact⟨t,h.He,q⟩
theorem de.binds {x qual:Str}{st:Stmt}{f:Addr}{fd:FuncData}{ps:List Str}(F:de K x qual st f fd)
  (h:∀(kV doc pm:Value) (an:Option Addr) (Lz ct:Value) (us:aae),us.length=ps.length->bindArgs (PySem.W.fnOf x qual (cU st) (b6 st) (aw st) .none kV doc pm an Lz ct) ⟨us,[]⟩=pure (ps.zip us)):Binds K fd ps []:=by
 obtain⟨oc,od,kV,doc,pm,an,Lz,ct,Ms,rfl,lk,Ma⟩:=F.ex;exact .all (h kV doc pm an Lz ct)
theorem uv {x qual:Str}{st:Stmt}{f:Addr}{oc:Value}{od an:Option Addr}{Ms:Array (Option Value)}{kV doc pm Lz ct:Value}(l:K.lookup f=some ⟨oc,od,.func (PySem.W.fnOf x qual (cU st) (b6 st) (aw st) .none kV doc pm an Lz ct),Ms⟩)
  (c:PySem.W.codeIn K Lz qual=true)(k:PySem.W.keepIn K (.ref f)=true):de K x qual st f (PySem.W.fnOf x qual (cU st) (b6 st) (aw st) .none kV doc pm an Lz ct):=⟨⟨oc,od,kV,doc,pm,an,Lz,ct,Ms,rfl,l,c⟩,k⟩
end
theorem vS {A:Around}{k:Nat}(hr:cK k A):A.units+1 < cLine:=Nat.lt_of_le_of_lt (Nat.add_le_add_left (by decide:1<=64) _) hr.units
section
variable {X:Cx}
theorem pv (i:Nat) {x:Str} {pos:Pos} (hN:X.N[i]?=some x:=by rfl) (hv:Ic X.env.scope x:=by first|exact Or.inl rfl|exact Or.inr (Or.inl rfl)|exact Or.inr (Or.inr rfl)) (hd:(x==("__debug__":Str))=false:=by decide)
  (Ma:(x==("__classdict__":Str))=false:=by decide):PE X (.Name x pos) (cH i):=Hu hN hv hd Ma
end
theorem vg {A B:Prop}(h:B):if false=true then A else B:=by
 rw[Xo XO];exact h
theorem oN {A B:Prop}(h:A):if true=true then A else B:=by
 rw[Xp rfl];exact h
theorem gG {c A B:Prop} [Decidable c] (h1:c->A)(h2:¬c->B):if c then A else B:=by
 by_cases h:c
 · rw[Xp h];exact h1 h
 · rw[Xo h];exact h2 h
def au (H H':Hp):Prop:=∀b o,H b=some o->H' b=some o
theorem au.refl (H:Hp):au H H:=λ_ _ h=>h
theorem au.trans {H H1 H2:Hp}(a:au H H1)(b:au H1 H2):au H H2:=λc o h=>b c o (a c o h)
theorem au.free {H H':Hp}(e:au H H'){l:Addr}(h:H' l=Option.none):H l=Option.none:=by
 cases q:H l with
 |none=>rfl
 |some o =>
  rw[e l o q] at h;cases h
theorem au.seq {K:aaa}{H H':Hp}{a:Addr}{xs:List V}(e:au H H')(h:aQ K H a xs):aQ K H' a xs:=by
 rcases h with (h|⟨o,h⟩)|h
 · exact .inl (.inl (e _ _ h))
 · exact .inl (.inr ⟨o,e _ _ h⟩)
 · exact .inr h
section
variable {κ:Type} [DecidableEq κ]
end
end L2
end
set_option autoImplicit false
set_option linter.all false
set_option maxRecDepth 100000
set_option maxHeartbeats 2000000
namespace BwX
open PySem PySem.Calls PySem.Spec PyProof.Rows
structure Nt (fs ch:List Addr)(h g:Heap):Prop where
 keep:∀b o,h.get? b=some o->b∉fs->b∉ch->g.get? b=some o
 slot:∀b o,h.get? b=some o->b∉ch->∃sl,g.get? b=some {o with slots:=sl}
section
variable {fs ch L6 Sw:List Addr}{h g k:Heap}
theorem Nt.refl (fs ch:List Addr) (h:Heap):Nt fs ch h h:=⟨λ_ _ e _ _=>e,λ_ o e _=>⟨o.slots,e⟩⟩
theorem Nt.trans (a:Nt fs ch h g)(b:Nt fs ch g k):Nt fs ch h k where
 keep:=λc o e hf hc=>b.keep c o (a.keep c o e hf hc) hf hc
 slot:=λc o e hc=>by
  obtain⟨_,e1⟩:=a.slot c o e hc;obtain⟨sl,e2⟩:=b.slot c _ e1 hc;exact⟨sl,e2⟩
theorem Nt.mono (a:Nt fs ch h g)(hf:∀b∈fs,b∈L6)(hc:∀b∈ch,b∈Sw):Nt L6 Sw h g :=
 ⟨λb o e n m=>a.keep b o e (λz=>n (hf b z)) λz=>m (hc b z),λb o e m=>a.slot b o e λz=>m (hc b z)⟩
theorem Nt.push (o:Obj):Nt fs ch h (h.push o):=⟨λ_ _ e _ _=>Xq o e,λ_ u e _=>⟨u.slots,Xq o e⟩⟩
theorem Nt.upd {a:Addr}{f:Obj->Obj}(ha:a∈ch):Nt fs ch h (h.update a f):=by
 have kr:∀b,b∉ch->(h.update a f).get? b=h.get? b:=λb m=>Zk _ _ λz=>m (z ▸ ha);exact⟨λb o e _ m=>(kr b m).trans e,λb o e m=>⟨o.slots,(kr b m).trans e⟩⟩
theorem Nt.slots (so:Heap.SlotsOnly fs h g):Nt fs ch h g:=⟨λb o e n _=>(so.2.1 b n).trans e,λb o e _=>so.2.2 b o e⟩
end
def Rec (h:Heap)(a:Addr)(k:Value)(d:Option Addr)(vs:Array Value):Prop:=∃o,h.get? a=some o/\(o.cls=k/\o.dict=d)/\o.data=.fields vs
section
variable {M:Model}{A:Around}{E:aab}{s:Shared}{h g:Heap}{a:Addr}{k x:Value}{d:Option Addr}{vs:Array Value}{i:Nat}
theorem Rec.put (r:Rec h a k d vs):Rec (h.update a (Obj.mapFields (·.setIfInBounds i x))) a k d (vs.setIfInBounds i x):=by
 obtain⟨⟨oc,od,dt,sl⟩,e,c,dd⟩:=r;cases dd;exact⟨_,Yo _ e rfl,c,rfl⟩
theorem Rec.over {fs ch:List Addr}(r:Rec h a k d vs)(N:Nt fs ch h g)(m:a∉ch):Rec g a k d vs:=by
 obtain⟨o,e,c,dd⟩:=r;obtain⟨sl,e'⟩:=N.slot a o e m;exact⟨_,e',c,dd⟩
theorem Rec.read {Q:aab}(r:Rec s.heap a k d vs)(hi:vs[i]?=some x)(q:Q x s):wpAny M A (field (.ref a) i) Q E s:=by
 obtain⟨o,e,_,dd⟩:=r;exact wpAny_field e dd hi q
theorem Rec.write {Q:Unit->Shared->Prop}(r:Rec s.heap a k d vs)(hi:i < vs.size)(q:Q () {s with heap:=s.heap.update a (Obj.mapFields (·.setIfInBounds i x))}):wpAny M A (setField (.ref a) i x) Q E s:=by
 obtain⟨o,e,_,dd⟩:=r;exact wpAny_setField e dd hi q
end
def ku (h0 h:Heap)(e:Addr)(k:Value)(dx:Addr)(p:Option (Addr×Value)):Prop :=
 ∃vs,(Rec h e k (some dx) vs/\h0.get? e=none) /\
  match p with
  |none=>vs[1]?=some .none
  |some (T,fl)=>vs[1]?=some (.ref T)/\T≠e/\h0.get? T=none/\∃c d ts,Rec h T c d ts/\ts[3]?=some fl
def jK (e:Addr)(p:Option (Addr×Value)):List Addr:=e::p.toList.map (·.1)
section
variable {h0 h1 h:Heap}{e dx:Addr}{k:Value}{p:Option (Addr×Value)}
theorem ku.yD (F:ku h0 h e k dx p):∀b∈jK e p,h0.get? b=none/\∃c d vs,Rec h b c d vs:=by
 obtain⟨vs,⟨r,n⟩,q⟩:=F;intro b hb;cases p with
 |none =>
  obtain rfl:b=e:=by simpa [jK] using hb
  exact⟨n,_,_,_,r⟩
 |some p =>
  obtain⟨_,_,nT,c,d,ts,rT,_⟩:=q;have hb:b=e∨b=p.1:=by simpa [jK] using hb
  rcases hb with rfl|rfl
  · exact⟨n,_,_,_,r⟩
  · exact⟨nT,c,d,ts,rT⟩
theorem ku.low (F:ku h0 h e k dx p)(hm:∀b,h0.get? b=none->h1.get? b=none):ku h1 h e k dx p:=by
 obtain⟨vs,⟨r,n⟩,q⟩:=F;cases p with
 |none=>exact⟨vs,⟨r,hm _ n⟩,q⟩
 |some p =>
  obtain⟨q1,q2,q3,q4⟩:=q;exact⟨vs,⟨r,hm _ n⟩,q1,q2,hm _ q3,q4⟩
end
section
variable {M:Model}{A:Around}{E:aab}{s:Shared}{base:Heap}{env:Env}{outer:List Env}{L e dx:Addr}{k:Value}{h0:Heap}
theorem entry {vs:Array Value} {Q7:Value} {nx:Bool} {Q:Unit->Shared->Prop} (fr:A.frames=some (env::outer)) (ff:s.heap.FunFrames base (env::outer)) (hf:env.frame=some L) (r:Rec s.heap e k (some dx) vs) (hz:1 < vs.size)
  (fin:∀g T c d ts,s.heap.objs.size<=T->T≠e->Nt ((env::outer).filterMap (·.frame)) [e] s.heap g->Rec g e k (some dx) (vs.setIfInBounds 1 (.ref T))->Rec g T c d ts->ts[3]?=some (rawInt L)->Q () {s with heap:=g}) :
  wpAny M A (frameOf env >>= λa=>entryPlaceOf L nx >>= λpl=>EntryCells.newEntry Q7 a .none (rawInt L) .none pl >>= λb=>setField (.ref e) 1 b) Q E s:=by
 refine Xm (wpAny_frameOf_fun fr ff hf λg so=>Xm (wpAny_entryPlaceOf λpl ip=>Xm ?_));simp only[EntryCells.newEntry,newFields];refine YR ?_ (ip.sizeOk5 _ _ _ _ _);have h3:(([Q7,Value.ref L,Value.none,rawInt L,Value.none]++(if pl.isEmpty then List.replicate 6 Value.none else pl)).toArray)[3]?=some (rawInt L):=by simp
 generalize ([Q7,Value.ref L,Value.none,rawInt L,Value.none]++(if pl.isEmpty then List.replicate 6 Value.none else pl)).toArray=ts at h3;have r2:Rec (g.push {cls:=.type "traceback",dict:=none,data:=.fields ts}) e k (some dx) vs:=r.over ((Nt.slots so).trans (Nt.push _):Nt _ [] _ _) (by simp);have ne:g.objs.size≠e:=by
  obtain⟨o,eo,_⟩:=r.over (Nt.slots so:Nt _ [] _ _) (by simp);exact Nat.ne_of_gt (XA eo)
 have rT:Rec (g.push {cls:=.type "traceback",dict:=none,data:=.fields ts}) g.objs.size (.type "traceback") none ts:=⟨_,XD g rfl,⟨rfl,rfl⟩,rfl⟩;have up:Nt ((env::outer).filterMap (·.frame)) [e] (g.push {cls:=.type "traceback",dict:=none,data:=.fields ts}) _:=Nt.upd (f:=Obj.mapFields (·.setIfInBounds 1 (Value.ref g.objs.size))) (XC.mpr rfl);exact Rec.write (s:={s with heap:=g.push {cls:=.type "traceback",dict:=none,data:=.fields ts}}) r2 hz
  (fin _ g.objs.size _ _ ts (Z3 so.1.symm) ne (((Nt.slots so).trans (Nt.push _)).trans up) r2.put (rT.over up λz=>ne (XC.mp z)) h3)
theorem fe {vs:Array Value}{i:Nat}{x:Value}(h:vs[i]?=some x):i < vs.size:=(Array.getElem?_eq_some_iff.mp h).1
theorem xT {p:Option (Addr×Value)}{Q:Unit->Shared->Prop}(fr:A.frames=some (env::outer))(ff:s.heap.FunFrames base (env::outer))(hf:env.frame=some L)(F:ku h0 s.heap e k dx p)(Md:∀b,s.heap.get? b=none->h0.get? b=none)
  (hp:∀T fl,p=some (T,fl)->fl=.none∨fl=rawInt L)
  (fin:∀g T,ku h0 g e k dx (some (T,rawInt L))->(T∈jK e p∨s.heap.objs.size<=T)->Nt ((env::outer).filterMap (·.frame)) (jK e p) s.heap g->Q () {s with heap:=g}):wpAny M A (noteFrame (.ref e) env) Q E s:=by
 obtain⟨vs,⟨r,n⟩,q⟩:=F;have made:∀(h:Heap),h.objs.size=s.heap.objs.size->∀g T c d ts,h.objs.size<=T->T≠e->Rec g e k (some dx) (vs.setIfInBounds 1 (.ref T))->Rec g T c d ts->ts[3]?=some (rawInt L)->1 < vs.size->ku h0 g e k dx (some (T,rawInt L)):=λh hs g T c d ts hT ne r1 rT h3 hz =>
  ⟨_,⟨r1,n⟩,by simp[hz],ne,Md T (Heap.get?_none_of_le (hs ▸ hT)),c,d,ts,rT,h3⟩
 simp only[noteFrame,hf];cases p with
 |none =>
  refine Xm (r.read q ?_);exact entry fr ff hf r (fe q) λg T c d ts hT ne N r1 rT h3=>fin g T (made _ rfl g T c d ts hT ne r1 rT h3 (fe q)) (.inr hT) N
 |some p =>
  obtain⟨T,fl⟩:=p;obtain⟨h1,ne,nT,c,d,ts,rT,h3⟩:=q;refine Xm (r.read h1 (Xm (rT.read h3 ?_)));rcases hp T fl rfl with rfl|rfl
  · have N1:Nt ((env::outer).filterMap (·.frame)) [T] s.heap _:=Nt.upd (f:=Obj.mapFields (·.setIfInBounds 3 Value.none)) (XC.mpr rfl);have r1:=r.over N1 λz=>ne (XC.mp z).symm;have hs:(s.heap.update T (Obj.mapFields (·.setIfInBounds 3 Value.none))).objs.size=s.heap.objs.size:=Heap.size_after_update ..;have f1:(s.heap.update T (Obj.mapFields (·.setIfInBounds 3 Value.none))).FunFrames base (env::outer):=ff.of_keeps λb o eb nb=>by
     obtain⟨sl,z⟩:=N1.slot b o eb λz=>by
      obtain⟨u,eu,_,du⟩:=rT;rw[XC.mp z,eu] at eb;cases eb;exact nb ts du
     exact⟨_,z,rfl⟩
    refine Xm (rT.write (fe h3) ?_);refine entry (s:={s with heap:=s.heap.update T (Obj.mapFields (·.setIfInBounds 3 Value.none))}) fr f1 hf r1 (fe h1) λg T' c' d' Vx hT ne' N r2 Vy Vz=>?_;refine fin g T' (made _ hs g T' c' d' Vx hT ne' r2 Vy Vz (fe h1)) (.inr (Yb (Z3 hs.symm) hT)) ?_;exact (N1.mono (λ_ z=>z) λb z=>by simp at z;simp[jK,z]).trans (N.mono (λ_ z=>z) λb z=>by simp at z;simp[jK,z])
  · have same:(rawInt L==rawInt L)=true:=by first|exact beq_self_eq_true _|simp
    rw[Xp same];exact Xu (fin s.heap T ⟨vs,⟨r,n⟩,h1,ne,nT,c,d,ts,rT,h3⟩ (.inl (by simp[jK])) (Nt.refl _ _ _))
theorem w9 {T:Addr}{fl:Value}{v:Option Addr}{fs:List Addr}{Q:Unit->Shared->Prop}(F:ku h0 s.heap e k dx (some (T,fl)))
  (fin:∀g,ku h0 g e k dx (some (T,v.elim .none λf=>rawInt f))->Nt fs (jK e (some (T,fl))) s.heap g->Q () {s with heap:=g}) :
  wpAny M A (setFlight (.ref e) v) Q E s:=by
 obtain⟨vs,⟨r,n⟩,h1,ne,nT,c,d,ts,rT,h3⟩:=F;have N1:Nt fs [T] s.heap _:=Nt.upd (f:=Obj.mapFields (·.setIfInBounds 3 (v.elim Value.none λf=>rawInt f))) (XC.mpr rfl);simp only[setFlight];refine Xm (r.read h1 (rT.write (fe h3) (fin _ ⟨vs,⟨r.over N1 λz=>ne (XC.mp z).symm,n⟩,h1,ne,nT,c,d,_,rT.put,by simp[fe h3]⟩ ?_)));exact N1.mono (λ_ z=>z) λb z=>by simp at z;simp[jK,z]
end
end BwX
namespace BwX
open PySem PySem.Calls PySem.W Builtin Builtin.ObjectAttr
abbrev rO:aae:=[.type "Exception",.type "BaseException",.type "object"]
def cJ (o:Obj)(C N:Addr):Prop:=∃nm q bs sn sub ab col dd k0 k1 k2 k3 k5,o=excClassObj nm q C N bs rO true sn sub ab col dd k0 k1 k2 k3 k5 "Exception.__new__"
section
variable {M:Model}{h:Heap}{a C N:Addr}{oC:Obj}{d:Option Addr}{vs:Array Value}
theorem Rec.type {k:Value} (r:Rec h a k d vs):Looks M h (typeOf (.ref a)) k:=by
 obtain⟨o,e,⟨c,_⟩,_⟩:=r;exact c ▸ (Looks.ld e).andThen .now
theorem cJ.data (Z:cJ oC C N)(e:h.get? C=some oC):∃cd:ClassData,Looks M h (classData C) cd/\cd.mro=.ref C::rO/\cd.hasDict=true:=by
 obtain⟨nm,q,bs,sn,sub,ab,col,dd,k0,k1,k2,k3,k5,rfl⟩:=Z;exact⟨_,(Looks.ld (part:=none) e).andThen .now,rfl,rfl⟩
theorem cJ.mro (Z:cJ oC C N)(e:h.get? C=some oC):Looks M h (mroOf (.ref C)) (.ref C::rO):=by
 obtain⟨cd,l,m,_⟩:=Z.data (M:=M) e;exact l.andThen (m ▸ .now)
theorem cJ.sub (Z:cJ oC C N)(e:h.get? C=some oC){b:Value}{r:Bool}(hb:(Value.ref C::rO).contains b=r):Looks M h (isSubtype (.ref C) b) r:=by
 unfold isSubtype;refine (Z.mro e).andThen ?_;dsimp only;rw[hb];exact .now
theorem cJ.meta (Z:cJ oC C N)(e:h.get? C=some oC):Looks M h (typeOf (.ref C)) (.type "type"):=by
 obtain⟨nm,q,bs,sn,sub,ab,col,dd,k0,k1,k2,k3,k5,rfl⟩:=Z;exact (Looks.ld e).andThen .now
theorem Rec.IW {k:Value}(r:Rec h a k d vs):Looks M h (isType (.ref a)) false:=by
 obtain⟨o,e,_,dt⟩:=r;refine (Looks.ld e).andThen ?_;rw[dt];exact .now
end
section
variable {M:Model}{A:Around}{E:aab}{s:Shared}{env:Env}
theorem wC {x:Sem Value} {Q:Flow->Shared->Prop} (hh:A.handled=none)
  (h:wpAny M A x (λv s1=>∃e C N oC d vs,v=.ref e/\Rec s1.heap e (.ref C) d vs/\vs[1]?=some .none/\s1.heap.get? C=some oC/\cJ oC C N/\E (.ref e) s1) E s) :
  wpAny M A (raiseStmt env (some x) none) Q E s:=by
 refine Xm (YG h (λv s1 q=>?_) λ_ _ z=>z);obtain⟨e,C,N,oC,d,vs,rfl,r,h1,eC,Z,hE⟩:=q;obtain⟨hp,g,dr,tk,os⟩:=s1;have r:Rec hp e (.ref C) d vs:=r;have eC:hp.get? C=some oC:=eC;have l0:=r.type (M:=M);have l1:=Z.sub (M:=M) eC (b:=.type "BaseException") (r:=true) (by rw[List.contains_cons];exact Bool.or_eq_true_iff.mpr (.inr (by decide)));have l2:=Z.meta (M:=M) eC;have l3:=r.IW (M:=M);have lE:Looks M hp (isExcClass (.ref e)) false:=l3.andThen .now;have lI:Looks M hp (isInstance (.ref e) (.type "BaseException")) true:=l0.andThen l1;have l4:Looks M hp (excFromValue (.ref e) "exceptions must derive from BaseException") (.ref e):=lE.andThen (lI.andThen .now);have l5:Looks M hp (raisedInstance (.ref e)) (.ref e):=l0.andThen (l2.andThen .now);refine Xm (Xu (Xm (Zo (l4.at ?_))));refine Xm (l3.at (Xm (l5.at (Xm ?_))));refine Xm (r.read (s:=⟨hp,g,dr,tk,os⟩) h1 (Xu ?_));exact wpAny_raiseNew_none hh hE
end
theorem DC {o:Obj}{es:Array DictEntry}{ep:Nat}{f:Str}{v:Value}(d:o.data=.dict es ep)(e:nsFind es f=some v):lookIn f o=some (some v):=by
 unfold lookIn;rw[d];unfold nsFind findBy at e;rw[←Array.find?_toList] at e;dsimp only;split
 · rename_i en he;rw[he] at e;exact Yv some e
 · rename_i he;rw[he] at e;cases e
section
variable {prog:Program}{w:World}{A:Around}{E:aab}{K:Frag}{h:Heap}{g:Array GenState}{dr:Drawn}{tk:Nat}{os:OsState}{a C N dx:Addr}{oC:Obj}{vs:Array Value}{f:Str}{v:Value}{mA:aac}{b:Bool}
theorem vH {Q:aab} (X:K.In h) (eC:K.lookup C=some oC) (Z:cJ oC C N) (ga:findIn K (.ref C) "__getattribute__"=some (some (.builtin "BaseException.__getattribute__"))) (gt:findIn K (.ref C) "__getattr__"=some none) (nf:findIn K (.ref C) f=some none)
  (r:Rec h a (.ref C) (some dx) vs) (n:h.Ns1 dx mA) (hv:mA f=some v) (hh:handedOut v=pure v) (q:Q v ⟨h,g,dr,tk+1,os⟩):wpAny (model prog w) A (getAttr (.ref a) f b) Q E ⟨h,g,dr,tk,os⟩:=by
 obtain⟨o,e,⟨c,d⟩,dt⟩:=id r;obtain⟨od,es,ep,e1,e2,_,_,e3⟩:=n;obtain⟨nm,q',bs,sn,sub,ab,col,dd,k0,k1,k2,k3,k5,rfl⟩:=id Z;have I:InstAt h a o C (some od):=⟨e,c,by unfold notCls;rw[dt],by rw[d];exact e1⟩;have fo:findObj K C (some od) f=some (.value v):=by
  obtain⟨cd,hc,hd⟩:∃cd,clsIn K C=some cd/\cd.hasDict=true:=⟨_,by unfold clsIn;rw[eC],rfl⟩;have ho:ownOf cd (some od) f=some (some v):=(Xp hd).trans (DC e2 ((e3 f).trans hv));unfold findObj;rw[hc,nf];show (ownOf cd (some od) f).bind _=_;rw[ho];rfl
 have FB:=F.attrBase_Exception;have l0:=I.type (M:=model prog w);have l1:=looks_findIn (M:=model prog w) X ga;have l2:=looks_findIn (M:=model prog w) X gt;have l3:=looks_find (M:=model prog w) X I fo;refine Xm (wpAny_mkText (Zo (Xm (l0.at (Xm (l1.at ?_))))));show wpAny _ _ (getAttrByItsOwn (.ref a) (.str f tk) (.ref C) (.builtin "BaseException.__getattribute__") true b) _ _ _;refine Xm (l2.at (Xm (wpAny_attempt (Zo ?_))));have OR:callGetattribute (.ref a) (.str f tk) (.builtin "BaseException.__getattribute__") b=call (.builtin "BaseException.__getattribute__") [.ref a,.str f tk]:=by
  have hb:callGetattribute (.ref a) (.str f tk) (.builtin "BaseException.__getattribute__") b=boundAndCalled (.builtin "BaseException.__getattribute__") (.ref a) (.str f tk):=by cases b <;> rfl
  rw[hb];unfold boundAndCalled;rw[FB.ga.bind];rfl
 rw[OR];refine wpAny_call (codeAny_call_builtin FB.ga.plain F.entry_bexc_ga (wpAny_check_ga_own FB (X _ _ eC) .base e c ?_));refine Xm (Xu (Xm (Xu (Xm (l0.at (Xm (l3.at (Xu ?_))))))));show wpAny _ _ (handedOut v) _ _ _;rw[hh];exact Xu q
theorem vz {sl:Array (Option Value)}{Q:Unit->Shared->Prop}(X:K.In h)(eC:K.lookup C=some oC)(Z:cJ oC C N)(sa:findIn K (.ref C) "__setattr__"=some (some (.builtin "object.__setattr__")))(nf:findIn K (.ref C) f=some none)
  (e:h.get? a=some ⟨.ref C,none,.fields vs,sl⟩)
  (fin:∀g' Mt,g'.get? a=some ⟨.ref C,some h.objs.size,.fields vs,sl⟩->g'.Ns1 h.objs.size (λy=>if y=f then some v else none)->(∀b o,b≠a->h.get? b=some o->g'.get? b=some o)->Q () ⟨g',g,dr,Mt,os⟩) :
  wpAny (model prog w) A (setAttr (.ref a) f v) Q E ⟨h,g,dr,tk,os⟩:=by
 have SF:=F.store_Exception;have r:Rec h a (.ref C) none vs:=⟨_,e,⟨rfl,rfl⟩,rfl⟩;have Q8:=X _ _ eC;have l0:=r.type (M:=model prog w);have l1:=looks_findIn (M:=model prog w) X sa;have l2:=looks_findIn (M:=model prog w) X nf;have l3:=Z.mro (M:=model prog w) Q8;obtain⟨cd,l4,_,hd⟩:=Z.data (M:=model prog w) Q8;have ne:a≠h.objs.size:=X1 (XA e);obtain⟨nm,q',bs,sn,sub,ab,col,dd,k0,k1,k2,k3,k5,rfl⟩:=id Z;refine Xm (wpAny_mkText (Xm (Xm (Xm (l0.at (l1.at ?_))))));refine Zo (Xm ?_);rw[SF.slot.bind];refine Xu (Xm (wpAny_call ?_));refine codeAny_call_builtin SF.slot.plain SF.entry ?_;show wpAny _ _ (checkBuiltinCall "object.__setattr__" ⟨[.ref a,.str f tk,v],[]⟩) _ _ _;refine PySem.wpAny_check_sa (sa:="object.__setattr__") (owner:="object") (B:="Exception") (bm:=rO) SF (x:=a) (C:=C) Q8 e rfl ?_;show wpAny _ _ (Builtin.«object.__setattr__» ⟨[.ref a,.str f tk,v],[]⟩) _ _ _;rw[osa_eq,refuse_eq];refine Xm (Xm (l0.at (Xm (l3.at ?_))));rw[refuseLoop_ref,SF.passes];refine Xu (Xm (l0.at (Xm (l2.at (Xm (Xu ?_))))));show wpAny _ _ (storeInOwnDict (.ref a) (.ref C) (.str f tk) f v false) _ _ _;have dic:∀(A':Around) (E':aab) (Q':Option Addr->Shared->Prop) (Mt:Nat),Q' (some h.objs.size) ⟨(h.push {cls:=.type "dict",data:=.dict #[]}).update a λo=>{o with dict:=some h.objs.size},g,dr,Mt,os⟩ ->
   wpAny (model prog w) A' (ownDictForStores (.ref a)) Q' E' ⟨h,g,dr,Mt,os⟩:=λA' E' Q' Mt z=>by
  refine Xm (wpAny_loadPart e (Xm (l4.at ?_)));rw[hd];exact Xm (wpAny_alloc (Xm (wpAny_update (Xq _ e) (Xu z))))
 refine Xm (Xu (Xm (dic _ _ _ _ ?_)));have Sx:((h.push {cls:=.type "dict",data:=.dict #[]}).update a λo=>{o with dict:=some h.objs.size}).get? a=some ⟨.ref C,some h.objs.size,.fields vs,sl⟩:=Yo _ (Xq _ e) rfl;have Sy:((h.push {cls:=.type "dict",data:=.dict #[]}).update a λo=>{o with dict:=some h.objs.size}).get? h.objs.size=some {cls:=.type "dict",data:=.dict #[]}:=(Zk _ _ ne).trans (XD h rfl);have old:∀b o,b≠a->h.get? b=some o->((h.push {cls:=.type "dict",data:=.dict #[]}).update a λo=>{o with dict:=some h.objs.size}).get? b=some o:=λb o n eb=>(Zk _ _ (Z2 n)).trans (Xq _ eb);generalize ((h.push {cls:=.type "dict",data:=.dict #[]}).update a λo=>{o with dict:=some h.objs.size})=h1 at Sx Sy old;have n1:h1.Ns1 h.objs.size (λ_=>none):=⟨_,#[],_,Sy,rfl,λy hy=>by simp at hy,by unfold UniqKeys;simp,λ_=>rfl⟩;show wpAny _ _ (storeInDict h.objs.size (.str f tk) f v) _ _ _;refine Xm (Xu (Xm (wpAny_nsSet1 n1 λh2 n2 same=>?_)));obtain⟨oD,U0,U1,QM,QN,v9⟩:=n2.count (Within.cons f v Within.nil);refine Xm (wpAny_lookBehind QM (by rw[QN];exact pastItsLine_dict (Yb v9 (by show 1<=sizeLine+1;decide))) (Xu ?_));refine Xu (Xu (fin h2 _ ((same.2 a ne).trans Sx) n2 λb o n eb=>(same.2 b (X1 (XA eb))).trans (old b o n eb)))
end
end BwX
namespace L2
open PySem PySem.Spec PyProof.Rows BwX
def ff (k p:Int):List (Str×V):=[("kind",.int k),("place",.int p)]
def sA (dx:Addr)(fs:List (Str×V)):HO:=.ext λh=>∃mA,h.Ns1 dx mA/\∀f,i8 (fs.lookup f) (mA f)
def Rz (C:Addr)(E:XK)(k p:Int):Prop:=∀(H:Hp) (dx:Addr),H dx=some (sA dx (ff k p))->E (.ref C) (some dx) H
def eW (P:Program)(w:World)(C:Addr):lO:=λouter H s E e s' =>
 ∃(a dx T:Addr) (H':Hp) (k p:Int),(e=.ref a/\s'.os=s.os/\AllBare s'.gens/\Un (vY outer) [] H H' s.heap s'.heap/\ie P w H' s'.heap) /\
  ku s.heap s'.heap a (.ref C) dx (some (T,.none))/\(∀b∈jK a (some (T,Value.none)),H' b=none)/\H' dx=some (sA dx (ff k p))/\Rz C E k p
def XF (X:Cx)(C:Addr)(E:XK):Value->Shared->Prop:=λe s' =>
 ∃(σ:St) (H:Hp) (a dx:Addr) (t:Option (Addr×Value)) (k p:Int),(e=.ref a/\Inv X [] σ H s')/\ku X.kJ.heap s'.heap a (.ref C) dx t/\(∀b∈jK a t,H b=none) /\
  (∀T fl,t=some (T,fl)->fl=.none∨fl=rawInt X.env.locals)/\H dx=some (sA dx (ff k p))/\Rz C E k p
structure my (X:Cx):Prop where
 Fz:X.stack=X.env::X.outer
 frame:X.env.frame=some X.env.locals
 pn:X.pn=[]
 ex:X.ex=[]
section
variable {X:Cx}{pins:aad}{σ:List (Option V)}{H H':Hp}{s:Shared}{h':Heap}
theorem Inv.gone (I:Inv X pins σ H s) (O:my X):∀b,s.heap.get? b=none->X.kJ.heap.get? b=none:=λb e=>by
 cases q:X.kJ.heap.get? b with
 |none=>rfl
 |some o =>
  obtain⟨o',z⟩:=I.base.there b o q (by rw[O.ex];simp);rw[e] at z;cases z
end
section
variable {X:Cx}{σ:St}{H:Hp}{s:Shared}{C a dx:Addr}{E:XK}{M:Model}
theorem Inv.FZ {g:Heap} {ch:List Addr} (I:Inv X [] σ H s) (O:my X) (nt:Nt (vY X.stack) ch s.heap g) (LW:∀b∈ch,X.kJ.heap.get? b=none/\∃c d vs,Rec s.heap b c d vs) (hH:∀b∈ch,H b=none):Inv X [] σ H {s with heap:=g}:=by
 refine I.Fw (s':={s with heap:=g}) (ch:=ch) rfl ⟨λb o e _ hb hc=>nt.keep b o e hb hc,λb o e _ _ hc=>nt.slot b o e hc,λ_ _ _ n _=>n,λb o e hc=>(let ⟨_,z⟩:=nt.slot b o e hc;⟨_,z⟩),λ_ _ e=>e,λ_ _ _ e=>e,λb ps e=>⟨#[],by rw[e];simp⟩⟩ (λb u e=>?_) I.bare (λb hb=>?_)
 · refine (I.bu b u e).kr (λc v hc q=>?_) (λ_ q=>q) λ_ _ q=>q;have tr:H c≠none:=by
    rcases hc with rfl|hc
    · rw[e];simp
    · rw[hc];simp
   exact nt.keep c v q (λz=>tr (I.sI c z)) λz=>tr (hH c z)
 · obtain⟨h1,c,d,vs,o,ho,_,hd⟩:=LW b hb;refine⟨.inr h1,?_,?_,?_⟩
   · rintro rfl;obtain⟨m,⟨o',es,ep,LV,L8,_⟩,_⟩:=I.loc;rw[LV] at ho;cases ho;rw[L8] at hd;cases hd
   · rintro x c e rfl;obtain⟨v,o',LV,L8⟩:=I.cell x c e;rw[LV] at ho;cases ho;rw[L8] at hd;cases hd
   · intro p hp;rw[O.pn] at hp;simp at hp
theorem xE {t:Option (Addr×Value)}{k:Value}{E':aab}{Q:Unit->Shared->Prop}(O:my X)(I:Inv X [] σ H s)(F:ku X.kJ.heap s.heap a k dx t)(hH:∀b∈jK a t,H b=none)
  (Nj:∀T fl,t=some (T,fl)->fl=.none∨fl=rawInt X.env.locals)
  (fin:∀g T,Inv X [] σ H {s with heap:=g}->ku X.kJ.heap g a k dx (some (T,rawInt X.env.locals))->(∀b∈jK a (some (T,rawInt X.env.locals)),H b=none)->Q () {s with heap:=g}) :
  wpAny M X.A (noteFrame (.ref a) X.env) Q E' s:=by
 have fr:=I.ok.frames;have ff:=I.stack;rw[O.Fz] at fr ff;refine xT (base:=X.base) fr ff O.frame F (I.gone O) Nj λg T F' hT N=>fin g T (I.FZ O (by rw[O.Fz];exact N) F.yD hH) F' λb hb=>?_;rcases Xr.mp hb with rfl|hb
 · exact hH _ (X_ ..)
 · have:b=T:=by simpa using hb
   subst this;rcases hT with hT|hT
   · exact hH _ hT
   · exact I.bu.fresh hT
theorem l_ {T:Addr}{fl k:Value}{v:Option Addr}{E':aab}{Q:Unit->Shared->Prop}{A:Around}(O:my X)(I:Inv X [] σ H s)(F:ku X.kJ.heap s.heap a k dx (some (T,fl)))(hH:∀b∈jK a (some (T,fl)),H b=none)
  (fin:∀g,Inv X [] σ H {s with heap:=g}->ku X.kJ.heap g a k dx (some (T,v.elim .none λf=>rawInt f))->Q () {s with heap:=g}) :
  wpAny M A (setFlight (.ref a) v) Q E' s :=
 w9 (fs:=vY X.stack) F λg F' N=>fin g (I.FZ O N F.yD hH) F'
theorem D7 {P:Program}{w:World}{e:Value}{Q:Unit->Shared->Prop}{E':aab}(O:my X)(hP:X.prog=P)(hw:X.w=w)(h:XF X C E e s)(fin:∀s',eW P w C X.outer X.Ib X.kJ E e s'->Q () s'):wpAny M X.A (leaving X.env e) Q E' s:=by
 obtain⟨σ,H,a,dx,t,k,p,⟨rfl,I⟩,F,hH,Nj,hx,hz⟩:=h;unfold leaving;refine Xm (xE O I F hH Nj λg T I1 F1 H1=>l_ O I1 F1 H1 λg2 I2 F2=>fin _ ?_);have b:=I2.base;rw[O.ex] at b;exact⟨a,dx,T,H,k,p,⟨rfl,I2.os,I2.bare,b,hP ▸ hw ▸ I2.bu⟩,F2,H1,hx,hz⟩
theorem yU (O:my X):PassesOwn M X.A X.env (XF X C E):=by
 rintro e s' ⟨σ,H,a,dx,t,k,p,⟨rfl,I⟩,F,hH,Nj,hx,hz⟩;refine xE O I F hH Nj λg T I1 F1 H1=>?_;unfold cameBackBy;obtain⟨vs,⟨r,_⟩,h1,_⟩:=id F1;refine Xm (Rec.read (s:={s' with heap:=g}) r h1 ?_);rw[Xo (by simp)];refine l_ O I1 F1 H1 λg2 I2 F2=>?_;refine⟨σ,H,a,dx,_,k,p,⟨rfl,I2⟩,F2,H1,λT' VA q=>?_,hx,hz⟩;rw[O.frame] at q;injection q with q;injection q with _ q;exact .inr q.symm
theorem bP {P:Program}{w:World}(O:my X)(hP:X.prog=P)(hw:X.w=w):Passes (eW P w C) (X.iq (XF X C E)) E:=by
 rintro pins σ H s e s' I ⟨a,dx,T,H',k,p,⟨rfl,os,bare,un,bu⟩,F,hH,hx,hz⟩;subst hP hw;have I1:Inv X pins σ H s:=I.dk;have I2:Inv X pins σ H' s':=I1.Fp (ch:=[]) os un bu bare (λb z=>absurd z (by simp));refine⟨σ,H',a,dx,_,k,p,⟨rfl,I2.lY (pins':=[]) (λp hp=>absurd hp (by simp))⟩,F.low (I1.gone O),hH,λT' VA q=>?_,hx,hz⟩;injection q with q;injection q with _ q;exact .inl q.symm
end
section
variable {P:Program}{w:World}{K:aaa}{mg:aac}{base:Heap}
theorem aH {CX:lO} {N:List Str} {qual:Str} {scope:Scope} {f:Addr} {cd:Value} {A:Around} {outer:List Env} {s:Shared} {H:Hp} {E:XK}:my (ni CX P w K mg base N qual scope f cd A outer s H E):=⟨rfl,rfl,rfl,rfl⟩
abbrev K6 (C:Addr)(P:Program)(w:World)(K:aaa)(mg:aac)(base:Heap)(N:List Str)(qual:Str)(scope:Scope)(f:Addr)(cd:Value)(A:Around)(outer:List Env)(s:Shared)(H:Hp)(E:XK):Cx :=
 (ni (eW P w C) P w K mg base N qual scope f cd A outer s H E).iq (XF (ni (eW P w C) P w K mg base N qual scope f cd A outer s H E) C E)
theorem de.Lw {x qual:Str}{st:Stmt}{f C:Addr}{fd:FuncData}{N ps:List Str}{k:Nat}{sp:Sp}(F:de K x qual st f fd)(S:aG N ps (aw st))(len:∀vs H Q E,sp vs H Q E->vs.length=ps.length)
  (LF:∀(Lz:Value) (A:Around) (outer:List Env) (s:Shared) (H:Hp) (vs:List V) (Q:VK) (E:XK),cK k (A.deeper (envOfC qual (aw st) s.heap.objs.size f Lz))->sp vs H Q E ->
   ∃t,qT (K6 C P w K mg base N qual (aw st) f Lz A outer s H E) (b6 st) t/\t {nx:=λ_ H'=>Q .cf H',rt:=Q} (start N vs) H):a8 P w K mg base (eW P w C) (k+1) f fd ps sp:=by
 obtain⟨oc,od,kV,doc,pm,an,Lz,ct,Ms,rfl,lk,Ma⟩:=F.ex;refine FY lk Ma S len λA outer s H vs Q E hr Mb=>?_;obtain⟨t,h,q⟩:=LF Lz A outer s H vs Q E hr Mb;refine⟨t,λpins s1 σ H1 D I hw=>?_,q⟩;refine YG (h pins s1 σ H1 D (I.iq _) hw) (λ_ _ q=>q.dk) λe s' z=>?_;exact D7 aH rfl rfl z λPD z=>z
end
def iB (K:aaa)(N:Addr):Bool:=match K.lookup N with
 |some ⟨_,_,.dict es _,_⟩=>es.toList.all λe=>match e.key with
  |.str _ _=>true
  |_=>false
 |_=>false
def C2 (K:aaa)(N:Addr)(x:Str):Option Value:=match K.lookup N with
 |some ⟨_,_,.dict es _,_⟩=>nsFind es x
 |_=>none
theorem B5 {K:aaa}{N:Addr}{h:Heap}(X:K.In h)(e:iB K N=true):h.Ns N (C2 K N):=by
 unfold iB at e;split at e
 · rename_i c d es n sl q;refine⟨_,es,n,X _ _ q,rfl,λy hy=>?_,λname=>?_⟩
   · have z:=XU.mp e y (Array.mem_toList_iff.mpr hy);split at z
     · rename_i a b w;exact⟨a,b,w⟩
     · cases z
   · unfold C2;rw[q]
 · cases e
theorem uu {K:aaa}{N:Addr}{x:Str}{r:Option Value}(e:PySem.W.nsIn K N x=some r):C2 K N x=r:=by
 unfold PySem.W.nsIn at e;unfold C2;split at e
 · rename_i c d es n sl q;rw[q];show nsFind es x=r;unfold nsFind findBy;rw[←Array.find?_toList];split at e
   · rename_i y w;rw[w];exact X2 e
   · rename_i w;rw[w];split at e
     · cases e
     · exact X2 e
 · cases e
structure pH (K:aaa)(C N fI:Addr):Prop where
 cls:∃oC,K.lookup C=some oC/\cJ oC C N
 keys:iB K N=true
 init:PySem.W.nsIn K N "__init__"=some (some (.ref fI))
 fn:PySem.W.isFn K (.ref fI)=true
 kp:PySem.W.keepIn K (.ref C)=true
 Bp:PySem.W.nsIn K N "__setattr__"=some none
 Kv:PySem.W.nsIn K N "kind"=some none
 KW:PySem.W.nsIn K N "place"=some none
 sa:PySem.W.findIn K (.ref C) "__setattr__"=some (some (.builtin "object.__setattr__"))
 ga:PySem.W.findIn K (.ref C) "__getattribute__"=some (some (.builtin "BaseException.__getattribute__"))
 gt:PySem.W.findIn K (.ref C) "__getattr__"=some none
 fK:PySem.W.findIn K (.ref C) "kind"=some none
 fP:PySem.W.findIn K (.ref C) "place"=some none
theorem Le:typeLookup (.type "Exception") "kind"=pure none:=by rw[typeLookup_type,builtinLookup_eq_fast];kernel_rfl
theorem Li:typeLookup (.type "Exception") "place"=pure none:=by rw[typeLookup_type,builtinLookup_eq_fast];kernel_rfl
def ux (a C t:Addr)(od:Option Addr):HO:=.ext λh=>h.get? a=some {cls:=.ref C,dict:=od,data:=.fields #[.ref t,.none,.none,.none,.bool false,.none]}
theorem bK.there {P:Program}{w:World}{H:Hp}{h:Heap}{a:Addr}{o:HO}(x:bK P w H h a o):∃u,h.get? a=some u:=by
 cases o with
 |lst xs=>obtain⟨_,_,_,_,e⟩:=x;exact⟨_,e⟩
 |tup xs=>obtain⟨_,_,_,o,e,_⟩:=x;exact⟨_,e⟩
 |dK Lx=>obtain⟨_,_,_,_,o,_,_,e,_⟩:=x;exact⟨_,e⟩
 |dT Lx=>obtain⟨_,_,_,_,o,_,_,e,_⟩:=x;exact⟨_,e⟩
 |set S n=>obtain⟨o,_,_,_,e,_⟩:=x;exact⟨_,e⟩
 |ins C dx fs=>obtain⟨_,_,_,e,_⟩:=x;exact⟨_,e⟩
 |own y=>exact x
 |xd fs=>obtain⟨_,⟨_,_,_,e,_⟩,_⟩:=x;exact⟨_,e⟩
 |rng lo hi=>obtain⟨_,_,_,e⟩:=x;exact⟨_,e⟩
 |frz ob u=>obtain⟨e,_⟩:=x;exact⟨_,e⟩
 |tbl ps=>exact⟨_,show h.get? a=some _ from x⟩
 |met f y=>exact⟨_,show h.get? a=some _ from x⟩
 |ext φ=>obtain⟨_,e,_⟩:=x;exact e
theorem ie.gone {P:Program}{w:World}{H:Hp}{h:Heap}{a:Addr}(x:ie P w H h)(e:h.get? a=none):H a=none:=by
 cases q:H a with
 |none=>rfl
 |some o =>
  obtain⟨u,z⟩:=(x a o q).there;rw[e] at z;cases z
theorem Cc {P:Program}{w:World}{H:Hp}{h:Heap}{dx:Addr}{fs:List (Str×V)}{mA:aac}(n:h.Ns1 dx mA)(r:∀f,i8 (fs.lookup f) (mA f)):bK P w H h dx (sA dx fs):=by
 obtain⟨o,es,ep,e,c⟩:=id n;refine⟨⟨mA,n,r⟩,⟨o,e⟩,?_⟩;rintro h1 h2 ⟨m,⟨o,es,ep,e,c⟩,r⟩ k;exact⟨m,⟨o,es,ep,k _ e,c⟩,r⟩
theorem Bj {P:Program}{w:World}{H:Hp}{h:Heap}{a C t:Addr}{od:Option Addr}(e:h.get? a=some {cls:=.ref C,dict:=od,data:=.fields #[.ref t,.none,.none,.none,.bool false,.none]}):bK P w H h a (ux a C t od) :=
 ⟨e,⟨_,e⟩,λ_ _ e k=>k _ e⟩
section
variable {X:Cx}{pins:aad}{σ:St}{H:Hp}{s:Shared}{a C N fI t dx:Addr}{fs:List (Str×V)}{f:Str}{v:V}{u:Value}{A:Around}{E':aab}{Q:Unit->Shared->Prop}
theorem JF (I:Inv X pins σ H s) (Z:pH X.K C N fI) (nf:PySem.W.findIn X.K (.ref C) f=some none) (ea:H a=some (ux a C t none)) (r:RelV v u)
  (h:∀s' dx,H dx=none->dx≠a->Inv X pins σ (upd (upd H dx (sA dx [(f,v)])) a (ux a C t (some dx))) s'->Q () s'):wpAny (model X.prog X.w) A (setAttr (.ref a) f u) Q E' s:=by
 obtain⟨oC,hC,hF⟩:=Z.cls;obtain⟨φ,_,_⟩:=I.bu a _ ea;have hK:=I.m7;obtain⟨hp,ga,d,tk,os⟩:=s;refine vz hK hC hF Z.sa nf φ λg Mt h1 h2 h3=>?_;have fr:H hp.objs.size=none:=I.bu.fresh (Xx _);have ne:hp.objs.size≠a:=λz=>by rw[z,ea] at fr;cases fr
 refine h ⟨g,ga,d,Mt,os⟩ hp.objs.size fr ne ?_;have at_:∀b o,H b=some o->b≠a->(upd (upd H hp.objs.size (sA hp.objs.size [(f,v)])) a (ux a C t (some hp.objs.size))) b=some o:=λb o e n=>by
  rw[aq n,aq (λz=>by rw[z,fr] at e;cases e)];exact e
 have no:∀b o,H b=some o->(∀φ,o≠.ext φ)->b≠a:=λb o e n z=>by
  rw[z,ea] at e;exact n _ (X2 e).symm
 refine I.un (h':=g) (t':=Mt) ⟨λb o e n _ _=>?_,λb o e n _ _=>?_,λb o e n _=>?_,λb o e _=>?_,λb xs e=>at_ b _ e (no b _ e λ_ z=>by cases z),λb o u e=>at_ b _ e (no b _ e λ_ z=>by cases z),λb ps e=>⟨#[],by rw[at_ b _ e (no b _ e λ_ z=>by cases z)];simp⟩⟩ (λb u e=>?_)
 · exact h3 b o (λz=>by rw[z,ea] at n;cases n) e
 · exact⟨o.slots,h3 b o (λz=>by rw[z,ea] at n;cases n) e⟩
 · rw[aq (λz=>by rw[z,ea] at n;cases n),aq (X1 (XA e))];exact n
 · by_cases z:b=a
   · exact⟨_,z ▸ h1⟩
   · exact⟨o,h3 b o z e⟩
 · by_cases z:b=a
   · subst z;rw[ae] at e;cases e;exact Bj h1
   · rw[aq z] at e;by_cases z2:b=hp.objs.size
     · subst z2;rw[ae] at e;cases e;refine Cc h2 λy=>?_;by_cases hy:y=f
       · subst hy;simp only[List.lookup,beq_self_eq_true,Y8];exact r
       · have hb:(y==f)=false:=XX.mpr hy;simp only[List.lookup,hb,Xo hy]
         trivial
     · rw[aq z2] at e;refine (I.bu b u e).kr (λc w' hc q=>h3 c w' ?_ q) (λc q=>at_ c _ q (no c _ q λ_ z=>by cases z)) λc xs q=>at_ c _ q (no c _ q λ_ z=>by cases z);rcases hc with rfl|hc
       · exact z
       · exact no c _ hc λ_ z=>by cases z
theorem Ja (I:Inv X pins σ H s)(Z:pH X.K C N fI)(hn:PySem.W.nsIn X.K N f=some none)(hB:typeLookup (.type "Exception") f=pure none)(ea:H a=some (ux a C t (some dx)))(ed:H dx=some (sA dx fs))(ne:dx≠a)(hl:fs.length < 1000)(r:RelV v u)
  (h:∀s',Inv X pins σ (upd H dx (sA dx (eG f v fs))) s'->Q () s'):wpAny (model X.prog X.w) A (setAttr (.ref a) f u) Q E' s:=by
 obtain⟨_,hC,nm,q,bs,sn,sub,ab,col,dd,k0,k1,k2,k3,k5,rfl⟩:=Z.cls;have VB:=I.m7 _ _ hC;have hN:=B5 I.m7 Z.keys;have nC:a≠C:=λz=>by
  have:=(I.bs C _ (I.ok.mod.Fc _ _ hC)).2;rw[←z,ea] at this;cases this
 obtain⟨φ,_,_⟩:=I.bu a _ ea;obtain⟨⟨mA,n1,rl⟩,_,_⟩:=I.bu dx _ ed;obtain⟨hp,ga,d,tk,os⟩:=s;have wi:Within mA (fs.map (·.1)):=λy hy=>by
  have q:=rl y;cases e:fs.lookup y with
  |none =>
   rw[e] at q;cases e2:mA y with
   |none=>exact absurd e2 hy
   |some w'=>rw[e2] at q;exact q.elim
  |some w'=>exact XY.mpr ⟨(y,w'),PySem.mem_of_lookup e,rfl⟩
 refine store_attr F.store_Exception VB hN (uu Z.Bp) (uu hn) hB nC ⟨_,φ,rfl,(λc q=>by cases q),Or.inr ⟨dx,rfl,ne,n1⟩⟩ (λh' Mt J keep same=>?_) wi (by rw[Xn,XS];omega);obtain⟨o1,e1,c1,d1,s1,x1⟩:=same _ φ;have x1:o1.dict=some dx:=x1 dx rfl;obtain⟨o2,e2,_,_,r2⟩:=J;rw[e1] at e2;cases e2;have n2:h'.Ns1 dx (λy=>if y=f then some u else mA y):=by
  rcases r2 with ⟨z,_⟩|⟨d',z,_,w'⟩
  · rw[x1] at z;cases z
  · rw[x1] at z;cases z;exact w'
 refine h ⟨h',ga,d,Mt,os⟩ (I.write (h':=h') (t':=Mt) (x:=dx) (e:=dx) (by rw[ed];trivial) (.inl rfl) (λb o hb e=>?_) ?_ (Cc n2 λy=>?_))
 · by_cases z:b=a
   · subst z;rw[φ] at e;cases e;rw[e1];obtain⟨p1,p2,p3,p4⟩:=o1;simp only at c1 d1 s1 x1;rw[c1,d1,s1,x1]
   · exact keep b o z (λo₀ Mw w0 w1=>by
      rw[φ] at w0;cases w0;cases w1;exact hb) e
 · obtain⟨o,_,_,e,_⟩:=n2;exact⟨o,e⟩
 · rw[jt];by_cases hy:y=f
   · simp only[Xp hy];exact r
   · simp only[Xo hy];exact rl y
end
def Je (C:Addr)(ta tv:TE)(f:Str):TS:=λD σ H=>tv σ H λy H1=>ta σ H1 λx H2=>∃a t,x=.ref a /\
 ((H2 a=some (ux a C t none)/\∀dx,H2 dx=none->dx≠a->D.nx σ (upd (upd H2 dx (sA dx [(f,y)])) a (ux a C t (some dx)))) ∨
  ∃dx fs,H2 a=some (ux a C t (some dx))/\H2 dx=some (sA dx fs)/\dx≠a/\fs.length < 1000/\D.nx σ (upd H2 dx (sA dx (eG f y fs))))
theorem zi {X:Cx}{C N fI:Addr}{o value:Expr}{f:Str}{pos pos':Pos}{ta tv:TE}(Z:pH X.K C N fI)(nf:PySem.W.findIn X.K (.ref C) f=some none)(hn:PySem.W.nsIn X.K N f=some none)(hB:typeLookup (.type "Exception") f=pure none)(ha:PE X o ta)(hv:PE X value tv)
  (hs:swapsWith value (some (.Attribute o f pos')) pos.line X.env=pure false):PS X (.Assign [.Attribute o f pos'] value pos) (Je C ta tv f):=by
 intro pins s σ H D I h;refine plainObj_wpAny_Assign_Attribute (bA (hv pins s σ H _ I h) λu s1 ⟨y,H1,I1,ry,q⟩=>bA (ha pins s1 σ H1 _ I1 q) λov s2 ⟨x,H2,I2,rx,a,t,ex,q2⟩=>?_) hs;subst ex;obtain rfl:ov=Value.ref a:=rx;rcases q2 with ⟨ea,q2⟩|⟨dx,fs,ea,ed,ne,hl,q2⟩
 · exact JF I2 Z nf ea ry λs3 dx fr ne I3=>⟨σ,_,I3,q2 dx fr ne⟩
 · exact Ja I2 Z hn hB ea ed ne hl ry λs3 I3=>⟨σ,_,I3,q2⟩
def F9 (C:Addr):Sp:=λvs H Q _=>∃(a t:Addr) (k p:Int),vs=[.ref a,.int k,.int p]/\H a=some (ux a C t none) /\
 ∀(dx:Addr),H dx=none->dx≠a->Q .cf (upd (upd H dx (sA dx (ff k p))) a (ux a C t (some dx)))
section
variable {X:Cx}{pins:aad}{σ:St}{H:Hp}{s:Shared}
theorem Inv.grown {a:Addr} {o:HO} {h':Heap} {t':Nat} (I:Inv X pins σ H s) (k:∀b u,s.heap.get? b=some u->h'.get? b=some u) (hp:s.heap.get? a=none) (new:bK X.prog X.w (upd H a o) h' a o):Inv X pins σ (upd H a o) {s with heap:=h',toks:=t'}:=by
 have fr:H a=none:=I.bu.gone hp;have at_:∀b u,H b=some u->(upd H a o) b=some u:=λb u e=>by rw[aq (ao e fr)];exact e
 refine I.un (h':=h') (t':=t') ⟨λb u e n _ _=>k b u e,λb u e n _ _=>⟨u.slots,k b u e⟩,λb u e n _=>?_,λb u e _=>⟨u,k b u e⟩,λb xs e=>at_ b _ e,λb u v e=>at_ b _ e,λb ps e=>⟨#[],by rw[at_ b _ e];simp⟩⟩ λb u e=>?_
 · rw[aq (λz=>by rw[z,hp] at e;cases e)];exact n
 · by_cases z:b=a
   · subst z;rw[ae] at e;cases e;exact new
   · rw[aq z] at e;exact (I.bu b u e).kr (λc v _ q=>k c v q) (λc q=>at_ c _ q) λc xs q=>at_ c _ q
def JW (H:Hp)(a:Addr):Hp:=λb=>if b=a then none else H b
theorem o4 {a:Addr}:JW H a a=none:=Xp rfl
theorem tu {a b:Addr}(h:b≠a):JW H a b=H b:=Xo h
theorem Inv.dropped {a:Addr}{φ:Heap->Prop}(I:Inv X pins σ H s)(e:H a=some (.ext φ)):Inv X pins σ (JW H a) s:=by
 have at_:∀b u,H b=some u->(∀ψ,u≠.ext ψ)->JW H a b=some u:=λb u q n=>by
  rw[tu (λz=>by rw[z,e] at q;exact n _ (X2 q).symm)];exact q
 refine I.un (h':=s.heap) (t':=s.toks) ⟨λb u q n _ _=>q,λb u q n _ _=>⟨u.slots,q⟩,λb u q n _=>?_,λb u q _=>⟨u,q⟩,λb xs q=>at_ b _ q (λ_ z=>by cases z),λb u v q=>at_ b _ q (λ_ z=>by cases z),λb ps q=>⟨#[],by rw[at_ b _ q (λ_ z=>by cases z)];simp⟩⟩ λb u q=>?_
 · by_cases z:b=a
   · rw[z];exact o4
   · rw[tu z];exact n
 · by_cases z:b=a
   · rw[z,o4] at q;cases q
   · rw[tu z] at q;exact (I.bu b u q).kr (λc v _ w=>w) (λc w=>at_ c _ w λ_ z=>by cases z) λc xs w=>at_ c _ w λ_ z=>by cases z
theorem Inv.seen {a:Addr}{φ:Heap->Prop}(I:Inv X pins σ H s)(O:my X)(h0:X.kJ.heap.get? a=none)(fr:H a=none)(nL:a≠X.env.locals)(nC:∀x c,X.env.cells.lookup x=some c->c≠a)(VC:pins=[])(nf:a∉X.fs)(new:bK X.prog X.w (upd H a (.ext φ)) s.heap a (.ext φ)) :
  Inv X pins σ (upd H a (.ext φ)) s:=by
 have at_:∀b u,H b=some u->(upd H a (.ext φ)) b=some u:=λb u q=>by rw[aq (ao q fr)];exact q
 refine⟨I.ok,I.os,I.bare,⟨I.base.keep,I.base.slot,λb o q n hx=>?_,I.base.there,λb xs q=>at_ b _ (I.base.n9 b xs q),λb u v q=>at_ b _ (I.base.nc b u v q),λb ps q=>?_⟩,I.loc,I.cell,?_,λx c q=>?_,λp hp=>?_,λb u q=>?_,I.len⟩
 · rw[aq (λz=>by rw[z,h0] at q;cases q)];exact I.base.free b o q n hx
 · obtain⟨m,w⟩:=I.base.oj b ps q;exact⟨m,at_ b _ w⟩
 · rw[aq nL.symm];exact I.free
 · rw[aq (nC x c q)];exact I.gj x c q
 · rw[O.pn,VC] at hp;simp at hp
 · by_cases z:b=a
   · subst z;rw[ae] at q;cases q;exact new
   · rw[aq z] at q;exact (I.bu b u q).kr (λc v _ w=>w) (λc w=>at_ c _ w) λc xs w=>at_ c _ w
end
def KI (C:Addr)(E:XK)(t:TA):TS:=λ_ σ H=>t σ H λvs _=>∃k p,vs=[.int k,.int p]/\Rz C E k p
theorem AX {X:Cx}{C N fI:Addr}{E:XK}{x:Str}{np LD pos:Pos}{e:Expr}{es:List Expr}{t:TA}{j:Nat}{Sz:FuncData}(O:my X)(Z:pH X.K C N fI)(FI:a8 X.prog X.w X.K X.mg X.base bE j fI Sz ["self","kind","place"] (F9 C))(hr:cK (j+1) X.A)
  (bI:Binds X.K Sz ["self","kind","place"] [])(hg:Gl X x)(hm:X.mg x=some (.ref C))(ha:PA (X.iq (XF X C E)) (e::es) t)(Me:(x==("__debug__":Str))=false:=by decide)
  (he:starEach (e::es) X.env=(false,eval e X.env)::starEach es X.env:=by rfl)(LH:(backTo LD (starEach es X.env)).any (·.1)=false:=by rfl) :
  PS (X.iq (XF X C E)) (.Raise (some (.Call (.Name x np) (e::es) [] LD)) none pos) (KI C E t):=by
 intro pins s σ H D I h;obtain⟨oC,hC,hF⟩:=Z.cls;rw[arm_exec_Raise];refine Xm (wpAny_standAt (wC hr.hd (Xm (YG ?_ (λv s1 q=>Xm (wpAny_standAt (Xu q))) λ_ _ z=>z))));refine ZE (mE (X:=X) I.dk hg hm ?_ Me);refine PySem.W.callWith_K (h₀:=X.base) I.ok.mod.Fc Z.kp (bA (ha LD pins s σ H _ I h) λus s2 ⟨vs,H1,I1,r,k,p,ev,hz⟩=>⟨I1.m7,?_⟩) he LH;subst ev;have I1:Inv X pins σ H1 s2:=I1.dk;obtain⟨u1,u2,rfl,r1,r2⟩:=vals2 r;obtain⟨oI,PM,VD⟩:∃oI,s2.heap.get? fI=some oI/\oI.cls=.type "function":=by
  have z:=Ye.mp Z.fn;unfold PySem.W.typeIn at z;cases q:X.K.lookup fI with
  |none=>simp[q] at z
  |some o =>
   simp[q] at z;exact⟨o,I1.m7 _ _ q,z⟩
 obtain⟨nm,q,bs,sn,sub,ab,col,dd,k0,k1,k2,k3,k5,N9⟩:=id hF;obtain⟨hp,ga,d,tk,os⟩:=s2;refine wpAny_call_exc_init F.excBase_Exception (N9 ▸ I1.m7 _ _ hC) (B5 I1.m7 Z.keys) (uu Z.init) PM VD (λh' a M=>?_) (by show 2<=sizeLine;decide);obtain⟨keep,fresh,t0,Q9,_,_⟩:=M;have I2:Inv X pins σ (upd H1 a (ux a C t0 none)) (⟨h',ga,d,tk,os⟩:Shared):=I1.grown keep fresh (Bj Q9);have rv:Vals [V.ref a,V.int k,V.int p] [Value.ref a,u1,u2]:=.cons rfl r;refine wpAny_call (Z1 (FI.run _ X.stack _ _ ⟨[Value.ref a,u1,u2],[]⟩ [Value.ref a,u1,u2] [V.ref a,V.int k,V.int p]
  (λv H'=>v=.cf/\∃dx,(upd H1 a (ux a C t0 none)) dx=none/\dx≠a/\H'=upd (upd (upd H1 a (ux a C t0 none)) dx (sA dx (ff k p))) a (ux a C t0 (some dx))) E0 (hr.make C [u1,u2] []) (I2.HE.make C [u1,u2] []) ?_ rv ⟨a,t0,k,p,rfl,ae,λdx h1 h2=>⟨rfl,dx,h1,h2,rfl⟩⟩) λr s3 hq=>?_)
 · have z:=bI (⟨h',ga,d,tk,os⟩:Shared) [Value.ref a,u1,u2] I2.m7 rfl;rw[Yr] at z;exact z
 cases r with
 |error e=>exact False.elim hq
 |ok fl =>
  cases fl with
  |next=>exact False.elim hq
  |brk=>exact False.elim hq
  |cont=>exact False.elim hq
  |ret u =>
   obtain⟨v,H',I3,rv,ev,dx,Mg,ne,eH⟩:=I2.after hq;subst ev eH;have ea:(upd (upd (upd H1 a (ux a C t0 none)) dx (sA dx (ff k p))) a (ux a C t0 (some dx))) a=some (ux a C t0 (some dx)):=ae;obtain⟨φ,_,_⟩:=I3.bu a _ ea;refine⟨rv,a,C,N,oC,some dx,_,rfl,⟨_,φ,⟨rfl,rfl⟩,rfl⟩,rfl,I3.m7 _ _ hC,hF,σ,_,a,dx,none,k,p,⟨rfl,(I3.dropped ea).lY (pins':=[]) λp hp=>absurd hp (by simp)⟩,⟨_,⟨⟨_,φ,⟨rfl,rfl⟩,rfl⟩,I1.gone O a fresh⟩,rfl⟩,λb hb=>?_,λT fl z=>(nomatch z),?_,hz⟩
   · have:b=a:=by simpa [jK] using hb
     rw[this];exact o4
   · rw[tu ne,aq ne,ae]
section
variable {X:Cx}{st:Stmt}{rest:List Stmt}{t u:TS}
theorem PS.zero (h:PS X st t):KC X st t:=λs σ H D I q=>h [] s σ H D I q
theorem qT.zero (h:qT X rest t):AK X rest t:=λs σ H D I q=>h [] s σ H D I q
theorem ik (h1:KC X st t)(h2:AK X rest u):AK X (st::rest) (G_ t u):=by
 intro s σ H D I h;refine wpAny_execs_cons (bA (h1 s σ H {D with nx:=u D} I h) λf s1 q=>?_);cases f with
 |next =>
  obtain⟨σ',H',I',q⟩:=q;exact h2 s1 σ' H' D I' q
 |ret v=>exact q
 |brk=>exact q
 |cont=>exact q
end
section
variable {P:Program}{w:World}{K:aaa}{mg:aac}{base:Heap}
theorem de.Kz {x qual:Str} {st:Stmt} {f:Addr} {fd:FuncData} {N ps:List Str} {k:Nat} {sp:Sp} (F:de K x qual st f fd) (S:aG N ps (aw st)) (len:∀vs H Q E,sp vs H Q E->vs.length=ps.length)
  (LF:∀(Lz:Value) (A:Around) (outer:List Env) (s:Shared) (H:Hp) (vs:List V) (Q:VK) (E:XK),cK k (A.deeper (envOfC qual (aw st) s.heap.objs.size f Lz))->sp vs H Q E ->
   ∃t,AK (ni bE P w K mg base N qual (aw st) f Lz A outer s H E).He (b6 st) t/\t {nx:=λ_ H'=>Q .cf H',rt:=Q} (start N vs) H):a8 P w K mg base bE (k+1) f fd ps sp:=by
 obtain⟨oc,od,kV,doc,pm,an,Lz,ct,Ms,rfl,lk,Ma⟩:=F.ex;refine BZ lk Ma S len λA outer s H vs Q E hr Mb=>?_;obtain⟨t,h,q⟩:=LF Lz A outer s H vs Q E hr Mb;exact⟨t,λs1 σ H1 D I hw=>YG (h s1 σ H1 D (I.iq _) hw) (λ_ _ q=>q.dk) λ_ _ z=>False.elim z,q⟩
end
def JQ (a C dx:Addr):HO:=.ext λh=>∃(oe:Obj) (vs:Array Value),h.get? a=some oe/\oe.cls=.ref C/\oe.dict=some dx/\oe.data=.fields vs
theorem HD {P:Program}{w:World}{H:Hp}{h:Heap}{a C dx:Addr}{oe:Obj}{vs:Array Value}(e:h.get? a=some oe)(c:oe.cls=.ref C)(x:oe.dict=some dx)(d:oe.data=.fields vs):bK P w H h a (JQ a C dx) :=
 ⟨⟨oe,vs,e,c,x,d⟩,⟨_,e⟩,λh1 h2 ⟨o,vs,e,r⟩ k=>⟨o,vs,k _ e,r⟩⟩
def Jv (C:Addr)(ta:TE)(f:Str):TE:=λσ H Q=>ta σ H λx H1=>∃a dx fs v,x=.ref a/\H1 a=some (JQ a C dx)/\H1 dx=some (sA dx fs)/\fs.lookup f=some v/\Q v H1
theorem yW {X:Cx}{C N fI:Addr}{e:Expr}{f:Str}{pos:Pos}{ta:TE}(Z:pH X.K C N fI)(nf:PySem.W.findIn X.K (.ref C) f=some none)(he:PE X e ta)(hb:attributeBase e f X.env (eval e X.env)=eval e X.env):PE X (.Attribute e f pos) (Jv C ta f):=by
 intro pins s σ H Q I h;obtain⟨oC,hC,hF⟩:=Z.cls;refine yl hb (bA (he pins s σ H _ I h) λu s1 ⟨x,H1,I1,rx,a,dx,fs,v,ex,ea,ed,l,q⟩=>?_);subst ex;obtain rfl:u=Value.ref a:=rx;obtain⟨⟨oe,vs,e1,c1,x1,d1⟩,_,_⟩:=I1.bu a _ ea;obtain⟨⟨mA,n1,rl⟩,_,_⟩:=I1.bu dx _ ed;have rv:=rl f;rw[l] at rv;obtain⟨u,hu,ru⟩:=i8.some_of rv;have hK:=I1.m7;obtain⟨hp,ga,d,tk,os⟩:=s1;exact vH hK hC hF Z.ga Z.gt nf ⟨oe,e1,⟨c1,x1⟩,d1⟩ n1 hu (PySem.W.handedOut_of (rB ru)) ⟨v,H1,I1.tok _,ru,q⟩
def EE (R:Int->Int->Prop):XK:=λ_ VE H=>∃dx k p,VE=some dx/\H dx=some (sA dx (ff k p))/\R k p
theorem Iy {C:Addr}{R:Int->Int->Prop}{k p:Int}(h:R k p):Rz C (EE R) k p:=λ_ dx e=>⟨dx,k,p,rfl,e,h⟩
abbrev Cx.FV (X:Cx)(a:Addr):Cx:={X with A:=X.A.mark (some (.ref a)),calm:=false,xe:=λ_ _=>False}
section
variable {X:Cx}{pins:aad}{σ:St}{H:Hp}{s:Shared}
theorem Inv.FV (I:Inv X pins σ H s) (a:Addr):Inv (X.FV a) pins σ H s :=
 ⟨⟨I.ok.mod,I.ok.kind,I.ok.glob,I.ok.blt,I.ok.above,I.ok.inj,I.ok.has,I.ok.H_,λz=>(by cases z),I.ok.frames,I.ok.Fz,I.ok.Jq,I.ok.bs,I.ok.CZ,I.ok.Af,I.ok.zA,I.ok.mI,I.ok.Fd⟩,I.os,I.bare,I.base,I.loc,I.cell,I.free,I.gj,I.pin,I.bu,I.len⟩
theorem Inv.IA {a:Addr}(I:Inv (X.FV a) pins σ H s)(ok:X.Ok):Inv X pins σ H s:=⟨ok,I.os,I.bare,I.base,I.loc,I.cell,I.free,I.gj,I.pin,I.bu,I.len⟩
theorem Inv.GL {h':Heap}{m':aac}{t':Nat}(I:Inv X [] σ H s)(O:my X)(hn:h'.Ns X.env.locals m')(sb:Heap.SameBut X.env.locals s.heap h'):Inv X [] (List.replicate X.N.length none) H {s with heap:=h',toks:=t'}:=by
 refine⟨I.ok,I.os,I.bare,⟨λb o e n hb hx=>?_,λb o e n hb hx=>?_,I.base.free,λb o e hx=>?_,I.base.n9,I.base.nc,I.base.oj⟩,⟨m',hn,λi x v e1 e2 _=>?_⟩,λx c e=>?_,I.free,I.gj,λp hp=>?_,λb u e=>?_,by simp⟩
 · exact (sb.2 b (X1 (X5 (XA e) I.ok.above))).trans (I.base.keep b o e n hb hx)
 · obtain⟨sl,z⟩:=I.base.slot b o e n hb hx;exact⟨sl,(sb.2 b (X1 (X5 (XA e) I.ok.above))).trans z⟩
 · obtain⟨o',z⟩:=I.base.there b o e hx;exact⟨o',(sb.2 b (X1 (X5 (XA e) I.ok.above))).trans z⟩
 · rw[List.getElem?_replicate] at e2;split at e2 <;> cases e2
 · obtain⟨v,z⟩:=I.cell x c e;exact⟨v,z.sameBut sb (I.FE x c e)⟩
 · rw[O.pn] at hp;simp at hp
 · refine (I.bu b u e).kr (λc v hc q=>(sb.2 c ?_).trans q) (λ_ q=>q) λ_ _ q=>q;rintro rfl;have fr:=I.free;rcases hc with rfl|hc
   · rw[fr] at e;cases e
   · rw[fr] at hc;cases hc
end
def Lp (X:Cx)(pins:aad)(D:Ends)(f:Flow)(s':Shared):Prop:=match f with
 |.ret u=>SP X [] D (.ret u) s'
 |f=>SP X pins D f s'
def K9 (X:Cx)(st:Stmt)(t:TS):Prop:=∀(pins:aad) (s:Shared) (σ:St) (H:Hp) (D:Ends),Inv X pins σ H s->t D σ H->wpAny (model X.prog X.w) X.A (exec st X.env) (Lp X pins D) X.xe s
theorem Et {X:Cx}{tg iter:Expr}{st:Stmt}{wi:TI}{g:TG}{tb:TS}{pos:Pos}(hp:PassesOwn (model X.prog X.w) X.A X.env X.xe)(hc:X.calm=true)(hi:PI X tg iter wi)(hg:PG X tg g)(hb:K9 X st tb)
  (hs:∀x,foldedSetIterable iter X.env x=pure x:=by intro _;rfl):KC X (.For tg iter [st] [] pos) (Hh wi g tb):=by
 intro s σ H D I h;refine wpAny_For (bA (hi [] s σ H _ I h) λv s1 h1=>bA h1 λPz s2 h2=>?_) hs;obtain⟨it,fp,tn,J,H2,e,I2,T,N3,f2,W,⟨m0,w0⟩,turn⟩:=h2;subst e;have LR:∀{H':Hp},(∀b∈fp,H' b=none)->∀b∈fp,m8 X [] H' b:=λhn b hb=>⟨hn b hb,(f2 b hb).2⟩;refine codeAny_forLoop_any (λn s'=>∃i σ' H',Inv X [] σ' H' s'/\tn i s'.heap/\(∀b∈fp,H' b=none)/\W i n σ' H') ?_ m0 ⟨0,σ,H2,I2,N3,λb hb=>(f2 b hb).1,w0⟩;rintro n s3 ⟨i,σ3,H3,I3,ND,OD,w3⟩;rcases turn i n σ3 H3 w3 with ⟨stop,qn⟩|⟨go,N,hN,step⟩
 · refine YI hp (bA (T.done X rfl rfl rfl hc i [] s3 σ3 H3 X.xe I3 (LR OD) ND stop) λr s4 ⟨hr,I4⟩=>?_);subst hr;exact Zl ⟨σ3,H3,I4,qn⟩
 · refine YI hp (bA (T.item X rfl rfl rfl hc i [] s3 σ3 H3 X.xe I3 (LR OD) ND go) λr s4 ⟨u,hr,h4⟩=>?_);subst hr;refine YI hp (bA h4 λ_ s5 ⟨x,H5,I5,r5,y5,MN,QI⟩=>?_);have QJ:=I5.pinned (LR QI) (T.obj _ _ MN);refine YI hp (bA (hg _ s5 σ3 H5 x u _ QJ r5 (step x H5 y5)) λ_ s6 ⟨σ6,H6,I6,q6⟩=>?_);refine YI hp (wpAny_execs_cons (bA (hb _ s6 σ6 H6 _ I6 q6) λf s7 q7=>?_));have again:∀{σ7:St} {H7:Hp},Inv X ([]++mY fp s5.heap) σ7 H7 s7->N σ7 H7->∃m,m < n/\∃i σ' H',Inv X [] σ' H' s7/\tn i s7.heap/\(∀b∈fp,H' b=none)/\W i m σ' H':=λ{σ7 H7} I7 n7=>by
    obtain⟨m',hm,w7⟩:=hN σ7 H7 n7;refine⟨m',hm,i+1,σ7,H7,I7.iu,T.keep _ _ _ MN λb hb o e=>(I7.pin (b,o) (Yn _ (Yn _ (gi hb e)))).1,λb hb=>?_,w7⟩;obtain⟨o,e,d⟩:=T.obj _ _ MN b hb;exact (I7.pin (b,o) (Yn _ (Yn _ (gi hb e)))).2.1
   cases f with
   |next=>obtain⟨σ7,H7,I7,n7⟩:=q7;exact Zl (again I7 n7)
   |cont=>obtain⟨σ7,H7,I7,n7⟩:=q7;exact again I7 n7
   |brk=>obtain⟨σ7,H7,I7,q7⟩:=q7;exact⟨σ7,H7,I7.iu,q7⟩
   |ret v=>exact q7
def KA (C:Addr)(i:Nat)(R:Int->Int->Prop)(tb th:TS):TS:=λD σ H=>tb D σ H /\
 ∀(σ':St) (H':Hp) (a dx:Addr) (k p:Int),R k p->σ'[i]?=some (some (.ref a))->H' a=some (JQ a C dx)->H' dx=some (sA dx (ff k p))->th {nx:=λ_ _=>False,rt:=D.rt} σ' H'
theorem HW {X:Cx}{C N fI:Addr}{R:Int->Int->Prop}{x n:Str}{np Q_ pos:Pos}{body Nk:List Stmt}{b0:Stmt}{i:Nat}{tb th:TS}(O:my X)(Z:pH X.K C N fI)(hg:Gl X x)(hm:X.mg x=some (.ref C))(hN:X.N.Nodup)(hi:X.N[i]?=some n)
  (hl:X.env.scope.names.lookup n=some .local)(hb:qT (X.iq (XF X C (EE R))) body tb)(hh:∀a,qT (X.FV a) (b0::Nk) th)(Me:(x==("__debug__":Str))=false:=by decide) :
  K9 X (.Try body [.ExceptHandler (some (.Name x np)) (some n) (b0::Nk) Q_] [] [] pos) (KA C i R tb th):=by
 rintro pins s σ H D I ⟨hq,VF⟩;obtain⟨oC,hC,hF⟩:=Z.cls;refine wpAny_Try_except (YG (hb pins s σ H D (I.iq _) hq) (λf s1 q=>?_) λe s1 z=>?_)
 · cases f with
   |next=>exact Zl q.dk
   |brk=>exact q.dk
   |cont=>exact q.dk
   |ret u =>
    obtain⟨v,σ',H',I',r⟩:=q.dk;exact⟨v,σ',H',I'.lY (pins':=[]) λp hp=>absurd hp (by simp),r⟩
 obtain⟨σ1,H1,a,dx,t,k,p,⟨rfl,I1⟩,F1,hH,Nj,hx,hz⟩:=z;obtain⟨Mw,k',p',e1,e2,hR⟩:=hz H1 dx hx;cases e1;refine xE O I1 F1 hH Nj λg T I2 F2 H2=>?_;refine l_ (v:=none) O I2 F2 H2 λg2 I3 F3=>?_;obtain⟨vs3,⟨⟨oe3,VG,⟨VH,xe3⟩,de3⟩,_⟩,_⟩:=id F3;obtain⟨_,_,_,_,_,_,_,_,_,_,_,_,_,N9⟩:=id hF;refine wpAny_handleBy_cons (codeAny_handlers_test (mE (X:=X.FV a) (I3.FV a) hg hm ?_ Me)) (by intro z;cases z);refine wpAny_excMatches_sub_self (N9 ▸ I3.m7 _ _ hC) VG VH (by decide) (codeAny_handlers_suite_as ?_);have H3:∀b∈jK a (some (T,(none:Option Addr).elim Value.none λf=>rawInt f)),H1 b=none:=H2;refine l_ (v:=none) O I3 F3 H3 λg4 I4 F4=>?_;obtain⟨vs4,⟨⟨oe4,NM,⟨VI,VJ⟩,N_⟩,z4⟩,_⟩:=id F4;have nL:a≠X.env.locals:=by
  rintro rfl;obtain⟨m,⟨o',es,ep,LV,L8,_⟩,_⟩:=I4.loc;rw[LV] at NM;cases NM;rw[L8] at N_;cases N_
 have nC:∀x c,X.env.cells.lookup x=some c->c≠a:=by
  rintro x c e rfl;obtain⟨v,o',LV,L8⟩:=I4.cell x c e;rw[LV] at NM;cases NM;rw[L8] at N_;cases N_
 have nf:a∉X.fs:=λz=>by
  obtain⟨_,o',LV,L8⟩:=I4.mI.mem z;rw[LV] at NM;cases NM;exact L8 _ N_
 have I5:Inv X [] σ1 (upd H1 a (JQ a C dx)) _:=I4.seen O z4 (hH a (X_ ..)) nL nC rfl nf (HD NM VI VJ N_);have nd:dx≠a:=λz=>by
  have:=hH a (X_ ..);rw[←z,hx] at this;cases this
 refine mx (X:=X.FV a) (v:=V.ref a) (I5.FV a) hN hi (.inl hl) rfl (λs6 I6=>?_) (.inr hl);have li:i < σ1.length:=by rw[I4.len];exact (XB.mp hi).1
 refine YG (hh a [] s6 _ _ {nx:=λ_ _=>False,rt:=D.rt} I6 (VF _ _ a dx k' p' hR (ZJ li) ae (by rw[aq nd];exact e2))) (λf s7 z=>?_) λ_ _ z=>False.elim z;cases f with
 |next=>obtain⟨_,_,_,z⟩:=z;exact False.elim z
 |brk=>obtain⟨_,_,_,z⟩:=z;exact False.elim z
 |cont=>obtain⟨_,_,_,z⟩:=z;exact False.elim z
 |ret u =>
  obtain⟨v,σ8,H8,I8,rv,z⟩:=z;have I8:Inv X [] σ8 H8 s7:=I8.IA I.ok;obtain⟨m,hn,_⟩:=id I8.loc;refine wpAny_nameGoes hl hn (by rw[I.ok.kind];rfl) λh' m' ML sb=>?_;exact⟨v,_,H8,I8.GL O ML sb,rv,z⟩
end L2
namespace L2
open PySem PySem.Spec PyProof.Rows
section
variable {X:Cx}
theorem xS:iz X (.builtin "sorted") (λxs H Q=>∃(t:Addr) (ns:List Int),xs=[.ref t]/\b7 X.K H t (ns.map V.int)/\ns.length < 64 /\
  ∀(ms:List Int) (p:Addr),ms.Perm ns->ms.Pairwise (·<=·)->H p=none->Q (.ref p) (upd H p (.lst (ms.map V.int)))):=by
 rintro pins s σ H xs us Q I r ⟨t,ns,rfl,ht,MU,q⟩;rw[Vals.we r];obtain⟨Ly,rv,⟨o,ho,hc,n,hd⟩,hz⟩:=I.tuple ht;have hi:=rv.ints;have v9:Ly.length < 64:=by rw[hi.length];exact MU
 have line:Ly.length<=sizeLine:=yh v9;refine PySem.Calls.call_function_entry kind_sorted plain_sorted entry_sorted (args_sorted1 _) ?_;show wpAny _ _ (checkCount "sorted" 1 1 1 >>= λ_=>collect (.ref t) >>= λvs=>newList vs >>= λl=>holding [l] (call (.builtin "list.sort") [l] []) >>= λ_=>ret l) _ _ _;refine Xm (Xu (Xm (wpAny_collect_seq t (.inr rfl) ho hc hd (λh1 k1=>Xm (wpAny_newList (Xm (Zo ?_)) ?_)) ?_)))
 ·
  have new:(h1.push {cls:=.type "list",data:=.seq Ly.toArray.toList.toArray}).get? h1.objs.size=some (seqObj "list" Ly.toArray 0):=XD h1 rfl;refine YK slot_list_sort ⟨_,new,rfl⟩ entry_list_sort (list_sort_tree new hi v9 λout ms p1 p2 p3=>⟨.none,rfl,Xu ⟨_,rfl,?_⟩⟩) (args_list_sort _);have ME:s.heap.get? h1.objs.size=none:=by
   cases z:s.heap.get? h1.objs.size with
   |none=>rfl
   |some u=>exact absurd (XA (k1 _ _ z)) (YJ _)
  obtain⟨ep,at_⟩:=sortedHeap_at (vs:=Ly) (out:=out) new;have keep:∀b u,s.heap.get? b=some u->(sortedHeap (h1.push {cls:=.type "list",data:=.seq Ly.toArray.toList.toArray}) h1.objs.size Ly out).get? b=some u:=λb u e=>by
   have e1:=Xq {cls:=.type "list",data:=.seq Ly.toArray.toList.toArray} (k1 b u e);rw[sortedHeap_old (λz=>by rw[z,ME] at e;cases e) (XA e1)];exact e1
  have len:(ms.map V.int).length<=sizeLine:=by rw[Xn,p2.length_eq];exact yh MU
  exact⟨.ref _,upd H h1.objs.size (.lst (ms.map V.int)),I.grown (t':=s.toks) keep ME ⟨len,out.toList,ep,lJ p1,at_⟩,rfl,q ms _ p2 p3 (I.bu.gone ME)⟩
 · simpa using line
 · simpa using line
end
end L2
namespace BwX
open PySem
section
variable {P:Program}{w:World}{A:Around}{E:aab}{s:Shared}
theorem B9 {it t:Addr} {k:Nat} {Ly:Array Value} {x:Value} {Q:aab} (hi:s.heap.IsTupleIter it t k) (ht:s.heap.IsTuple t Ly) (hx:Ly[k]?=some x)
  (q:∀h',h'.IsTupleIter it t (k+1)->Heap.SameBut it s.heap h'->Q x {s with heap:=h'}):wpAny (model P w) A (Builtin.SmallTypes.nextOf (.ref it)) Q E s:=by
 have ty:=hi.typeIs;obtain⟨⟨c1,d1,f1,l1⟩,g1,rfl,rfl⟩:=hi;obtain⟨⟨c2,d2,f2,l2⟩,g2,rfl,n,rfl⟩:=ht;unfold Builtin.SmallTypes.nextOf;refine Xm (YE (name:=Str.ofString "__next__") ty Zr (YK Zr ty F.entry_tuple_iterator_next ?_ (F.args_tuple_iterator_next_1 _)));obtain⟨hp,ga,d,tk,os⟩:=s;show wpAny _ _ (Builtin.«tuple_iterator.__next__» _) _ _ _
 wp_walk
 rw[X9,hx];refine Xm (wpAny_setField g1 rfl (by simp) (Xu ⟨x,rfl,Xu (q _ ⟨_,Yo _ g1 rfl,rfl,?_⟩ (XQ ..))⟩));simp[Obj.mapFields,rawInt]
theorem BW {it t:Addr}{k:Nat}{Ly:Array Value}{Q:aab}(hh:A.handled=none)(hi:s.heap.IsTupleIter it t k)(ht:s.heap.IsTuple t Ly)(hx:Ly[k]?=none)
  (q:∀h' e,Heap.ExtBut it s.heap h'->(∃o,h'.get? e=some o/\o.cls=.type "StopIteration")->E (.ref e) {s with heap:=h'}):wpAny (model P w) A (Builtin.SmallTypes.nextOf (.ref it)) Q E s:=by
 have ty:=hi.typeIs;obtain⟨⟨c1,d1,f1,l1⟩,g1,rfl,rfl⟩:=hi;obtain⟨⟨c2,d2,f2,l2⟩,g2,rfl,n,rfl⟩:=ht;unfold Builtin.SmallTypes.nextOf;refine Xm (YE (name:=Str.ofString "__next__") ty Zr (YK Zr ty F.entry_tuple_iterator_next ?_ (F.args_tuple_iterator_next_1 _)));obtain⟨hp,ga,d,tk,os⟩:=s;have h1:A.in1.handled=none:=hh;show wpAny _ _ (Builtin.«tuple_iterator.__next__» _) _ _ _
 wp_walk
 rw[X9,hx]
 wp_walk
 unfold raiseNew
 wp_walk
 exact q _ _ (((XQ ..).extBut.push _).push _) ⟨_,XD _ rfl,rfl⟩
end
structure Src (P:Program)(w:World)(i:Addr)(T:Nat->Heap->Prop)(xs:Array Value)(fp:List Addr):Prop where
 item:∀(A:Around) (k:Nat) (x:Value) (s:Shared) (Q:aab) (E:aab),T k s.heap->xs[k]?=some x->(∀h',T (k+1) h'->Heap.SameBut i s.heap h'->Q x {s with heap:=h'})->wpAny (model P w) A (Builtin.SmallTypes.nextOf (.ref i)) Q E s
 stop:∀(A:Around) (k:Nat) (s:Shared) (Q:aab) (E:aab),A.handled=none->T k s.heap->xs[k]?=none->(∀h' e,Heap.ExtBut i s.heap h'->(∃o,h'.get? e=some o/\o.cls=.type "StopIteration")->E (.ref e) {s with heap:=h'})->wpAny (model P w) A (Builtin.SmallTypes.nextOf (.ref i)) Q E s
 keep:∀k h h',T k h->(∀b∈fp,∀o,h.get? b=some o->h'.get? b=some o)->T k h'
 mem:i∈fp
theorem yy {P:Program}{w:World}{it t:Addr}{Ly:Array Value}(ne:t≠it):Src P w it (λk h=>h.IsTupleIter it t k/\h.IsTuple t Ly) Ly [it,t] where
 item:=λA k x s Q E st hx q=>B9 st.1 st.2 hx λh' z sb=>q h' ⟨z,st.2.extBut sb.extBut ne⟩ sb
 stop:=λA k s Q E hh st hx q=>BW hh st.1 st.2 hx q
 keep:=λk h h' st z=>⟨st.1.at λo e=>z it (by simp) o e,by
  obtain⟨o,e,r⟩:=st.2;exact⟨o,z t (by simp) o e,r⟩⟩
 mem:=by simp
theorem yY {P:Program}{w:World}{it t:Addr}{Ly:Array Value}(ne:t≠it):Src P w it (λk h=>h.IsListIter it t k/\h.IsList t Ly) Ly [it,t] where
 item:=λA k x s Q E st hx q=>wpAny_nextOf_list_item st.1 st.2 hx λh' z sb=>q h' ⟨z,st.2.extBut sb.extBut ne⟩ sb
 stop:=λA k s Q E hh st hx q=>wpAny_nextOf_list_end hh st.1 st.2 hx q
 keep:=λk h h' st z=>⟨st.1.at λo e=>z it (by simp) o e,st.2.at λo e=>z t (by simp) o e⟩
 mem:=by simp
structure Zp (z TI TO i1 i2:Addr)(p1 p2:List Addr)(T1 T2:Nat->Heap->Prop)(f0:Value)(k1 k2:Nat)(h:Heap):Prop where
 zp:IsZip h z TI TO f0
 ti:IsPair h TI (.ref i1) (.ref i2)
 to:∃a b,IsPair h TO a b
 s1:T1 k1 h
 s2:T2 k2 h
 n1:¬z∈p1/\¬TO∈p1/\¬i2∈p1
 n2:¬z∈p2/\¬TO∈p2/\¬i1∈p2
 nz:TI≠z/\TO≠z/\TI≠TO/\TI≠i1/\TI≠i2/\TO≠i1/\TO≠i2/\i1≠z/\i2≠z
section
variable {P:Program}{w:World}{A:Around}{E:aab}{s:Shared}{z TI TO i1 i2:Addr}{p1 p2:List Addr}{T1 T2:Nat->Heap->Prop}{k1 k2:Nat}{xs ys:Array Value}
theorem E3 {x y:Value} {Q:aab} (S1:Src P w i1 T1 xs p1) (S2:Src P w i2 T2 ys p2) (Z:Zp z TI TO i1 i2 p1 p2 T1 T2 .none k1 k2 s.heap) (hx:xs[k1]?=some x) (hy:ys[k2]?=some y)
  (q:∀h',Zp z TI TO i1 i2 p1 p2 T1 T2 (rawInt s.heap.objs.size) (k1+1) (k2+1) h'->IsPair h' s.heap.objs.size x y->(∀c o,c≠z->c≠TO->c≠i1->c≠i2->s.heap.get? c=some o->h'.get? c=some o)->Q (.ref s.heap.objs.size) {s with heap:=h'}) :
  wpAny (model P w) A (Builtin.«zip.__next__» ⟨[.ref z],[]⟩) (λfin s'=>∃v,fin=.done (.ret v)/\Q v s') E s:=by
 obtain⟨hz,MF,⟨a,b,Mn⟩,t1,t2,n1,n2,nz⟩:=Z;obtain⟨hp,ga,d,tk,os⟩:=s;have d1:∀(h:Heap) (Q:aab) (E:aab),(∀h',T1 (k1+1) h'->Heap.SameBut i1 h h'->Q x ⟨h',ga,d,tk,os⟩)->T1 k1 h->wpAny (model P w) A (Builtin.SmallTypes.nextOf (.ref i1)) Q E ⟨h,ga,d,tk,os⟩:=λh Q E c t=>S1.item A k1 x ⟨h,ga,d,tk,os⟩ Q E t hx c;have d2:∀(h:Heap) (Q:aab) (E:aab),(∀h',T2 (k2+1) h'->Heap.SameBut i2 h h'->Q y ⟨h',ga,d,tk,os⟩)->T2 k2 h->wpAny (model P w) A (Builtin.SmallTypes.nextOf (.ref i2)) Q E ⟨h,ga,d,tk,os⟩:=λh Q E c t=>S2.item A k2 y ⟨h,ga,d,tk,os⟩ Q E t hy c;obtain⟨z1,z2,z3,z4,z5,z6,z7,z8,z9⟩:=nz;have o1:∀b∈p1,b≠z/\b≠TO/\b≠i2:=λb hb=>⟨λe=>n1.1 (e ▸ hb),λe=>n1.2.1 (e ▸ hb),λe=>n1.2.2 (e ▸ hb)⟩;have o2:∀b∈p2,b≠z/\b≠TO/\b≠i1:=λb hb=>⟨λe=>n2.1 (e ▸ hb),λe=>n2.2.1 (e ▸ hb),λe=>n2.2.2 (e ▸ hb)⟩;have z12:i1≠i2:=(o1 i1 S1.mem).2.2
 wp_walk using wpAny_onRaise,d1
 rotate_left
 · exact S1.keep k1 _ _ t1 λb hb o e=>((XQ ..).2 b (o1 b hb).1).trans e
 intro h1 SA M0;have Ra:∀b,b≠z->(hp.update z (Obj.mapFields λx=>x.setIfInBounds 0 Value.ellipsis)).get? b=hp.get? b:=λb n=>(XQ ..).2 b n;have OS:IsZip h1 z TI TO .ellipsis:=(M0.2 z z8.symm).trans (Yo _ hz rfl);have OT:IsPair h1 TO a b:=(M0.2 TO z6).trans ((Ra TO z2).trans Mn);have Oa:∀b o,b≠z->b≠i1->hp.get? b=some o->h1.get? b=some o:=λb o n m e=>(M0.2 b m).trans ((Ra b n).trans e);have l1:h1.objs.size=hp.objs.size:=M0.1.trans (XQ ..).1;clear Ra M0 d1
 wp_walk using wpAny_onRaise,d2
 rotate_left
 · exact S2.keep k2 _ _ t2 λb hb o e=>((XQ ..).2 b (o2 b hb).2.1).trans (Oa b o (o2 b hb).1 (o2 b hb).2.2 e)
 intro h2 VL OU;have up1:∀b,b≠TO->(h1.update TO (Obj.mapSeq λv=>v.setIfInBounds 0 x)).get? b=h1.get? b:=λb n=>(XQ ..).2 b n;have Rb:IsZip h2 z TI TO .ellipsis:=(OU.2 z z9.symm).trans ((up1 z z2.symm).trans OS);have Rc:IsPair h2 TO x b:=(OU.2 TO z7).trans (Yo _ OT rfl);have PN:∀b o,b≠TO->b≠i2->h1.get? b=some o->h2.get? b=some o:=λb o n m e=>(OU.2 b m).trans ((up1 b n).trans e);have l2:h2.objs.size=hp.objs.size:=(OU.1.trans (XQ ..).1).trans l1;clear up1 OU d2
 wp_walk
 have OV:IsPair (h2.update TO (Obj.mapSeq λx=>x.setIfInBounds (0+1) y)) TO x y:=Yo _ Rc rfl;have OW:∀b o,b≠TO->h2.get? b=some o->(h2.update TO (Obj.mapSeq λx=>x.setIfInBounds (0+1) y)).get? b=some o:=λb o n e=>((XQ ..).2 b n).trans e;have l3:(h2.update TO (Obj.mapSeq λx=>x.setIfInBounds (0+1) y)).objs.size=hp.objs.size:=(XQ ..).1.trans l2;refine⟨_,rfl,?_⟩;generalize h2.update TO (Obj.mapSeq λx=>x.setIfInBounds (0+1) y)=h3 at OV OW l3 ⊢;dsimp only at q;rw[←l3] at q;have zn:z≠h3.objs.size:=X1 (by rw[l3];exact XA hz);have g4:∀b o,h3.get? b=some o->(h3.push {cls:=.type "tuple",data:=.seq #[x,y]}).get? b=some o:=λb o e=>Xq _ e;have gn:(h3.push {cls:=.type "tuple",data:=.seq #[x,y]}).get? h3.objs.size=some {cls:=.type "tuple",data:=.seq #[x,y]}:=XD _ rfl;show Q _ ⟨((h3.push {cls:=.type "tuple",data:=.seq #[x,y]}).update z _).update z _,ga,d,tk,os⟩;generalize h3.push {cls:=.type "tuple",data:=.seq #[x,y]}=h4 at g4 gn ⊢;have VM:IsZip h4 z TI TO .ellipsis:=g4 _ _ (OW _ _ z2.symm Rb);have kz:∀b o,b≠z->h4.get? b=some o->((h4.update z (Obj.mapFields λv=>v.setIfInBounds 0 (rawInt (h3.objs.size:Nat)))).update z (Obj.mapFields λv=>v.setIfInBounds 1 (.bool false))).get? b=some o:=λb o n e=>((XQ ..).2 b n).trans (((XQ ..).2 b n).trans e);have kp:∀b o,b≠z->b≠TO->b≠i1->b≠i2->hp.get? b=some o->((h4.update z (Obj.mapFields λv=>v.setIfInBounds 0 (rawInt (h3.objs.size:Nat)))).update z (Obj.mapFields λv=>v.setIfInBounds 1 (.bool false))).get? b=some o:=λb o n1 n2 n3 n4 e=>kz b o n1 (g4 b o (OW b o n2 (PN b o n2 n4 (Oa b o n1 n3 e))));have VN:IsZip (h4.update z (Obj.mapFields λv=>v.setIfInBounds 0 (rawInt (h3.objs.size:Nat)))) z TI TO (rawInt (h3.objs.size:Nat)):=Yo _ VM rfl;refine q _ ⟨Yo _ VN rfl,kp _ _ z1 z3 z4 z5 MF,⟨x,y,kz _ _ z2 (g4 _ _ OV)⟩,S1.keep _ _ _ SA λb hb o e=>kz b o (o1 b hb).1 (g4 b o (OW b o (o1 b hb).2.1 (PN b o (o1 b hb).2.1 (o1 b hb).2.2 e))),S2.keep _ _ _ VL λb hb o e=>kz b o (o2 b hb).1 (g4 b o (OW b o (o2 b hb).2.1 e)),n1,n2,⟨z1,z2,z3,z4,z5,z6,z7,z8,z9⟩⟩ (kz _ _ zn.symm gn) kp
theorem E4 {Q:Fin->Shared->Prop}(hh:A.handled=none)(S1:Src P w i1 T1 xs p1)(S2:Src P w i2 T2 ys p2)(Z:Zp z TI TO i1 i2 p1 p2 T1 T2 .none k1 k2 s.heap)(he:xs[k1]?=none∨ys[k2]?=none)
  (q:∀h' e,(∀c o,c≠z->c≠TO->c≠i1->c≠i2->s.heap.get? c=some o->h'.get? c=some o)->(∃o,h'.get? e=some o/\o.cls=.type "StopIteration")->E (.ref e) {s with heap:=h'}) :
  wpAny (model P w) A (Builtin.«zip.__next__» ⟨[.ref z],[]⟩) Q E s:=by
 obtain⟨hz,MF,⟨a,b,Mn⟩,t1,t2,n1,n2,nz⟩:=Z;obtain⟨hp,ga,d,tk,os⟩:=s;obtain⟨z1,z2,z3,z4,z5,z6,z7,z8,z9⟩:=nz;have o1:∀b∈p1,b≠z:=λb hb e=>n1.1 (e ▸ hb);have o2:∀b∈p2,b≠z/\b≠TO/\b≠i1:=λb hb=>⟨λe=>n2.1 (e ▸ hb),λe=>n2.2.1 (e ▸ hb),λe=>n2.2.2 (e ▸ hb)⟩;have zs:∀(h:Heap) (e:Addr),IsZip h z TI TO .ellipsis->(∃o,h.get? e=some o/\o.cls=.type "StopIteration")->∃o,(h.update z (Obj.mapFields λv=>v.setIfInBounds 0 .none)).get? e=some o/\o.cls=.type "StopIteration":=λh e hz ⟨o,ho,hc⟩=>by
  refine⟨o,((XQ ..).2 e ?_).trans ho,hc⟩;rintro rfl;rw[hz] at ho;cases ho;simp at hc
 cases hx:xs[k1]? with
 |none =>
  have d1:∀(h:Heap) (Q:aab) (E:aab),(∀h' e,Heap.ExtBut i1 h h'->(∃o,h'.get? e=some o/\o.cls=.type "StopIteration")->E (.ref e) ⟨h',ga,d,tk,os⟩)->T1 k1 h->wpAny (model P w) A (Builtin.SmallTypes.nextOf (.ref i1)) Q E ⟨h,ga,d,tk,os⟩:=λh Q E c t=>S1.stop A k1 ⟨h,ga,d,tk,os⟩ Q E hh t hx c
  wp_walk using wpAny_onRaise,d1
  rotate_left
  · exact S1.keep k1 _ _ t1 λb hb o e=>((XQ ..).2 b (o1 b hb)).trans e
  intro h1 e eb st;have OS:IsZip h1 z TI TO .ellipsis:=eb z _ z8.symm (Yo _ hz rfl);have kp:∀b o,b≠z->b≠i1->hp.get? b=some o->h1.get? b=some o:=λb o n m q=>eb b o m (((XQ ..).2 b n).trans q)
  wp_walk
  exact q _ e (λc o c1 c2 c3 c4 w=>((XQ ..).2 c c1).trans (kp c o c1 c3 w)) (zs h1 e OS st)
 |some x =>
  have hy:ys[k2]?=none:=he.resolve_left (by rw[hx];simp);have d1:∀(h:Heap) (Q:aab) (E:aab),(∀h',T1 (k1+1) h'->Heap.SameBut i1 h h'->Q x ⟨h',ga,d,tk,os⟩)->T1 k1 h->wpAny (model P w) A (Builtin.SmallTypes.nextOf (.ref i1)) Q E ⟨h,ga,d,tk,os⟩:=λh Q E c t=>S1.item A k1 x ⟨h,ga,d,tk,os⟩ Q E t hx c;have d2:∀(h:Heap) (Q:aab) (E:aab),(∀h' e,Heap.ExtBut i2 h h'->(∃o,h'.get? e=some o/\o.cls=.type "StopIteration")->E (.ref e) ⟨h',ga,d,tk,os⟩)->T2 k2 h->wpAny (model P w) A (Builtin.SmallTypes.nextOf (.ref i2)) Q E ⟨h,ga,d,tk,os⟩:=λh Q E c t=>S2.stop A k2 ⟨h,ga,d,tk,os⟩ Q E hh t hy c
  wp_walk using wpAny_onRaise,d1
  rotate_left
  · exact S1.keep k1 _ _ t1 λb hb o e=>((XQ ..).2 b (o1 b hb)).trans e
  intro h1 SA M0;have OS:IsZip h1 z TI TO .ellipsis:=(M0.2 z z8.symm).trans (Yo _ hz rfl);have Oa:∀b o,b≠z->b≠i1->hp.get? b=some o->h1.get? b=some o:=λb o n m e=>(M0.2 b m).trans (((XQ ..).2 b n).trans e);have OT:IsPair h1 TO a b:=Oa _ _ z2 z6 Mn;clear M0 d1
  wp_walk using wpAny_onRaise,d2
  rotate_left
  · exact S2.keep k2 _ _ t2 λb hb o e=>((XQ ..).2 b (o2 b hb).2.1).trans (Oa b o (o2 b hb).1 (o2 b hb).2.2 e)
  intro h2 e eb st;have Rb:IsZip h2 z TI TO .ellipsis:=eb z _ z9.symm (((XQ ..).2 z z2.symm).trans OS);have PN:∀b o,b≠TO->b≠i2->h1.get? b=some o->h2.get? b=some o:=λb o n m q=>eb b o m (((XQ ..).2 b n).trans q)
  wp_walk
  exact q _ e (λc o c1 c2 c3 c4 w=>((XQ ..).2 c c1).trans (PN c o c2 c4 (Oa c o c1 c3 w))) (zs h2 e Rb st)
abbrev Zt (z TI TO i1 i2 t l:Addr)(xs ys:Array Value)(f0:Value)(k:Nat)(h:Heap):Prop:=Zp z TI TO i1 i2 [i1,t] [i2,l] (λk h=>h.IsTupleIter i1 t k/\h.IsTuple t xs) (λk h=>h.IsListIter i2 l k/\h.IsList l ys) f0 k k h
theorem Ga (t l:Addr)(xs ys:Array Value):Meets (Builtin.«zip.__new__» ⟨[.type "zip",.ref t,.ref l],[]⟩) (λ_ R s=>s.heap.IsTuple t xs/\s.heap.IsList l ys /\
  ∀h',Zt (s.heap.objs.size+4) (s.heap.objs.size+2) (s.heap.objs.size+3) s.heap.objs.size (s.heap.objs.size+1) t l xs ys .none 0 h'->(∀c o,s.heap.get? c=some o->h'.get? c=some o)->R (.ok (.ret (.ref (s.heap.objs.size+4)))) {s with heap:=h'}):=by
 refine .of_wp λP w A R s c=>?_;obtain⟨ht,hl,q⟩:=c;obtain⟨hp,ga,d,tk,os⟩:=s;have sz:=sub_zip;have t0:(Shared.heap ⟨hp,ga,d,tk,os⟩).IsTuple t xs:=ht;have l0:(Shared.heap ⟨hp.push {cls:=.type "tuple_iterator",data:=.fields #[.ref t,.int 0 0]},ga,d,tk,os⟩).IsList l ys:=hl.push _;have nt:@LT.lt Nat _ t hp.objs.size:=by obtain⟨_,e,_⟩:=ht;exact XA e
 have nl:@LT.lt Nat _ l hp.objs.size:=by obtain⟨_,e,_⟩:=hl;exact XA e
 wp_walk using wpAny_pyIter_tuple t0,wpAny_pyIter_list l0
 refine⟨_,rfl,?_⟩;have z1:(hp.push {cls:=.type "tuple_iterator",data:=.fields #[.ref t,.int 0 0]}).objs.size=hp.objs.size+1:=Yx ..;have g1:(hp.push {cls:=.type "tuple_iterator",data:=.fields #[.ref t,.int 0 0]}).get? hp.objs.size=some {cls:=.type "tuple_iterator",data:=.fields #[.ref t,.int 0 0]}:=XD _ rfl;have k1:∀c o,hp.get? c=some o->(hp.push {cls:=.type "tuple_iterator",data:=.fields #[.ref t,.int 0 0]}).get? c=some o:=λc o e=>Xq _ e;dsimp only;generalize hp.push {cls:=.type "tuple_iterator",data:=.fields #[.ref t,.int 0 0]}=h1 at z1 g1 k1 ⊢;have z2:(h1.push {cls:=.type "list_iterator",data:=.fields #[.ref l,.int 0 0]}).objs.size=hp.objs.size+2:=(Yx ..).trans (by rw[z1]);have g2:(h1.push {cls:=.type "list_iterator",data:=.fields #[.ref l,.int 0 0]}).get? h1.objs.size=some {cls:=.type "list_iterator",data:=.fields #[.ref l,.int 0 0]}:=XD _ rfl;have k2:∀c o,h1.get? c=some o->(h1.push {cls:=.type "list_iterator",data:=.fields #[.ref l,.int 0 0]}).get? c=some o:=λc o e=>Xq _ e;generalize h1.push {cls:=.type "list_iterator",data:=.fields #[.ref l,.int 0 0]}=h2 at z2 g2 k2 ⊢;rw[z1] at g2 ⊢;show R (.ok (.ret (.ref ((h2.push {cls:=.type "tuple",data:=.seq #[.ref hp.objs.size,.ref (hp.objs.size+1)]}).push {cls:=.type "tuple",data:=.seq #[.none,.none]}).objs.size))) ⟨((h2.push {cls:=.type "tuple",data:=.seq #[.ref hp.objs.size,.ref (hp.objs.size+1)]}).push {cls:=.type "tuple",data:=.seq #[.none,.none]}).push {cls:=.type "zip",data:=.fields #[.none,.bool false,.bool false,.ref h2.objs.size,.ref (h2.push {cls:=.type "tuple",data:=.seq #[.ref hp.objs.size,.ref (hp.objs.size+1)]}).objs.size]},ga,d,tk,os⟩;have z3:(h2.push {cls:=.type "tuple",data:=.seq #[.ref hp.objs.size,.ref (hp.objs.size+1)]}).objs.size=hp.objs.size+3:=(Yx ..).trans (by rw[z2]);have g3:(h2.push {cls:=.type "tuple",data:=.seq #[.ref hp.objs.size,.ref (hp.objs.size+1)]}).get? h2.objs.size=some {cls:=.type "tuple",data:=.seq #[.ref hp.objs.size,.ref (hp.objs.size+1)]}:=XD _ rfl;have k3:∀c o,h2.get? c=some o->(h2.push {cls:=.type "tuple",data:=.seq #[.ref hp.objs.size,.ref (hp.objs.size+1)]}).get? c=some o:=λc o e=>Xq _ e;generalize h2.push {cls:=.type "tuple",data:=.seq #[.ref hp.objs.size,.ref (hp.objs.size+1)]}=h3 at z3 g3 k3 ⊢;rw[z2] at g3 ⊢;have z4:(h3.push {cls:=.type "tuple",data:=.seq #[.none,.none]}).objs.size=hp.objs.size+4:=(Yx ..).trans (by rw[z3]);have g4:(h3.push {cls:=.type "tuple",data:=.seq #[.none,.none]}).get? h3.objs.size=some {cls:=.type "tuple",data:=.seq #[.none,.none]}:=XD _ rfl;have k4:∀c o,h3.get? c=some o->(h3.push {cls:=.type "tuple",data:=.seq #[.none,.none]}).get? c=some o:=λc o e=>Xq _ e;generalize h3.push {cls:=.type "tuple",data:=.seq #[.none,.none]}=h4 at z4 g4 k4 ⊢;rw[z3] at g4 ⊢;have g5:∀o:Obj,o.isFreed=false->(h4.push o).get? (hp.objs.size+4)=some o:=λo f=>by rw[←z4];exact XD _ f
 rw[z4];have k5:∀c o u,h4.get? c=some o->(h4.push u).get? c=some o:=λc o u e=>Xq _ e;refine q _ ⟨g5 _ rfl,k5 _ _ _ (k4 _ _ g3),⟨_,_,k5 _ _ _ g4⟩,⟨⟨_,k5 _ _ _ (k4 _ _ (k3 _ _ (k2 _ _ g1))),rfl,rfl⟩,?_⟩,⟨⟨_,k5 _ _ _ (k4 _ _ (k3 _ _ g2)),rfl,rfl⟩,?_⟩,?_,?_,?_⟩ λc o e=>k5 _ _ _ (k4 _ _ (k3 _ _ (k2 _ _ (k1 _ _ e))))
 · obtain⟨o,e,r⟩:=ht;exact⟨o,k5 _ _ _ (k4 _ _ (k3 _ _ (k2 _ _ (k1 _ _ e)))),r⟩
 · exact hl.at λo e=>k5 _ _ _ (k4 _ _ (k3 _ _ (k2 _ _ (k1 _ _ e))))
 · refine⟨?_,?_,?_⟩ <;> simp only[Xr,Zb,or_false,not_or] <;> exact⟨by intro e;have e:(_:Nat)=_:=e;omega,by intro e;have e:(_:Nat)=_:=e;omega⟩
 · refine⟨?_,?_,?_⟩ <;> simp only[Xr,Zb,or_false,not_or] <;> exact⟨by intro e;have e:(_:Nat)=_:=e;omega,by intro e;have e:(_:Nat)=_:=e;omega⟩
 · refine⟨?_,?_,?_,?_,?_,?_,?_,?_,?_⟩ <;> intro e <;> have e:(_:Nat)=_:=e <;> omega
theorem E6 {t l:Addr}{xs ys:Array Value}{Q:aab}(ht:s.heap.IsTuple t xs)(hl:s.heap.IsList l ys)
  (q:∀h',Zt (s.heap.objs.size+4) (s.heap.objs.size+2) (s.heap.objs.size+3) s.heap.objs.size (s.heap.objs.size+1) t l xs ys .none 0 h'->(∀c o,s.heap.get? c=some o->h'.get? c=some o)->Q (.ref (s.heap.objs.size+4)) {s with heap:=h'}):wpAny (model P w) A (call (.type "zip") [.ref t,.ref l]) Q E s :=
 callType_new F.called_zip (by decide) (F.typeCall_zip_2 _ _) (F.newCall_zip_2 _ _) (λo=>F.args_object_init_3 o _ _) F.entry_zip_new (Ga t l xs ys) ⟨ht,hl,λh' Z k=>⟨⟨_,Z.zp,rfl⟩,q h' Z k⟩⟩
theorem sH {t l:Addr}{xs ys:Array Value}{k:Nat}{x y:Value}{Q:Option Value->Shared->Prop}(n1:t≠i1)(n2:l≠i2)(Z:Zt z TI TO i1 i2 t l xs ys .none k s.heap)(hx:xs[k]?=some x)(hy:ys[k]?=some y)
  (q:∀h',Zt z TI TO i1 i2 t l xs ys (rawInt s.heap.objs.size) (k+1) h'->IsPair h' s.heap.objs.size x y->(∀c o,c≠z->c≠TO->c≠i1->c≠i2->s.heap.get? c=some o->h'.get? c=some o)->Q (some (.ref s.heap.objs.size)) {s with heap:=h'}):wpAny (model P w) A (pyNext (.ref z)) Q E s:=by
 have ty:s.TypeIs (.ref z) "zip":=⟨_,Z.zp,rfl⟩;unfold pyNext;exact Xm (wpAny_attempt (YE (name:=Str.ofString "__next__") ty F.slot_zip_next (YK F.slot_zip_next ty F.entry_zip_next (E3 (yy n1) (yY n2) Z hx hy λh' a b c=>Xu (q h' a b c)) (F.args_zip_next_1 _))))
theorem uq {t l:Addr}{xs ys:Array Value}{k:Nat}{Q:Option Value->Shared->Prop}(hh:A.handled=none)(n1:t≠i1)(n2:l≠i2)(Z:Zt z TI TO i1 i2 t l xs ys .none k s.heap)(he:xs[k]?=none∨ys[k]?=none)
  (q:∀h',(∀c o,c≠z->c≠TO->c≠i1->c≠i2->s.heap.get? c=some o->h'.get? c=some o)->Q none {s with heap:=h'}):wpAny (model P w) A (pyNext (.ref z)) Q E s:=by
 have ty:s.TypeIs (.ref z) "zip":=⟨_,Z.zp,rfl⟩;unfold pyNext;refine Xm (wpAny_attempt (YE (name:=Str.ofString "__next__") ty F.slot_zip_next (YK F.slot_zip_next ty F.entry_zip_next (E4 hh (yy n1) (yY n2) Z he λh' e kp st=>?_) (F.args_zip_next_1 _))));obtain⟨o,e1,e2⟩:=st;exact Xm (wpAny_isInstance (T:="StopIteration") (b:=true) ⟨o,e1,e2⟩ isSubtype_stop (Xu (q _ kp)))
end
end BwX
namespace BwX
open PySem PyProof.Rows
section
variable {P:Program}{w:World}{A:Around}{E:aab}{s:Shared}
theorem Bm {S t:Addr} {Ly:Array Value} {ns:List Int} {R:Result->Shared->Prop} {led:Bool} (hh:A.handled=none) (ht:s.heap.IsTuple t Ly) (hi:IntsAre Ly.toList ns) (hb:Ly.size+1 < scanBound) (ne:t≠S)
  (hS:s.heap.get? S=some {cls:=.type "set",dict:=none,data:=.set #[] 0 (.fresh 0 0 led)})
  (q:∀(h':Heap) (tk:Nat),h'.SetOf (intKind P w) S (λk=>(firstMet (λi=>ns.getD i 0) Ly.size).any (·==k)) (firstMet (λi=>ns.getD i 0) Ly.size).length->(∀b o,b≠S->s.heap.get? b=some o->h'.get? b=some o)->R (.ok (.ret .none)) {s with heap:=h',toks:=tk}) :
  codeAny (model P w) A (.builtin "set.__init__" ⟨[.ref S,.ref t],[]⟩) R s:=by
 have ty:=ht.typeIs;have hT:s.TypeIs (.ref S) "set":=⟨_,hS,rfl⟩;have b1:=F.sub_tuple_set;have b2:=F.sub_tuple_frozenset;have pl:plainId "set.__init__"=true:=by decide +kernel
 refine codeAny_builtin F.entry_set_init ?_;rw[Around.under_plainId pl _];obtain⟨hp,ga,d,tk,os⟩:=s;have t0:(Shared.heap ⟨hp,ga,d,tk,os⟩).IsTuple t Ly:=ht
 wp_walk using wpAny_pyIter_tuple t0
 have lt:t < hp.objs.size:=by obtain⟨_,e,_⟩:=ht;exact XA e
 have lS:S < hp.objs.size:=XA hS;have VO:A.in1.in1.handled=none:=by simp[hh]
 refine codeAny_set_update_loopS ((Walks.tuple VO hp.objs.size t (X1 lt) Ly).toS) S (by simp only[Xr,Zb,or_false,not_or];exact⟨X1 lS,ne.symm⟩) (λi=>ns.getD i 0) (λi v hv=>IntsAre.int_at hi i v (by rw[Array.getElem?_toList];exact hv)) hb Ly.size 0 _ (by omega) (XW _) ?_ ?_ ?_
 · exact⟨⟨_,XD _ rfl,rfl,rfl⟩,ht.push _⟩
 · exact SetOf_congr ((setObjOf_fresh led).setOf (Xq _ hS) (by decide)) (λ_=>rfl) rfl
 · rintro⟨h',g',d',Mt,QO⟩ mv hq;obtain rfl:g'=ga:=mv.gens;obtain rfl:d'=d:=mv.drawn;obtain rfl:QO=os:=mv.os
   wp_walk
   refine q h' Mt hq λb o n e=>mv.heap b o ?_ (Xq _ e);simp only[Xr,Zb,or_false,not_or];exact⟨n,X1 (XA e)⟩
def HV (o:Obj):Prop:=∃led:Bool,o={cls:=.type "set",dict:=none,data:=.set #[] 0 (.fresh 0 0 led)}
theorem zx {t:Addr}{Ly:Array Value}{ns:List Int}{Q:aab}(hh:A.handled=none)(ht:s.heap.IsTuple t Ly)(hi:IntsAre Ly.toList ns)(hb:Ly.size+1 < scanBound)
  (q:∀(h':Heap) (tk:Nat),h'.SetOf (intKind P w) s.heap.objs.size (λk=>(firstMet (λi=>ns.getD i 0) Ly.size).any (·==k)) (firstMet (λi=>ns.getD i 0) Ly.size).length->(∀b o,s.heap.get? b=some o->h'.get? b=some o)->Q (.ref s.heap.objs.size) {s with heap:=h',toks:=tk}) :
  wpAny (model P w) A (call (.type "set") [.ref t]) Q E s:=by
 have c1:=ZN.notType;have c2:=ZN.canCreate;have c3:=ZN.made;have c4:=ZN.sub;have c5:=F.typeCall_set_1 (.ref t);obtain⟨_,_,c6⟩:=ZN.mro;refine wpAny_call (codeAny_of_tree (Xu ⟨Code.quiet_builtin _ (by decide +kernel),codeAny_builtin F.entry_type_call ?_⟩));rw[Around.under_plain (weight_type_call_type "set" [.ref t] []) rfl]
 wp_walk
 refine Z1 (code_set_new_1 (.ref t) (E:=E) (Q₁:=λv s1=>∃g o,v=.ref s.heap.objs.size/\s1={s with heap:=g}/\g.get? s.heap.objs.size=some o/\HV o/\∀b u,s.heap.get? b=some u->g.get? b=some u) λled=>⟨_,_,rfl,rfl,XD _ rfl,⟨led,rfl⟩,λb u e=>Xq _ e⟩) λr s1 z=>?_
 match r,z with
 |.error e,z=>exact z
 |.ok (.ret v),z =>
  obtain⟨g,_,rfl,rfl,PQ,⟨led,rfl⟩,kept⟩:=z;have ty:Shared.TypeIs {s with heap:=g} (.ref s.heap.objs.size) "set":=⟨_,PQ,rfl⟩;have c7:=ZN.init.lookup;have c8:=ZN.init.bind (.ref s.heap.objs.size)
  wp_walk
  have there:g.IsTuple t Ly:=ht.at λo e=>kept t o e;have apart:t≠s.heap.objs.size:=by obtain⟨_,e,_⟩:=ht;exact X1 (XA e)
  refine codeAny_call_builtin_code (plainId_quiet (by decide +kernel) _) (check_set_init_1 ty (Bm (A:=A.in1) (ns:=ns) (by simp[hh]) there hi hb apart PQ λh' tk hq kp=>?_))
  wp_walk
  exact q h' tk hq λb o e=>kp b o (X1 (XA e)) (kept b o e)
end
end BwX
namespace L2
open PySem PySem.Spec PyProof.Rows
section
variable {P:Program}{w:World}{K:aaa}{mg:aac}{base:Heap}{x qual:Str}{st:Stmt}{f C:Addr}{fd:FuncData}{N ps:List Str}{k:Nat}{sp:Sp}
theorem de.oa (F:de K x qual st f fd) (S:aG N ps (aw st))
  (LF:∀(Lz:Value) (A:Around) (outer:List Env) (s:Shared) (H:Hp) (vs:List V) (Q:VK) (E:XK),cK k (A.deeper (envOfC qual (aw st) s.heap.objs.size f Lz))->sp vs H Q E ->
   ∃t,qT (ni bE P w K mg base N qual (aw st) f Lz A outer s H E).He (b6 st) t/\t {nx:=λ_ H'=>Q .cf H',rt:=Q} (start N vs) H)
  (len:∀vs H Q E,sp vs H Q E->vs.length=ps.length:=by intro _ _ _ _ h;repeat (first|(obtain⟨rfl,_⟩:=h;exact rfl)|obtain⟨_,h⟩:=h)):a8 P w K mg base bE (k+1) f fd ps sp:=F.ok S len LF
theorem de.lU (F:de K x qual st f fd)(S:aG N ps (aw st))
  (LF:∀(Lz:Value) (A:Around) (outer:List Env) (s:Shared) (H:Hp) (vs:List V) (Q:VK) (E:XK),cK k (A.deeper (envOfC qual (aw st) s.heap.objs.size f Lz))->sp vs H Q E ->
   ∃t,qT (K6 C P w K mg base N qual (aw st) f Lz A outer s H E) (b6 st) t/\t {nx:=λ_ H'=>Q .cf H',rt:=Q} (start N vs) H)
  (len:∀vs H Q E,sp vs H Q E->vs.length=ps.length:=by intro _ _ _ _ h;repeat (first|(obtain⟨rfl,_⟩:=h;exact rfl)|obtain⟨_,h⟩:=h)):a8 P w K mg base (eW P w C) (k+1) f fd ps sp:=F.Lw S len LF
end
end L2
namespace Bw
open PySem PySem.Spec PyProof.Rows L2
section
variable {X:Cx}{x:Str}{e:Expr}{te:TE}{p pos pos':Pos}
theorem a7 (i:Nat) (hN:X.N.Nodup) (he:PE X e te) (hi:X.N[i]?=some x:=by rfl) (hx:Loc X.env.scope x:=by exact Or.inl rfl) (hs:swapsWith e (some (.Name x pos')) pos.line X.env=pure false:=by rfl) (hf:X.fn x=true∨X.env.scope.names.lookup x=some .local:=by first|exact .inl rfl|exact .inr rfl):PS X (.Assign [.Name x pos'] e pos) (An te (fH i)):=oV hN hi hx he hs hf
theorem bp (i:Nat)(hN:X.N.Nodup)(hi:X.N[i]?=some x:=by rfl)(hx:Loc X.env.scope x:=by exact Or.inl rfl)(hf:X.fn x=true∨X.env.scope.names.lookup x=some .local:=by first|exact .inl rfl|exact .inr rfl):PG X (.Name x pos) (fH i):=uj hN hi hx hf
theorem bg (hm:X.mg "len"=none)(h:PE X e te)(hg:Gl X "len":=by rfl)(he:starEach [e] X.env=(false,eval e X.env)::starEach [] X.env:=by rfl):PE X (.Call (.Name "len" p) [e] [] pos) (GF (λxs H Q=>∃p ys,xs=[.ref p]/\(aQ X.K H p ys∨b7 X.K H p ys)/\Q (.int ys.length) H) (cM te eV)):=bY uA hg hm PySem.boot_len (aa h ah (hs:=he)) (he:=he)
end
theorem Ld {p:aae->Prop}(h:p [])(us:aae)(e:us.length=0):p us:=by
 cases us with
 |nil=>exact h
 |cons a us=>cases e
theorem JR {p:aae->Prop}(h:∀a,p [a])(us:aae)(e:us.length=1):p us:=by
 cases us with
 |nil=>cases e
 |cons a us=>exact Ld (p:=λus=>p (a::us)) (h a) us (Nat.succ.inj e)
theorem IJ {p:aae->Prop}(h:∀a b,p [a,b])(us:aae)(e:us.length=2):p us:=by
 cases us with
 |nil=>cases e
 |cons a us=>exact JR (p:=λus=>p (a::us)) (h a) us (Nat.succ.inj e)
theorem IQ {p:aae->Prop}(h:∀a b c,p [a,b,c])(us:aae)(e:us.length=3):p us:=by
 cases us with
 |nil=>cases e
 |cons a us=>exact IJ (p:=λus=>p (a::us)) (h a) us (Nat.succ.inj e)
theorem JV {p:aae->Prop}(h:∀a b c d,p [a,b,c,d])(us:aae)(e:us.length=4):p us:=by
 cases us with
 |nil=>cases e
 |cons a us=>exact IQ (p:=λus=>p (a::us)) (h a) us (Nat.succ.inj e)
theorem JT {p:aae->Prop}(h:∀a b c d e,p [a,b,c,d,e])(us:aae)(e:us.length=5):p us:=by
 cases us with
 |nil=>cases e
 |cons a us=>exact JV (p:=λus=>p (a::us)) (h a) us (Nat.succ.inj e)
theorem Ll {p:aae->Prop}(h:∀a b c d e f,p [a,b,c,d,e,f])(us:aae)(e:us.length=6):p us:=by
 cases us with
 |nil=>cases e
 |cons a us=>exact JT (p:=λus=>p (a::us)) (h a) us (Nat.succ.inj e)
theorem J_ {p:aae->Prop}(h:∀a b c d e f g,p [a,b,c,d,e,f,g])(us:aae)(e:us.length=7):p us:=by
 cases us with
 |nil=>cases e
 |cons a us=>exact Ll (p:=λus=>p (a::us)) (h a) us (Nat.succ.inj e)
def Fn (P:Program)(w:World)(K:aaa)(mg:aac)(base:Heap)(CX:lO)(k:Nat)(x:Str)(ps:List Str)(sp:Sp):Prop :=
 ∃(f:Addr) (fd:FuncData),mg x=some (.ref f)/\PySem.W.keepIn K (.ref f)=true/\Binds K fd ps []/\a8 P w K mg base CX k f fd ps sp
def g_ (K:aaa)(mg:aac)(x:Str)(st:Stmt):Prop:=∃(f:Addr) (fd:FuncData),mg x=some (.ref f)/\de K x x st f fd
section
variable {X:Cx}{CX:lO}{k:Nat}{x:Str}{ps:List Str}{sp:Sp}{E:XK}{p pos:Pos}{e:Expr}{es:List Expr}{t:TA}
theorem aS (F:Fn X.prog X.w X.K X.mg X.base CX k x ps sp) (hr:cK k X.A) (hx:Passes CX X E) (ha:PA X (e::es) t) (hg:Gl X x:=by rfl) (Me:(x==("__debug__":Str))=false:=by decide) (he:starEach (e::es) X.env=(false,eval e X.env)::starEach es X.env:=by rfl) (LH:(backTo pos (starEach es X.env)).any (·.1)=false:=by rfl) :
  PE X (.Call (.Name x p) (e::es) [] pos) (nE sp [] E t):=by
 obtain⟨f,fd,hm,hk,hb,F⟩:=F;exact C7 F hr hg hm hk hb .nil hx ha Me he LH
end
section
variable {P:Program}{w:World}{K:aaa}{mg:aac}{base:Heap}
theorem g_.mk {CX:lO} {x:Str} {st:Stmt} {ps:List Str} {k:Nat} {sp:Sp} (D:g_ K mg x st)
  (ok:∀f fd,de K x x st f fd->a8 P w K mg base CX k f fd ps sp) (hb:∀(kV doc pm:Value) (an:Option Addr) (Lz ct:Value) (us:aae),us.length=ps.length->bindArgs (PySem.W.fnOf x x (cU st) (b6 st) (aw st) .none kV doc pm an Lz ct) ⟨us,[]⟩=pure (ps.zip us):=by intro _ _ _ _ _ _;first|exact JR (λ_=>rfl)|exact IJ (λ_ _=>rfl)|exact IQ (λ_ _ _=>rfl)|exact JV (λ_ _ _ _=>rfl)|exact JT (λ_ _ _ _ _=>rfl)|exact J_ (λ_ _ _ _ _ _ _=>rfl)):Fn P w K mg base CX k x ps sp:=by
 obtain⟨f,fd,hm,F⟩:=D;exact⟨f,fd,hm,F.kp,F.binds hb,ok f fd F⟩
theorem Fn.mono {CX:lO}{x:Str}{ps:List Str}{j k:Nat}{sp:Sp}(F:Fn P w K mg base CX j x ps sp)(h:j<=k):Fn P w K mg base CX k x ps sp:=by
 obtain⟨f,fd,hm,hk,hb,F⟩:=F;exact⟨f,fd,hm,hk,hb,F.mono h⟩
end
def st (w:W):Str:=⟨w.toArray⟩
theorem pG (w:W):TL.tl (st w)=w:=rfl
theorem b8 (w:W):(st w).length=w.length:=by rw[TL.lH,pG]
theorem jB {v w:W}:st v=st w↔v=w:=⟨λh=>by have:=Yv TL.tl h;exact this,λh=>by rw[h]⟩
theorem kO {s:String}:Str.ofString s=st (cd s):=TL.wF (by rw[TL.gP,pG];rfl)
def Gv (mg:aac)(x:Str)(v:V):Prop:=∃u,mg x=some u/\RelV v u
theorem bb {X:Cx}{x:Str}{v:V}{pos:Pos}(h:Gv X.mg x v)(hg:Gl X x:=by rfl)(hd:(x==("__debug__":Str))=false:=by decide):PE X (.Name x pos) (tC v):=by
 obtain⟨u,hm,r⟩:=h;exact DD hg hm r hd
theorem fs {N P:List Str}{sc:Scope}(a:sc.kind=.function:=by rfl)(b:sc.isCoroutine=false:=by rfl)(c:sc.isGenerator=false:=by rfl)(d:N.Nodup:=by decide +kernel)(e:N.take P.length=P:=by rfl)(f:∀x∈P,sc.names.lookup x=some .local∨sc.names.lookup x=some .cell:=by decide +kernel)(g:∀y∈sc.names,y.2≠.free:=by decide +kernel):aG N P sc:=⟨a,b,c,d,e,f,g⟩
end Bw
namespace L2
open PySem PySem.Spec PyProof.Rows
def Ev (t:TE)(σ:St)(H:Hp)(v:V):Prop:=∀R:VK,R v H->t σ H R
def Tv (t:TT)(σ:St)(H:Hp)(b:Bool):Prop:=∀R:Bool->Hp->Prop,R b H->t σ H R
section
variable {σ:St}{H:Hp}{ta tb tc te:TE}{t u:TT}{x y v:V}{i j k:Int}{b c:Bool}{K:aaa}{a p:Addr}{xs ys:List V}
theorem ag {n:Nat} (h:σ[n]?=some (some v)):Ev (cH n) σ H v:=λ_ r=>⟨v,h,r⟩
theorem aC:Ev (tC v) σ H v:=λ_ r=>r
theorem mn {f:Int->Int->V}(ha:Ev ta σ H (.int i))(hb:Ev tb σ H (.int j)):Ev (kI (qI f) ta tb) σ H (f i j):=λ_ r=>ha _ (hb _ ⟨i,j,rfl,rfl,r⟩)
theorem yV {C:Int->Int->Prop}{f:Int->Int->V}(ha:Ev ta σ H (.int i))(hb:Ev tb σ H (.int j))(h:C i j):Ev (kI (rI C f) ta tb) σ H (f i j):=λ_ r=>ha _ (hb _ ⟨i,j,rfl,rfl,h,r⟩)
theorem b9 (ha:Ev ta σ H x)(hb:Ev tb σ H y)(s:EU x y=true:=by rfl):Ev (kI JZ ta tb) σ H (.bl (decide (x=y))):=λ_ r=>ha _ (hb _ ⟨s,r⟩)
theorem oT (ha:Ev ta σ H x)(hb:Ev tb σ H y)(s:EU x y=true:=by rfl):Ev (kI K8 ta tb) σ H (.bl (!decide (x=y))):=λ_ r=>ha _ (hb _ ⟨s,r⟩)
theorem tX (ha:Ev ta σ H x):Ev (kI (λx y H Q=>y=.cf/\Q (.bl (decide (x=.cf))) H) ta (tC .cf)) σ H (.bl (decide (x=.cf))):=λ_ r=>ha _ ⟨rfl,r⟩
theorem Cy {n:Nat}{z:Str}(ha:Ev ta σ H (.str ⟨#[n]⟩))(hb:Ev tb σ H (.str z)):Ev (kI (λx y H Q=>∃(c:Nat) (z:Str),x=.str ⟨#[c]⟩/\y=.str z/\Q (.bl (decide (c∈z.cps.toList))) H) ta tb) σ H (.bl (decide (n∈z.cps.toList))):=λ_ r=>ha _ (hb _ ⟨n,z,rfl,rfl,r⟩)
theorem Dd {n:Nat}{z:Str}(ha:Ev ta σ H (.str ⟨#[n]⟩))(hb:Ev tb σ H (.str z)):Ev (kI (λx y H Q=>∃(c:Nat) (z:Str),x=.str ⟨#[c]⟩/\y=.str z/\Q (.bl (!decide (c∈z.cps.toList))) H) ta tb) σ H (.bl (!decide (n∈z.cps.toList))):=λ_ r=>ha _ (hb _ ⟨n,z,rfl,rfl,r⟩)
theorem mK {neg:Bool}(ha:Ev ta σ H x)(hb:Ev tb σ H (.ref p))(s:aQ K H p xs∨b7 K H p xs)(f:dJ x=true)(fs:xs.all dJ=true):Ev (kI (G2 K neg) ta tb) σ H (.bl (if neg then !oh x xs else oh x xs)):=λ_ r=>ha _ (hb _ ⟨p,xs,rfl,s,f,fs,r⟩)
theorem tj {z:Str}{n:Nat}(ha:Ev ta σ H (.str z))(hb:Ev tb σ H (.int i))(hz:z.length<=sizeLine)(e:nW z.cps.toList i=some n):Ev (kI Jt ta tb) σ H (.str ⟨#[n]⟩):=λ_ r=>ha _ (hb _ ⟨z,i,n,rfl,rfl,hz,e,r⟩)
theorem a6 (ha:Ev ta σ H (.ref p))(hb:Ev tb σ H (.int i))(s:aQ K H p xs)(e:nW xs i=some v):Ev (kI (zm K) ta tb) σ H v:=λ_ r=>ha _ (hb _ ⟨p,xs,i,v,rfl,rfl,s,e,r⟩)
theorem Ba (ha:Ev ta σ H (.ref p))(hb:Ev tb σ H (.int i))(s:b7 K H p xs)(e:nW xs i=some v):Ev (kI (Jz K) ta tb) σ H v:=λ_ r=>ha _ (hb _ ⟨p,xs,i,v,rfl,rfl,s,e,r⟩)
theorem bf {C dx:Addr}{fs:List (Str×V)}{f:Str}(ha:Ev ta σ H (.ref a))(e:H a=some (.ins C dx fs))(c:yj K C)(n:hU K C f)(l:fs.lookup f=some v):Ev (vJ K ta f) σ H v:=λ_ r=>ha _ ⟨a,C,dx,fs,v,rfl,e,c,n,l,r⟩
theorem aU (ha:Ev ta σ H (.ref p))(s:aQ K H p xs∨b7 K H p xs):Ev (GF (λxs H Q=>∃p ys,xs=[.ref p]/\(aQ K H p ys∨b7 K H p ys)/\Q (.int ys.length) H) (cM ta eV)) σ H (.int xs.length):=λ_ r=>ha _ ⟨p,xs,rfl,s,r⟩
theorem sO {z:Str}(ha:Ev ta σ H (.str z))(hz:z.length<=sizeLine):Ev (GF (λxs H Q=>∃z,xs=[.str z]/\z.length<=sizeLine/\Q (.int z.length) H) (cM ta eV)) σ H (.int z.length):=λ_ r=>ha _ ⟨z,rfl,hz,r⟩
theorem Ii (ha:Ev ta σ H (.bl b))(hb:b=false->Ev tb σ H (.bl c)):Ev (Im ta tb) σ H (.bl (b||c)):=λR r=>ha _ ⟨b,rfl,by
 cases b with
 |false=>exact vg (hb rfl _ r)
 |true=>exact oN r⟩
theorem aI (h:Ev te σ H (.bl b)):Tv (oO te) σ H b:=λ_ r=>h _ ⟨b,rfl,r⟩
theorem Kp (h:Ev te σ H (.bl b)):Tv (tB te) σ H b:=λ_ r=>h _ ⟨b,rfl,r⟩
theorem AW {p q:Int->Int->Bool}(ha:Ev ta σ H (.int i))(hb:Ev tb σ H (.int j))(hc:Ev tc σ H (.int k)):Ev (wD (qI λi j=>.bl (p i j)) (qI λi j=>.bl (q i j)) ta tb tc) σ H (.bl (p i j&&q j k)):=λR r=>ha _ (hb _ ⟨i,j,rfl,rfl,p i j,rfl,by
 cases h:p i j with
 |false=>rw[h] at r;exact vg r
 |true=>rw[h] at r;exact oN (hc _ ⟨j,k,rfl,rfl,r⟩)⟩)
theorem cy {p q:Int->Int->Bool}(ha:Ev ta σ H (.int i))(hb:Ev tb σ H (.int j))(hc:Ev tc σ H (.int k)):Tv (oO (wD (qI λi j=>.bl (p i j)) (qI λi j=>.bl (q i j)) ta tb tc)) σ H (p i j&&q j k):=aI (AW ha hb hc)
theorem jE {p:Int->Int->Bool}(ha:Ev ta σ H (.int i))(hb:Ev tb σ H (.int j)):Tv (oO (kI (qI λi j=>.bl (p i j)) ta tb)) σ H (p i j):=λ_ r=>ha _ (hb _ ⟨i,j,rfl,rfl,_,rfl,r⟩)
theorem e_ (h:Tv t σ H b):Tv (Ig t) σ H (!b):=λ_ r=>h _ r
theorem qr (h:Tv t σ H b)(h2:b=true->Tv u σ H c):Tv (Iw t u) σ H (b&&c):=λR r=>h _ (by
 cases b with
 |false=>exact vg r
 |true=>exact oN (h2 rfl _ r))
theorem gN (h:Tv t σ H b)(h2:b=false->Tv u σ H c):Tv (K1 t u) σ H (b||c):=λR r=>h _ (by
 cases b with
 |false=>exact vg (h2 rfl _ r)
 |true=>exact oN r)
theorem uw (ha:Ev ta σ H (.int i)):Ev (K0 (rU λi=>.int (-i)) ta) σ H (.int (-i)):=λ_ r=>ha _ ⟨i,rfl,r⟩
theorem IM {z:Str}{r:V->List V->Hp->VK->Prop}(ha:Ev ta σ H (.str z))(h:∀R,R v H->r (.str z) [] H R):Ev (K7 r ta) σ H v:=λR q=>ha _ ⟨⟨z,rfl⟩,h R q⟩
theorem aR {D:Ends}{s1 s2:TS}(h:Tv t σ H b)(q1:b=true->s1 D σ H)(q2:b=false->s2 D σ H):JK t s1 s2 D σ H:=h _ (by
 cases b with
 |false=>exact vg (q2 rfl)
 |true=>exact oN (q1 rfl))
theorem bS {D:Ends}(h:Ev te σ H v)(q:D.rt v H):ET te D σ H:=h _ q
theorem cE {D:Ends}{n:Nat}(h:Ev te σ H v)(q:D.nx (σ.set n (some v)) H):An te (fH n) D σ H:=h _ q
theorem Hj {D:Ends}{s1 s2:TS}(q:s1 {D with nx:=s2 D} σ H):G_ s1 s2 D σ H:=q
end
theorem au.laid {H H':Hp}{p:Addr}{o:HO}(e:au H H')(h:H p=none):au H (upd H' p o):=λb u q=>by
 rw[aq (ao q h)];exact e b u q
section
variable {σ:St}{H:Hp}{ta tb tc:TE}{i j c:Int}
theorem y4 {n:Nat} {R:It->Hp->Prop} (ha:Ev ta σ H (.int i)) (hb:Ev tb σ H (.int j)) (hc:Ev tc σ H (.int c)) (rg:JJ i j c n) (q:R (HZ i c n) H):Fi (cM ta (cM tb (cM tc eV))) σ H R:=ha _ (hb _ (hc _ ⟨i,j,c,n,rfl,rg,q⟩))
theorem y_ {R:It->Hp->Prop}(ha:Ev ta σ H (.int i))(hb:Ev tb σ H (.int j))(rg:-(2 ^ 62)<=i/\i < 2 ^ 62/\-(2 ^ 62)<=j/\j < 2 ^ 62)(q:R (Az i (j - i).toNat) H):Fq (cM ta (cM tb eV)) σ H R:=ha _ (hb _ ⟨i,j,rfl,rg,q⟩)
theorem sY {R:It->Hp->Prop}(ha:Ev ta σ H (.int j))(h1:-(2 ^ 62)<=j)(h2:j < 2 ^ 62)(q:R (Az 0 j.toNat) H):AO (cM ta eV) σ H R:=ha _ ⟨j,rfl,h1,h2,q⟩
theorem pP {wi:TI}{g:TG}{tb:TS}{D:Ends}(h:wi σ H λJ H1=>∃W:Nat->Nat->St->Hp->Prop,(∃m,W 0 m σ H1)/\∀i m σ H,W i m σ H ->
  (J.stop i H/\D.nx σ H)∨(J.go i H/\∃N:St->Hp->Prop,(∀σ' H',N σ' H'->∃m',m' < m/\W (i+1) m' σ' H')/\∀x H',J.vZ i H x H'->g x σ H' λσ2 H2=>tb {D with nx:=N,ct:=N,bk:=D.nx} σ2 H2)):Hh wi g tb D σ H:=h
end
theorem GH {z:Str}{g:TG}{tt:TT}{te:TE}{vs:Z_}{σ:St}{H1:Hp}{D:Addr}{Qd:Hp->Prop}(Pv:Nat->Hp->Prop)(h0:Pv 0 (upd H1 D (.lst [])))
  (hs:∀i c H,z.cps.toList[i]?=some c->Pv i H->g (.str ⟨#[c]⟩) (wipe σ vs) H λσ2 H2=>wipe σ2 vs=wipe σ vs/\tt σ2 H2 λb H3 =>
   if b=true then te σ2 H3 λy H4=>∃acc,H4 D=some (.lst acc)/\acc.length < sizeLine/\Pv (i+1) (upd H4 D (.lst (acc++[y]))) else Pv (i+1) H3) (hd:∀H,Pv z.cps.toList.length H->Qd H) :
  ∃W:Nat->Nat->Hp->Prop,(∃m,W 0 m (upd H1 D (.lst [])))/\∀i m H,W i m H ->
   ((Iz z).stop i H/\Qd H)∨((Iz z).go i H/\∃Nx:Hp->Prop,(∀H',Nx H'->∃m',m' < m/\W (i+1) m' H')/\∀x H',(Iz z).vZ i H x H'->g x (wipe σ vs) H' λσ2 H2=>wipe σ2 vs=wipe σ vs/\tt σ2 H2 λb H3 =>
    if b=true then te σ2 H3 λy H4=>∃acc,H4 D=some (.lst acc)/\acc.length < sizeLine/\Nx (upd H4 D (.lst (acc++[y]))) else Nx H3):=by
 have sz:z.cps.toList.length=z.cps.size:=Y_;refine⟨λi m H=>m=z.cps.size - i/\i<=z.cps.size/\Pv i H,⟨z.cps.size,by simp,XW _,h0⟩,?_⟩;rintro i m H ⟨rfl,hi,p⟩;by_cases LC:i < z.cps.size
 · refine .inr ⟨LC,Pv (i+1),λH' p'=>⟨z.cps.size - (i+1),by omega,rfl,LC,p'⟩,λx H' y=>?_⟩;obtain⟨e,c,hc,rfl⟩:=y;subst e;exact hs i c _ (by rw[Array.getElem?_toList];exact hc) p
 · have e:i=z.cps.size:=by omega
   subst e;exact .inl ⟨Xx _,hd H (by rw[sz];exact p)⟩
end L2
namespace Bw
open PySem PySem.Spec PyProof.Rows L2
abbrev zy:Str:=Str.ofString "abcdefghijklmnopqrstuvwxyz"
abbrev zM:Str:=Str.ofString "0123456789"
structure GW (mg:aac):Prop where
 ur:Gv mg "LETTERS" (.str zy)
 digits:Gv mg "DIGITS" (.str zM)
 most:Gv mg "MOST_NAME" (.int 12)
 Jy:Gv mg "MOST_DIGITS" (.int 7)
 len:mg "len"=none
 all:mg "all"=none
 int:mg "int"=none
theorem BP:TL.tl zy=(List.range 26).map (·+97):=by rw[TL.gP];decide +kernel
theorem A0:TL.tl zM=(List.range 10).map (·+48):=by rw[TL.gP];decide +kernel
theorem G7 {c:Nat}(h1:97<=c)(h2:c<=122):nW (zy.cps.toList) ((c:Int) - 97)=some c:=by
 have e:((c:Int) - 97)=((c - 97:Nat):Int):=by omega
 rw[e];refine cw ?_;have q:zy.cps.toList=(List.range 26).map (·+97):=BP;rw[q,Xs,Y9 (by omega)];simp;omega
theorem HB {c:Nat}(h1:48<=c)(h2:c<=57):nW (zM.cps.toList) ((c:Int) - 48)=some c:=by
 have e:((c:Int) - 48)=((c - 48:Nat):Int):=by omega
 rw[e];refine cw ?_;have q:zM.cps.toList=(List.range 10).map (·+48):=A0;rw[q,Xs,Y9 (by omega)];simp;omega
theorem xZ (c:Nat):decide (c∈zy.cps.toList)=isLet c:=by
 have q:zy.cps.toList=(List.range 26).map (·+97):=BP;rw[q,X3];unfold isLet;simp only[Xw,Xv,XY,Zc];constructor
 · rintro⟨x,hx,rfl⟩;omega
 · rintro⟨h1,h2⟩;exact⟨c - 97,by omega,by omega⟩
theorem Hz (c:Nat):decide (c∈zM.cps.toList)=bW c:=by
 have q:zM.cps.toList=(List.range 10).map (·+48):=A0;rw[q,X3];unfold bW;simp only[Xw,Xv,XY,Zc];constructor
 · rintro⟨x,hx,rfl⟩;omega
 · rintro⟨h1,h2⟩;exact⟨c - 48,by omega,by omega⟩
def Ce:Sp:=λvs H Q _=>∃c:Nat,vs=[.int c]/\Q (.str (st [sg c])) H
theorem Ei {c:Nat}(h:97<=c/\c<=122):sg c=c:=by unfold sg tm isLet;simp[h]
theorem Ez {c:Nat}(h:48<=c/\c<=57):sg c=c:=by unfold sg tm bW;simp[h]
theorem IS {c:Nat}(h1:¬(97<=c/\c<=122))(h2:¬(48<=c/\c<=57))(h3:c≠32)(h4:c≠10)(h5:c≠44)(h6:c≠47):sg c=63:=by
 unfold sg tm isLet bW;have e1:(decide (97<=c)&&decide (c<=122))=false:=by simp;omega
 have e2:(decide (48<=c)&&decide (c<=57))=false:=by simp;omega
 rw[e1,e2];simp[h3,h4,h5,h6]
section
variable {P:Program}{w:World}{K:aaa}{mg:aac}{base:Heap}
theorem EX:aG ["code"] ["code"] (aw j8):=fs
theorem Dr (G:GW mg){f:Addr}{fd:FuncData}(F:de K "sign_of" "sign_of" j8 f fd):a8 P w K mg base bE 1 f fd ["code"] Ce:=by
 refine F.ok EX (λvs H Q E h=>?_) (λLz A outer s H vs Q E hr h=>?_)
 · obtain⟨c,rfl,_⟩:=h;rfl
 · obtain⟨c,rfl,q⟩:=h;refine⟨_,af (aO (cA cb cb ax (pv 0) ax) (ak (az (bo sL (bb G.ur) (bG fE (pv 0) ax) (λ_ _=>rfl)))) aA)
    (af (aO (cA cb cb ax (pv 0) ax) (ak (az (bo sL (bb G.digits) (bG fE (pv 0) ax) (λ_ _=>rfl)))) aA)
    (af (aO (aB ck (pv 0) ax (aJ _)) (ak (az bt)) aA)
    (af (aO (aB ck (pv 0) ax (aJ _)) (ak (az bt)) aA)
    (af (aO (aB ck (pv 0) ax (aJ _)) (ak (az bt)) aA)
    (af (aO (aB ck (pv 0) ax (aJ _)) (ak (az bt)) aA)
    (ak (az bt))))))),?_⟩
   refine aR (cy aC (ag rfl) aC) (λh=>?_) (λh1=>?_)
   · simp only[Xv,Xw] at h;refine bS (tj aC (mn (ag rfl) aC) (by decide +kernel) (G7 (c:=c) (by omega) (by omega))) ?_;rw[Ei (by omega)] at q;exact q
   refine aR (cy aC (ag rfl) aC) (λh=>?_) (λh2=>?_)
   · simp only[Xv,Xw] at h;refine bS (tj aC (mn (ag rfl) aC) (by decide +kernel) (HB (c:=c) (by omega) (by omega))) ?_;rw[Ez (by omega)] at q;exact q
   have step:∀(n:Nat) (b:Bool),b=decide (V.int (c:Int)=V.int (n:Int))->(b=true->c=n)/\(b=false->c≠n):=λn b e=>by
    rw[aX] at e;subst e;constructor
    · intro z;have:=YT z;omega
    · intro z z2;subst z2;simp at z
   refine aR (aI (b9 (ag rfl) aC)) (λh=>?_) (λh3=>?_)
   · have e:=(step 32 _ rfl).1 h;subst e;exact bS aC q
   refine aR (aI (b9 (ag rfl) aC)) (λh=>?_) (λh4=>?_)
   · have e:=(step 10 _ rfl).1 h;subst e;exact bS aC q
   refine aR (aI (b9 (ag rfl) aC)) (λh=>?_) (λh5=>?_)
   · have e:=(step 44 _ rfl).1 h;subst e;exact bS aC q
   refine aR (aI (b9 (ag rfl) aC)) (λh=>?_) (λh6=>?_)
   · have e:=(step 47 _ rfl).1 h;subst e;exact bS aC q
   rw[IS (λz=>by simp at h1;omega) (λz=>by simp at h2;omega) ((step 32 _ rfl).2 h3) ((step 10 _ rfl).2 h4) ((step 44 _ rfl).2 h5) ((step 47 _ rfl).2 h6)] at q;exact q
def sQ (K:aaa):Sp:=λvs H Q _=>∃(a:Addr) (cs:Z_),vs=[.ref a]/\aQ K H a (cs.map λc=>V.int (c:Nat))/\cs.length<=70000/\∀H',au H H'->Q (.str (st (cs.map sg))) H'
theorem take_snoc {α:Type}{l:List α}{i:Nat}{x:α}(h:l[i]?=some x):l.take (i+1)=l.take i++[x]:=by
 rw[List.take_add_one,h];rfl
theorem xw (l:Z_):Txt.join (Str.ofString "") (l.map λc=>st [c])=st l:=by
 rw[TL.join_eq];refine TL.wF ?_;rw[TL.yQ,TL.gP,pG];show TL.dI [] ((l.map λc=>st [c]).map TL.tl)=l;rw[XR]
 induction l with
 |nil=>rfl
 |cons c l ih =>
  cases l with
  |nil=>rfl
  |cons d l =>
   have ih:TL.dI [] ((d::l).map (TL.tl ∘ λc=>st [c]))=d::l:=ih;show [c]++([]++TL.dI [] ((d::l).map (TL.tl ∘ λc=>st [c])))=c::d::l;rw[ih];rfl
theorem tY:aG ["codes","code"] ["codes"] (aw j3):=fs
theorem EN {k:Nat}(FS:Fn P w K mg base bE k "sign_of" ["code"] Ce){f:Addr}{fd:FuncData}(F:de K "text_of" "text_of" j3 f fd):a8 P w K mg base bE (k+1) f fd ["codes"] (sQ K):=by
 refine F.ok tY (λvs H Q E h=>?_) (λLz A outer s H vs Q E hr h=>?_)
 · obtain⟨a,cs,rfl,_⟩:=h;rfl
 · obtain⟨a,cs,rfl,hS,hl,q⟩:=h;refine⟨_,ak (az (Dl bt (fA rfl tY.nd (bH (pv 0)) (bz (own:=[("code",1)]) rfl) (λ_ _ _ _ _=>bp 1 tY.nd) (λ_ _ _ _ _=>cq)
    (λ_ _ _ _ _=>aS FS hr a_ (aa (pv 1) ah))))),?_⟩
   refine⟨⟨_,rfl⟩,_,rfl,a,rfl,⟨_,hS⟩,λD hD=>jf (K:=K) (a:=a) (xs:=cs.map λc=>V.int (c:Nat)) (λi H'=>au H H'/\H' D=some (.lst ((cs.take i).map λc=>V.str (st [sg c]))))
    ⟨(au.refl H).laid hD,ae⟩ (λi H' _ h=>h.1.seq hS) ?_ ?_⟩
   · rintro i x H' hi ⟨h1,h2⟩;rw[Xs] at hi;obtain⟨c,hc,rfl⟩:=X0.mp hi;refine⟨rfl,_,rfl,c,rfl,_,h2,?_,?_⟩
     · rw[Xn,XN,XS];omega
     · refine⟨λb u z=>?_,?_⟩
       · rw[aq (ao z hD)];exact h1 b u z
       · rw[ae,take_snoc hc,XH];rfl
   · rintro H' ⟨h1,h2⟩;rw[Xn,Ym] at h2;refine⟨_,D,(cs.map sg).map (λc=>st [c]),rfl,rfl,.inl (aQ.of ?_),?_,?_⟩
     · rw[h2,XR,XR];rfl
     · have e:(((cs.map sg).map (λc=>st [c])).map (·.length)).sum=cs.length:=by
        rw[XR,XR];clear h2 hS q hl
        induction cs with
        |nil=>rfl
        |cons c cs ih =>
         rw[XE,YW,ih,Xz];show 1+cs.length=_;omega
       have e2:(Str.ofString "").length=0:=by decide +kernel
       rw[e,e2];omega
     · rw[xw];exact q H' h1
def mf:Sp:=λvs H Q _=>∃wd:W,vs=[.str (st wd)]/\wd.length<=70000/\∀H',au H H'->Q (.bl (eN wd)) H'
theorem zb {wd:W}(h:wd≠[]):nW (st wd).cps.toList ((0:Int))=some (wd.headD 0):=by
 refine cw (j:=0) ?_;show wd[0]?=some (wd.headD 0);cases wd with
 |nil=>exact absurd rfl h
 |cons c r=>rfl
theorem mZ:aG ["word","sign"] ["word"] (aw j7):=fs
theorem zC (G:GW mg){f:Addr}{fd:FuncData}(F:de K "is_name" "is_name" j7 f fd):a8 P w K mg base bE 1 f fd ["word"] mf:=by
 refine F.ok mZ (λvs H Q E h=>?_) (λLz A outer s H vs Q E hr h=>?_)
 · obtain⟨a,rfl,_⟩:=h;rfl
 · obtain⟨wd,rfl,hl,q⟩:=h;have hz:(st wd).length<=sizeLine:=by rw[b8,XS];omega
   refine⟨_,af (aO (PW.pt (d9 (cz (cA cb cb ax (bY fO (by rfl) G.len PySem.boot_len (aa (pv 0) ah)) (bb G.most)))
     (cR (aB qL (bo sL (pv 0) ax (λ_ _=>rfl)) (bb G.ur) (by with_unfolding_all rfl))))) (ak (az mz)) aA)
    (ak (az (bY (wg rfl) (by rfl) G.all PyProof.Rows.boot_all (aa (fA rfl mZ.nd (HC (pv 0)) (bz (own:=[("sign",1)]) rfl) (λ_ _ _ _ _=>bp 1 mZ.nd) (λ_ _ _ _ _=>cq)
     (λ_ _ _ _ _=>JN (ft qm (pv 1) (bb G.ur) (by with_unfolding_all rfl)) (wx (ft qm (pv 1) (bb G.digits) (by with_unfolding_all rfl))))) ah)))),?_⟩
   refine aR (gN (e_ (cy aC (sO (ag rfl) hz) aC)) λh0=>aI (Dd (tj (ag rfl) aC hz (zb ?_)) aC)) (λh=>?_) (λh=>?_)
   · rintro rfl;simp at h0;rw[b8] at h0;simp at h0
   · rw[xZ] at h;refine bS aC ?_;have e:eN wd=false:=by
      unfold eN;rw[b8] at h;simp only[Yp,Yg,YM,X6] at h;rcases h with (h|h)|h
      · have:¬1<=wd.length:=λz=>h (by omega);simp[this]
      · have:¬wd.length<=12:=λz=>h (by omega);simp[this]
      · rw[h];simp
     rw[←e];exact q H (au.refl H)
   · rw[xZ,b8] at h;simp only[Yz,Yj,Xv,Xw] at h;obtain⟨⟨h1,h2⟩,h3⟩:=h;have e:eN wd=wd.all λc=>isLet c||bW c:=by
      unfold eN;have z1:decide (1<=wd.length)=true:=X4 (by omega);have z2:decide (wd.length<=12)=true:=X4 (by omega);rw[z1,z2,h3];simp
     refine⟨_,rfl,_,rfl,λD hD=>GH (z:=st wd) (λi H'=>au H H'/\H' D=some (.lst ((wd.take i).map λc=>V.bl (isLet c||bW c)))) ⟨(au.refl H).laid hD,ae⟩ ?_ ?_⟩
     · rintro i c H' hi ⟨k1,k2⟩;have hi:wd[i]?=some c:=hi;refine⟨rfl,?_⟩;refine (Ii (Cy (ag rfl) aC) λ_=>Cy (ag rfl) aC) _ ⟨_,k2,?_,?_⟩
       · rw[Xn,XN,XS];omega
       · rw[xZ,Hz];refine⟨λb u z=>?_,?_⟩
         · rw[aq (ao z hD)];exact k1 b u z
         · rw[ae,take_snoc hi,XH];rfl
     · rintro H' ⟨k1,k2⟩;have k2:H' D=some (.lst ((wd.take wd.length).map λc=>V.bl (isLet c||bW c))):=k2;rw[Ym] at k2;refine⟨D,wd.map λc=>isLet c||bW c,rfl,aQ.of (by rw[k2,XR];rfl),?_⟩;have e2:((wd.map λc=>isLet c||bW c).all id)=eN wd:=by rw[e,Zw];rfl
       rw[e2];exact q H' k1
def kP:Sp:=λvs H Q _=>∃wd:W,vs=[.str (st wd)]/\wd.length<=70000/\(∀c∈wd,c < 128)/\Q (.int (ay wd)) H
theorem yN:∀c:Nat,c < 128->Unicode.isDigit c=bW c:=by decide +kernel
theorem oQ {wd:W}(h:∀c∈wd,c < 128):Txt.isdigit (st wd)=(!wd.isEmpty&&wd.all bW):=by
 unfold Txt.isdigit;have e:(st wd).cps.all Unicode.isDigit=wd.all bW:=by
  show wd.toArray.all Unicode.isDigit=_;rw[List.all_toArray,X3,XU,XU];exact⟨λz c hc=>by rw[←yN c (h c hc)];exact z c hc,λz c hc=>by rw[yN c (h c hc)];exact z c hc⟩
 rw[e,b8];cases wd with
 |nil=>rfl
 |cons c r=>simp
theorem wc (wd:W):NumText.digitsVal wd=xy wd:=by
 unfold NumText.digitsVal xy;congr 1;funext n c;omega
theorem Hx {wd:W}(h0:wd≠[])(h1:wd.all bW=true)(h2:wd.length<=7):intText? (st wd)=some ((xy wd:Nat):Int):=by
 rw[←wc];refine intText_digits (x:=st wd) (λc hc=>?_) h0 (by rw[b8];omega);have:=XU.mp h1 c hc;unfold bW at this;simpa using this
theorem HG:aG ["word"] ["word"] (aw gT):=fs
theorem F5 (G:GW mg){f:Addr}{fd:FuncData}(F:de K "number_of" "number_of" gT f fd):a8 P w K mg base bE 1 f fd ["word"] kP:=by
 refine F.ok HG (λvs H Q E h=>?_) (λLz A outer s H vs Q E hr h=>?_)
 · obtain⟨a,rfl,_⟩:=h;rfl
 · obtain⟨wd,rfl,hl,ha,q⟩:=h;have hz:(st wd).length<=sizeLine:=by rw[b8,XS];omega
   refine⟨_,af (aO (PW.pt (d9 (aB kQ (bY fO (by rfl) G.len PySem.boot_len (aa (pv 0) ah)) (bb G.Jy) (aJ _)) (cR (cz (h_ (JO PySem.F.slot_str_isdigit PySem.F.type_str_isdigit wO (pv 0))))))) (ak (az (vn qz ax))) aA)
    (af (aO (PW.pt (sR (aB ck (bo sL (pv 0) ax (λ_ _=>rfl)) bt (aJ _)) (oJ (aB pE (pv 0) bt (aJ _))))) (ak (az (vn qz ax))) aA)
    (ak (az (kj tf (by rfl) G.int PyProof.Rows.boot_int (aa (pv 0) ah))))),?_⟩
   refine aR (gN (aI (mn (sO (ag rfl) hz) aC)) λh0=>e_ (Kp (IM (ag rfl) λR r=>⟨_,rfl,rfl,trivial,r⟩))) (λh=>?_) (λh=>?_)
   · refine bS (uw aC) ?_;have e:ay wd=-1:=by
      unfold ay;rw[Xp];rw[oQ ha,b8] at h;simp only[Yp,Yg,YM,Xw] at h;rcases h with h|h|h
      · exact .inl (by omega)
      · exact .inr (.inl (by cases wd with|nil=>rfl|cons c r=>simp at h))
      · exact .inr (.inr h)
     rw[e] at q;exact q
   · rw[oQ ha,b8] at h;simp only[Yz,Yj,Xv,X6] at h;obtain⟨h1,h2,h3⟩:=h;have LJ:wd≠[]:=by rintro rfl;simp at h2
     have e0:ay wd=if wd.headD 0=48/\wd≠[48] then -1 else (xy wd:Int):=by
      unfold ay;rw[Xo];rintro (z|z|z)
      · exact h1 (by omega)
      · exact LJ z
      · rw[h3] at z;cases z
     refine aR (qr (aI (b9 (tj (ag rfl) aC hz (zb LJ)) aC)) λh0=>aI (oT (ag rfl) aC)) (λh=>?_) (λh=>?_)
     · refine bS (uw aC) ?_;rw[Xp] at e0
       · rw[e0] at q;exact q
       · simp only[Xv,Xw,Yg,X6] at h;refine⟨?_,λz=>h.2 ?_⟩
         · have:=h.1;injection this with this;have:=Yv TL.tl this;have:[wd.headD 0]=[48]:=this;injection this
         · rw[z];rfl
     · rw[Xo] at e0
       · rw[e0] at q;exact⟨_,rfl,_,_,rfl,Hx LJ h3 (by omega),by rw[b8];omega,q⟩
       · rintro⟨z1,z2⟩;simp only[YM,X6,Yj,Xw] at h;rcases h with h|h
         · exact h (by rw[z1];rfl)
         · injection h with h;have h:=Yv TL.tl h;exact z2 h
end
end Bw
namespace L2
open PySem PySem.Spec PyProof.Rows
structure yX (P:Program)(w:World)(K:aaa)(d:Addr)(vs:List (Key×Value)):Prop where
 dd:∀h:Heap,K.In h->h.DictOf (cx P w) d vs
 ne:(d==sysModules)=false
section
variable {X:Cx}{d:Addr}{vs:List (Key×Value)}{o i:Expr}{td ty:TE}{pos:Pos}
def F_ (d:Addr) (vs:List (Key×Value)) (td ty:TE):TE:=λσ H Q=>td σ H λx H1=>ty σ H1 λy H2=>∃k v u,x=.ref d/\y=kV k/\valueAt vs k=some u/\RelV v u/\Q v H2
def JL (d:Addr)(vs:List (Key×Value))(ty td:TE):TE:=λσ H Q=>ty σ H λy H1=>td σ H1 λx H2=>∃k,x=.ref d/\y=kV k/\Q (.bl (valueAt vs k).isSome) H2
theorem CT (D:yX X.prog X.w X.K d vs)(ho:PE X o td)(hi:PE X i ty)(hs:IG i):PE X (.Subscript o i pos) (F_ d vs td ty):=by
 intro pins s σ H Q I h;refine DW PySem.F.slot_dict_getitem.lookup hs (bA (ho pins s σ H _ I h) λu s1 ⟨x,H1,I1,rx,q1⟩=>bA (hi pins s1 σ H1 _ I1 q1) λiv s2 ⟨y,H2,I2,ry,k,v,u',ex,ey,hv,rv,q2⟩=>?_);subst ex ey;obtain rfl:u=Value.ref d:=rx;have dd:=D.dd s2.heap I2.m7;obtain⟨ob,es,ep,e1,e2,_⟩:=id dd;exact⟨⟨ob,e1,e2.1⟩,wpAny_getItem_of (pU ry) dd.mapOf hv ⟨v,H2,I2.tok _,rv,q2⟩⟩
theorem EG (D:yX X.prog X.w X.K d vs)(hi:PE X i ty)(ho:PE X o td):PC X .In i o (JL d vs ty td):=by
 intro pins s σ H Q I h;refine bA (hi pins s σ H _ I h) λiv s1 ⟨y,H1,I1,ry,q1⟩=>bA (ho pins s1 σ H1 _ I1 q1) λu s2 ⟨x,H2,I2,rx,k,ex,ey,q2⟩=>?_;subst ex ey;obtain rfl:u=Value.ref d:=rx;have dd:=D.dd s2.heap I2.m7;exact wpAny_in_of (pU ry) D.ne dd.mapOf ⟨.bl _,H2,I2.tok _,rfl,q2⟩
end
theorem au.tup {K:aaa}{H H':Hp}{a:Addr}{xs:List V}(e:au H H')(h:b7 K H a xs):b7 K H' a xs:=by
 rcases h with (h|⟨o,h⟩)|h
 · exact .inl (.inl (e _ _ h))
 · exact .inl (.inr ⟨o,e _ _ h⟩)
 · exact .inr h
section
variable {α β γ:Type}{F G:α->β->Prop}
theorem Paired.qO:∀{l₁:List α} {l₂:List β} {i:Nat} {x:α},Paired F l₁ l₂->l₁[i]?=some x->∃y,l₂[i]?=some y/\F x y
 |_,_,_,_,.nil,e=>by simp at e
 |_,_,0,_,.cons r _,e=>by simp at e;subst e;exact⟨_,rfl,r⟩
 |_,_,i+1,x,.cons _ t,e=>by
  obtain⟨y,h1,h2⟩:=Paired.qO (i:=i) (x:=x) t (by simpa using e);exact⟨y,by simpa using h1,h2⟩
theorem Paired.at2:∀{l₁:List α} {l₂:List β} {i:Nat} {y:β},Paired F l₁ l₂->l₂[i]?=some y->∃x,l₁[i]?=some x/\F x y
 |_,_,_,_,.nil,e=>by simp at e
 |_,_,0,_,.cons r _,e=>by simp at e;subst e;exact⟨_,rfl,r⟩
 |_,_,i+1,y,.cons _ t,e=>by
  obtain⟨x,h1,h2⟩:=Paired.at2 (i:=i) (y:=y) t (by simpa using e);exact⟨x,by simpa using h1,h2⟩
theorem Paired.tk:∀{l₁:List α} {l₂:List β} (n:Nat),Paired F l₁ l₂->Paired F (l₁.take n) (l₂.take n)
 |_,_,0,_=>.nil
 |_,_,_+1,.nil=>.nil
 |_,_,n+1,.cons r t=>.cons r (Paired.tk n t)
theorem Paired.dp:∀{l₁:List α} {l₂:List β} (n:Nat),Paired F l₁ l₂->Paired F (l₁.drop n) (l₂.drop n)
 |_,_,0,r=>r
 |_,_,_+1,.nil=>.nil
 |_,_,n+1,.cons _ t=>Paired.dp n t
theorem Paired.rep {a:α}{b:β}(h:F a b):∀n:Nat,Paired F (List.replicate n a) (List.replicate n b)
 |0=>.nil
 |n+1=>.cons h (Paired.rep h n)
end
end L2
namespace Bw
open PySem PySem.Spec PyProof.Rows L2 Tote
def sV (ws:List W):List V:=ws.map λw=>V.str (st w)
def nV (ns:Z_):List V:=ns.map λn=>V.int (n:Nat)
def hZ (K:aaa)(H:Hp)(a:Addr)(ns:Z_):Prop:=aQ K H a (nV ns)
def bF (K:aaa)(H:Hp)(a:Addr)(rs:Z9):Prop:=∃as:List Addr,aQ K H a (as.map V.ref)/\Paired (hZ K H) as rs
def kZ (H:Hp)(a:Addr)(rs:Z9):Prop:=∃as:List Addr,H a=some (.lst (as.map V.ref))/\Paired (λb ns=>H b=some (.lst (nV ns))) as rs
section
variable {K:aaa}{H H':Hp}{a:Addr}
theorem kZ.lists {rs:Z9} (h:kZ H a rs):bF K H a rs:=by
 obtain⟨as,h1,h2⟩:=h;exact⟨as,aQ.of h1,Paired.d8 h2 λ_ _ z=>aQ.of z⟩
theorem kZ.same {rs:Z9}(h:kZ H a rs)(e:au H H'):kZ H' a rs:=by
 obtain⟨as,h1,h2⟩:=h;exact⟨as,e _ _ h1,Paired.d8 h2 λ_ _ z=>e _ _ z⟩
theorem hZ.same {ns:Z_}(h:hZ K H a ns)(e:au H H'):hZ K H' a ns:=e.seq h
theorem jc {as:List Addr}{rs:Z9}(h:Paired (hZ K H) as rs)(e:au H H'):Paired (hZ K H') as rs:=Paired.d8 h λ_ _ z=>z.same e
theorem bF.same {rs:Z9}(h:bF K H a rs)(e:au H H'):bF K H' a rs:=by
 obtain⟨as,h1,h2⟩:=h;exact⟨as,e.seq h1,jc h2 e⟩
theorem dH (ws:List W):(sV ws).length=ws.length:=Xn ..
theorem aN (ws:Z_):(nV ws).length=ws.length:=Xn ..
theorem A2 {ws:List W}{i:Nat}{x:W}(h:ws[i]?=some x):(sV ws)[i]?=some (.str (st x)):=by
 unfold sV;rw[Xs,h];rfl
end
structure CK (K:aaa)(mg:aac)(x:Str)(fs:List Str)(C:Addr):Prop where
 cl:yj K C
 no:∀f∈fs,hU K C f
 mg:mg x=some (.ref C)
def Dm (K:aaa)(C:Addr)(m qual:Str)(st:Stmt):Prop:=∃(f:Addr) (fd:FuncData),Meth K C m f/\de K m qual st f fd
def Di (K:aaa)(C:Addr)(qual:Str)(st:Stmt):Prop:=∃(f:Addr) (fd:FuncData),Mk K C f/\de K "__init__" qual st f fd
def xY (P:Program)(w:World)(K:aaa)(mg:aac)(base:Heap)(CX:lO)(k:Nat)(C:Addr)(ps:List Str)(sp:Sp):Prop :=
 ∃(f:Addr) (fd:FuncData),Mk K C f/\Binds K fd ps []/\a8 P w K mg base CX k f fd ps sp
def qp (P:Program)(w:World)(K:aaa)(mg:aac)(base:Heap)(CX:lO)(k:Nat)(C:Addr)(m:Str)(ps:List Str)(sp:Sp):Prop :=
 ∃(f:Addr) (fd:FuncData),Meth K C m f/\Binds K fd ps []/\a8 P w K mg base CX k f fd ps sp
section
variable {X:Cx}{CX:lO}{k:Nat}{x:Str}{ps:List Str}{sp:Sp}{E:XK}{p pos:Pos}{e:Expr}{es:List Expr}{t:TA}{C:Addr}
theorem qi (F:xY X.prog X.w X.K X.mg X.base CX k C ps sp) (hr:cK (k+1) X.A) (hm:X.mg x=some (.ref C)) (hx:Passes CX X E) (ha:PA X (e::es) t) (hg:Gl X x:=by rfl) (Me:(x==("__debug__":Str))=false:=by decide) (he:starEach (e::es) X.env=(false,eval e X.env)::starEach es X.env:=by rfl)
  (LH:(backTo pos (starEach es X.env)).any (·.1)=false:=by rfl):PE X (.Call (.Name x p) (e::es) [] pos) (Fo C sp [] E t):=by
 obtain⟨f,fd,M,hb,F⟩:=F;exact EZ M F hr hg hm hb .nil hx ha Me he LH
end
theorem bQ {f:Str}{v:V}:eG f v []=[(f,v)]:=rfl
theorem bc {f g:Str}{v x:V}{r:List (Str×V)}(h:g≠f):eG f v ((g,x)::r)=(g,x)::eG f v r:=by
 show (if g=f then (g,v)::r else (g,x)::eG f v r)=_;rw[Xo h]
theorem bR {f:Str}{v:V}{r:List (Str×V)}:List.lookup f ((f,v)::r)=some v:=by simp[List.lookup]
theorem a9 {f g:Str}{v:V}{r:List (Str×V)}(h:f≠g):List.lookup f ((g,v)::r)=List.lookup f r:=by
 have:(f==g)=false:=XX.mpr h;simp[List.lookup,this]
def jj (nm kd fa u:V):List (Str×V):=[("name",nm),("kind",kd),("fields",fa),("unit",u)]
abbrev gZ:List Str:=["name","kind","fields","unit"]
theorem kY {a b c d:V}:(jj a b c d).lookup ("name":Str)=some a:=bR
theorem ja {a b c d:V}:(jj a b c d).lookup ("kind":Str)=some b:=by unfold jj;rw[a9 (by decide +kernel)];exact bR
theorem mH {a b c d:V}:(jj a b c d).lookup ("fields":Str)=some c:=by unfold jj;rw[a9 (by decide +kernel),a9 (by decide +kernel)];exact bR
theorem wM {a b c d:V}:(jj a b c d).lookup ("unit":Str)=some d:=by unfold jj;rw[a9 (by decide +kernel),a9 (by decide +kernel),a9 (by decide +kernel)];exact bR
def dg (K:aaa)(C:Addr)(H:Hp)(a:Addr)(p:aM):Prop:=∃dx fa,H a=some (.ins C dx (jj (.str (st p.name)) (.str (st (cd (kindS p.kind)))) (.ref fa) (.int (p.unit:Nat))))/\bF K H fa p.fields
def cV (K:aaa)(C:Addr)(H:Hp)(a:Addr)(ps:List aM):Prop:=∃as:List Addr,aQ K H a (as.map V.ref)/\Paired (dg K C H) as ps
section
variable {K:aaa}{H H':Hp}{C a:Addr}
theorem dg.same {p:aM} (h:dg K C H a p) (e:au H H'):dg K C H' a p:=by
 obtain⟨dx,fa,h1,h2⟩:=h;exact⟨dx,fa,e _ _ h1,h2.same e⟩
theorem qu {as:List Addr}{ps:List aM}(h:Paired (dg K C H) as ps)(e:au H H'):Paired (dg K C H') as ps:=Paired.d8 h λ_ _ z=>z.same e
theorem cV.same {ps:List aM}(h:cV K C H a ps)(e:au H H'):cV K C H' a ps:=by
 obtain⟨as,h1,h2⟩:=h;exact⟨as,e.seq h1,qu h2 e⟩
end
def tK (C:Addr):Sp:=λvs H Q _=>∃(x dx:Addr) (a b c d:V),vs=[.ref x,a,b,c,d]/\H x=some (.ins C dx [])/\Q .cf (upd H x (.ins C dx (jj a b c d)))
section
variable {P:Program}{w:World}{K:aaa}{mg:aac}{base:Heap}
theorem BA:aG ["self","name","kind","fields","unit"] ["self","name","kind","fields","unit"] (aw gK):=fs
theorem Bd {C:Addr}(T:CK K mg "Pool" gZ C){f:Addr}{fd:FuncData}(F:de K "__init__" "Pool.__init__" gK f fd):a8 P w K mg base bE 1 f fd ["self","name","kind","fields","unit"] (tK C):=by
 refine F.ok BA (λvs H Q E h=>?_) (λLz A outer s H vs Q E hr h=>?_)
 · obtain⟨x,dx,a,b,c,d,rfl,_⟩:=h;rfl
 · obtain⟨x,dx,a,b,c,d,rfl,hx,q⟩:=h;refine⟨_,af (cD (pv 0) (pv 1) rfl) (af (cD (pv 0) (pv 2) rfl) (af (cD (pv 0) (pv 3) rfl) (ak (cD (pv 0) (pv 4) rfl)))),?_⟩;refine⟨_,rfl,_,rfl,x,C,dx,[],rfl,hx,T.cl,T.no _ (by simp),(by show 0 < 1000;decide),?_⟩;refine⟨_,rfl,_,rfl,x,C,dx,_,rfl,ae,T.cl,T.no _ (by simp),(by show 1 < 1000;decide),?_⟩;refine⟨_,rfl,_,rfl,x,C,dx,_,rfl,ae,T.cl,T.no _ (by simp),(by repeat (first|rw[bQ]|rw[bc (by decide +kernel)]);show 2 < 1000;decide),?_⟩;refine⟨_,rfl,_,rfl,x,C,dx,_,rfl,ae,T.cl,T.no _ (by simp),(by repeat (first|rw[bQ]|rw[bc (by decide +kernel)]);show 3 < 1000;decide),?_⟩;rw[cI,cI,cI]
   repeat (first|rw[bQ]|rw[bc (by decide +kernel)])
   exact q
end
end Bw
namespace L2
open PySem PySem.Spec PyProof.Rows
theorem kh {α β:Type}{F:α->β->Prop}:∀{l₁:List α} {l₂:List β},l₁.length=l₂.length->(∀(i:Nat) x y,l₁[i]?=some x->l₂[i]?=some y->F x y)->Paired F l₁ l₂
 |[],[],_,_=>.nil
 |x::l₁,y::l₂,h,g=>.cons (g 0 x y rfl rfl) (kh (by simpa using h) λi a b h1 h2=>g (i+1) a b (by simpa using h1) (by simpa using h2))
 |[],_::_,h,_=>by simp at h
 |_::_,[],h,_=>by simp at h
section
variable {X:Cx}
end
end L2
namespace HT
open PySem PySem.Spec PyProof.Rows
theorem ml {P:Program}{w:World}{A:Around}{E:aab}{s:Shared}{t sl:Addr}{items:Array Value}{vl vu:Value}{lo hi:Option Int}{Q:aab}(ht:IsTup s.heap t items)(hs:s.heap.IsSliceOf sl vl vu .none)(pl:IsPart vl lo)(pu:IsPart vu hi)
  (hw:b_ items.size 0 lo=0/\b_ items.size items.size hi=items.size)(h:Q (.ref t) s):wpAny (model P w) A (getItem (.ref t) (.ref sl)) Q E s:=by
 obtain⟨os,MY,NF,NG⟩:=id hs;have ty:s.TypeIs (.ref sl) "slice":=⟨os,MY,NF⟩;unfold getItem
 try with_reducible refine Zo ?_
 first|refine Xm (Xu ?_)|skip
 refine Xm (wpAny_sequenceKey ht.typeIs (by decide) ?_);refine Xm (YE (name:=Str.ofString "__getitem__") ht.typeIs YF (YK YF ht.typeIs entry_tuple_getitem ?_ (args_tuple_getitem _ _)));show wpAny _ _ (Builtin.Tuple.tupleItemsOf (.ref t) >>= _) _ _ s;refine Xm (tupleItemsOf_ ht (Xm (wpAny_typeOf ty ?_)));rw[Xp (by decide)];refine Xm (iC hs pl pu ?_);rw[hw.1,hw.2];show wpAny _ _ (if (((0:Nat):Int)==0&&(1:Int)==1&&(items.size - 0)==items.size)=true then _ else _) _ _ s;rw[Xp (by simp)];have t0:s.heap.IsTuple t items:=ht;obtain⟨⟨c,dd,f,l⟩,g,rfl,n,rfl⟩:=ht;obtain⟨hp,ga,d,tk,os⟩:=s
 wp_walk
 exact⟨_,rfl,Xu h⟩
end HT
namespace L2
open PySem PySem.Spec PyProof.Rows
section
variable {X:Cx}
def Ko:V->Option Int->Option Int->Hp->VK->Prop:=λx lo hi H Q=>∃a xs,x=.ref a/\H a=some (.tup xs)/\∀p H',au H H'->H' p=some (.tup (fQ xs lo hi))->Q (.ref p) H'
theorem Dv:IV X Ko:=by
 intro pins s σ H x v vl vu lo hi sl Q I rx hs pl pu h;obtain⟨a,xs,rfl,hx,q⟩:=h;by_cases hw:HT.b_ xs.length 0 lo=0/\HT.b_ xs.length xs.length hi=xs.length
 · cases rx;obtain⟨Ly,r,ht,hz⟩:=I.tuple (b7.of hx);have hlen:Ly.toArray.size=xs.length:=by rw[XJ];exact r.length.symm
   refine⟨"tuple",_,YF.lookup,ht.typeIs,HT.ml ht hs pl pu (by rw[hlen];exact hw) ⟨.ref a,H,I,rfl,q a H (au.refl H) ?_⟩⟩;rw[hx];unfold fQ;rw[hw.1,hw.2];simp
 · exact Gr pins s σ H _ v vl vu lo hi sl Q I rx hs pl pu ⟨a,xs,rfl,b7.of hx,hw,λp hp=>q p _ ((au.refl H).laid hp) ae⟩
theorem mW:∀(l acc:List Int),(l.foldl step_dedup acc).length<=acc.length+l.length/\((l.foldl step_dedup acc).length=acc.length+l.length↔l.Nodup/\∀x∈l,¬x∈acc)
 |[],acc=>by simp
 |v::l,acc=>by
  rw[YU];by_cases h:v∈acc
  · have e:step_dedup acc v=acc:=by unfold step_dedup;rw[Xp (by simpa using h)]
    rw[e];have:=(mW l acc).1;rw[Xz];refine⟨by omega,λz=>by omega,λz=>absurd h (z.2 v (by simp))⟩
  · have e:step_dedup acc v=acc++[v]:=by unfold step_dedup;rw[Xo (by simpa using h)]
    rw[e];obtain⟨i1,i2⟩:=mW l (acc++[v]);rw[XM,YC] at i1 i2;rw[Xz];refine⟨by omega,?_⟩;rw[show acc.length+(l.length+1)=acc.length+1+l.length by omega,i2,YA,ZV];simp only[Yd,XC,not_or];constructor
    · rintro⟨a,b⟩;exact⟨⟨λm=>(b v m).2 rfl,a⟩,h,λx hx=>(b x hx).1⟩
    · rintro⟨⟨a,b⟩,_,c⟩;exact⟨b,λx hx=>⟨c x hx,λz=>a (z ▸ hx)⟩⟩
theorem DA (ns:List Int):firstMet (λi=>ns.getD i 0) ns.length=ns.foldl step_dedup []:=by
 unfold firstMet;congr 1;refine ZL λi=>?_;rw[Xs];by_cases h:i < ns.length
 · rw[Y9 h,Xy h];simp[h]
 · rw[Ys (by simpa using h),Ys (by omega)];rfl
theorem Dc (hc:X.calm=true):iz X (.type "set") (λxs H Q=>∃(t:Addr) (ns:List Int),xs=[.ref t]/\b7 X.K H t (ns.map V.int)/\ns.length<=1000/\∀p S n,H p=none->n<=ns.length->(n=ns.length↔ns.Nodup)->Q (.ref p) (upd H p (.set S n))):=by
 intro pins s σ H xs us Q I r h;obtain⟨t,ns,rfl,ht,hl,q⟩:=h;rw[Vals.we r];obtain⟨Ly,rv,pt,_⟩:=I.tuple ht;have hn:Ly.length=ns.length:=by rw[←rv.length,Xn]
 have hi:IntsAre Ly.toArray.toList ns:=intsAre_of rv;obtain⟨d1,d2⟩:=mW ns [];rw[YZ,Nat.zero_add] at d1 d2;refine BwX.zx (I.ok.hd hc) (show s.heap.IsTuple t Ly.toArray from pt) hi (by rw[XJ,hn];show ns.length+1 < 4096;omega) λh' tk hS kp=>?_;have hz:Ly.toArray.size=ns.length:=by rw[XJ,hn]
 rw[hz,DA] at hS;refine⟨.ref s.heap.objs.size,_,I.laid (t':=tk) kp (Xx _) (show bK X.prog X.w _ h' _ (.set _ _) from hS),rfl,q _ _ _ (I.bu.fresh (Xx _)) d1 (d2.trans ⟨λz=>z.1,λz=>⟨z,by simp⟩⟩)⟩
theorem Ec:iz X (.builtin "len") (λxs H Q=>∃p S n,xs=[.ref p]/\H p=some (.set S n)/\n<=1000/\Q (.int (n:Nat)) H):=by
 intro pins s σ H xs us Q I r h;obtain⟨p,S,n,rfl,hp,hn,q⟩:=h;rw[Vals.we r];obtain⟨o,es,ep,t,ho,hx,hd,_,_,_,hf,rfl⟩:=I.bu p _ hp;exact call_len_set ho hx hd hf (by omega) ⟨.int _,H,I.tok _,⟨_,rfl⟩,q⟩
end
def BY (K:aaa)(a b:Addr):It :=
 ⟨λi H=>∃(xs ys:List V) (x y:V),b7 K H a xs/\aQ K H b ys/\xs[i]?=some x/\ys[i]?=some y,
  λi H v H'=>∃T x y,v=.ref T/\H T=none/\H'=upd H T (.tup [x,y])/\(∀xs,b7 K H a xs->xs[i]?=some x)/\∀ys,aQ K H b ys->ys[i]?=some y,
  λi H=>∃xs ys:List V,b7 K H a xs/\aQ K H b ys/\(xs.length<=i∨ys.length<=i)⟩
structure ZA (z TI TO i1 i2 a b:Addr):Prop where
 n1:¬z∈[i1,a]/\¬TO∈[i1,a]/\¬i2∈[i1,a]
 n2:¬z∈[i2,b]/\¬TO∈[i2,b]/\¬i1∈[i2,b]
 nz:TI≠z/\TO≠z/\TI≠TO/\TI≠i1/\TI≠i2/\TO≠i1/\TO≠i2/\i1≠z/\i2≠z
 na:a≠i1
 nb:b≠i2
theorem DK {P:Program}{w:World}{K:aaa}{elts:List Expr}{kk:Nat}{LO:Pos}{a b z TI TO i1 i2:Addr}(D:ZA z TI TO i1 i2 a b) :
  Turn P w K (.Tuple elts kk LO) (BY K a b) [z,TI,TO,i1,i2] z (λi h=>IsZip h z TI TO .none/\IsPair h TI (.ref i1) (.ref i2)/\(∃x y,IsPair h TO x y)/\h.IsTupleIter i1 a i/\h.IsListIter i2 b i) where
 mem:=by simp
 obj:=λi h st c hc=>by
  obtain⟨hz,MF,⟨x,y,Mn⟩,⟨o1,e1,_,d1⟩,⟨o2,e2,_,d2⟩⟩:=st;have e':c=z∨c=TI∨c=TO∨c=i1∨c=i2:=by simpa using hc
  rcases e' with q|q|q|q|q
  · rw[q];exact⟨_,hz,λv q=>nomatch q⟩
  · rw[q];exact⟨_,MF,λv q=>nomatch q⟩
  · rw[q];exact⟨_,Mn,λv q=>nomatch q⟩
  · rw[q];exact⟨o1,e1,λv q=>by rw[d1] at q;cases q⟩
  · rw[q];exact⟨o2,e2,λv q=>by rw[d2] at q;cases q⟩
 keep:=λi h h' st k=>by
  obtain⟨hz,MF,⟨x,y,Mn⟩,h1,h2⟩:=st;exact⟨k z (by simp) _ hz,k TI (by simp) _ MF,⟨x,y,k TO (by simp) _ Mn⟩,h1.at λo q=>k i1 (by simp) o q,h2.at λo q=>k i2 (by simp) o q⟩
 item:=by
  intro X hP hw hK hc i pins s σ H E I hf st hg;subst hP hw hK;obtain⟨hz,MF,Mn,h1,h2⟩:=st;obtain⟨xs,ys,x,y,Ob,Oc,hx,hy⟩:=hg;obtain⟨Ly,rv,p,_⟩:=I.tuple Ob;obtain⟨L0,PR,p2,_⟩:=I.list Oc;obtain⟨u,hu,ru⟩:=rv.get hx;obtain⟨u2,QS,QT⟩:=PR.get hy;have SD:z < s.heap.objs.size:=XA hz;refine BwX.sH (x:=u) (y:=u2) D.na D.nb ⟨hz,MF,Mn,⟨h1,p⟩,⟨h2,p2.isList⟩,D.n1,D.n2,D.nz⟩ (by simpa using hu) (by simpa using QS) λh' Z hT hk=>?_;refine⟨_,rfl,wpAny_letOwnedTupleGo_zip (s:={s with heap:=h'}) Z.zp λNi VP sb=>?_⟩;have Mx:Ni.get? s.heap.objs.size=some {cls:=.type "tuple",data:=.seq #[u,u2]}:=(sb.2 _ (Nat.ne_of_gt SD)).trans hT;have new:bK X.prog X.w (upd H s.heap.objs.size (.tup [x,y])) Ni s.heap.objs.size (.tup [x,y]) :=
   ⟨by show 2<=sizeLine;decide,[u,u2],.cons ru (.cons QT .nil),⟨_,Mx,rfl,_,rfl⟩⟩
  have I1:Inv X pins σ (upd H s.heap.objs.size (.tup [x,y])) {s with heap:=Ni} :=
   I.sr (t':=s.toks) (ch:=[z,TI,TO,i1,i2]) (λc o hb q=>(sb.2 c (λq'=>hb (by simp[q']))).trans (hk c o (λq'=>hb (by simp[q'])) (λq'=>hb (by simp[q'])) (λq'=>hb (by simp[q'])) (λq'=>hb (by simp[q'])) q)) hf (Xx _) new
  obtain⟨z1,z2,z3,z4,z5,z6,z7,z8,z9⟩:=D.nz;obtain⟨x',y',Rf⟩:=Z.to;refine⟨.ref s.heap.objs.size,_,I1,rfl,⟨_,x,y,rfl,I.bu.fresh (Xx _),rfl,λl hl=>by rw[I.sx hl Ob];exact hx,λl hl=>by rw[I.pN hl Oc];exact hy⟩,⟨VP,(sb.2 _ z1).trans Z.ti,⟨x',y',(sb.2 _ z2).trans Rf⟩,Z.s1.1.at λo q=>(sb.2 _ z8).trans q,Z.s2.1.at λo q=>(sb.2 _ z9).trans q⟩,λc PU=>?_⟩;have LC:c < s.heap.objs.size:=by
   have e':c=z∨c=TI∨c=TO∨c=i1∨c=i2:=by simpa using PU
   obtain⟨_,_,Mn⟩:=Mn;rcases e' with q|q|q|q|q
   · rw[q];exact SD
   · rw[q];exact XA MF
   · rw[q];exact XA Mn
   · rw[q];obtain⟨_,e1,_⟩:=h1;exact XA e1
   · rw[q];obtain⟨_,e2,_⟩:=h2;exact XA e2
  rw[aq (X1 LC)];exact (hf c PU).1
 done:=by
  intro X hP hw hK hc i pins s σ H E I hf st hg;subst hP hw hK;obtain⟨hz,MF,Mn,h1,h2⟩:=st;obtain⟨xs,ys,Ob,Oc,Rg⟩:=hg;obtain⟨Ly,rv,p,_⟩:=I.tuple Ob;obtain⟨L0,PR,p2,_⟩:=I.list Oc;have l1:=rv.length;have l2:=PR.length;have he:Ly.toArray[i]?=none∨L0.toArray[i]?=none:=by
   rcases Rg with q|q
   · exact .inl (by simp;omega)
   · exact .inr (by simp;omega)
  exact BwX.uq (I.ok.hd hc) D.na D.nb ⟨hz,MF,Mn,⟨h1,p⟩,⟨h2,p2.isList⟩,D.n1,D.n2,D.nz⟩ he λh' hk=>⟨rfl,I.El (t':=s.toks) (ch:=[z,TI,TO,i1,i2]) (λc o hb q =>
   hk c o (λq'=>hb (by simp[q'])) (λq'=>hb (by simp[q'])) (λq'=>hb (by simp[q'])) (λq'=>hb (by simp[q'])) q) hf⟩
 self:=λA i s Q E st h=>wpAny_pyIter_zip st.1 h
def Jb (K:aaa)(ta:TA):TI:=λσ H R=>ta σ H λvs H1=>∃a b xs ys,vs=[.ref a,.ref b]/\b7 K H1 a xs/\aQ K H1 b ys/\R (BY K a b) H1
theorem E5 {X:Cx}{e e2:Expr}{ta:TA}{p pos LO:Pos}{elts:List Expr}{kk:Nat}(hg:Gl X "zip")(hm:X.mg "zip"=none)(ha:PA X [e,e2] ta)
  (hs:starEach [e,e2] X.env=(false,eval e X.env)::starEach [e2] X.env:=by rfl)(LH:(backTo pos (starEach [e2] X.env)).any (·.1)=false:=by rfl) :
  PI X (.Tuple elts kk LO) (.Call (.Name "zip" p) [e,e2] [] pos) (Jb X.K ta):=by
 intro pins s σ H R I h;refine Call_ (ly I hg hm zO (YQ (bA (ha pos pins s σ H _ I h) λus s1 ⟨vs,H1,I1,r1,q1⟩=>?_) hs LH));obtain⟨a,b,xs,ys,ex,Ob,Oc,q⟩:=q1;subst ex;cases r1 with
 |cons r rr =>
  cases rr with
  |cons r' rr =>
   cases rr;cases r;cases r';obtain⟨Ly,rv,p1,_⟩:=I1.tuple Ob;obtain⟨L0,PR,p2,_⟩:=I1.list Oc;refine BwX.E6 p1 p2.isList λh' Z hk=>wpAny_pyIter_zip Z.zp ?_;have I2:Inv X pins σ H1 {s1 with heap:=h'}:=I1.kept (t':=s1.toks) hk;have na:a≠s1.heap.objs.size:=by obtain⟨_,e,_⟩:=p1;exact X1 (XA e)
   have nb:b≠s1.heap.objs.size+1:=X1 (Nat.lt_succ_of_lt p2.lt);refine⟨s1.heap.objs.size+4,[s1.heap.objs.size+4,s1.heap.objs.size+2,s1.heap.objs.size+3,s1.heap.objs.size,s1.heap.objs.size+1],_,_,H1,rfl,I2,DK ⟨Z.n1,Z.n2,Z.nz,na,nb⟩,⟨Z.zp,Z.ti,Z.to,Z.s1.1,Z.s2.1⟩,λc PU=>?_,q⟩;have e':c=s1.heap.objs.size+4∨c=s1.heap.objs.size+2∨c=s1.heap.objs.size+3∨c=s1.heap.objs.size∨c=s1.heap.objs.size+1:=by simpa using PU
   have hle:s1.heap.objs.size<=c:=by
    rcases e' with z|z|z|z|z
    · rw[z];exact ZS _ _
    · rw[z];exact ZS _ _
    · rw[z];exact ZS _ _
    · rw[z];exact Xx _
    · rw[z];exact ZS _ _
   exact I1.xx hle (I1.bu.fresh hle)
theorem Ih {K:aaa}{a b:Addr}{xs ys:List V}{g:TG}{tt:TT}{te:TE}{vs:Z_}{σ:St}{H1:Hp}{D:Addr}{Qd:Hp->Prop}(hle:xs.length<=ys.length)(Pv:Nat->Hp->Prop)(h0:Pv 0 (upd H1 D (.lst [])))(hl:∀i H,i<=xs.length->Pv i H->b7 K H a xs/\aQ K H b ys)
  (hs:∀i x y H T,xs[i]?=some x->ys[i]?=some y->Pv i H->H T=none->g (.ref T) (wipe σ vs) (upd H T (.tup [x,y])) λσ2 H2=>wipe σ2 vs=wipe σ vs/\tt σ2 H2 λb H3 =>
   if b=true then te σ2 H3 λy H4=>∃acc,H4 D=some (.lst acc)/\acc.length < sizeLine/\Pv (i+1) (upd H4 D (.lst (acc++[y]))) else Pv (i+1) H3) (hd:∀H,Pv xs.length H->Qd H) :
  ∃W:Nat->Nat->Hp->Prop,(∃m,W 0 m (upd H1 D (.lst [])))/\∀i m H,W i m H ->
   ((BY K a b).stop i H/\Qd H)∨((BY K a b).go i H/\∃Nx:Hp->Prop,(∀H',Nx H'->∃m',m' < m/\W (i+1) m' H')/\∀x H',(BY K a b).vZ i H x H'->g x (wipe σ vs) H' λσ2 H2=>wipe σ2 vs=wipe σ vs/\tt σ2 H2 λb H3 =>
    if b=true then te σ2 H3 λy H4=>∃acc,H4 D=some (.lst acc)/\acc.length < sizeLine/\Nx (upd H4 D (.lst (acc++[y]))) else Nx H3):=by
 refine⟨λi m H=>m=xs.length - i/\i<=xs.length/\Pv i H,⟨xs.length,by simp,XW _,h0⟩,?_⟩;rintro i m H ⟨rfl,hi,p⟩;obtain⟨q1,q2⟩:=hl i H hi p;by_cases LC:i < xs.length
 · refine .inr ⟨⟨xs,ys,xs[i],ys[i],q1,q2,by simp[LC],by simp⟩,Pv (i+1),λH' p'=>⟨xs.length - (i+1),by omega,rfl,LC,p'⟩,λx H' w=>?_⟩;obtain⟨T,v,u,rfl,hT,rfl,hx,hy⟩:=w;exact hs i v u _ T (hx xs q1) (hy ys q2) p hT
 · have e:i=xs.length:=by omega
   subst e;exact .inl ⟨⟨xs,ys,q1,q2,.inl (Xx _)⟩,hd H p⟩
section
variable {σ:St}{H:Hp}{ta tb te:TE}{t u:TT}{x y v:V}{b c:Bool}
theorem ze {Q:VK} (h:Ev ta σ H (.bl b)) (q1:b=true->tb σ H Q) (q2:b=false->Q (.bl false) H):Fj ta tb σ H Q:=h _ ⟨b,rfl,by
 cases b with
 |false=>exact vg (q2 rfl)
 |true=>exact oN (q1 rfl)⟩
end
end L2
namespace Bw
open PySem PySem.Spec PyProof.Rows L2 Tote
def mS (ws:List W):Prop:=ws.length<=70000/\∀w∈ws,w.length<=70000/\∀c∈w,c < 128
theorem iO {w:W}{s:String}:decide (V.str (st w)=V.str (Str.ofString s))=decide (w=cd s):=by
 rw[Za,kO];constructor
 · intro h;injection h with h;exact jB.mp h
 · intro h;rw[h]
theorem Fu {ws:List W}{i:Nat}(h:i < ws.length):ws[i]?=some (ws.getD i []):=by
 rw[X7,Xy h];rfl
theorem dD {ws:List W}{i:Nat}(h:i < ws.length):nW (sV ws) ((i:Nat):Int)=some (.str (st (ws.getD i []))):=cw (A2 (Fu h))
theorem mS.getD {ws:List W}(o:mS ws)(i:Nat):(ws.getD i []).length<=70000/\∀c∈ws.getD i [],c < 128:=by
 by_cases h:i < ws.length
 · exact o.2 _ (XT (Fu h))
 · rw[X7,Ys (by omega)];exact⟨XW _,λc hc=>by simp at hc⟩
abbrev fc:List (Nat×W):=[(0,cd "pool"),(4,cd "from"),(6,cd "take"),(8,cd "break"),(10,cd "least"),(12,cd "unit"),(14,cd "none")]
abbrev sizeOf:Tote.Kind->Int×Int
 |.place=>(1,4)
 |.order=>(2,4)
 |.any=>(2,3)
 |.legs=>(2,6)
structure GC (P:Program)(w:World)(K:aaa)(mg:aac)(dS aF:Addr):Prop where
 races:Gv mg "MOST_RACES" (.int 16)
 pools:Gv mg "MOST_POOLS" (.int 64)
 couples:Gv mg "MOST_COUPLES" (.int 8)
 runners:Gv mg "MOST_RUNNERS" (.int 24)
 words:Gv mg "POOL_WORDS" (.int 16)
 Fe:Gv mg "SIZES" (.ref dS)
 fixed:Gv mg "FIXED" (.ref aF)
 BO:∃ts:Tote.Kind->Addr,yX P w K dS [(.inr (st (cd "place")),.ref (ts .place)),(.inr (st (cd "order")),.ref (ts .order)),(.inr (st (cd "any")),.ref (ts .any)),(.inr (st (cd "legs")),.ref (ts .legs))]/\∀(k:Tote.Kind) (H:Hp),b7 K H (ts k) [.int (sizeOf k).1,.int (sizeOf k).2]
 Ho:∃ts:List Addr,(∀H,b7 K H aF (ts.map V.ref))/\Paired (λt (p:Nat×W)=>∀H,b7 K H t [.int (p.1:Nat),.str (st p.2)]) ts fc
 range:mg "range"=none
section
variable {P:Program}{w:World}{K:aaa}{mg:aac}{base:Heap}
def AY (K:aaa):Sp:=λvs H Q _=>∃(a:Addr) (ws:List W),vs=[.ref a]/\aQ K H a (sV ws)/\mS ws/\∀H',au H H'->Q (.bl (iF ws)) H'
theorem GO:aG ["words"] ["words"] (aw lN):=fs
theorem HL (G:GW mg){k:Nat}(FN:Fn P w K mg base bE k "is_name" ["word"] mf){f:Addr}{fd:FuncData}(F:de K "is_day" "is_day" lN f fd):a8 P w K mg base bE (k+1) f fd ["words"] (AY K):=by
 refine F.ok GO (λvs H Q E h=>?_) (λLz A outer s H vs Q E hr h=>?_)
 · obtain⟨a,ws,rfl,_⟩:=h;rfl
 · obtain⟨a,ws,rfl,hS,ok,q⟩:=h;refine⟨_,ak (az (wW (ft ck (bg G.len (pv 0)) ax (aJ _)) (wW (ft ck (bo aL (pv 0) ax (λ_ _=>rfl)) bt (aJ _))
    (wx (aS FN hr a_ (aa (bo aL (pv 0) ax (λ_ _=>rfl)) ah)))))),?_⟩
   refine ze (b9 (aU (ag rfl) (.inl hS)) aC) (λh=>?_) (λh=>?_)
   · rw[aX,dH] at h;have hl:ws.length=2:=by have:=YT h;omega
     refine ze (b9 (a6 (ag rfl) aC hS (dD (i:=0) (by omega))) aC) (λh=>?_) (λh=>?_)
     · rw[iO] at h;refine (a6 (ag rfl) aC hS (dD (i:=1) (by omega))) _ ⟨_,rfl,(ok.getD 1).1,λH' e=>?_⟩;have:iF ws=eN (ws.getD 1 []):=by
        unfold iF;rw[hl,XI h];simp
       rw[←this];exact q H' e
     · rw[iO] at h;have:iF ws=false:=by
        unfold iF;have z:(ws.getD 0 []==cd "day")=false:=by
         rw[XX];exact X8 h
        rw[z];simp
       rw[←this];exact q H (au.refl H)
   · rw[aX,dH] at h;have:iF ws=false:=by
      unfold iF;have z:(ws.length==2)=false:=by
       rw[XX] at h ⊢;exact λz=>h (by rw[z];rfl)
      rw[z];rfl
     rw[←this];exact q H (au.refl H)
def fz (ws:List W):Bool:=ws.length==16&&(fc.all λp=>ws.getD p.1 []==p.2)&&eN (ws.getD 1 [])&&(dG (ws.getD 2 [])).isSome
def wG (K:aaa):Sp:=λvs H Q _=>∃(a:Addr) (ws:List W),vs=[.ref a]/\aQ K H a (sV ws)/\mS ws/\∀H',au H H'->Q (.bl (fz ws)) H'
theorem uZ {ts:Tote.Kind->Addr}{w:W}:valueAt [((.inr (st (cd "place")):Key),Value.ref (ts .place)),(.inr (st (cd "order")),.ref (ts .order)),(.inr (st (cd "any")),.ref (ts .any)),(.inr (st (cd "legs")),.ref (ts .legs))] (.inr (st w))=(dG w).map λk=>Value.ref (ts k):=by
 have key:∀s:W,((Sum.inr (st s):Key)=Sum.inr (st w))↔s=w:=λs=>⟨λh=>jB.mp (Sum.inr.inj h),λh=>by rw[h]⟩;unfold valueAt dG;simp only[Y3,List.find?_nil,key];by_cases h1:w=cd "place"
 · subst h1;simp
 · rw[Yc (λz=>h1 z.symm),Xo h1];by_cases h2:w=cd "order"
   · subst h2;simp
   · rw[Yc (λz=>h2 z.symm),Xo h2];by_cases h3:w=cd "any"
     · subst h3;simp
     · rw[Yc (λz=>h3 z.symm),Xo h3];by_cases h4:w=cd "legs"
       · subst h4;simp
       · rw[Yc (λz=>h4 z.symm),Xo h4];rfl
theorem oE:aG ["words","at","word"] ["words"] (aw dP):=fs
theorem DM {dS aF:Addr}(G:GW mg)(GC:GC P w K mg dS aF){k:Nat}(FN:Fn P w K mg base bE k "is_name" ["word"] mf){f:Addr}{fd:FuncData}(F:de K "has_pool_form" "has_pool_form" dP f fd) :
  a8 P w K mg base bE (k+1) f fd ["words"] (wG K):=by
 refine F.ok oE (λvs H Q E h=>?_) (λLz A outer s H vs Q E hr h=>?_)
 · obtain⟨a,ws,rfl,_⟩:=h;rfl
 · obtain⟨a,ws,rfl,hS,ok,q⟩:=h;obtain⟨ts,hD,hT⟩:=GC.BO;obtain⟨fs,hF,hP⟩:=GC.Ho;refine⟨_,af (aO (aB pE (bg G.len (pv 0)) (bb GC.words) (aJ _)) (ak (az mz)) aA)
    (af (aO (cz (h_ (bY (wg rfl) (by rfl) G.all PyProof.Rows.boot_all (aa (fA (g:=ED K 2 (pb (fH 1) (pb (fH 2) DO))) (te:=kI JZ (kI (zm K) (cH 0) (cH 1)) (cH 2)) rfl oE.nd (Hk (bb GC.fixed)) (bz (own:=[("at",1),("word",2)]) rfl)
      (λ_ _ _ _ _=>k_ rfl (cg (bp 1 oE.nd) (cg (bp 2 oE.nd) iP))) (λ_ _ _ _ _=>cq)
      (λ_ _ _ _ _=>ft ck (bo aL (pv 0) (pv 1) (λ_ _=>rfl)) (pv 2) (aJ _))) ah)))) (ak (az mz)) aA)
    (ak (az (wW (aS FN hr a_ (aa (bo aL (pv 0) ax (λ_ _=>rfl)) ah)) (wx (Hd (EG hD (bo aL (pv 0) ax (λ_ _=>rfl)) (bb GC.Fe)))))))),?_⟩
   refine aR (aI (oT (aU (ag rfl) (.inl hS)) aC)) (λh=>?_) (λh=>?_)
   · rw[aX,dH] at h;refine bS aC ?_;have:fz ws=false:=by
      unfold fz;have z:(ws.length==16)=false:=by
       rw[Yg,XX] at h;rw[XX];exact λz=>h (by rw[z];rfl)
      rw[z];rfl
     rw[←this];exact q H (au.refl H)
   · rw[aX,dH] at h;have hl:ws.length=16:=by
      rw[Yj] at h;have:=YT h;omega
     have MG:fs.length=7:=by rw[Paired.length hP];rfl
     refine⟨aF,rfl,⟨_,hF H⟩,λD M1=>Hr (K:=K) (a:=aF) (xs:=fs.map V.ref) (λi H'=>au H H'/\H' D=some (.lst ((fc.take i).map λp=>V.bl (decide (ws.getD p.1 []=p.2)))))
      ⟨(au.refl H).laid M1,ae⟩ (λi H' _ h=>hF H') ?_ ?_⟩
     · rintro i x H' hi ⟨k1,k2⟩;rw[Xs] at hi;obtain⟨t,ht,rfl⟩:=X0.mp hi;obtain⟨⟨n,wd⟩,hp,hs⟩:=Paired.qO hP ht;have hn:n < 16:=by
        have:=XT hp;simp at this;omega
       refine⟨t,_,rfl,hs H',rfl,_,_,rfl,_,_,rfl,rfl,rfl,?_⟩;refine (b9 (a6 (ag rfl) (ag rfl) (k1.seq hS) (dD (i:=n) (by omega))) (ag rfl)) _ ⟨_,k2,?_,?_⟩
       · rw[Xn,XN,XS];have:fc.length=7:=rfl;omega
       · refine⟨λb u z=>?_,?_⟩
         · rw[aq (ao z M1)];exact k1 b u z
         · rw[ae,take_snoc hp,XH];have:decide (V.str (st (ws.getD n []))=V.str (st wd))=decide (ws.getD n []=wd):=by
            rw[Za];exact⟨λh=>jB.mp (by injection h),λh=>by rw[h]⟩
           rw[this];rfl
     · rintro H' ⟨k1,k2⟩;have k2:H' D=some (.lst ((fc.take (fs.map V.ref).length).map λp=>V.bl (decide (ws.getD p.1 []=p.2)))):=k2;rw[Xn,MG] at k2;have eA:((fc.map λp=>decide (ws.getD p.1 []=p.2)).all id)=fc.all λp=>ws.getD p.1 []==p.2:=by
        rw[Zw];congr 1;funext p;show decide (ws.getD p.1 []=p.2)=(ws.getD p.1 []==p.2);rw[X3,Xw,Ye]
       refine⟨D,fc.map λp=>decide (ws.getD p.1 []=p.2),rfl,aQ.of (by rw[k2,XR];rfl),_,rfl,?_⟩;rw[eA];refine gG (λh=>?_) (λh=>?_)
       · refine bS aC ?_;have:fz ws=false:=by
          unfold fz;rw[Yg] at h;rw[h];simp
         rw[←this];exact q H' k1
       · have hA:(fc.all λp=>ws.getD p.1 []==p.2)=true:=by simpa using h
         refine (a6 (ag rfl) aC (k1.seq hS) (dD (i:=1) (by omega))) _ ⟨_,rfl,(ok.getD 1).1,λH2 e2=>⟨_,rfl,?_⟩⟩;have eF:fz ws=(eN (ws.getD 1 [])&&(dG (ws.getD 2 [])).isSome):=by
          unfold fz;rw[hA,hl];simp
         refine gG (λh=>?_) (λh=>?_)
         · refine (a6 (ag rfl) aC ((k1.trans e2).seq hS) (dD (i:=2) (by omega))) _ ⟨Sum.inr (st (ws.getD 2 [])),rfl,rfl,?_⟩;rw[uZ];have:((dG (ws.getD 2 [])).map λk=>Value.ref (ts k)).isSome=fz ws:=by
            rw[eF,h,Option.isSome_map];rfl
           rw[this];exact q H2 (k1.trans e2)
         · have:fz ws=false:=by
            rw[eF];have:eN (ws.getD 1 [])=false:=by simpa using h
            rw[this];rfl
           rw[←this];exact q H2 (k1.trans e2)
end
theorem gg {σ:L2.St}{H:Hp}{te:TE}{wd:W}(h:Ev te σ H (.str (st wd)))(ok:wd.length<=70000/\∀c∈wd,c < 128):Ev (nE kP [] E0 (cM te eV)) σ H (.int (ay wd)):=λ_ r=>h _ ⟨wd,rfl,ok.1,ok.2,r⟩
theorem yG {xs:List V}{i j:Nat}(h:j<=xs.length):fQ xs (some (i:Int)) (some (j:Int))=(xs.drop i).take (j - i):=by
 unfold fQ;rw[HT.kq,HT.kq,Zn h];by_cases hi:i<=xs.length
 · rw[Zn hi]
 · rw[Nat.min_eq_right (by omega),Zj (Xx _),Zj (by omega)];simp
section
variable {P:Program}{w:World}{K:aaa}{mg:aac}{base:Heap}
def fb (ws:List W):Bool :=
 !(!(decide (0<=ay (ws.getD 7 []))&&decide (ay (ws.getD 7 [])<=400))||!(decide (1<=ay (ws.getD 9 []))&&decide (ay (ws.getD 9 [])<=1000))) &&
 (!(!(decide (1<=ay (ws.getD 13 []))&&decide (ay (ws.getD 13 [])<=10000))||!(decide (ay (ws.getD 11 [])=0)||(decide (ay (ws.getD 13 [])<=ay (ws.getD 11 []))&&decide (ay (ws.getD 11 [])<=2*ay (ws.getD 13 []))))) &&
 (if ws.getD 15 []=cd "fewer" then !decide (ws.getD 2 []=cd "place") else decide (ws.getD 15 []=cd "refund")||decide (ws.getD 15 []=cd "carry")))
def t8 (K:aaa):Sp:=λvs H Q _=>∃(a:Addr) (ws:List W),vs=[.ref a]/\aQ K H a (sV ws)/\mS ws/\ws.length=16/\∀H',au H H'->Q (.bl (fb ws)) H'
theorem qG:aG ["words","least","unit"] ["words"] (aw dB):=fs
theorem A8 {k:Nat}(FN:Fn P w K mg base bE k "number_of" ["word"] kP){f:Addr}{fd:FuncData}(F:de K "are_terms_good" "are_terms_good" dB f fd):a8 P w K mg base bE (k+1) f fd ["words"] (t8 K):=by
 refine F.ok qG (λvs H Q E h=>?_) (λLz A outer s H vs Q E hr h=>?_)
 · obtain⟨a,ws,rfl,_⟩:=h;rfl
 · obtain⟨a,ws,rfl,hS,ok,hl,q⟩:=h;refine⟨_,af (a7 1 qG.nd (aS FN hr a_ (aa (bo aL (pv 0) ax (λ_ _=>rfl)) ah)))
    (af (a7 2 qG.nd (aS FN hr a_ (aa (bo aL (pv 0) ax (λ_ _=>rfl)) ah)))
    (af (aO (PW.pt (d9 (cz (cA cb cb ax (aS FN hr a_ (aa (bo aL (pv 0) ax (λ_ _=>rfl)) ah)) ax)) (cR (cz (cA cb cb ax (aS FN hr a_ (aa (bo aL (pv 0) ax (λ_ _=>rfl)) ah)) ax))))) (ak (az mz)) aA)
    (af (aO (PW.pt (d9 (cz (cA cb cb ax (pv 2) ax)) (cR (cz (PW.pt (d9 (aB ck (pv 1) ax (aJ _)) (cR (cA cb cb (pv 2) (pv 1) (bG wY ax (pv 2)))))))))) (ak (az mz)) aA)
    (af (aO (aB ck (bo aL (pv 0) ax (λ_ _=>rfl)) bt (aJ _)) (ak (az (ft pE (bo aL (pv 0) ax (λ_ _=>rfl)) bt (aJ _)))) aA)
    (ak (az (ft gd (bo aL (pv 0) ax (λ_ _=>rfl)) (di (aa bt (aa bt ah))) (by with_unfolding_all rfl)))))))),?_⟩
   refine cE (gg (a6 (ag rfl) aC hS (dD (i:=11) (by omega))) (ok.getD 11)) ?_;refine cE (gg (a6 (ag rfl) aC hS (dD (i:=13) (by omega))) (ok.getD 13)) ?_;refine aR (gN (e_ (cy aC (gg (a6 (ag rfl) aC hS (dD (i:=7) (by omega))) (ok.getD 7)) aC)) λ_=>e_ (cy aC (gg (a6 (ag rfl) aC hS (dD (i:=9) (by omega))) (ok.getD 9)) aC)) (λh=>?_) (λh1=>?_)
   · refine bS aC ?_;have:fb ws=false:=by unfold fb;rw[h];rfl
     rw[←this];exact q H (au.refl H)
   refine aR (gN (e_ (cy aC (ag rfl) aC)) λ_=>e_ (gN (aI (b9 (ag rfl) aC)) λ_=>cy (ag rfl) (ag rfl) (yV aC (ag rfl) (.inl ⟨by decide,by decide⟩)))) (λh=>?_) (λh2=>?_)
   · refine bS aC ?_;have:fb ws=false:=by
      unfold fb;have e:decide (V.int (ay (ws.getD 11 []))=V.int 0)=decide (ay (ws.getD 11 [])=0):=by rw[aX];rfl
      rw[e] at h;rw[h];simp
     rw[←this];exact q H (au.refl H)
   have e2:fb ws=if ws.getD 15 []=cd "fewer" then !decide (ws.getD 2 []=cd "place") else decide (ws.getD 15 []=cd "refund")||decide (ws.getD 15 []=cd "carry"):=by
    unfold fb;have e:decide (V.int (ay (ws.getD 11 []))=V.int 0)=decide (ay (ws.getD 11 [])=0):=by rw[aX];rfl
    rw[e] at h2;rw[h1,h2];simp
   refine aR (aI (b9 (a6 (ag rfl) aC hS (dD (i:=15) (by omega))) aC)) (λh=>?_) (λh=>?_)
   · rw[iO] at h;refine bS (oT (a6 (ag rfl) aC hS (dD (i:=2) (by omega))) aC) ?_;rw[iO];rw[Xp (XI h)] at e2;rw[←e2];exact q H (au.refl H)
   · rw[iO] at h;refine (a6 (ag rfl) aC hS (dD (i:=15) (by omega))) _ ⟨(by show 2<=sizeLine;decide),λt ht=>⟨t,_,rfl,.inr (b7.of ae),rfl,rfl,?_⟩⟩;rw[Xo (X8 h)] at e2;have:oh (V.str (st (ws.getD 15 []))) [V.str (Str.ofString "refund"),V.str (Str.ofString "carry")]=fb ws:=by
      rw[e2];have key:∀s:String,sE (V.str (Str.ofString s)) (V.str (st (ws.getD 15 [])))=decide (ws.getD 15 []=cd s):=λs=>by
       show (Str.ofString s==st (ws.getD 15 []))=_;rw[X3,Ye,Xw,kO,jB];exact⟨λz=>z.symm,λz=>z.symm⟩
      show ([V.str (Str.ofString "refund"),V.str (Str.ofString "carry")].any λy=>sE y (V.str (st (ws.getD 15 []))))=_;simp only[YX,List.any_nil,key,ZD]
     rw[←this] at q;exact q _ ((au.refl H).laid ht)
def md (kd:Tote.Kind)(k rc:Nat)(rs:Z9):Bool:=match kd with
 |.legs=>decide (rc+k<=rs.length+1)
 |_=>decide (k<=(rs.getD (rc - 1) []).length)
def gJ {α:Type}(d:α)(kd:Tote.Kind)(k rc:Nat)(as:List α):List α:=match kd with
 |.legs=>(as.drop (rc - 1)).take k
 |.place=>[as.getD (rc - 1) d]
 |_=>List.replicate k (as.getD (rc - 1) d)
theorem wN (kd:Tote.Kind)(k rc:Nat)(rs:Z9):gJ [] kd k rc rs=fm kd k rc rs:=by cases kd <;> rfl
theorem uf {α β:Type}{F:α->β->Prop}{d:α}{e:β}{kd:Tote.Kind}{k rc:Nat}{as:List α}{rs:List β}(h:Paired F as rs)(h1:1<=rc)(h2:rc<=rs.length):Paired F (gJ d kd k rc as) (gJ e kd k rc rs):=by
 obtain⟨y,hy⟩:∃y,rs[rc - 1]?=some y:=⟨_,Xy (by omega)⟩;obtain⟨x,hx,hf⟩:=Paired.at2 h hy;have ex:as.getD (rc - 1) d=x:=by rw[X7,hx];rfl
 have ey:rs.getD (rc - 1) e=y:=by rw[X7,hy];rfl
 unfold gJ;cases kd with
 |legs=>exact Paired.tk k (Paired.dp (rc - 1) h)
 |place=>rw[ex,ey];exact .cons hf .nil
 |order=>rw[ex,ey];exact Paired.rep hf k
 |any=>rw[ex,ey];exact Paired.rep hf k
def qd (K:aaa):Sp:=λvs H Q _=>∃(kd:Tote.Kind) (k rc:Nat) (a:Addr) (as:List Addr) (rs:Z9),vs=[.str (st (cd (kindS kd))),.int (k:Nat),.int (rc:Nat),.ref a]/\aQ K H a (as.map V.ref)/\Paired (hZ K H) as rs/\1<=k/\k<=6/\1<=rc/\rc<=rs.length/\rs.length<=70000 /\
 (md kd k rc rs=false->Q .cf H)/\(md kd k rc rs=true->∀H' p,au H H'->H p=none->H' p=some (.lst ((gJ 0 kd k rc as).map V.ref))->Q (.ref p) H')
theorem iA {kd:Tote.Kind}{s:String}:decide (V.str (st (cd (kindS kd)))=V.str (Str.ofString s))=decide (cd (kindS kd)=cd s):=iO
theorem jY:aG ["kind","size","race","races","interests","place"] ["kind","size","race","races"] (aw gY):=fs
theorem zT {dS aF:Addr}(G:GW mg)(GC:GC P w K mg dS aF){f:Addr}{fd:FuncData}(F:de K "fields_of" "fields_of" gY f fd):a8 P w K mg base bE 1 f fd ["kind","size","race","races"] (qd K):=by
 refine F.oa jY λLz A outer s H vs Q E hr h=>?_;obtain⟨kd,k,rc,a,as,rs,rfl,hA,hP,hk1,SE,NN,hr2,hr3,q0,q1⟩:=h;have LA:as.length=rs.length:=Paired.length hP;refine⟨_,af (aO (aB ck (pv 0) bt (aJ _)) (af (aO (aB kQ (bG fE (bG ej (pv 2) (pv 1)) ax) (bg G.len (pv 3)) (aJ _)) (ak (az cC)) aA)
   (ak (az (dq fW (pv 3) (dv (bG fE (pv 2) ax)) (dv (bG ej (bG fE (pv 2) ax) (pv 1))))))) aA)
  (af (oV (i:=4) jY.nd rfl (Or.inr rfl) (bo aL (pv 3) (bG fE (pv 2) ax) (λ_ _=>rfl)))
  (af (aO (aB nS (bg G.len (pv 4)) (pv 1) (aJ _)) (ak (az cC)) aA)
  (af (aO (aB ck (pv 0) bt (aJ _)) (ak (az (bV (aa (pv 4) ah)))) aA)
  (ak (az (fA rfl jY.nd (gf rfl GC.range (aa (pv 1) ah)) (bz (own:=[("place",5)]) rfl) (λ_ _ _ _ _=>bp 5 jY.nd) (λ_ _ _ _ _=>cq) (λ_ _ _ _ _=>pv 4))))))),?_⟩
 refine aR (aI (b9 (ag rfl) aC)) (λh=>?_) (λh=>?_)
 · rw[iA] at h;have e:kd=.legs:=by
    cases kd <;> first|rfl|(exact absurd (XI h) (by decide))
   subst e;refine aR (jE (mn (mn (ag rfl) (ag rfl)) aC) (aU (ag rfl) (.inl hA))) (λh=>?_) (λh=>?_)
   · refine bS aC (q0 ?_);rw[Xn,LA] at h;have:=XI h;exact Yc (by omega)
   · rw[Xn,LA] at h;have:=X8 h;refine⟨_,rfl,?_⟩;refine (mn (ag rfl) aC) _ ⟨_,rfl,?_⟩;refine (mn (mn (ag rfl) aC) (ag rfl)) _ ⟨_,rfl,a,as.map V.ref,rfl,hA,λp hp=>?_⟩;have e1:(rc:Int) - 1=((rc - 1:Nat):Int):=by omega
     have e2:(rc:Int) - 1+(k:Int)=((rc - 1+k:Nat):Int):=by omega
     rw[e1,show (((rc - 1:Nat):Int)+(k:Int))=((rc - 1+k:Nat):Int) by omega,yG (by rw[Xn,LA];omega)];refine q1 (X4 (by omega)) _ p ((au.refl H).laid hp) hp ?_;show upd H p _ p=some (.lst (((as.drop (rc - 1)).take k).map V.ref));rw[ae,show rc - 1+k - (rc - 1)=k by omega,List.map_take,ZT]
 · rw[iA] at h;have SG:kd≠.legs:=by
    rintro rfl;exact absurd (X8 h) (by decide)
   obtain⟨ns,OM⟩:∃ns,rs[rc - 1]?=some ns:=⟨_,Xy (by omega)⟩;obtain⟨ai,LZ,hI⟩:=Paired.at2 hP OM;have hg:rs.getD (rc - 1) []=ns:=by rw[X7,OM];rfl
   have SI:as.getD (rc - 1) 0=ai:=by rw[X7,LZ];rfl
   have VQ:nW (as.map V.ref) ((rc:Int) - 1)=some (.ref ai):=by
    rw[show (rc:Int) - 1=((rc - 1:Nat):Int) by omega];exact cw (by rw[Xs,LZ];rfl)
   refine cE (a6 (ag rfl) (mn (ag rfl) aC) hA VQ) ?_;have eO:md kd k rc rs=decide (k<=ns.length):=by
    unfold md;rw[hg];cases kd <;> first|rfl|exact absurd rfl SG
   rw[eO] at q0 q1;refine aR (jE (aU (ag rfl) (.inl hI)) (ag rfl)) (λh=>?_) (λh=>?_)
   · refine bS aC (q0 (Yc ?_));rw[aN] at h;have:=XI h;omega
   · rw[aN] at h;have:=X8 h;have q1:=q1 (X4 (by omega));refine aR (aI (b9 (ag rfl) aC)) (λh=>?_) (λh=>?_)
     · rw[iA] at h;have e:kd=.place:=by
        cases kd <;> first|rfl|(exact absurd (XI h) (by decide))
       subst e;refine⟨_,rfl,(by show 1<=sizeLine;decide),λp hp=>q1 _ p ((au.refl H).laid hp) hp ?_⟩;show upd H p _ p=some (.lst [.ref (as.getD (rc - 1) 0)]);rw[SI];exact ae
     · rw[iA] at h;have Od:kd≠.place:=by
        rintro rfl;exact absurd (X8 h) (by decide)
       have eF:gJ 0 kd k rc as=List.replicate k ai:=by
        unfold gJ;rw[SI];cases kd <;> first|rfl|exact absurd rfl SG|exact absurd rfl Od
       rw[eF] at q1;refine⟨_,rfl,(k:Int),rfl,by omega,by omega,λD hD=>?_⟩;rw[show ((k:Int)).toNat=k by omega];refine lK (lo:=0) (n:=k) (λi H'=>au H H'/\H' D=some (.lst ((List.replicate i ai).map V.ref))) ⟨(au.refl H).laid hD,ae⟩ ?_ ?_
       · rintro i H' hi ⟨k1,k2⟩;refine⟨rfl,_,rfl,_,k2,?_,?_⟩
         · rw[Xn,XZ,XS];omega
         · refine⟨λb u z=>?_,?_⟩
           · rw[aq (ao z hD)];exact k1 b u z
           · rw[ae,List.replicate_succ',XH];rfl
       · rintro H' ⟨k1,k2⟩;exact q1 H' D k1 hD k2
end
theorem mU {w:W}{kd:Tote.Kind}(h:dG w=some kd):w=cd (kindS kd):=by
 unfold dG at h;split at h
 · rename_i e;cases h;exact e
 · split at h
   · rename_i e;cases h;exact e
   · split at h
     · rename_i e;cases h;exact e
     · split at h
       · rename_i e;cases h;exact e
       · cases h
theorem rH {ws:List W}(h:fz ws=true):ws.length=16/\∃kd,dG (ws.getD 2 [])=some kd:=by
 unfold fz at h;simp only[Xv,Ye] at h;exact⟨h.1.1.1,Zz.mp h.2⟩
theorem Fv {ws:List W}(h:ws.length=16):∃p nm kd k fr rc tk t br b le m un u no z:W,ws=[p,nm,kd,k,fr,rc,tk,t,br,b,le,m,un,u,no,z]:=by
 match ws,h with
 |[p,nm,kd,k,fr,rc,tk,t,br,b,le,m,un,u,no,z],_=>exact⟨p,nm,kd,k,fr,rc,tk,t,br,b,le,m,un,u,no,z,rfl⟩
theorem sq {ws:List W}{rs:Z9}(h:¬(fz ws=true/\fb ws=true)):eX ws rs=none:=by
 by_cases hl:ws.length=16
 · obtain⟨p,nm,kd,k,fr,rc,tk,t,br,b,le,m,un,u,no,z,rfl⟩:=Fv hl;show (match dG kd with
    |none=>none
    |some kind=>if dw rs kind p nm k fr rc tk t br b le m un u no z then some (⟨nm,kind,fm kind (ay k).toNat (ay rc).toNat rs,(ay u).toNat⟩:aM) else none)=none
   cases hk:dG kd with
   |none=>rfl
   |some kind =>
    show (if dw rs kind p nm k fr rc tk t br b le m un u no z then _ else none)=none;rw[Xo];rintro⟨c1,c2,c3,c4,c5,c6,c7,c8,c9,Pq,Pr,Ny,N0,M_,Nz,MA⟩;refine h ⟨?_,?_⟩
    · unfold fz;show (_&&(fc.all λq=>_)&&eN nm&&(dG kd).isSome)=true;rw[c8,hk];simp[fc,c1,c2,c3,c4,c5,c6,c7]
    · have M8:=mU hk;unfold fb;show (!(!(decide (0<=ay t)&&decide (ay t<=400))||!(decide (1<=ay b)&&decide (ay b<=1000)))&&(!(!(decide (1<=ay u)&&decide (ay u<=10000))||!(decide (ay m=0)||(decide (ay u<=ay m)&&decide (ay m<=2*ay u)))) &&
       (if z=cd "fewer" then !decide (kd=cd "place") else decide (z=cd "refund")||decide (z=cd "carry"))))=true
      have d1:(decide (0<=ay t)&&decide (ay t<=400))=true:=by simp[c9]
      have d2:(decide (1<=ay b)&&decide (ay b<=1000))=true:=by simp[Pq]
      have d3:(decide (1<=ay u)&&decide (ay u<=10000))=true:=by simp[Pr]
      have d4:(decide (ay m=0)||(decide (ay u<=ay m)&&decide (ay m<=2*ay u)))=true:=by simpa using Ny
      rw[d1,d2,d3,d4];by_cases hz:z=cd "fewer"
      · rw[Xp hz];rcases N0 with c|c|c
        · have:kd≠cd "place":=by
           rw[M8];intro e;exact c.2 (by cases kind <;> first|rfl|exact absurd e (by decide))
          simp[this]
        · rw[hz] at c;exact absurd c (by decide)
        · rw[hz] at c;exact absurd c (by decide)
      · rw[Xo hz];rcases N0 with c|c|c
        · exact absurd c.1 hz
        · simp[c]
        · simp[c]
 · unfold eX;split
   · rename_i e;exact absurd (by rfl) hl
   · rfl
theorem DS {ws:List W}{rs:Z9}{kd:Tote.Kind}(hf:fz ws=true)(ht:fb ws=true)(hk:dG (ws.getD 2 [])=some kd) :
  eX ws rs=if ((sizeOf kd).1<=ay (ws.getD 3 [])/\ay (ws.getD 3 [])<=(sizeOf kd).2)/\(1<=ay (ws.getD 5 [])/\ay (ws.getD 5 [])<=(rs.length:Int))/\md kd (ay (ws.getD 3 [])).toNat (ay (ws.getD 5 [])).toNat rs=true
   then some ⟨ws.getD 1 [],kd,fm kd (ay (ws.getD 3 [])).toNat (ay (ws.getD 5 [])).toNat rs,(ay (ws.getD 13 [])).toNat⟩ else none:=by
 obtain⟨hl,_⟩:=rH hf;obtain⟨p,nm,kw,k,fr,rc,tk,t,br,b,le,m,un,u,no,z,rfl⟩:=Fv hl;have hk:dG kw=some kd:=hk;show (match dG kw with
   |none=>none
   |some kind=>if dw rs kind p nm k fr rc tk t br b le m un u no z then some (⟨nm,kind,fm kind (ay k).toNat (ay rc).toNat rs,(ay u).toNat⟩:aM) else none)=if ((sizeOf kd).1<=ay k/\ay k<=(sizeOf kd).2)/\(1<=ay rc/\ay rc<=(rs.length:Int))/\md kd (ay k).toNat (ay rc).toNat rs=true
   then some (⟨nm,kd,fm kd (ay k).toNat (ay rc).toNat rs,(ay u).toNat⟩:aM) else none
 rw[hk];show (if dw rs kd p nm k fr rc tk t br b le m un u no z then some (⟨nm,kd,fm kd (ay k).toNat (ay rc).toNat rs,(ay u).toNat⟩:aM) else none)=_;have key:dw rs kd p nm k fr rc tk t br b le m un u no z↔((sizeOf kd).1<=ay k/\ay k<=(sizeOf kd).2)/\(1<=ay rc/\ay rc<=(rs.length:Int))/\md kd (ay k).toNat (ay rc).toNat rs=true:=by
  have M8:=mU hk;have f1:(fc.all λq=>[p,nm,kw,k,fr,rc,tk,t,br,b,le,m,un,u,no,z].getD q.1 []==q.2)=true:=by
   unfold fz at hf;simp only[Xv] at hf;exact hf.1.1.2
  have f2:eN nm=true:=by
   unfold fz at hf;simp only[Xv] at hf;exact hf.1.2
  have f1:p=cd "pool"/\fr=cd "from"/\tk=cd "take"/\br=cd "break"/\le=cd "least"/\un=cd "unit"/\no=cd "none":=by
   have g:((p==cd "pool")&&((fr==cd "from")&&((tk==cd "take")&&((br==cd "break")&&((le==cd "least")&&((un==cd "unit")&&((no==cd "none")&&true)))))))=true:=f1;simp only[Xv,Ye] at g;obtain⟨g1,g2,g3,g4,g5,g6,g7,_⟩:=g;exact⟨g1,g2,g3,g4,g5,g6,g7⟩
  have f3:(!(!(decide (0<=ay t)&&decide (ay t<=400))||!(decide (1<=ay b)&&decide (ay b<=1000)))&&(!(!(decide (1<=ay u)&&decide (ay u<=10000))||!(decide (ay m=0)||(decide (ay u<=ay m)&&decide (ay m<=2*ay u)))) &&
        (if z=cd "fewer" then !decide (kw=cd "place") else decide (z=cd "refund")||decide (z=cd "carry"))))=true:=ht
  simp only[Xv,Yg,Yz,Yj,Xw,Yp] at f3;obtain⟨⟨t1,t2⟩,⟨t3,t4⟩,t5⟩:=f3;have s1:(leastK kd:Int)=(sizeOf kd).1:=by cases kd <;> rfl
  have s2:(mostK kd:Int)=(sizeOf kd).2:=by cases kd <;> rfl
  have s3:1<=(sizeOf kd).1:=by cases kd <;> decide
  constructor
  · rintro⟨_,_,_,_,_,_,_,_,_,_,_,_,_,M_,Nz,MA⟩;rw[s1,s2] at M_;refine⟨M_,Nz,?_⟩;unfold md;rcases MA with ⟨rfl,c⟩|⟨hn,c⟩
    · exact X4 (by omega)
    · have e:(ay rc - 1).toNat=(ay rc).toNat - 1:=by omega
      rw[e] at c;cases kd <;> first|exact X4 (by omega)|exact absurd rfl hn
  · rintro⟨M_,Nz,MA⟩;refine⟨f1.1,f1.2.1,f1.2.2.1,f1.2.2.2.1,f1.2.2.2.2.1,f1.2.2.2.2.2.1,f1.2.2.2.2.2.2,f2,t1,t2,t3,t4,?_,by rw[s1,s2];exact M_,Nz,?_⟩
    · split at t5
      · rename_i hz;simp only[Yg,X6] at t5;refine .inl ⟨hz,?_⟩;rintro rfl;exact t5 M8
      · refine .inr ?_;simpa using t5
    · have e:(ay rc - 1).toNat=(ay rc).toNat - 1:=by omega
      rw[e];unfold md at MA;by_cases hn:kd=.legs
      · subst hn;have:=XI MA;exact .inl ⟨rfl,by omega⟩
      · refine .inr ⟨hn,?_⟩;have:(ay k).toNat<=(rs.getD ((ay rc).toNat - 1) []).length:=by
         cases kd <;> first|exact XI MA|exact absurd rfl hn
        omega
 by_cases hc:dw rs kd p nm k fr rc tk t br b le m un u no z
 · rw[Xp hc,Xp (key.mp hc)]
 · rw[Xo hc,Xo (λz=>hc (key.mpr z))]
section
variable {P:Program}{w:World}{K:aaa}{mg:aac}{base:Heap}
def xN (K:aaa) (C:Addr):Sp:=λvs H Q _=>∃(a b:Addr) (ws:List W) (as:List Addr) (rs:Z9),vs=[.ref a,.ref b]/\aQ K H a (sV ws)/\mS ws/\aQ K H b (as.map V.ref)/\Paired (hZ K H) as rs/\rs.length<=16 /\
 (eX ws rs=none->∀H',au H H'->Q .cf H')/\(∀p,eX ws rs=some p->∀H' x dx fa My,au H H'->H x=none->H fa=none->H' x=some (.ins C dx (jj (.str (st p.name)) (.str (st (cd (kindS p.kind)))) (.ref fa) (.int (p.unit:Nat)))) ->
  H' fa=some (.lst (My.map V.ref))->(∀F:Addr->Z_->Prop,Paired F as rs->Paired F My p.fields)->Q (.ref x) H')
theorem jV:aG ["words","races","kind","size","bounds","race","fields"] ["words","races"] (aw gX):=fs
theorem C8 {dS aF C:Addr}(G:GW mg)(GC:GC P w K mg dS aF)(T:CK K mg "Pool" gZ C){k:Nat}(FF:Fn P w K mg base bE k "has_pool_form" ["words"] (wG K))(FT:Fn P w K mg base bE k "are_terms_good" ["words"] (t8 K))
  (FN:Fn P w K mg base bE k "number_of" ["word"] kP)(FL:Fn P w K mg base bE k "fields_of" ["kind","size","race","races"] (qd K))(FP:xY P w K mg base bE k C ["self","name","kind","fields","unit"] (tK C))
  {f:Addr}{fd:FuncData}(F:de K "read_pool" "read_pool" gX f fd):a8 P w K mg base bE (k+2) f fd ["words","races"] (xN K C):=by
 refine F.ok jV (λvs H Q E h=>?_) (λLz A outer s H vs Q E NN h=>?_)
 · obtain⟨_,_,_,_,_,rfl,_⟩:=h;rfl
 · obtain⟨a,b,ws,as,rs,rfl,hS,ok,VR,PV,OX,q0,q1⟩:=h;have hr:cK k _:=NN.mono (Nat.le_succ k);obtain⟨ts,hD,hT⟩:=GC.BO;refine⟨_,af (aO (PW.pt (d9 (cz (h_ (aS FF hr a_ (aa (pv 0) ah)))) (cR (cz (h_ (aS FT hr a_ (aa (pv 0) ah))))))) (ak (az cC)) aA)
    (af (a7 2 jV.nd (bo aL (pv 0) ax (λ_ _=>rfl)))
    (af (a7 3 jV.nd (aS FN hr a_ (aa (bo aL (pv 0) ax (λ_ _=>rfl)) ah)))
    (af (a7 4 jV.nd (CT hD (bb GC.Fe) (pv 2) (λ_ _=>rfl)))
    (af (a7 5 jV.nd (aS FN hr a_ (aa (bo aL (pv 0) ax (λ_ _=>rfl)) ah)))
    (af (aO (PW.pt (d9 (cz (cA cb cb (bo Cf (pv 4) ax (λ_ _=>rfl)) (pv 3) (bo Cf (pv 4) ax (λ_ _=>rfl)))) (cR (cz (cA cb cb ax (pv 5) (bg G.len (pv 1))))))) (ak (az cC)) aA)
    (af (a7 6 jV.nd (aS FL hr a_ (aa (pv 2) (aa (pv 3) (aa (pv 5) (aa (pv 1) ah))))))
    (af (aO (aB ua (pv 6) cC (aJ _)) (ak (az cC)) aA)
    (ak (az (qi FP NN T.mg a_ (aa (bo aL (pv 0) ax (λ_ _=>rfl)) (aa (pv 2) (aa (pv 6) (aa (aS FN hr a_ (aa (bo aL (pv 0) ax (λ_ _=>rfl)) ah)) ah)))))))))))))),?_⟩
   refine⟨_,rfl,a,ws,rfl,hS,ok,λH1 e1=>⟨_,rfl,?_⟩⟩;refine gG (λh=>?_) (λh=>?_)
   · refine q0 (sq λz=>?_) H1 e1;rw[z.1] at h;cases h
   have hf:fz ws=true:=by simpa using h
   obtain⟨hl,kd,hk⟩:=rH hf;refine⟨_,rfl,a,ws,rfl,e1.seq hS,ok,hl,λH2 e2=>⟨_,rfl,?_⟩⟩;have MM:=e1.trans e2;refine gG (λh=>?_) (λh=>?_)
   · refine q0 (sq λz=>?_) H2 MM;rw[z.2] at h;cases h
   have ht:fb ws=true:=by simpa using h
   have Rh:=MM.seq hS;have pe:=DS (rs:=rs) hf ht hk;have M8:=mU hk;refine cE (a6 (ag rfl) aC Rh (dD (i:=2) (by omega))) ?_;refine cE (gg (a6 (ag rfl) aC Rh (dD (i:=3) (by omega))) (ok.getD 3)) ?_;refine⟨_,rfl,Sum.inr (st (ws.getD 2 [])),V.ref (ts kd),Value.ref (ts kd),rfl,rfl,by rw[uZ,hk];rfl,rfl,?_⟩;refine cE (gg (a6 (ag rfl) aC Rh (dD (i:=5) (by omega))) (ok.getD 5)) ?_;have hA:=MM.seq VR;have hP:=jc PV MM;have LA:as.length=rs.length:=Paired.length hP;refine aR (gN (e_ (cy (Ba (ag rfl) aC (hT kd H2) (cw (j:=0) rfl)) (ag rfl) (Ba (ag rfl) aC (hT kd H2) (cw (j:=1) rfl)))) λ_=>e_ (cy aC (ag rfl) (aU (ag rfl) (.inl hA)))) (λh=>?_) (λh=>?_)
   · refine bS aC (q0 ?_ H2 MM);rw[pe,Xo];rintro⟨z1,z2,_⟩;rw[Xn,LA] at h;simp only[Yp,Yg,YM,X6] at h;omega
   rw[Xn,LA] at h;simp only[Yz,Yj,Xv,Xw] at h;obtain⟨h1,h2⟩:=h;have s3:1<=(sizeOf kd).1:=by cases kd <;> decide
   have s4:(sizeOf kd).2<=6:=by cases kd <;> decide
   have n3:ay (ws.getD 3 [])=(((ay (ws.getD 3 [])).toNat:Nat):Int):=by omega
   have n5:ay (ws.getD 5 [])=(((ay (ws.getD 5 [])).toNat:Nat):Int):=by omega
   refine⟨_,rfl,_,rfl,_,rfl,_,rfl,kd,(ay (ws.getD 3 [])).toNat,(ay (ws.getD 5 [])).toNat,b,as,rs,by rw[←n3,←n5,←M8];rfl,hA,hP,by omega,by omega,by omega,by omega,by omega,λhO=>?_,λhO H3 p e3 VS hp=>?_⟩
   ·
    refine⟨_,rfl,rfl,_,rfl,q0 ?_ H2 MM⟩;rw[pe,Xo];rintro⟨_,_,z⟩;rw[hO] at z;cases z
   · refine⟨_,rfl,rfl,_,rfl,?_⟩;have Oq:=MM.trans e3;have SJ:=Oq.seq hS;refine (a6 (ag rfl) aC SJ (dD (i:=1) (by omega))) _ ⟨_,rfl,_,rfl,?_⟩;refine (gg (a6 (ag rfl) aC SJ (dD (i:=13) (by omega))) (ok.getD 13)) _ ?_;intro x dx nx PX nex;refine⟨x,dx,_,_,_,_,rfl,ae,rfl,?_⟩;rw[Xp ⟨h1,h2,hO⟩] at pe;have sm:au H3 (upd (upd (upd H3 dx (.own x)) x (.ins C dx [])) x (.ins C dx (jj (V.str (st (ws.getD 1 []))) (V.str (st (ws.getD 2 []))) (V.ref p) (V.int (ay (ws.getD 13 [])))))):=λb u z=>by
      rw[aq (ao z nx),aq (ao z nx),aq (ao z PX)];exact z
     have hu:0<=ay (ws.getD 13 []):=by
      unfold fb at ht;simp only[Xv,Yg,Yz,Yj,Xw] at ht;omega
     have OY:p≠x:=ao hp nx;have npd:p≠dx:=ao hp PX;refine q1 _ pe _ x dx p (gJ 0 kd (ay (ws.getD 3 [])).toNat (ay (ws.getD 5 [])).toNat as) (Oq.trans sm) (Oq.free nx) (MM.free VS) ?_ ?_ ?_
     · rw[ae,M8];rw[M8] at *;simp only[Int.toNat_of_nonneg hu]
     · exact sm _ _ hp
     · intro F0 VT;show Paired _ _ (fm _ _ _ rs);rw[←wN];exact uf VT (by omega) (by omega)
end
end Bw
namespace L2
open PySem PySem.Spec PyProof.Rows
theorem JA {te:TE}{D:Ends}{σ:St}{H:Hp}(h:te σ H D.rt):ET te D σ H:=h
theorem yf {wi:TI}{g:TG}{tt:TT}{te:TE}{vs:Z_}{σ:St}{H:Hp}{Q:VK}(h:wi σ H λJ H1=>∀D,H1 D=none->∃W:Nat->Nat->Hp->Prop,(∃m,W 0 m (upd H1 D (.lst [])))/\∀i m H,W i m H ->
 (J.stop i H/\Q (.ref D) H)∨(J.go i H/\∃Nx:Hp->Prop,(∀H',Nx H'->∃m',m' < m/\W (i+1) m' H')/\∀x H',J.vZ i H x H'->g x (wipe σ vs) H' λσ2 H2=>wipe σ2 vs=wipe σ vs/\tt σ2 H2 λb H3 =>
  if b=true then te σ2 H3 λy H4=>∃acc,H4 D=some (.lst acc)/\acc.length < sizeLine/\Nx (upd H4 D (.lst (acc++[y]))) else Nx H3)):HM wi g tt te vs σ H Q:=h
theorem jr {σ:St}{H:Hp}{ta tb:TE}{i j:Int}(ha:Ev ta σ H (.int i))(hb:Ev tb σ H (.int j)):Ev (kI (qI λi j=>.int (i+j)) ta tb) σ H (.int (i+j)):=λ_ r=>ha _ (hb _ ⟨i,j,rfl,rfl,r⟩)
theorem qB {σ:St}{H:Hp}{ta tb:TE}{i j:Int}(ha:Ev ta σ H (.int i))(hb:Ev tb σ H (.int j)):Ev (kI (qI λi j=>.int (i - j)) ta tb) σ H (.int (i - j)):=λ_ r=>ha _ (hb _ ⟨i,j,rfl,rfl,r⟩)
theorem sG {σ:St}{H:Hp}{ty td:TE}{y:V}{d:Addr}{o:Option V}(hy:Ev ty σ H y)(hd:Ev td σ H (.ref d))(g:gp H d y o):Tv (tB (JG ty td)) σ H o.isSome:=λ_ r=>hy _ (hd _ ⟨d,o,rfl,g,_,rfl,r⟩)
def DN (p q r:Int->Int->Bool)(ta tb tc td:TE):TT:=λσ H Q=>∃i j k l,Ev ta σ H (.int i)/\Ev tb σ H (.int j)/\Ev tc σ H (.int k)/\Ev td σ H (.int l)/\Q (p i j&&(q j k&&r k l)) H
theorem Ae {X:Cx}{a b c d:Expr}{o1 o2 o3:CmpOp}{p q r:Int->Int->Bool}{ta tb tc td:TE}{pos:Pos}(h1:jo X (compareOp o1) (qI λi j=>.bl (p i j)))(h2:jo X (compareOp o2) (qI λi j=>.bl (q i j)))(h3:jo X (compareOp o3) (qI λi j=>.bl (r i j)))
  (ha:PE X a ta)(hb:PE X b tb)(hc:PE X c tc)(hd:PE X d td)(hm:lastMarks [o1,o2,o3] [b,c,d]=false:=by with_unfolding_all rfl):PT X (.Compare a [o1,o2,o3] [b,c,d] pos) (DN p q r ta tb tc td):=by
 rintro pins s σ H Q I ⟨i,j,k,l,ea,eb,ec,ed,hq⟩;have get:∀{e:Expr} {te:TE} {v:V},PE X e te->Ev te σ H v->∀s',Inv X pins σ H s'->wpAny (model X.prog X.w) X.A (eval e X.env) (λu s2=>RelV v u/\Inv X pins σ H s2) X.xe s':=λ{e te v} he ev s' I' =>
  bA (he pins s' σ H (λx H1=>x=v/\H1=H) I' (ev _ ⟨rfl,rfl⟩)) λu s2 ⟨x,H1,I2,rx,e1,e2⟩=>by
   subst e1 e2;exact⟨rx,I2⟩
 have cmp:∀{op:CmpOp} {p:Int->Int->Bool} {i j:Int} {u v:Value},jo X (compareOp op) (qI λi j=>.bl (p i j))->RelV (.int i) u->RelV (.int j) v->∀s',Inv X pins σ H s'->wpAny (model X.prog X.w) X.A (compareOp op u v) (λc s2=>c=.bool (p i j)/\Inv X pins σ H s2) X.xe s':=λ{op p i j u v} ho ru rv s' I' =>
  bA (ho pins s' σ H _ _ u v (λx H1=>x=.bl (p i j)/\H1=H) I' ru rv ⟨i,j,rfl,rfl,rfl,rfl⟩) λc s2 ⟨x,H1,I2,rx,e1,e2⟩=>by
   subst e1 e2;exact⟨rx,I2⟩
 refine isTrue_chain (bA (get ha ea s I) λu0 s0 ⟨r0,I0⟩=>test_link (bA (get hb eb s0 I0) λu1 s1 ⟨r1,I1⟩=>bA (cmp h1 r0 r1 s1 I1) λc1 s2 ⟨e1,I2⟩=>?_)) hm;subst e1;refine YD ?_;cases z1:p i j with
 |false=>rw[z1] at hq;exact ite_ff ⟨H,I2,hq⟩
 |true =>
  rw[z1] at hq;refine ite_tt (test_link (bA (get hc ec s2 I2) λu2 s3 ⟨r2,I3⟩=>bA (cmp h2 r1 r2 s3 I3) λc2 s4 ⟨e2,I4⟩=>?_));subst e2;refine YD ?_;cases z2:q j k with
  |false=>rw[z2] at hq;exact ite_ff ⟨H,I4,hq⟩
  |true =>
   rw[z2] at hq;refine ite_tt (test_last (bA (get hd ed s4 I4) λu3 s5 ⟨r3,I5⟩=>bA (cmp h3 r2 r3 s5 I5) λc3 s6 ⟨e3,I6⟩=>?_));subst e3;exact YD ⟨H,I6,hq⟩
end L2
namespace Bw
open PySem PySem.Spec PyProof.Rows L2 Tote
def AA (H:Hp)(d:Addr)(l:Z_):Prop:=∃Lx,H d=some (.dK Lx)/\Lx.length<=l.length/\∀n:Nat,(cS Lx (Sum.inl (n:Int):Key)).isSome=decide (n∈l)
theorem AA.put {Lx:List (Key×V)}{l:Z_}{n:Nat}(h:Lx.length<=l.length)(hk:∀n:Nat,(cS Lx (Sum.inl (n:Int):Key)).isSome=decide (n∈l)) :
  (putK Lx (Sum.inl (n:Int)) (V.bl true)).length<=(l++[n]).length/\∀m:Nat,(cS (putK Lx (Sum.inl (n:Int)) (V.bl true)) (Sum.inl (m:Int):Key)).isSome=decide (m∈l++[n]):=by
 refine⟨?_,λm=>?_⟩
 · have:=gL Lx (Sum.inl (n:Int):Key) (V.bl true);rw[XM];simp;omega
 · rw[qx];by_cases e:m=n
   · subst e;rw[Xp rfl];simp
   · rw[Xo (λz=>e (by have:=Sum.inl.inj z;omega)),hk m];simp[e]
theorem Dy {b:Int}(hb:0<=b)(PL:b < 100000):Builtin.Range.small 2 b 3=true:=by
 unfold Builtin.Range.small Builtin.Range.rangeSize;simp only[Builtin.Range.rangeFitsLong,Xv,Yp,Xw,Ye,show ((3:Int) > 0) by decide,Y8];split <;> omega
theorem HN {m:Nat}:Builtin.Range.rangeSize 2 ((2+3*m:Nat):Int) 3=(m:Int):=by
 unfold Builtin.Range.rangeSize;simp only[show ((3:Int) > 0) by decide,Y8];split <;> omega
theorem Am {R:Nat}{c a b:W}{r:List W}{fs ss:Z_}:cX R (c::a::b::r) fs ss=if c=cd "couple"/\1<=ay a/\ay a < ay b/\ay b<=(R:Int)/\¬(ay a).toNat∈ss/\¬(ay b).toNat∈fs/\¬(ay b).toNat∈ss
  then cX R r (fs++[(ay a).toNat]) (ss++[(ay b).toNat]) else none:=rfl
theorem Jo {r:List W}{i:Nat}(h:i+3<=r.length):r.drop i=r.getD i []::r.getD (i+1) []::r.getD (i+2) []::r.drop (i+3):=by
 have g:∀j,j < r.length->r.drop j=r.getD j []::r.drop (j+1):=λj hj=>by
  rw[YL hj,X7,Xy hj];rfl
 rw[g i (by omega),g (i+1) (by omega),g (i+2) (by omega)]
section
variable {P:Program}{w:World}{K:aaa}{mg:aac}{base:Heap}
def wQ (K:aaa):Sp:=λvs H Q _=>∃(a:Addr) (ws:List W),vs=[.ref a]/\aQ K H a (sV ws)/\mS ws/\ws≠[] /\
 (bD ws=none->∀H',au H H'->Q .cf H')/\(∀hs,bD ws=some hs->∀H' x,au H H'->H x=none->H' x=some (.lst (nV hs))->Q (.ref x) H')
theorem sW {w0 n:W}{r:List W}:bD (w0::n::r)=if r.length % 3=0/\r.length<=24/\2<=ay n/\ay n<=24 then (cX (ay n).toNat r [] []).map (dz (ay n).toNat) else none:=rfl
theorem xI {ws:List W}(LJ:ws≠[])(h:(!((ws.length:Int)==2+3*(((ws.length:Int) - 2) / 3))||decide (8 < ((ws.length:Int) - 2) / 3))=true):bD ws=none:=by
 match ws,LJ with
 |[w0],_=>rfl
 |w0::n::r,_ =>
  rw[sW,Xo];rintro⟨z1,z2,_⟩;have el:((w0::n::r).length:Int)=2+(r.length:Int):=by simp;omega
  rw[el] at h;simp only[Yp,Yg,XX,Xw] at h;omega
theorem zX {ws:List W}(LJ:ws≠[])(h:(ws.length:Int)=2+3*(((ws.length:Int) - 2) / 3)):∃w0 n r,ws=w0::n::r:=by
 match ws,LJ with
 |[w0],_=>exact absurd h (by show ¬((1:Int)=2+3*((1 - 2) / 3));decide)
 |w0::n::r,_=>exact⟨w0,n,r,rfl⟩
theorem t9 (R:Nat)(ss:Z_):dz R ss=((List.range R).map λi=>i+1).filter λn=>!decide (n∈ss):=by
 unfold dz;congr 1;funext n;rw[Yw]
theorem fk:aG ["words","couples","runners","firsts","seconds","at","first","second","runner"] ["words"] (aw fw):=fs
theorem D8 {dS aF:Addr}(G:GW mg)(GC:GC P w K mg dS aF){k:Nat}(FN:Fn P w K mg base bE k "number_of" ["word"] kP){f:Addr}{fd:FuncData}(F:de K "read_race" "read_race" fw f fd):a8 P w K mg base bE (k+1) f fd ["words"] (wQ K):=by
 refine F.oa fk λLz A outer s H vs Q E hr h=>?_;obtain⟨a,ws,rfl,hS,ok,LJ,q0,q1⟩:=h;have hu:∀{X:Cx},X.A=(A.deeper (envOfC "read_race" (aw fw) s.heap.objs.size f Lz))->X.A.units+1 < cLine:=λ{X} e=>by rw[e];have:=hr.un;omega
 refine⟨_,af (a7 1 fk.nd (bG EA (bG fE (bg G.len (pv 0)) ax) ax))
  (af (aO (PW.pt (d9 (aB pE (bg G.len (pv 0)) (bG ej ax (bG wY ax (pv 1))) (aJ _)) (cR (aB kQ (pv 1) (bb GC.couples) (aJ _))))) (ak (az cC)) aA)
  (af (a7 2 fk.nd (aS FN hr a_ (aa (bo aL (pv 0) ax (λ_ _=>rfl)) ah)))
  (af (aO (cz (cA cb cb ax (pv 2) (bb GC.runners))) (ak (az cC)) aA)
  (af (a7 3 fk.nd qf)
  (af (oV (i:=4) fk.nd rfl (Or.inr rfl) qf)
  (af (dm Yu rfl (qU rfl GC.range (aa ax (aa (bg G.len (pv 0)) (aa ax ah)))) (bp 5 fk.nd)
   (af (a7 6 fk.nd (aS FN hr a_ (aa (bo aL (pv 0) (bG ej (pv 5) ax) (λ_ _=>rfl)) ah)))
   (af (a7 7 fk.nd (aS FN hr a_ (aa (bo aL (pv 0) (bG ej (pv 5) ax) (λ_ _=>rfl)) ah)))
   (af (aO (PW.pt (d9 (aB pE (bo aL (pv 0) (pv 5) (λ_ _=>rfl)) bt (aJ _)) (cR (cz (Ae cb nS cb ax (pv 6) (pv 7) (pv 2)))))) (ak (az cC)) aA)
   (af (aO (PW.pt (d9 (o7 (tE (hu rfl) (pv 6) (pv 4))) (d9 (o7 (tE (hu rfl) (pv 7) (pv 3))) (cR (o7 (tE (hu rfl) (pv 7) (pv 4))))))) (ak (az cC)) aA)
   (af (ma (hu rfl) (pv 3) (pv 6) mz rfl)
   (ak (ma (hu rfl) (pv 4) (pv 7) mz rfl))))))))
  (ak (az (fA rfl fk.nd (rM rfl GC.range (aa ax (aa (bG ej (pv 2) ax) ah))) (bz (own:=[("runner",8)]) rfl) (λ_ _ _ _ _=>bp 8 fk.nd) (λ_ _ _ _ _=>ow (o7 (zV (hu rfl) (pv 8) (pv 4)))) (λ_ _ _ _ _=>pv 8)))))))))),?_⟩
 refine cE (yV (mn (aU (ag rfl) (.inl hS)) aC) aC ⟨by decide,by decide⟩) ?_;rw[dH];refine aR (gN (aI (oT (aU (ag rfl) (.inl hS)) (mn aC (yV aC (ag rfl) (.inl ⟨by decide,by decide⟩))))) λ_=>jE (ag rfl) aC) (λh=>?_) (λh=>?_)
 · refine bS aC (q0 ?_ H (au.refl H));rw[aX,dH] at h;exact xI LJ h
 · rw[aX,dH] at h;simp only[Yz,Yj,Ye,X6] at h;obtain⟨h1,h2⟩:=h;obtain⟨w0,n,r,rfl⟩:=zX LJ h1
   · have el:((w0::n::r).length:Int)=2+(r.length:Int):=by simp;omega
     rw[el] at h1 h2;obtain⟨m,hm⟩:∃m:Nat,r.length=3*m:=⟨r.length / 3,by omega⟩;have hm8:m<=8:=by omega
     have VU:n.length<=70000/\∀c∈n,c < 128:=ok.getD 1;refine cE (gg (wd:=n) (a6 (ag rfl) aC hS (dD (i:=1) (by simp))) VU) ?_;refine aR (e_ (cy aC (ag rfl) aC)) (λh=>?_) (λh=>?_)
     · refine bS aC (q0 ?_ H (au.refl H));rw[sW,Xo];rintro⟨_,_,z1,z2⟩;simp only[Yg,YM,X6] at h;omega
     simp only[Yj,Xv,Xw] at h;have hn:ay n=(((ay n).toNat:Nat):Int):=by omega
     generalize hR:(ay n).toNat=R at hn;have Ri:bD (w0::n::r)=(cX R r [] []).map (dz R):=by
      rw[sW,Xp ⟨by omega,by omega,h.1,h.2⟩,hR]
     rw[hn];intro d1 SK d2 hd2;have PY:d2≠d1:=by
      rintro rfl;rw[ae] at hd2;cases hd2
     have OZ:H d2=none:=by rwa [aq PY] at hd2
     have O0:((w0::n::r).length:Int)=((2+3*m:Nat):Int):=by rw[el,hm];omega
     have S0:au H (upd (upd H d1 (.dK [])) d2 (.dK [])):=((au.refl H).laid SK).laid OZ;refine pP (y4 (n:=m) aC (aU (ag rfl) (.inl (S0.seq hS))) aC ⟨by decide,by decide,?_,?_⟩ ?_)
     · rw[dH,O0];exact Dy (by omega) (by omega)
     · rw[dH,O0];exact HN
     refine qE (lo:=2) (c:=3) (n:=m) (λi σ H'=>∃(v5 v6 v7:Option V) (fs ss:Z_),σ=[some (.ref a),some (.int ((((w0::n::r).length:Int) - 2) / 3)),some (.int (R:Nat)),some (.ref d1),some (.ref d2),v5,v6,v7,none] /\
       au H H'/\AA H' d1 fs/\AA H' d2 ss/\fs.length<=i/\ss.length<=i/\cX R (r.drop (3*i)) fs ss=cX R r [] [])
      ⟨none,none,none,[],[],rfl,S0,⟨[],by rw[aq PY.symm];exact ae,Xx _,λ_=>rfl⟩,⟨[],ae,Xx _,λ_=>rfl⟩,Xx _,Xx _,rfl⟩ ?_ ?_
     · rintro i σ H' hi ⟨v5,v6,v7,fs,ss,rfl,S1,⟨k1,e1,l1,p1⟩,⟨k2,e2,l2,p2⟩,lf,ls,hc⟩;have Rj:=S1.seq hS;have d3:r.drop (3*i)=r.getD (3*i) []::r.getD (3*i+1) []::r.getD (3*i+2) []::r.drop (3*(i+1)):=by
        have:=Jo (r:=r) (i:=3*i) (by omega);rw[this,show 3*i+3=3*(i+1) by omega]
       have ga:∀j,(w0::n::r).getD (2+j) []=r.getD j []:=λj=>by
        rw[show 2+j=j+1+1 by omega];rfl
       have PQ:nW (sV (w0::n::r)) (2+(i:Nat)*3)=some (.str (st (r.getD (3*i) []))):=by
        have:=dD (ws:=w0::n::r) (i:=2+3*i) (by simp;omega);rw[ga] at this;rw[show (2:Int)+(i:Nat)*3=((2+3*i:Nat):Int) by omega];exact this
       have qO:nW (sV (w0::n::r)) (2+(i:Nat)*3+1)=some (.str (st (r.getD (3*i+1) []))):=by
        have:=dD (ws:=w0::n::r) (i:=2+(3*i+1)) (by simp;omega);rw[ga] at this;rw[show (2:Int)+(i:Nat)*3+1=((2+(3*i+1):Nat):Int) by omega];exact this
       have at2:nW (sV (w0::n::r)) (2+(i:Nat)*3+2)=some (.str (st (r.getD (3*i+2) []))):=by
        have:=dD (ws:=w0::n::r) (i:=2+(3*i+2)) (by simp;omega);rw[ga] at this;rw[show (2:Int)+(i:Nat)*3+2=((2+(3*i+2):Nat):Int) by omega];exact this
       have VV:(r.getD (3*i+1) []).length<=70000/\∀c∈r.getD (3*i+1) [],c < 128:=by rw[←ga];exact ok.getD _
       have VW:(r.getD (3*i+2) []).length<=70000/\∀c∈r.getD (3*i+2) [],c < 128:=by rw[←ga];exact ok.getD _
       rw[d3,Am] at hc;generalize hA:ay (r.getD (3*i+1) [])=na at hc;generalize hB:ay (r.getD (3*i+2) [])=nb at hc;refine cE (gg (a6 (ag rfl) (mn (ag rfl) aC) Rj qO) VV) ?_;refine cE (gg (a6 (ag rfl) (mn (ag rfl) aC) Rj at2) VW) ?_;rw[hA,hB];have none_:cX R r [] []=none->Q .cf H':=λz=>q0 (by rw[Ri,z];rfl) H' S1;refine aR (gN (aI (oT (a6 (ag rfl) (ag rfl) Rj PQ) aC)) λ_=>e_ (λR' r'=>⟨1,na,nb,(R:Int),aC,ag rfl,ag rfl,ag rfl,r'⟩)) (λh=>?_) (λh=>?_)
       · refine bS aC (none_ ?_);rw[←hc,Xo];rintro⟨z1,z2,z3,z4,_⟩;rw[iO] at h;dsimp only at h;rw[X4 z1,X4 z2,X4 z3,X4 z4] at h;cases h
       · rw[iO] at h;simp only[Yz,Yj,Xv,Xw] at h;obtain⟨z1,z2,z3,z4⟩:=h;have ea:na=((na.toNat:Nat):Int):=by omega
         have eb:nb=((nb.toNat:Nat):Int):=by omega
         have VX:gp H' d2 (.int na) (cS k2 (Sum.inl na)):=gp.k (k:=Sum.inl na) e2;have VY:gp H' d1 (.int nb) (cS k1 (Sum.inl nb)):=gp.k (k:=Sum.inl nb) e1;have VZ:gp H' d2 (.int nb) (cS k2 (Sum.inl nb)):=gp.k (k:=Sum.inl nb) e2;have s1:(cS k2 (Sum.inl na)).isSome=decide (na.toNat∈ss):=by rw[←p2,←ea]
         have s2:(cS k1 (Sum.inl nb)).isSome=decide (nb.toNat∈fs):=by rw[←p1,←eb]
         have s3:(cS k2 (Sum.inl nb)).isSome=decide (nb.toNat∈ss):=by rw[←p2,←eb]
         refine aR (gN (sG (ag rfl) (ag rfl) VX) λ_=>gN (sG (ag rfl) (ag rfl) VY) λ_=>sG (ag rfl) (ag rfl) VZ) (λh=>?_) (λh=>?_)
         · refine bS aC (none_ ?_);rw[←hc,Xo];rintro⟨_,_,_,_,y1,y2,y3⟩;rw[s1,s2,s3,Yc y1,Yc y2,Yc y3] at h;cases h
         · rw[s1,s2,s3] at h;simp only[Yz,X6] at h;obtain⟨y1,y2,y3⟩:=h;rw[Xp ⟨z1,z2,z3,z4,y1,y2,y3⟩] at hc;have V0:d1≠d2:=PY.symm;have SM:=AA.put (n:=na.toNat) l1 p1;have SN:=AA.put (n:=nb.toNat) l2 p2;rw[←ea] at SM;rw[←eb] at SN;refine⟨_,rfl,_,rfl,d1,_,rfl,.inl ⟨k1,Sum.inl na,e1,rfl,by rw[XS];omega,rfl⟩,?_⟩;refine⟨_,rfl,_,rfl,d2,_,rfl,.inl ⟨k2,Sum.inl nb,by rw[aq PY];exact e2,rfl,by rw[XS];omega,rfl⟩,?_⟩;refine⟨_,_,_,fs++[na.toNat],ss++[nb.toNat],rfl,λb u z=>?_,⟨_,by rw[aq V0];exact ae,SM⟩,⟨_,ae,SN⟩,by rw[XM];simp;omega,by rw[XM];simp;omega,hc⟩;rw[aq (ao z OZ),aq (ao z SK)];exact S1 b u z
     · rintro σ H' ⟨v5,v6,v7,fs,ss,rfl,S1,hF1,⟨k2,e2,l2,p2⟩,lf,ls,hc⟩;rw[Zj (by omega)] at hc;have hc:some ss=cX R r [] []:=hc;rw[←hc] at Ri;dsimp only;refine JA (yf ?_);refine y_ (i:=1) (j:=((R:Nat):Int)+1) aC (jr (ag rfl) aC) ⟨by decide,by decide,by omega,by omega⟩ ?_;intro D hD;rw[show (((R:Nat):Int)+1 - 1).toNat=R by omega];refine lK (lo:=1) (n:=R) (λi H2=>au H' H2/\H2 D=some (.lst (nV (((List.range i).map λj=>j+1).filter λn=>!decide (n∈ss))))) ⟨(au.refl H').laid hD,ae⟩ ?_ ?_
       · rintro i H2 hi ⟨m1,m2⟩;refine⟨rfl,?_⟩;have gt:gp H2 d2 (.int (1+(i:Nat))) (cS k2 (Sum.inl (1+(i:Nat):Int))):=gp.k (k:=Sum.inl (1+(i:Nat):Int)) (m1 _ _ e2);have sg:(cS k2 (Sum.inl (1+(i:Nat):Int))).isSome=decide (i+1∈ss):=by rw[←p2];congr 3;omega
         refine⟨_,rfl,_,rfl,d2,_,rfl,gt,_,rfl,?_⟩;rw[sg];have fl:((List.range (i+1)).map λj=>j+1).filter (λn=>!decide (n∈ss))=(((List.range i).map λj=>j+1).filter λn=>!decide (n∈ss))++(if (!decide (i+1∈ss))=true then [i+1] else []):=by
          rw[List.range_succ,XH,Zi];congr 1;by_cases z:i+1∈ss
          · simp[z]
          · simp[z]
         refine gG (λh=>?_) (λh=>?_)
         · refine⟨_,rfl,_,m2,?_,λb u z=>?_,?_⟩
           · rw[aN,XS];have:=ZP (λn=>!decide (n∈ss)) ((List.range i).map λj=>j+1);rw[Xn,ZH] at this;omega
           · rw[aq (ao z hD)];exact m1 b u z
           · rw[ae,fl,Xp h];unfold nV;rw[XH];show some (HO.lst (_++[V.int (1+(i:Nat))]))=some (HO.lst (_++[V.int ((i+1:Nat):Int)]));rw[show (1:Int)+(i:Nat)=((i+1:Nat):Int) by omega]
         · refine⟨m1,?_⟩;rw[fl,Xo h,Yr];exact m2
       · rintro H2 ⟨m1,m2⟩;refine q1 (dz R ss) Ri H2 D (S1.trans m1) (S1.free hD) ?_;rw[m2,t9]
end
end Bw
namespace L2
open PySem PySem.Spec PyProof.Rows
theorem zD {X:Cx}(hu:X.A.units+1 < cLine):jo X (compareOp .In) (λx y H Q=>∃p xs,x=.cf/\y=.ref p/\aQ X.K H p xs/\(∀v∈xs,v=.cf∨∃a ys,v=.ref a/\aQ X.K H a ys)/\Q (.bl (xs.any λv=>decide (v=.cf))) H):=by
 intro pins s σ H x y v u Q I rx ry h;obtain⟨p,xs,rfl,rfl,hq,hx,q⟩:=h;cases ry;cases rx;obtain⟨Ly,r,pl,hz⟩:=I.list hq;have key:∀{xs:List V} {us:aae},Vals xs us->(∀v∈xs,v=.cf∨∃a ys,v=.ref a/\aQ X.K H a ys)->(∀u∈us,SeqAt.EqAt X.A.in1 s u .none (u==.none))/\us.any (·==.none)=xs.any λv=>decide (v=.cf):=by
  intro xs us r
  induction r with
  |nil=>exact λ_=>⟨λu hu=>by simp at hu,rfl⟩
  |@cons v u xs us r1 r2 ih =>
   intro hx;obtain⟨V1,V2⟩:=ih λv hv=>hx v (XG _ hv);have e1:SeqAt.EqAt X.A.in1 s u .none (u==.none)/\(u==.none)=decide (v=.cf):=by
    rcases hx v (X_ ..) with rfl|⟨a,ys,rfl,hs⟩
    · cases r1;exact⟨SeqAt.EqAt.same _,rfl⟩
    · cases r1;obtain⟨L0,_,Oe,_⟩:=I.list hs;refine⟨?_,rfl⟩;exact SeqAt.EqAt.list_none Oe.isList (by show X.A.units+1 < cLine;exact hu)
   refine⟨λu' QR=>?_,?_⟩
   · rcases Xr.mp QR with rfl|h
     · exact e1.1
     · exact V1 u' h
   · rw[YX,YX,e1.2,V2]
 obtain⟨k1,k2⟩:=key r hx;refine SeqAt.in_listAt (·==.none) pl.isList (λw hw=>k1 w (by simpa using hw)) ⟨.bl _,H,I,rfl,?_⟩;rw[show Ly.toArray.any (·==.none)=Ly.any (·==.none) by simp,k2];exact q
end L2
namespace Bw
open PySem PySem.Spec PyProof.Rows L2 Tote
def EH (K:aaa)(H:Hp)(a:Addr)(ls:List (List W)):Prop:=∃as:List Addr,aQ K H a (as.map V.ref)/\Paired (λb ws=>aQ K H b (sV ws)) as ls
def D3 (Lx:List (Key×V))(l:List W):Prop:=Lx.length<=l.length/\∀n:W,(cS Lx (Sum.inr (st n):Key)).isSome=l.contains n
theorem D3.put {Lx:List (Key×V)}{l:List W}{n:W}(h:D3 Lx l):D3 (putK Lx (Sum.inr (st n)) (V.bl true)) (l++[n]):=by
 refine⟨?_,λm=>?_⟩
 · have:=gL Lx (Sum.inr (st n):Key) (V.bl true);have:=h.1;rw[XM];simp;omega
 · rw[qx];by_cases e:m=n
   · subst e;rw[Xp rfl];simp
   · rw[Xo (λz=>e (jB.mp (Sum.inr.inj z))),h.2 m];simp[e]
def IX (K:aaa)(C:Addr)(H H':Hp)(pl:Addr)(a:Addr)(p:aM):Prop:=∃dx fa My,H' a=some (.ins C dx (jj (.str (st p.name)) (.str (st (cd (kindS p.kind)))) (.ref fa) (.int (p.unit:Nat))))/\fa≠pl/\H' fa=some (.lst (My.map V.ref))/\Paired (hZ K H) My p.fields
section
variable {P:Program}{w:World}{K:aaa}{mg:aac}{base:Heap}
def tL (K:aaa) (C:Addr):Sp:=λvs H Q _=>∃(a b:Addr) (ls:List (List W)) (rs:Z9),vs=[.ref a,.ref b]/\EH K H a ls/\(∀ws∈ls,mS ws)/\bF K H b rs/\rs.length<=16 /\
 (iZ ls rs=none->∀H',au H H'->Q .cf H')/\(∀ps,iZ ls rs=some ps->∀H' x,au H H'->cV K C H' x ps->Q (.ref x) H')
theorem jH:aG ["lines","races","pools","names","words","pool"] ["lines","races"] (aw f_):=fs
theorem Bg {dS aF C:Addr}(G:GW mg)(GC:GC P w K mg dS aF)(T:CK K mg "Pool" gZ C){k:Nat}(FP:Fn P w K mg base bE k "read_pool" ["words","races"] (xN K C)){f:Addr}{fd:FuncData}(F:de K "read_pools" "read_pools" f_ f fd) :
  a8 P w K mg base bE (k+1) f fd ["lines","races"] (tL K C):=by
 refine F.oa jH λLz A outer s H vs Q E hr h=>?_;obtain⟨a,b,ls,rs,rfl,⟨as,hA,hP⟩,ok,⟨V3,V4,O1⟩,OX,q0,q1⟩:=h;have LA:as.length=ls.length:=Paired.length hP;have hu:=vS hr;refine⟨_,af (aO (aB kQ (bg G.len (pv 0)) (bb GC.pools) (aJ _)) (ak (az cC)) aA)
  (af (a7 2 jH.nd (bV ah))
  (af (a7 3 jH.nd qf)
  (af (dm Yu rfl (bH (pv 0)) (bp 4 jH.nd)
   (af (a7 5 jH.nd (aS FP hr a_ (aa (pv 4) (aa (pv 1) ah))))
   (af (aO (PW.pt (d9 (aB ua (pv 5) cC (aJ _)) (cR (o7 (tE hu (aY (pv 5) rfl) (pv 3)))))) (ak (az cC)) aA)
   (af (ma hu (pv 3) (aY (pv 5) rfl) mz rfl)
   (ak (dR (qA PySem.F.plainAttrs_list PySem.F.slot_list_append PySem.F.type_list_append ic (pv 2) (aa (pv 5) ah))))))))
  (ak (az (pv 2)))))),?_⟩
 refine aR (jE (aU (ag rfl) (.inl hA)) aC) (λh=>?_) (λh=>?_)
 · refine bS aC (q0 ?_ H (au.refl H));rw[Xn,LA] at h;unfold iZ;rw[Xp (by have:=XI h;omega)]
 rw[Xn,LA] at h;have hl:¬64 < ls.length:=by have:=X8 h;omega
 have eP:iZ ls rs=bZ rs [] ls:=by unfold iZ;rw[Xo hl]
 rw[eP] at q0 q1;refine⟨XW _,λpl LH=>?_⟩;intro dn PH;have O2:dn≠pl:=by
  rintro rfl;rw[ae] at PH;cases PH
 have O3:H dn=none:=by rwa [aq O2] at PH
 have S0:au H (upd (upd H pl (.lst [])) dn (.dK [])):=((au.refl H).laid LH).laid O3;refine⟨_,rfl,a,rfl,⟨_,S0.seq hA⟩,cZ (K:=K) (a:=a) (xs:=as.map V.ref) (λi σ H'=>∃(v4 v5:Option V) (acc:List aM) (pas:List Addr) (Lx:List (Key×V)),σ=[some (.ref a),some (.ref b),some (.ref pl),some (.ref dn),v4,v5]/\au H H' /\
   H' pl=some (.lst (pas.map V.ref))/\H' dn=some (.dK Lx)/\D3 Lx (acc.map (·.name))/\Paired (IX K C H H' pl) pas acc/\acc.length<=i/\bZ rs acc (ls.drop i)=bZ rs [] ls)
  ⟨none,none,[],[],[],rfl,S0,by rw[aq O2.symm];exact ae,ae,⟨Xx _,λ_=>rfl⟩,.nil,Xx _,rfl⟩ (λi σ H' _ ⟨_,_,_,_,_,_,S1,_⟩=>S1.seq hA) ?_ ?_⟩
 · rintro i x σ H' hi ⟨v4,v5,acc,pas,Lx,rfl,S1,e1,e2,PZ,hI,hlen,hc⟩;rw[Xs] at hi;obtain⟨ai,LZ,rfl⟩:=X0.mp hi;obtain⟨ws,L1,V5⟩:=Paired.qO hP LZ;have LG:i < ls.length:=(XB.mp L1).1;have hd:ls.drop i=ws::ls.drop (i+1):=by
    rw[YL LG];congr 1;exact X2 ((Xy LG).symm.trans L1)
   rw[hd] at hc;have hc:(match eX ws rs with
    |none=>none
    |some p=>if (acc.map (·.name)).contains p.name=true then none else bZ rs (acc++[p]) (ls.drop (i+1)))=bZ rs [] ls:=hc
   refine⟨_,rfl,_,rfl,ai,b,ws,V3,rs,rfl,S1.seq V5,ok ws (XT L1),S1.seq V4,jc O1 S1,OX,λhn H2 e=>?_,λp hp H2 x dx fa My e nx SO hx V6 Nh=>?_⟩
   · refine⟨_,rfl,rfl,_,rfl,?_⟩;rw[hn] at hc;exact q0 hc.symm H2 (S1.trans e)
   · refine⟨_,rfl,rfl,_,rfl,?_⟩;rw[hp] at hc;have hc:(if (acc.map (·.name)).contains p.name=true then none else bZ rs (acc++[p]) (ls.drop (i+1)))=bZ rs [] ls:=hc;have SQ:=e _ _ e2;have Pp:=e _ _ e1;have S2:=S1.trans e;have gt:gp H2 dn (.str (st p.name)) (cS Lx (Sum.inr (st p.name))):=gp.k (k:=Sum.inr (st p.name)) SQ;refine (sG (bf (ag rfl) hx T.cl (T.no _ (by simp)) kY) (ag rfl) gt) _ ?_;rw[PZ.2];refine gG (λh=>?_) (λh=>?_)
     · rw[Xp h] at hc;exact q0 hc.symm H2 S2
     · rw[Xo h] at hc;have OY:x≠pl:=(ao e1 nx).symm;have V7:x≠dn:=(ao e2 nx).symm;have OF:fa≠pl:=(ao e1 SO).symm;have V8:fa≠dn:=(ao e2 SO).symm;have O4:pas.length=acc.length:=Paired.length hI;refine⟨_,rfl,?_⟩;refine (bf (ag rfl) hx T.cl (T.no _ (by simp)) kY) _ ⟨dn,_,rfl,.inl ⟨Lx,Sum.inr (st p.name),SQ,rfl,?_,rfl⟩,?_⟩
       · have:=PZ.1;rw[Xn] at this;rw[XS];omega
       refine⟨_,rfl,.inl ⟨rfl,_,aQ.of (by rw[aq O2.symm];exact Pp)⟩,_,rfl,pl,_,_,rfl,rfl,by rw[aq O2.symm];exact Pp,?_,?_⟩
       · rw[Xn,XS];omega
       refine⟨_,_,acc++[p],pas++[x],_,rfl,λc u z=>?_,?_,by rw[aq O2];exact ae,?_,?_,by rw[XM];simp;omega,hc⟩
       · rw[aq (ao z LH),aq (ao z O3)];exact S2 c u z
       · rw[ae,XH];rfl
       · rw[XH];exact PZ.put
       · have keep:∀c u,H2 c=some u->c≠pl->c≠dn->(upd (upd H2 dn (.dK (putK Lx (Sum.inr (st p.name)) (V.bl true)))) pl (.lst (pas.map V.ref++[V.ref x]))) c=some u:=λc u z n1 n2=>by
          rw[aq n1,aq n2];exact z
         refine Paired.snoc (Paired.d8 hI λc q z=>?_) ⟨dx,fa,My,keep _ _ hx OY V7,OF,keep _ _ V6 OF V8,?_⟩
         · obtain⟨Mw,P0,NO,z1,z2,z3,z4⟩:=z;have n1:c≠pl:=dE z1 e1 (by intro q;cases q);have n2:c≠dn:=dE z1 e2 (by intro q;cases q);have n3:P0≠dn:=dE z3 e2 (by intro q;cases q);exact⟨Mw,P0,NO,keep _ _ (e _ _ z1) n1 n2,z2,keep _ _ (e _ _ z3) z2 n3,z4⟩
         · exact Nh _ O1
 · rintro σ H' ⟨v4,v5,acc,pas,Lx,rfl,S1,e1,e2,PZ,hI,hlen,hc⟩;rw[Xn,LA,Zj (Xx _)] at hc;have hc:some acc=bZ rs [] ls:=hc;refine⟨_,rfl,q1 acc hc.symm H' pl S1 ⟨pas,aQ.of e1,Paired.d8 hI λc q z=>?_⟩⟩;obtain⟨Mw,P0,NO,z1,z2,z3,z4⟩:=z;exact⟨Mw,P0,z1,NO,aQ.of z3,jc z4 S1⟩
end
theorem sX (c:Nat):∀(l acc:W),TL.nG [c] 0 acc l=aV c acc l
 |[],acc=>by rw[TL.oz];rfl
 |x::r,acc=>by
  by_cases h:x=c
  · subst h;rw[TL.yn (by unfold TL.pre;simp)];show acc::TL.nG [x] 0 [] r=(if x=x then acc::aV x [] r else _);rw[Xp rfl,sX x r []]
  · rw[TL.u6 (TL.vL [] r h)];show TL.nG [c] 0 (acc++[x]) r=(if x=c then _ else aV c (acc++[x]) r);rw[Xo h,sX c r (acc++[x])]
theorem lP {c:Nat}(hc:c < 256)(l:W):Txt.split (st l) (st [c])=(aV c [] l).map st:=by
 refine TL.ph ?_;rw[TL.Ar (st l) (st [c]) (by rw[pG];simp) (TL.E1 (by show [c].toArray.all (· < 256)=true;simp[hc])),pG,pG,sX,XR];symm;exact (Yi λw _=>pG w).trans (List.map_id _)
theorem jU (c:Nat):∀(l w:W),aV c w l≠[]
 |[],_=>by simp[aV]
 |x::l,w=>by
  unfold aV;split
  · simp
  · exact jU c l _
theorem dX (c:Nat):∀(l acc:W),∀w∈aV c acc l,w.length<=acc.length+l.length/\∀x∈w,x∈acc∨x∈l
 |[],acc,w,hw=>by
  have:w=acc:=by simpa [aV] using hw
  subst this;exact⟨by simp,λx hx=>.inl hx⟩
 |y::l,acc,w,hw=>by
  unfold aV at hw;split at hw
  · rcases Xr.mp hw with rfl|hw
    · exact⟨by simp,λx hx=>.inl hx⟩
    · obtain⟨h1,h2⟩:=dX c l [] w hw;refine⟨by simp at h1 ⊢;omega,λx hx=>?_⟩;rcases h2 x hx with h|h
      · simp at h
      · exact .inr (XG _ h)
  · obtain⟨h1,h2⟩:=dX c l (acc++[y]) w hw;refine⟨by simp at h1 ⊢;omega,λx hx=>?_⟩;rcases h2 x hx with h|h
    · rcases Yd.mp h with h|h
      · exact .inl h
      · have:x=y:=by simpa using h
        exact .inr (by simp[this])
    · exact .inr (XG _ h)
theorem fh (c:Nat):∀(l acc:W),(aV c acc l).length<=l.length+1
 |[],_=>by simp[aV]
 |y::l,acc=>by
  unfold aV;split
  · have:=fh c l [];simp;omega
  · have:=fh c l (acc++[y]);simp;omega
theorem Cn:Str.ofString "\n"=st [10]:=by rw[kO];rfl
theorem CG:Str.ofString " "=st [32]:=by rw[kO];rfl
theorem C_ (l:W):Txt.endswith (st l) (st [10])=decide (l.getLast?=some 10):=by
 unfold Txt.endswith;rw[PySem.StrLaws.subAt_eq,b8,b8];show (decide (0+1<=l.length)&&((l.drop (l.length - 1)).take 1==[10]))=_;rcases List.eq_nil_or_concat l with rfl|⟨r,x,rfl⟩
 · rfl
 · rw[List.concat_eq_append,List.getLast?_concat];simp;rw[X3,Ye,Xw]
theorem Bx (l:W):Aa (st l) none (some (-1))=st l.dropLast:=by
 unfold Aa;rw[HT.jO];refine Yv (λz:Z_=>(⟨z.toArray⟩:Str)) ?_;show (l.drop 0).take (HT.b_ (st l).length (st l).length (some (-1)) - 0)=l.dropLast;rw[b8,List.drop_zero,Nat.sub_zero,List.dropLast_eq_take];congr 1;unfold HT.b_;simp;omega
theorem mD {α:Type}(p:α->Bool):∀(l:List α) (n:Nat),n<=l.length->(∀j x,j < n->l[j]?=some x->p x=true)->(∀x,l[n]?=some x->p x=false)->(l.takeWhile p).length=n/\l.takeWhile p=l.take n/\l.dropWhile p=l.drop n
 |[],n,h,_,_=>by
  have:n=0:=by simpa using h
  subst this;exact⟨rfl,rfl,rfl⟩
 |x::l,0,_,_,h2=>by
  have:=h2 x rfl;simp[Zx,Z0,this]
 |x::l,n+1,h,h1,h2=>by
  have hx:=h1 0 x (by omega) rfl;obtain⟨a,b,c⟩:=mD p l n (by simpa using h) (λj y hj hy=>h1 (j+1) y (by omega) hy) (λy hy=>h2 y hy);refine⟨?_,?_,?_⟩
  · rw[Zx,Xp hx,Xz,a]
  · rw[Zx,Xp hx,b];rfl
  · rw[Z0,Xp hx,c];rfl
def jM (H:Hp)(D:Addr)(v:V)(ws:List W):Prop:=match bD ws with
 |none=>v=.cf
 |some hs=>∃x,v=.ref x/\x≠D/\H x=some (.lst (nV hs))
theorem r9 {H:Hp}{D:Addr}:∀{vs:List V} {ls:List (List W)},Paired (jM H D) vs ls->¬none∈ls.map bD->∃as:List Addr,vs=as.map V.ref/\Paired (λa hs=>H a=some (.lst (nV hs))) as ((ls.map bD).filterMap id)
 |_,_,.nil,_=>⟨[],rfl,.nil⟩
 |v::vs,ws::ls,.cons r t,h=>by
  obtain⟨as,e,p⟩:=r9 t λz=>h (by simp at z ⊢;exact .inr z);unfold jM at r;cases hr:bD ws with
  |none=>exact absurd (by simp[hr]) h
  |some hs =>
   rw[hr] at r;obtain⟨x,rfl,_,hx⟩:=r;refine⟨x::as,by rw[e];rfl,?_⟩;rw[XE,hr];exact .cons hx p
theorem mT {H:Hp}{D:Addr}:∀{vs:List V} {ls:List (List W)},Paired (jM H D) vs ls->(vs.any λv=>decide (v=.cf))=decide (none∈ls.map bD)
 |_,_,.nil=>rfl
 |v::vs,ws::ls,.cons r t=>by
  rw[YX,mT t];unfold jM at r;cases hr:bD ws with
  |none =>
   rw[hr] at r;simp[hr,show v=.cf from r]
  |some hs =>
   rw[hr] at r;obtain⟨x,rfl,_⟩:=r;simp[hr]
theorem n8 {K:aaa}{H:Hp}{D:Addr}:∀{vs:List V} {ls:List (List W)},Paired (jM H D) vs ls->∀v∈vs,v=.cf∨∃a ys,v=.ref a/\aQ K H a ys
 |_,_,.nil,v,hv=>by simp at hv
 |v::vs,ws::ls,.cons r t,u,hu=>by
  rcases Xr.mp hu with rfl|hu
  · unfold jM at r;cases hr:bD ws with
    |none=>rw[hr] at r;exact .inl r
    |some hs =>
     rw[hr] at r;obtain⟨x,rfl,_,hx⟩:=r;exact .inr ⟨x,_,rfl,aQ.of hx⟩
  · exact n8 t u hu
end Bw
namespace L2
open PySem PySem.Spec PyProof.Rows
theorem zR {c:TT}{tb:TS}{D:Ends}{σ:St}{H:Hp}(Pv:St->Hp->Prop)(μ:St->Hp->Nat)(h0:Pv σ H)
  (hb:∀σ H,Pv σ H->∃b,Tv c σ H b/\(b=true->tb {D with nx:=λσ' H'=>Pv σ' H'/\μ σ' H' < μ σ H,ct:=λσ' H'=>Pv σ' H'/\μ σ' H' < μ σ H,bk:=D.nx} σ H)/\(b=false->D.nx σ H)):xQ c tb D σ H:=by
 refine⟨λm σ H=>m=μ σ H/\Pv σ H,⟨_,rfl,h0⟩,?_⟩;rintro m σ H ⟨rfl,p⟩;obtain⟨b,hv,q1,q2⟩:=hb σ H p;refine hv _ ?_;cases b with
 |true=>exact oN ⟨_,λσ' H' ⟨p',l⟩=>⟨_,l,rfl,p'⟩,q1 rfl⟩
 |false=>exact vg (q2 rfl)
theorem Bi {c:TT}{tb:TS}{D:Ends}{σ:St}{H:Hp}(Pv En:St->Hp->Prop)(μ:St->Hp->Nat)(h0:Pv σ H)(hb:∀σ H,Pv σ H->∃b,Tv c σ H b/\(b=true->tb {D with nx:=λσ' H'=>Pv σ' H'/\μ σ' H' < μ σ H,ct:=λσ' H'=>Pv σ' H'/\μ σ' H' < μ σ H,bk:=D.nx} σ H)/\(b=false->En σ H))
  (aft:∀σ H,En σ H->D.nx σ H):xQ c tb D σ H:=zR Pv μ h0 λσ H p=>let ⟨b,v,q1,q2⟩:=hb σ H p;⟨b,v,q1,λe=>aft _ _ (q2 e)⟩
end L2
namespace Bw
open PySem PySem.Spec PyProof.Rows L2 Tote
section
variable {P:Program}{w:World}{K:aaa}{mg:aac}{base:Heap}
def wq (K:aaa) (C:Addr):Sp:=λvs H Q _=>∃(a:Addr) (cs:Z_),vs=[.ref a]/\aQ K H a (nV cs)/\cs.length<=65536 /\
 (eh (cs.map sg)=none->∀H',au H H'->Q .cf H')/\(∀ps,eh (cs.map sg)=some ps->∀H' x,au H H'->cV K C H' x ps->Q (.ref x) H')
theorem Fx (c:Nat):sg c < 128:=by
 unfold sg;split
 · rename_i h;unfold tm isLet bW at h;simp at h;omega
 · omega
theorem DP {t:W}(h:∀c∈t,c < 128)(hl:t.length<=65536):∀ws∈(aV 10 [] t).map (aV 32 []),mS ws/\ws≠[]:=by
 intro ws L1;obtain⟨l,V9,rfl⟩:=XY.mp L1;obtain⟨h1,h2⟩:=dX 10 t [] l V9;have h3:=fh 32 l [];refine⟨⟨by simp at h1;omega,λw hw=>?_⟩,jU 32 l []⟩;obtain⟨h4,h5⟩:=dX 32 l [] w hw;refine⟨by simp at h1 h4;omega,λc hc=>?_⟩;rcases h5 c hc with z|z
 · simp at z
 · rcases h2 c z with z|z
   · simp at z
   · exact h c z
theorem gI:aG ["codes","text","lines","behind_races","races","line","words"] ["codes"] (aw gH):=fs
theorem DR {dS aF C:Addr}(G:GW mg)(GC:GC P w K mg dS aF){k:Nat}(FX:Fn P w K mg base bE k "text_of" ["codes"] (sQ K))(FD:Fn P w K mg base bE k "is_day" ["words"] (AY K))(FR:Fn P w K mg base bE k "read_race" ["words"] (wQ K))
  (FP:Fn P w K mg base bE k "read_pools" ["lines","races"] (tL K C)){f:Addr}{fd:FuncData}(F:de K "read_card" "read_card" gH f fd):a8 P w K mg base bE (k+1) f fd ["codes"] (wq K C):=by
 refine F.oa gI λLz A outer s H vs Q E hr h=>?_;obtain⟨a,cs,rfl,hS,NF,q0,q1⟩:=h;have hu:=vS hr;refine⟨_,af (a7 1 gI.nd (aS FX hr a_ (aa (pv 0) ah)))
  (af (aO (cz (h_ (AM PySem.F.slot_str_endswith PySem.F.type_str_endswith vW (pv 1) bt))) (ak (az cC)) aA)
  (af (pd (i:=2) rfl gI.nd rfl rfl (s_ rfl rfl rfl rfl) (bH (mB (dq HS (pv 1) fX (dv (vn qz ax))) bt)) (bz (own:=[("line",5)]) rfl) (λ_ _ _ _ _=>bp 5 gI.nd) (λ_ _ _ _ _=>cq) (λ_ _ _ _ _=>mB (pv 5) bt))
  (af (aO (cz (h_ (aS FD hr a_ (aa (bo aL (pv 2) ax (λ_ _=>rfl)) ah)))) (ak (az cC)) aA)
  (af (a7 3 gI.nd ax)
  (af (BQ Yu (PW.pt (sR (aB nS (pv 3) (bg G.len (pv 2)) (aJ _)) (oJ (aB ck (bo aL (bo aL (pv 2) (pv 3) (λ_ _=>rfl)) ax (λ_ _=>rfl)) bt (aJ _))))) (ak (CY (i:=3) gI.nd rfl (Or.inl rfl) ax Cb)))
  (af (pd (i:=4) rfl gI.nd rfl rfl (s_ rfl rfl rfl rfl) (bH (dq fW (pv 2) (dv ax) (dv (pv 3)))) (bz (own:=[("words",6)]) rfl) (λ_ _ _ _ _=>bp 6 gI.nd) (λ_ _ _ _ _=>cq) (λ_ _ _ _ _=>aS FR hr a_ (aa (pv 6) ah)))
  (af (aO (PW.pt (d9 (cz (cA cb cb ax (bg G.len (pv 4)) (bb GC.races))) (cR (aB (zD hu) cC (pv 4) (by with_unfolding_all rfl))))) (ak (az cC)) aA)
  (ak (az (aS FP hr a_ (aa (dq fW (pv 2) (dv (pv 3)) fX) (aa (pv 4) ah)))))))))))),?_⟩
 refine⟨_,rfl,a,cs,rfl,hS,by omega,λH1 S1=>?_⟩;generalize hT:cs.map sg=T at q0 q1;have lenT:T.length=cs.length:=by rw[←hT,Xn]
 have Rk:∀c∈T,c < 128:=λc hc=>by
  rw[←hT] at hc;obtain⟨x,_,rfl⟩:=XY.mp hc;exact Fx x
 have hz:(st T).length<=sizeLine:=by rw[b8,XS];omega
 refine⟨_,rfl,⟨_,rfl⟩,_,_,rfl,rfl,_,rfl,?_⟩;have eE:Txt.endswith (st T) (Str.ofString "\n")=decide (T.getLast?=some 10):=by rw[Cn];exact C_ T
 rw[eE];refine gG (λh=>?_) (λh=>?_)
 · refine q0 ?_ H1 S1;unfold eh;rw[Xo (by simpa using h)]
 have hE:T.getLast?=some 10:=by simpa using h
 generalize Of:aV 10 [] T.dropLast=LL;have eS:Txt.split (Aa (st T) none (some (-1))) (Str.ofString "\n")=LL.map st:=by rw[Bx,Cn,lP (by decide),Of]
 have MH:T.dropLast.length<=65536:=by rw[List.length_dropLast];omega
 have lenLL:LL.length<=65537:=by rw[←Of];have:=fh 10 T.dropLast [];omega
 have V_:∀l∈LL,l.length<=65536:=λl hl=>by
  rw[←Of] at hl;have:=(dX 10 T.dropLast [] l hl).1;simp at this;omega
 have MI:∀ws∈LL.map (aV 32 []),mS ws/\ws≠[]:=by
  rw[←Of];exact DP (λc hc=>Rk c ((List.dropLast_sublist T).subset hc)) MH
 generalize P1:LL.map (aV 32 [])=LS at MI;have Wa:qF T=LS:=by unfold qF;rw[Of,P1]
 have Nl:LS.length=LL.length:=by rw[←P1,Xn]
 refine⟨_,rfl,_,rfl,_,rfl,_,rfl,hz,⟨_,rfl⟩,_,_,rfl,rfl,by decide +kernel,?_,λp1 O5=>?_⟩
 · have:=nX (st T) none (some (-1));rw[b8] at this;rw[XS];omega
 rw[eS];refine⟨p1,rfl,⟨_,aQ.of ae⟩,λD hD=>?_⟩;have eM:(LL.map st).map V.str=sV LL:=by unfold sV;rw[XR];rfl
 have S2:au H1 (upd H1 p1 (.lst ((LL.map st).map V.str))):=(au.refl H1).laid O5;generalize P2:upd H1 p1 (.lst ((LL.map st).map V.str))=H2 at hD S2;have NP:aQ K H2 p1 (sV LL):=aQ.of (by rw[←P2,ae,eM]);refine jf (K:=K) (a:=p1) (xs:=sV LL) (λi H'=>∃as:List Addr,au H2 H'/\H' D=some (.lst (as.map V.ref))/\Paired (λb ws=>b≠D/\H' b=some (.lst (sV ws))) as (LS.take i)) ⟨[],(au.refl H2).laid hD,ae,.nil⟩ (λi H' _ ⟨_,S,_⟩=>S.seq NP) ?_ ?_
 · rintro i x H' hi ⟨as,S3,e1,hP⟩;unfold sV at hi;rw[Xs] at hi;obtain⟨l,hl,rfl⟩:=X0.mp hi;have LG:i < LL.length:=(XB.mp hl).1;have LA:as.length=i:=by rw[Paired.length hP,XN];omega
   have L1:LS[i]?=some (aV 32 [] l):=by rw[←P1,Xs,hl];rfl
   refine⟨rfl,_,rfl,⟨_,rfl⟩,_,_,rfl,rfl,by decide +kernel,?_,λp hp=>?_⟩
   · have:=V_ l (XT hl);rw[b8,XS];omega
   have nD:p≠D:=(ao e1 hp).symm;refine⟨_,by rw[aq nD.symm];exact e1,?_,as++[p],?_,?_,?_⟩
   · rw[Xn,LA,XS];omega
   · intro c u z;rw[aq (ao z hD),aq (ao (S3 c u z) hp)];exact S3 c u z
   · rw[ae,XH];rfl
   · rw[take_snoc L1];refine Paired.snoc (Paired.d8 hP λb ws z=>?_) ⟨nD,?_⟩
     · refine⟨z.1,?_⟩;rw[aq z.1,aq (ao z.2 hp)];exact z.2
     · rw[aq nD,ae,CG,lP (by decide)];unfold sV;rw[XR];rfl
 rintro H3 ⟨as,S3,e1,PV⟩;rw[dH,←Nl,Ym] at PV;have hP:Paired (λb ws=>aQ K H3 b (sV ws)) as LS:=Paired.d8 PV λb ws z=>aQ.of z.2;have hA:aQ K H3 D (as.map V.ref):=aQ.of e1;have Wb:au H H3:=S1.trans (S2.trans S3);have LA:as.length=LS.length:=Paired.length hP;obtain⟨d,ls,Mu⟩:∃d ls,LS=d::ls:=by
  cases hq:LS with
  |nil =>
   rw[←P1,ZY,←Of] at hq;exact absurd hq (jU 10 _ _)
  |cons d ls=>exact⟨d,ls,rfl⟩
 have at_:∀(j:Nat) ws,LS[j]?=some ws->∃b,nW (as.map V.ref) (j:Int)=some (.ref b)/\aQ K H3 b (sV ws):=λj ws hj=>by
  obtain⟨b,hb,hs⟩:=Paired.at2 hP hj;exact⟨b,cw (by rw[Xs,hb];rfl),hs⟩
 have eC:eh T=if iF d=true then eK [] ls else none:=by
  unfold eh;rw[Xp hE,Wa,Mu]
 obtain⟨b0,Oo,Rl⟩:=at_ 0 d (by rw[Mu];rfl);refine (a6 (ag rfl) aC hA Oo) _ ⟨b0,d,rfl,Rl,(MI d (by rw[Mu];simp)).1,λH4 S4=>⟨_,rfl,?_⟩⟩;have SR:=Wb.trans S4;refine gG (λh=>?_) (λh=>?_)
 · refine q0 ?_ H4 SR;rw[eC,Xo (by simpa using h)]
 rw[Xp (by simpa using h)] at eC;refine cE aC ?_;have O6:=S4.seq hA;refine Bi (λσ H'=>∃b:Nat,σ=[some (.ref a),some (.str (st T)),some (.ref D),some (.int (b:Nat)),none,none,none]/\H'=H4/\1<=b/\b<=LS.length/\∀j ws,1<=j->j < b->LS[j]?=some ws->aP ws=true)
  (λσ H'=>∃b:Nat,σ=[some (.ref a),some (.str (st T)),some (.ref D),some (.int (b:Nat)),none,none,none]/\H'=H4/\1<=b/\b<=LS.length/\(∀j ws,1<=j->j < b->LS[j]?=some ws->aP ws=true)/\∀ws,LS[b]?=some ws->aP ws=false)
  (λ(σ:L2.St) (_:Hp)=>match σ[3]? with|some (some (V.int z))=>LS.length - z.toNat|_=>0) ⟨1,rfl,rfl,Xx _,by rw[Mu];simp,λj ws h1 h2=>by omega⟩ ?_ ?_
 · rintro σ H' ⟨b,rfl,rfl,Nu,M3,O7⟩;have O8:∀ws,LS[b]?=some ws->∀ba,aQ K H' ba (sV ws)->nW (as.map V.ref) (b:Int)=some (.ref ba)->Ev (kI JZ (kI (zm K) (kI (zm K) (cH 2) (cH 3)) (tC (.int 0))) (tC (.str (Str.ofString "race")))) [some (.ref a),some (.str (st T)),some (.ref D),some (.int (b:Nat)),none,none,none] H' (.bl (aP ws)):=λws L1 ba MJ O9=>by
    have LJ:=(MI ws (XT L1)).2;have:=b9 (a6 (a6 (ag (n:=2) (σ:=[some (.ref a),some (.str (st T)),some (.ref D),some (.int (b:Nat)),none,none,none]) rfl) (ag (n:=3) rfl) O6 O9) (aC (v:=.int ((0:Nat):Int))) MJ (dD (i:=0) (Yt.mpr LJ))) (aC (v:=.str (Str.ofString "race")));rw[iO] at this;have e:decide (ws.getD 0 []=cd "race")=aP ws:=by
     unfold aP;cases ws with
     |nil=>exact absurd rfl LJ
     |cons x r =>
      show decide (x=cd "race")=(x==cd "race");rw[X3,Xw,Ye]
    rw[e] at this;exact this
   by_cases LC:b < LS.length
   · obtain⟨ws,L1⟩:∃ws,LS[b]?=some ws:=⟨_,Xy LC⟩;obtain⟨ba,O9,MJ⟩:=at_ b ws L1;refine⟨_,qr (jE (ag rfl) (aU (ag rfl) (.inl O6))) λ_=>aI (O8 ws L1 ba (S4.seq MJ) O9),λh=>?_,λh=>?_⟩
     · rw[Xv] at h;refine⟨_,rfl,_,_,rfl,rfl,⟨⟨b+1,rfl,rfl,by omega,by omega,λj O_ h1 h2 h3=>?_⟩,?_⟩⟩
       · by_cases e:j=b
         · subst e;rw[L1] at h3;cases h3;exact h.2
         · exact O7 j O_ h1 (by omega) h3
       · show LS.length - ((b:Int)+1).toNat < LS.length - ((b:Nat):Int).toNat;omega
     · have hf:aP ws=false:=by
        rw[YM] at h;rcases h with h|h
        · rw[Xn,LA] at h;have:=X8 h;omega
        · exact h
       exact⟨b,rfl,rfl,Nu,M3,O7,λO_ z=>by rw[L1] at z;cases z;exact hf⟩
   · refine⟨_,qr (c:=false) (jE (ag rfl) (aU (ag rfl) (.inl O6))) λh=>?_,λh=>?_,λ_=>?_⟩
     · rw[Xn,LA] at h;have:=XI h;omega
     · rw[Bool.and_false] at h;cases h
     · exact⟨b,rfl,rfl,Nu,M3,O7,λO_ z=>by rw[Ys (by omega)] at z;cases z⟩
 rintro σ H' ⟨b,rfl,e4,Nu,M3,O7,Wc⟩;subst e4;obtain⟨Wd,We,Wf⟩:=mD aP ls (b - 1) (by rw[Mu] at M3;simp at M3;omega) (λj x hj hx=>O7 (j+1) x (by omega) (by omega) (by rw[Mu];exact hx)) (λx hx=>Wc x (by rw[Mu,show b=b - 1+1 by omega];exact hx));have eR:=pz ls [] (by simp);rw[Wd,We,Wf] at eR;refine⟨_,rfl,_,rfl,_,rfl,_,rfl,D,as.map V.ref,rfl,O6,λp2 NP=>⟨p2,rfl,⟨_,aQ.of ae⟩,λR hR=>?_⟩⟩;have Rm:fQ (as.map V.ref) (some 1) (some (b:Int))=((as.drop 1).take (b - 1)).map V.ref:=by
  have:=yG (xs:=as.map V.ref) (i:=1) (j:=b) (by rw[Xn,LA];exact M3);rw[List.map_take,ZT];exact this
 have S5:au H' (upd H' p2 (.lst (fQ (as.map V.ref) (some 1) (some (b:Int))))):=(au.refl H').laid NP;have P4:aQ K (upd H' p2 (.lst (fQ (as.map V.ref) (some 1) (some (b:Int))))) p2 (((as.drop 1).take (b - 1)).map V.ref):=aQ.of (by rw[ae,Rm]);generalize upd H' p2 (.lst (fQ (as.map V.ref) (some 1) (some (b:Int))))=H5 at hR S5 P4;have O1:Paired (λb ws=>aQ K H3 b (sV ws)) ((as.drop 1).take (b - 1)) (ls.take (b - 1)):=by
  have:=Paired.tk (b - 1) (Paired.dp 1 hP);rw[Mu] at this;exact this
 have Rn:∀ws∈ls.take (b - 1),mS ws/\ws≠[]:=λws z=>MI ws (by rw[Mu];exact XG _ (Y6 z));have Ro:((as.drop 1).take (b - 1)).length=(ls.take (b - 1)).length:=Paired.length O1;refine jf (K:=K) (a:=p2) (xs:=((as.drop 1).take (b - 1)).map V.ref) (λi H6=>∃vs:List V,au H5 H6/\H6 R=some (.lst vs)/\Paired (jM H6 R) vs ((ls.take (b - 1)).take i)) ⟨[],(au.refl H5).laid hR,ae,.nil⟩ (λi H6 _ ⟨_,S,_⟩=>S.seq P4) ?_ ?_
 · rintro i x H6 hi ⟨vs,S6,e1,hV⟩;rw[Xs] at hi;obtain⟨ba,O9,rfl⟩:=X0.mp hi;obtain⟨ws,L1,MJ⟩:=Paired.qO O1 O9;have LG:i < (ls.take (b - 1)).length:=(XB.mp L1).1;have M4:vs.length=i:=by rw[Paired.length hV,XN];omega
   have Mo:=Rn ws (XT L1);have lenls:ls.length<=65537:=by have:=Nl;rw[Mu] at this;simp at this;omega
   have small:vs.length < sizeLine:=by
    rw[M4,XS];have:=List.length_take_le (b - 1) ls;have:=XN (i:=b - 1) (l:=ls);omega
   have Nm:∀H7,au H6 H7->∀(y:V),Paired (jM (upd H7 R (.lst (vs++[y]))) R) vs ((ls.take (b - 1)).take i):=λH7 e y=>Paired.d8 hV λv O_ z=>by
    unfold jM at z ⊢;cases hr:bD O_ with
    |none=>rw[hr] at z;exact z
    |some hs =>
     rw[hr] at z;obtain⟨x,ex,nx,hx⟩:=z;exact⟨x,ex,nx,by rw[aq nx];exact e _ _ hx⟩
   refine⟨rfl,_,rfl,ba,ws,rfl,S6.seq (S5.seq (S4.seq MJ)),Mo.1,Mo.2,λhn H7 e=>?_,λhs hn H7 x e nx hx=>?_⟩
   · refine⟨vs,e _ _ e1,small,vs++[.cf],λc u z=>?_,ae,?_⟩
     · rw[aq (ao z hR)];exact e _ _ (S6 c u z)
     · rw[take_snoc L1];refine Paired.snoc (Nm H7 e _) ?_;unfold jM;rw[hn]
   · have nR:x≠R:=(ao e1 nx).symm;refine⟨vs,e _ _ e1,small,vs++[.ref x],λc u z=>?_,ae,?_⟩
     · rw[aq (ao z hR)];exact e _ _ (S6 c u z)
     · rw[take_snoc L1];refine Paired.snoc (Nm H7 e _) ?_;unfold jM;rw[hn];exact⟨x,rfl,nR,by rw[aq nR];exact hx⟩
 rintro H6 ⟨vs,S6,e1,hV⟩;rw[Xn,Ro,Ym] at hV;have M4:vs.length=b - 1:=by
  rw[Paired.length hV,XN];rw[Mu] at M3;simp at M3;omega
 have Rp:au H' H6:=S5.trans S6;have Rq:au H H6:=SR.trans Rp;refine aR (gN (e_ (cy aC (aU (ag rfl) (.inl (aQ.of e1))) aC)) λ_=>aI (λR' r'=>⟨_,rfl,R,vs,rfl,rfl,aQ.of e1,n8 hV,r'⟩)) (λh=>?_) (λh=>?_)
 · refine bS aC (q0 ?_ H6 Rq);rw[eC,eR,Xo];rintro⟨z1,z2,z3⟩;rw[M4,mT hV,Yc z3] at h;simp only[ZD,Yg,YM,X6] at h;simp only[YZ] at z1 z2;omega
 · rw[M4,mT hV] at h;simp only[Yz,Yj,Xv,Xw,X6] at h;obtain⟨⟨z1,z2⟩,z3⟩:=h;rw[Xp ⟨by simp only[YZ];omega,by simp only[YZ];omega,z3⟩,Yk] at eR;obtain⟨Wg,ev,Wh⟩:=r9 hV z3;subst ev;have Wi:=Rp.seq O6;refine⟨_,rfl,_,rfl,_,rfl,D,as.map V.ref,rfl,Wi,λp3 Wj=>?_⟩;have S7:au H6 (upd H6 p3 (.lst (fQ (as.map V.ref) (some (b:Int)) none))):=(au.refl H6).laid Wj;have Pa:fQ (as.map V.ref) (some (b:Int)) none=(as.drop b).map V.ref:=by
    unfold fQ;rw[HT.kq,HT.jO,Xn,LA,Zn M3,ZT];refine Yl ?_;rw[Yh,Xn,LA];exact Xx _
   refine⟨_,rfl,p3,R,ls.drop (b - 1),((ls.take (b - 1)).map bD).filterMap id,rfl,⟨as.drop b,aQ.of (by rw[ae,Pa]),?_⟩,?_,⟨Wg,S7.seq (aQ.of e1),Paired.d8 Wh λc hs z=>S7.seq (aQ.of z)⟩,?_,?_,?_⟩
   · have:=Paired.dp b hP;rw[show LS.drop b=ls.drop (b - 1) by rw[Mu,show b=b - 1+1 by omega];rfl] at this;exact Paired.d8 this λc ws z=>S7.seq (Rp.seq (S4.seq z))
   · intro ws z;exact (MI ws (by rw[Mu];exact XG _ (YY z))).1
   · have:=List.length_filterMap_le id ((ls.take (b - 1)).map bD);rw[Xn,XN] at this;omega
   · intro hn H8 S8;exact q0 (by rw[eC,eR];exact hn) H8 (Rq.trans (S7.trans S8))
   · intro ps hs H8 x S8 hx;exact q1 ps (by rw[eC,eR];exact hs) H8 x (Rq.trans (S7.trans S8)) hx
end
end Bw
namespace L2
open PySem PySem.Spec PyProof.Rows
def aK (a:Addr)(H H':Hp):Prop:=∀b o,H b=some o->b≠a->H' b=some o
section
variable {a:Addr}{H H1 H2:Hp}
theorem aK.refl (a:Addr) (H:Hp):aK a H H:=λ_ _ h _=>h
theorem aK.trans (x:aK a H H1)(y:aK a H1 H2):aK a H H2:=λb o h n=>y b o (x b o h n) n
theorem au.x (e:au H H1):aK a H H1:=λb o h _=>e b o h
theorem aK.upd {o:HO}(x:aK a H H1):aK a H (upd H1 a o):=λb u h n=>by rw[aq n];exact x b u h n
theorem aK.laid {p:Addr}{o:HO}(x:aK a H H1)(h:H p=none):aK a H (L2.upd H1 p o):=λb u q n=>by
 rw[aq (ao q h)];exact x b u q n
theorem aK.seq {K:aaa}{C dx b:Addr}{fs:List (Str×V)}{xs:List V}(e:aK a H H1)(ha:H a=some (.ins C dx fs))(h:aQ K H b xs):aQ K H1 b xs:=by
 rcases h with (h|⟨o,h⟩)|h
 · exact .inl (.inl (e _ _ h (dE h ha (by intro z;cases z))))
 · exact .inl (.inr ⟨o,e _ _ h (dE h ha (by intro z;cases z))⟩)
 · exact .inr h
theorem aK.tup {K:aaa}{C dx b:Addr}{fs:List (Str×V)}{xs:List V}(e:aK a H H1)(ha:H a=some (.ins C dx fs))(h:b7 K H b xs):b7 K H1 b xs:=by
 rcases h with (h|⟨o,h⟩)|h
 · exact .inl (.inl (e _ _ h (dE h ha (by intro z;cases z))))
 · exact .inl (.inr ⟨o,e _ _ h (dE h ha (by intro z;cases z))⟩)
 · exact .inr h
theorem aK.free (e:aK a H H1){l:Addr}(h:H1 l=none)(hl:l≠a):H l=none:=by
 cases q:H l with
 |none=>rfl
 |some o =>
  rw[e l o q hl] at h;cases h
end
end L2
namespace Bw
open PySem PySem.Spec PyProof.Rows L2 Tote
theorem o5 {f:Str}{v x:V}{r:List (Str×V)}:eG f v ((f,x)::r)=(f,v)::r:=by
 show (if f=f then (f,v)::r else _)=_;rw[Xp rfl]
def Flt (P:Program)(w:World)(K:aaa)(mg:aac)(base:Heap)(C:Addr):Prop :=
 ∃(N fI:Addr) (fd:FuncData),pH K C N fI/\Binds K fd ["self","kind","place"] []/\a8 P w K mg base bE 1 fI fd ["self","kind","place"] (F9 C)/\mg "Fault"=some (.ref C)
theorem fG {X:Cx}{C:Addr}{E:XK}{np LD pos:Pos}{e:Expr}{es:List Expr}{t:TA}(FL:Flt X.prog X.w X.K X.mg X.base C)(O:my X)(hr:cK 2 X.A)(ha:PA (X.iq (XF X C E)) (e::es) t)(hg:Gl X "Fault":=by rfl)
  (he:starEach (e::es) X.env=(false,eval e X.env)::starEach es X.env:=by rfl)(LH:(backTo LD (starEach es X.env)).any (·.1)=false:=by rfl):PS (X.iq (XF X C E)) (.Raise (some (.Call (.Name "Fault" np) (e::es) [] LD)) none pos) (KI C E t):=by
 obtain⟨N,fI,fd,Z,hb,F,hm⟩:=FL;exact AX O Z F hr hb hg hm ha (by decide) he LH
section
variable {P:Program}{w:World}{K:aaa}{mg:aac}{base:Heap}
theorem zu:aG ["self","kind","place"] ["self","kind","place"] (aw fL):=fs
theorem zr {C N fI:Addr}(Z:pH K C N fI){f:Addr}{fd:FuncData}(F:de K "__init__" "Fault.__init__" fL f fd):a8 P w K mg base bE 1 f fd ["self","kind","place"] (F9 C):=by
 refine F.oa zu λLz A outer s H vs Q E hr h=>?_;obtain⟨a,t,k,p,rfl,ha,q⟩:=h;refine⟨_,af (zi Z Z.fK Z.Kv Le (pv 0) (pv 1) rfl) (ak (zi Z Z.fP Z.KW Li (pv 0) (pv 2) rfl)),?_⟩;refine⟨_,rfl,_,rfl,a,t,rfl,.inl ⟨ha,λdx Mg ne=>?_⟩⟩;refine⟨_,rfl,_,rfl,a,t,rfl,.inr ⟨dx,_,ae,by rw[aq ne];exact ae,ne,by show 1 < 1000;decide,?_⟩⟩;have e:eG "place" (V.int p) [(("kind":Str),V.int k)]=ff k p:=by
  rw[bc (by decide +kernel),bQ];rfl
 rw[e];have e2:upd (upd (upd H dx (sA dx [(("kind":Str),V.int k)])) a (ux a C t (some dx))) dx (sA dx (ff k p))=upd (upd H dx (sA dx (ff k p))) a (ux a C t (some dx)):=by
  funext b;by_cases h1:b=dx
  · subst h1;rw[ae,aq ne,ae]
  · rw[aq h1];by_cases h2:b=a
    · subst h2;rw[ae,ae]
    · rw[aq h2,aq h2,aq h1,aq h1]
 rw[e2];exact q dx Mg ne
end
def uC (pl n h s t r m:V):List (Str×V):=[("pool",pl),("pool_number",n),("how",h),("stake",s),("sets",t),("rows",r),("many",m)]
abbrev vv:List Str:=["pool","pool_number","how","stake","sets","rows","many"]
def bU (wl m p np e:V):List (Str×V):=[("words",wl),("met",m),("place",p),("next_place",np),("line_end",e)]
abbrev cp:List Str:=["words","met","place","next_place","line_end"]
section
variable {a b c d e v:V}
theorem i7:(bU a b c d e).lookup ("words":Str)=some a:=bR
theorem jb:(bU a b c d e).lookup ("met":Str)=some b:=by unfold bU;rw[a9 (by decide +kernel)];exact bR
theorem bL:(bU a b c d e).lookup ("place":Str)=some c:=by unfold bU;rw[a9 (by decide +kernel),a9 (by decide +kernel)];exact bR
theorem jN:(bU a b c d e).lookup ("next_place":Str)=some d:=by unfold bU;rw[a9 (by decide +kernel),a9 (by decide +kernel),a9 (by decide +kernel)];exact bR
theorem wL:(bU a b c d e).lookup ("line_end":Str)=some e:=by unfold bU;rw[a9 (by decide +kernel),a9 (by decide +kernel),a9 (by decide +kernel),a9 (by decide +kernel)];exact bR
theorem Eg:eG "met" v (bU a b c d e)=bU a v c d e:=by unfold bU;rw[bc (by decide +kernel),o5]
theorem Av:eG "place" v (bU a b c d e)=bU a b v d e:=by unfold bU;rw[bc (by decide +kernel),bc (by decide +kernel),o5]
theorem Cr:eG "next_place" v (bU a b c d e)=bU a b c v e:=by unfold bU;rw[bc (by decide +kernel),bc (by decide +kernel),bc (by decide +kernel),o5]
end
def aT (K:aaa)(C:Addr)(H:Hp)(a:Addr)(e:Nat)(l:List Word)(pl:Nat):Prop :=
 ∃(dx wl:Addr) (all:List W) (m np:Nat),H a=some (.ins C dx (bU (.ref wl) (.int (m:Nat)) (.int (pl:Nat)) (.int (np:Nat)) (.int (e:Nat))))/\aQ K H wl (sV all)/\(mS all/\all≠[])/\m<=all.length/\all.drop m=nj l/\Placed np l
theorem aT.same {K:aaa}{C:Addr}{H H':Hp}{a:Addr}{e:Nat}{l:List Word}{pl:Nat}(h:aT K C H a e l pl)(s:au H H'):aT K C H' a e l pl:=by
 obtain⟨dx,wl,all,m,np,h1,h2,r⟩:=h;exact⟨dx,wl,all,m,np,s _ _ h1,s.seq h2,r⟩
structure GB (K:aaa)(mg:aac)(aW:Addr):Prop where
 ended:Gv mg "NOT_ENDED" (.int 1)
 byte:Gv mg "BAD_BYTE" (.int 2)
 word:Gv mg "BAD_WORD" (.int 3)
 num:Gv mg "BAD_NUMBER" (.int 4)
 pool:Gv mg "NO_POOL" (.int 5)
 comb:Gv mg "NO_COMBINATION" (.int 6)
 Kr:Gv mg "TOO_DEAR" (.int 7)
 more:Gv mg "MORE_BYTES" (.int 8)
 nl:Gv mg "LINE_END" (.int 10)
 blank:Gv mg "BLANK" (.int 32)
 stake:Gv mg "MOST_STAKE" (.int 1000000)
 cost:Gv mg "MOST_COST" (.int 2147483647)
 on:Gv mg "ON" (.int 0)
 box:Gv mg "BOX" (.int 1)
 IY:Gv mg "WAYS" (.ref aW)
 yd:∀H,b7 K H aW [.str (Str.ofString "on"),.str (Str.ofString "box"),.str (Str.ofString "key")]
 Iq:∃o,K.lookup aW=some o/\o.cls=.type "tuple"/\o.dict=none
 enum:mg "enumerate"=none
 any:mg "any"=none
section
variable {X:Cx}{CX:lO}{k:Nat}{m:Str}{ps:List Str}{sp:Sp}{E:XK}{pos apos:Pos}{o e:Expr}{es:List Expr}{ta:TE}{t:TA}{C:Addr}
theorem jX {pl:Sem Bool} (F:qp X.prog X.w X.K X.mg X.base CX k C m ps sp) (c:yj X.K C) (he:PE X o ta) (hr:cK k X.A) (hx:Passes CX X E)
  (ht:eval (.Call (.Attribute o m apos) [] [] pos) X.env=(do
   let ov ←eval o X.env
   standAt apos.atName
   let (f,first) ←holding [ov] (getMethod ov m pl)
   callWith pos f first (backTo pos (starEach [] X.env)) (backToKw pos (keywordEach [] X.env))):=by rfl):PE X (.Call (.Attribute o m apos) [] [] pos) (uY C m sp [] E ta eV):=by
 obtain⟨f,fd,hm,hb,F⟩:=F;exact A6 he c hm F hr hb .nil hx ht
theorem lr {pl:Sem Bool}(F:qp X.prog X.w X.K X.mg X.base CX k C m ps sp)(c:yj X.K C)(he:PE X o ta)(hr:cK k X.A)(hx:Passes CX X E)(ha:PA X (e::es) t)
  (Md:starEach (e::es) X.env=(false,eval e X.env)::starEach es X.env:=by rfl)(LH:(backTo pos (starEach es X.env)).any (·.1)=false:=by rfl)
  (ht:eval (.Call (.Attribute o m apos) (e::es) [] pos) X.env=(do
   let ov ←eval o X.env
   standAt apos.atName
   let (f,first) ←holding [ov] (getMethod ov m pl)
   callWith pos f first (backTo pos (starEach (e::es) X.env)) (backToKw pos (keywordEach [] X.env))):=by rfl):PE X (.Call (.Attribute o m apos) (e::es) [] pos) (uY C m sp [] E ta t):=by
 obtain⟨f,fd,hm,hb,F⟩:=F;exact DV he c hm F hr hb .nil hx ha Md LH ht
end
section
variable {P:Program}{w:World}{K:aaa}{mg:aac}{base:Heap}
def pj (K:aaa) (C:Addr):Sp:=λvs H Q _=>∃(x dx:Addr) (l:W),vs=[.ref x,.str (st l)]/\H x=some (.ins C dx [])/\l.length<=70000 /\
 ∀H' wl,aK x H H'->H wl=none->H' wl=some (.lst (sV (aV 32 [] l)))->H' x=some (.ins C dx (bU (.ref wl) (.int ((0:Nat):Int)) (.int ((0:Nat):Int)) (.int ((0:Nat):Int)) (.int (l.length:Nat))))->Q .cf H'
theorem Au:aG ["self","line"] ["self","line"] (aw gc):=fs
theorem Al {C:Addr}(G:GW mg)(T:CK K mg "Words" cp C){f:Addr}{fd:FuncData}(F:de K "__init__" "Words.__init__" gc f fd):a8 P w K mg base bE 1 f fd ["self","line"] (pj K C):=by
 refine F.oa Au λLz A outer s H vs Q E hr h=>?_;obtain⟨x,dx,l,rfl,hx,hl,q⟩:=h;refine⟨_,af (cD (pv 0) (mB (pv 1) bt) rfl) (af (cD (pv 0) ax rfl) (af (cD (pv 0) ax rfl) (af (cD (pv 0) ax rfl) (ak (cD (pv 0) (bY fO (by rfl) G.len PySem.boot_len (aa (pv 1) ah)) rfl))))),?_⟩;refine⟨_,rfl,⟨_,rfl⟩,_,_,rfl,rfl,by decide +kernel,by rw[b8,XS];omega,λwl MQ=>?_⟩;have nx:wl≠x:=(ao hx MQ).symm;rw[CG,lP (by decide)];refine⟨_,rfl,x,C,dx,[],rfl,by rw[aq nx.symm];exact hx,T.cl,T.no _ (by simp),(by show 0 < 1000;decide),?_⟩;refine⟨_,rfl,x,C,dx,_,rfl,ae,T.cl,T.no _ (by simp),(by show 1 < 1000;decide),?_⟩;refine⟨_,rfl,x,C,dx,_,rfl,ae,T.cl,T.no _ (by simp),(by repeat (first|rw[bQ]|rw[bc (by decide +kernel)]);show 2 < 1000;decide),?_⟩;refine⟨_,rfl,x,C,dx,_,rfl,ae,T.cl,T.no _ (by simp),(by repeat (first|rw[bQ]|rw[bc (by decide +kernel)]);show 3 < 1000;decide),?_⟩;refine⟨_,rfl,_,rfl,by rw[b8,XS];omega,_,rfl,x,C,dx,_,rfl,ae,T.cl,T.no _ (by simp),(by repeat (first|rw[bQ]|rw[bc (by decide +kernel)]);show 4 < 1000;decide),?_⟩;rw[cI,cI,cI,cI]
 repeat (first|rw[bQ]|rw[bc (by decide +kernel)])
 refine q _ wl (λb u z n=>?_) MQ ?_ ?_
 · rw[aq n,aq (ao z MQ)];exact z
 · rw[aq nx,ae];unfold sV;rw[XR];rfl
 · rw[ae,b8];rfl
def nq (K:aaa)(CW CF:Addr):Sp:=λvs H Q E=>∃(a:Addr) (e:Nat) (l:List Word) (pl:Nat),vs=[.ref a]/\aT K CW H a e l pl/\(l=[]->Rz CF E 3 (e:Nat))/\(∀w r,l=w::r->∀H',aK a H H'->aT K CW H' a e r w.at_->((tx w.w).length<=70000/\∀c∈tx w.w,c < 128)->Q (.str (st (tx w.w))) H')
theorem yB:aG ["self","word"] ["self"] (aw f7):=fs
theorem EJ {CW CF aW:Addr}(G:GW mg)(B:GB K mg aW)(T:CK K mg "Words" cp CW)(FL:Flt P w K mg base CF){f:Addr}{fd:FuncData}(F:de K "take" "Words.take" f7 f fd):a8 P w K mg base (eW P w CF) 3 f fd ["self"] (nq K CW CF):=by
 refine F.lU yB λLz A outer s H vs Q E hr h=>?_;obtain⟨a,e,l,pl,rfl,⟨dx,wl,all,m,np,ha,hw,ok,hm,hd,hp⟩,q0,q1⟩:=h;refine⟨_,af (aO (aB ck (aY (pv 0) rfl) (bg G.len (aY (pv 0) rfl)) (aJ _)) (ak (fG FL aH hr (aa (bb B.word) (aa (aY (pv 0) rfl) ah)))) aA)
  (af (a7 1 yB.nd (bo aL (aY (pv 0) rfl) (aY (pv 0) rfl) (λ_ _=>rfl)))
  (af (rY (pv 0) ax Bc)
  (af (cD (pv 0) (aY (pv 0) rfl) rfl)
  (af (rY (pv 0) (bG ej (bY fO (by rfl) G.len PySem.boot_len (aa (pv 1) ah)) ax) Bc)
  (ak (az (pv 1))))))),?_⟩
 have no:=λf (h:f∈cp)=>T.no f h;refine aR (aI (b9 (bf (ag rfl) ha T.cl (no _ (by simp)) jb) (aU (bf (ag rfl) ha T.cl (no _ (by simp)) i7) (.inl hw)))) (λh=>?_) (λh=>?_)
 · rw[aX,dH] at h;have Nf:m=all.length:=by have:=YT h;omega
   refine (bf (ag rfl) ha T.cl (no _ (by simp)) wL) _ ⟨3,_,rfl,q0 ?_⟩;rw[Nf,Zg] at hd;cases l with
   |nil=>rfl
   |cons w r=>cases hd
 · rw[aX,dH] at h;have Nf:m < all.length:=by
    have:m≠all.length:=λz=>by rw[z] at h;simp at h
    omega
   cases l with
   |nil =>
    have:=Yv List.length hd;rw[Yh] at this;simp[nj] at this;omega
   |cons wd r =>
    have L8:all[m]?=some (tx wd.w)/\all.drop (m+1)=nj r:=by
     rw[YL Nf] at hd;have hd:all[m]::all.drop (m+1)=tx wd.w::nj r:=hd;injection hd with h1 h2;exact⟨by rw[Xy Nf,h1],h2⟩
    obtain⟨O5,NP⟩:=hp;have Mo:=ok.1.2 _ (XT L8.1);refine cE (a6 (bf (ag rfl) ha T.cl (no _ (by simp)) i7) (bf (ag rfl) ha T.cl (no _ (by simp)) jb) hw (cw (A2 L8.1))) ?_;refine⟨_,rfl,a,CW,dx,_,_,rfl,ha,T.cl,no _ (by simp),jb,_,_,rfl,rfl,dx,_,ha,(by show 5 < 1000;decide),?_⟩;rw[Eg];refine⟨_,rfl,a,CW,dx,_,_,rfl,ae,T.cl,no _ (by simp),jN,_,rfl,a,CW,dx,_,rfl,ae,T.cl,no _ (by simp),(by show 5 < 1000;decide),?_⟩;rw[Av,cI];refine⟨_,rfl,a,CW,dx,_,_,rfl,ae,T.cl,no _ (by simp),jN,?_⟩;refine (jr (sO (ag rfl) (by rw[b8,XS];omega)) aC) _ ⟨_,_,rfl,rfl,dx,_,ae,(by show 5 < 1000;decide),?_⟩;rw[Cr,cI];refine⟨_,rfl,?_⟩;refine q1 wd r rfl _ (aK.refl a H).upd ⟨dx,wl,all,m+1,np+(tx wd.w).length+1,?_,(aK.refl a H).upd.seq ha hw,ok,by omega,L8.2,by rw[iy];exact NP⟩ Mo;rw[ae,O5,b8];have e1:((m:Nat):Int)+1=((m+1:Nat):Int):=by omega
    have e2:((np:Nat):Int)+(((tx wd.w).length:Nat)+1)=((np+(tx wd.w).length+1:Nat):Int):=by omega
    rw[e1,e2]
end
theorem oF {f:Str}:∀{fs:List (Str×V)},¬f∈fs.map (·.1)->fs.lookup f=none
 |[],_=>rfl
 |(g,v)::r,h=>by
  rw[a9 (λe=>h (by simp[e]))];exact oF λz=>h (by simp at z ⊢;exact .inr z)
theorem cB {a b c d e:V}{f:Str}(h:¬f∈cp):(bU a b c d e).lookup f=none:=oF h
theorem aT.obj {K:aaa}{C:Addr}{H:Hp}{a:Addr}{e:Nat}{l:List Word}{pl:Nat}(h:aT K C H a e l pl):∃dx wl m np,H a=some (.ins C dx (bU wl m (.int (pl:Nat)) np (.int (e:Nat)))):=by
 obtain⟨dx,wl,all,m,np,h1,_⟩:=h;exact⟨dx,_,_,_,h1⟩
section
variable {P:Program}{w:World}{K:aaa}{mg:aac}{base:Heap}
def m9 (kn:List String) (w:Word):Prop:=∃s∈kn,tx w.w=cd s
def oM (K:aaa)(CW CF:Addr):Sp:=λvs H Q E=>∃(a t:Addr) (kn:List String) (e:Nat) (l:List Word) (pl:Nat),vs=[.ref a,.ref t]/\aT K CW H a e l pl/\b7 K H t (kn.map λs=>V.str (Str.ofString s))/\(l=[]->Rz CF E 3 (e:Nat)) /\
 (∀w r,l=w::r->¬m9 kn w->Rz CF E 3 (w.at_:Nat))/\(∀w r,l=w::r->m9 kn w->∀H',aK a H H'->aT K CW H' a e r w.at_->Q (.str (st (tx w.w))) H')
theorem Bq {kn:List String}{w:W}:oh (.str (st w)) (kn.map λs=>V.str (Str.ofString s))=decide (∃s∈kn,w=cd s):=by
 rw[X3,Xw];unfold oh;rw[ZM,Y2];have key:∀s:String,sE (V.str (Str.ofString s)) (V.str (st w))=true↔w=cd s:=λs=>by
  show (Str.ofString s==st w)=true↔_;rw[Ye,kO,jB];exact⟨λz=>z.symm,λz=>z.symm⟩
 exact⟨λ⟨s,h1,h2⟩=>⟨s,h1,(key s).mp h2⟩,λ⟨s,h1,h2⟩=>⟨s,h1,(key s).mpr h2⟩⟩
theorem EO (kn:List String):(kn.map λs=>V.str (Str.ofString s)).all dJ=true:=by
 rw[Zw,XU];intro _ _;rfl
theorem BN:aG ["self","known","word"] ["self","known"] (aw cv):=fs
theorem G3 {CW CF aW:Addr}(B:GB K mg aW)(T:CK K mg "Words" cp CW)(FL:Flt P w K mg base CF){k:Nat}(hk:2<=k)(FT:qp P w K mg base (eW P w CF) k CW "take" ["self"] (nq K CW CF)){f:Addr}{fd:FuncData}(F:de K "take_one_of" "Words.take_one_of" cv f fd) :
  a8 P w K mg base (eW P w CF) (k+1) f fd ["self","known"] (oM K CW CF):=by
 refine F.lU BN λLz A outer s H vs Q E hr h=>?_;obtain⟨a,t,kn,e,l,pl,rfl,hW,hT,q0,q1,q2⟩:=h;refine⟨_,af (a7 2 BN.nd (jX FT T.cl (pv 0) hr (bP aH rfl rfl)))
  (af (aO (aB eQ (pv 2) (pv 1) (by with_unfolding_all rfl)) (ak (fG FL aH (hr.mono hk) (aa (bb B.word) (aa (aY (pv 0) rfl) ah)))) aA)
  (ak (az (pv 2)))),?_⟩
 obtain⟨dx,wl,m,np,ha⟩:=hW.obj;refine⟨_,rfl,a,dx,_,rfl,ha,cB (by decide +kernel),a,e,l,pl,rfl,hW,q0,λwd r hl H1 S1 L3 Mo=>?_⟩;obtain⟨P5,Rr,m1,Rt,L_⟩:=L3.obj;refine aR (aI (mK (ag rfl) (ag rfl) (.inr (S1.tup ha hT)) rfl (EO kn))) (λh=>?_) (λh=>?_)
 · have h:(!oh (.str (st (tx wd.w))) (kn.map λs=>V.str (Str.ofString s)))=true:=h;rw[Bq,Yg,X6] at h;exact (bf (ag rfl) L_ T.cl (T.no _ (by simp)) bL) _ ⟨3,_,rfl,q1 wd r hl h⟩
 · have h:(!oh (.str (st (tx wd.w))) (kn.map λs=>V.str (Str.ofString s)))=false:=h;rw[Bq,Yj,Xw] at h;exact⟨_,rfl,q2 wd r hl h H1 S1 L3⟩
def AD (K:aaa)(CW CF:Addr):Sp:=λvs H Q E=>∃(a:Addr) (e:Nat) (l:List Word) (pl:Nat),vs=[.ref a]/\aT K CW H a e l pl/\(∀w r,l=w::r->Rz CF E 3 (w.at_:Nat))/\(l=[]->Q .cf H)
theorem G5:aG ["self"] ["self"] (aw eJ):=fs
theorem Ge {CW CF aW:Addr}(G:GW mg)(B:GB K mg aW)(T:CK K mg "Words" cp CW)(FL:Flt P w K mg base CF){f:Addr}{fd:FuncData}(F:de K "finish" "Words.finish" eJ f fd):a8 P w K mg base (eW P w CF) 3 f fd ["self"] (AD K CW CF):=by
 refine F.lU G5 λLz A outer s H vs Q E hr h=>?_;obtain⟨a,e,l,pl,rfl,⟨dx,wl,all,m,np,ha,hw,ok,hm,hd,hp⟩,q1,q0⟩:=h;refine⟨_,ak (aO (aB nS (aY (pv 0) rfl) (bg G.len (aY (pv 0) rfl)) (aJ _)) (ak (fG FL aH hr (aa (bb B.word) (aa (aY (pv 0) rfl) ah)))) aA),?_⟩;refine aR (jE (bf (ag rfl) ha T.cl (T.no _ (by simp)) jb) (aU (bf (ag rfl) ha T.cl (T.no _ (by simp)) i7) (.inl hw))) (λh=>?_) (λh=>?_)
 · rw[dH] at h;have Nf:m < all.length:=by have:=XI h;omega
   cases l with
   |nil =>
    have:=Yv List.length hd;rw[Yh] at this;simp[nj] at this;omega
   |cons wd r =>
    refine (bf (ag rfl) ha T.cl (T.no _ (by simp)) jN) _ ⟨3,_,rfl,?_⟩;rw[←hp.1];exact q1 wd r rfl
 · rw[dH] at h;have Nf:m=all.length:=by have:=X8 h;omega
   refine q0 ?_;rw[Nf,Zg] at hd;cases l with
   |nil=>rfl
   |cons w r=>cases hd
def tq (K:aaa)(CW CF:Addr):Sp:=λvs H Q E=>∃(a:Addr) (u:Nat) (e:Nat) (l:List Word) (pl:Nat),vs=[.ref a,.int (u:Nat)]/\1<=u/\aT K CW H a e l pl/\(l=[]->Rz CF E 3 (e:Nat)) /\
 (∀w r,l=w::r->¬(1<=ay (tx w.w)/\ay (tx w.w)<=1000000/\ay (tx w.w) % (u:Int)=0)->Rz CF E 4 (w.at_:Nat)) /\
 (∀w r,l=w::r->(1<=ay (tx w.w)/\ay (tx w.w)<=1000000/\ay (tx w.w) % (u:Int)=0)->∀H',aK a H H'->aT K CW H' a e r w.at_->Q (.int (ay (tx w.w))) H')
theorem uR:aG ["words","unit","stake"] ["words","unit"] (aw fZ):=fs
theorem Co {CW CF aW:Addr}(B:GB K mg aW)(T:CK K mg "Words" cp CW)(FL:Flt P w K mg base CF){k:Nat}(hk:2<=k)(FT:qp P w K mg base (eW P w CF) k CW "take" ["self"] (nq K CW CF))(FN:Fn P w K mg base bE k "number_of" ["word"] kP)
  {f:Addr}{fd:FuncData}(F:de K "take_stake" "take_stake" fZ f fd):a8 P w K mg base (eW P w CF) (k+1) f fd ["words","unit"] (tq K CW CF):=by
 refine F.lU uR λLz A outer s H vs Q E hr h=>?_;obtain⟨a,u,e,l,pl,rfl,hu1,hW,q0,q1,q2⟩:=h;refine⟨_,af (a7 2 uR.nd (aS FN hr a_ (aa (jX FT T.cl (pv 0) hr (bP aH rfl rfl)) ah)))
  (af (aO (PW.pt (d9 (cz (cA cb cb ax (pv 2) (bb B.stake))) (cR (aB pE (bG G6 (pv 2) (pv 1)) ax (aJ _))))) (ak (fG FL aH (hr.mono hk) (aa (bb B.num) (aa (aY (pv 0) rfl) ah)))) aA)
  (ak (az (pv 2)))),?_⟩
 obtain⟨dx,wl,m,np,ha⟩:=hW.obj;refine⟨_,rfl,a,dx,_,rfl,ha,cB (by decide +kernel),a,e,l,pl,rfl,hW,q0,λwd r hl H1 S1 L3 Mo=>?_⟩;obtain⟨P5,Rr,m1,Rt,L_⟩:=L3.obj;refine⟨tx wd.w,rfl,Mo.1,Mo.2,?_⟩;refine aR (gN (e_ (cy aC (ag rfl) aC)) λ_=>aI (oT (yV (ag rfl) (ag rfl) (by show (0:Int) < (u:Int);omega)) aC)) (λh=>?_) (λh=>?_)
 · refine (bf (ag rfl) L_ T.cl (T.no _ (by simp)) bL) _ ⟨4,_,rfl,q1 wd r hl λz=>?_⟩;rw[aX] at h;simp[z.1,z.2.1,z.2.2] at h
 · rw[aX] at h;simp only[Yz,Yj,Xv,Xw,Ye] at h;exact⟨_,rfl,q2 wd r hl ⟨h.1.1,h.1.2,h.2⟩ H1 S1 L3⟩
end
theorem aT.put {K:aaa}{C:Addr}{H:Hp}{a p:Addr}{e:Nat}{l:List Word}{pl:Nat}{xs ys:List V}(h:aT K C H a e l pl)(hp:H p=some (.lst xs))(hn:∀v∈xs,∀s,v≠.str s):aT K C (upd H p (.lst ys)) a e l pl:=by
 obtain⟨dx,wl,all,m,np,h1,h2,⟨ok,ne⟩,r⟩:=h;have Ru:a≠p:=dE h1 hp (by intro z;cases z);refine⟨dx,wl,all,m,np,by rw[aq Ru];exact h1,?_,⟨ok,ne⟩,r⟩;rcases h2 with (h2|⟨o,h2⟩)|h2
 · refine .inl (.inl ?_);rw[aq]
   · exact h2
   · rintro rfl;rw[hp] at h2;injection h2 with h2;injection h2 with h2;subst h2;cases all with
     |nil=>exact ne rfl
     |cons w r=>exact hn _ (X_ ..) _ rfl
 · refine .inl (.inr ⟨o,?_⟩);rw[aq (dE h2 hp (by intro z;cases z))];exact h2
 · exact .inr h2
theorem GK {ns:Z_}:∀v∈nV ns,∀s,v≠V.str s:=λv hv s=>by
 obtain⟨n,_,rfl⟩:=XY.mp hv;intro z;cases z
theorem Dk {as:List Addr}:∀v∈as.map V.ref,∀s,v≠V.str s:=λv hv s=>by
 obtain⟨n,_,rfl⟩:=XY.mp hv;intro z;cases z
theorem fR (ns:Z_):(nV ns).all dJ=true:=by
 unfold nV;rw[Zw,XU];intro _ _;rfl
theorem nN {ns:Z_}{i:Int}:oh (.int i) (nV ns)=decide (∃n∈ns,i=(n:Int)):=by
 rw[X3,Xw];unfold oh nV;rw[ZM,Y2];have key:∀n:Nat,sE (V.int (n:Nat)) (V.int i)=true↔i=(n:Int):=λn=>by
  show (((n:Nat):Int)==i)=true↔_;rw[Ye];exact⟨λz=>z.symm,λz=>z.symm⟩
 exact⟨λ⟨s,h1,h2⟩=>⟨s,h1,(key s).mp h2⟩,λ⟨s,h1,h2⟩=>⟨s,h1,(key s).mpr h2⟩⟩
theorem Ea {ns:Z_}{x:Nat}(h:ns.getLast?=some x):nW (nV ns) (-1)=some (.int (x:Nat)):=by
 have LJ:ns≠[]:=by rintro rfl;cases h
 have hl:0 < ns.length:=Yt.mpr LJ;have hx:(nV ns)[ns.length - 1]?=some (.int (x:Nat)):=by
  unfold nV;rw[Xs,←List.getLast?_eq_getElem?,h];rfl
 unfold nW EL;rw[Xo (by decide),aN,Xp (by omega)];show (nV ns)[_]?=_;rw[←hx];congr 1;omega
theorem yJ {t:TT}{σ:L2.St}{H:Hp}{b c:Bool}(h:Tv t σ H b)(e:b=c):Tv t σ H c:=e ▸ h
theorem zK {fld:Z_}{pt:W}:(!decide (∃n∈fld,ay pt=(n:Int)))=!decide (Fits fld [] pt):=by
 congr 1;rw[Za];exact⟨λ⟨n,h1,h2⟩=>⟨n,h2,h1,λ_ z=>by cases z⟩,λ⟨n,h1,h2,_⟩=>⟨n,h2,h1⟩⟩
theorem zN {fld acc:Z_}{pt:W}{x:Nat}(h:acc.getLast?=some x):(!decide (∃n∈fld,ay pt=(n:Int))||(true&&decide (ay pt<=((x:Nat):Int))))=!decide (Fits fld acc pt):=by
 rw[Bool.true_and,X3];simp only[Yp,Yg,Xw,X6];constructor
 · rintro (z|z) ⟨n,h1,h2,h3⟩
   · exact z ⟨n,h2,h1⟩
   · have:=h3 x h;omega
 · intro z;by_cases q:∃n∈fld,ay pt=(n:Int)
   · obtain⟨n,h1,h2⟩:=q;refine .inr ?_;by_cases q2:ay pt<=((x:Nat):Int)
     · exact q2
     · exact absurd ⟨n,h2,h1,λy hy=>by rw[h] at hy;injection hy with hy;omega⟩ z
   · exact .inl q
theorem Gd:Str.ofString ","=st [44]:=by rw[kO];rfl
section
variable {P:Program}{w:World}{K:aaa}{mg:aac}{base:Heap}
def uS (K:aaa) (CW CF:Addr):Sp:=λvs H Q E=>∃(a f:Addr) (fd:Z_) (e:Nat) (l:List Word) (pl:Nat),vs=[.ref a,.ref f]/\aT K CW H a e l pl/\aQ K H f (nV fd)/\(∀x∈fd,x<=24) /\
 (∀t,setIn e fd l=.error t->Rz CF E (t.kind:Nat) (t.place:Nat)) /\
 (∀s p r,setIn e fd l=.ok ((s,p),r)->∀H' x,aK a H H'->H x=none->H' x=some (.lst (nV s))->aT K CW H' a e r p->Q (.ref x) H')
theorem tO:aG ["words","field","numbers","part","number"] ["words","field"] (aw iU):=fs
theorem GU {CW CF aW:Addr}(G:GW mg)(B:GB K mg aW)(T:CK K mg "Words" cp CW)(FL:Flt P w K mg base CF){k:Nat}(hk:2<=k)(FT:qp P w K mg base (eW P w CF) k CW "take" ["self"] (nq K CW CF))(FN:Fn P w K mg base bE k "number_of" ["word"] kP)
  {f:Addr}{fd:FuncData}(F:de K "take_set" "take_set" iU f fd):a8 P w K mg base (eW P w CF) (k+1) f fd ["words","field"] (uS K CW CF):=by
 refine F.lU tO λLz A outer s H vs Q E hr h=>?_;obtain⟨a,fa,fld,e,l,pl,rfl,hW,hF,LP,q0,q1⟩:=h;refine⟨_,af (a7 2 tO.nd (bV ah))
  (af (dm (yU aH) rfl (bH (mB (jX FT T.cl (pv 0) hr (bP aH rfl rfl)) bt)) (bp 3 tO.nd)
   (af (a7 4 tO.nd (aS FN hr a_ (aa (pv 3) ah)))
   (af (aO (PW.pt (d9 (aB eQ (pv 4) (pv 1) (by with_unfolding_all rfl)) (cR (PW.pt (sR (aB kQ (bg G.len (pv 2)) ax (aJ _)) (oJ (aB cb (pv 4) (bo aL (pv 2) (vn qz ax) (λ_ _=>rfl)) (aJ _)))))))) (ak (fG FL aH (hr.mono hk) (aa (bb B.num) (aa (aY (pv 0) rfl) ah)))) aA)
   (ak (dR (qA PySem.F.plainAttrs_list PySem.F.slot_list_append PySem.F.type_list_append ic (pv 2) (aa (pv 4) ah)))))))
  (ak (az (pv 2)))),?_⟩
 refine⟨XW _,λp hp=>?_⟩;have S0:au H (upd H p (.lst [])):=(au.refl H).laid hp;have P6:=hW.same S0;obtain⟨dx,wl,m,np,ha⟩:=P6.obj;refine⟨_,rfl,a,dx,_,rfl,ha,cB (by decide +kernel),a,e,l,pl,rfl,P6,λz=>?_,λwd r hl H1 S1 L3 Mo=>?_⟩
 · subst z;exact q0 _ Ak
 subst hl;rw[qy LP] at q0 q1;refine⟨⟨_,rfl⟩,_,_,rfl,rfl,by decide +kernel,by rw[b8,XS];have:=Mo.1;omega,λsl NJ=>?_⟩;rw[Gd,lP (by decide)];have Ru:a≠p:=ao (hW.obj.choose_spec.choose_spec.choose_spec.choose_spec) hp;have e1:H1 p=some (.lst []):=S1 p _ ae Ru.symm;have SS:sl≠p:=by
  rintro rfl;rw[e1] at NJ;cases NJ
 have Pb:aK a H H1:=S0.x.trans S1;have Rv:H sl=none:=Pb.free NJ (by
  rintro rfl;rw[L3.obj.choose_spec.choose_spec.choose_spec.choose_spec] at NJ;cases NJ)
 have eP:List.map (λx=>V.str x) (List.map st (aV 44 [] (tx wd.w)))=sV (aV 44 [] (tx wd.w)):=by
  unfold sV;rw[XR];rfl
 rw[eP];unfold setM at q0 q1;have LH:(aV 44 [] (tx wd.w)).length<=70001:=by
  have:=fh 44 (tx wd.w) [];have:=Mo.1;omega
 have P7:∀v∈aV 44 [] (tx wd.w),v.length<=70000/\∀c∈v,c < 128:=λv hv=>by
  obtain⟨z1,z2⟩:=dX 44 (tx wd.w) [] v hv;refine⟨by simp at z1;have:=Mo.1;omega,λc hc=>?_⟩;rcases z2 c hc with z|z
  · cases z
  · exact Mo.2 c z
 generalize aV 44 [] (tx wd.w)=ps at q0 q1 LH P7;obtain⟨dh,wh,mh,nh,Wk⟩:=hW.obj;refine⟨sl,rfl,⟨_,aQ.of ae⟩,cZ (K:=K) (a:=sl) (xs:=sV ps) (λi σ H'=>∃(v3 v4:Option V) (acc:Z_),σ=[some (.ref a),some (.ref fa),some (.ref p),v3,v4]/\aK a H H'/\aT K CW H' a e r wd.at_ /\
   H' p=some (.lst (nV acc))/\H' sl=some (.lst (sV ps))/\acc.length<=i/\i<=ps.length/\jk fld (ps.drop i) acc=jk fld ps [])
  ⟨none,none,[],rfl,Pb.laid Rv,L3.same ((au.refl H1).laid NJ),by rw[aq SS.symm];exact e1,ae,Xx _,XW _,rfl⟩ (λi σ H' _ ⟨_,_,_,_,_,_,_,z,_⟩=>aQ.of z) ?_ ?_⟩
 · rintro i x σ H' hi ⟨v3,v4,acc,rfl,SX,Mp,e2,e3,P8,LG,hc⟩;have LG:i < ps.length:=by
    have:=(XB.mp hi).1
    rwa [dH] at this
   have hx:x=.str (st ps[i]):=by
    rw[A2 (Xy LG)] at hi;exact (X2 hi).symm
   subst hx;have SU:=P7 ps[i] (Zf LG);rw[YL LG] at hc;generalize ps[i]=pt at hc SU;have hc:(if Fits fld acc pt then jk fld (ps.drop (i+1)) (acc++[(ay pt).toNat]) else none)=jk fld ps []:=hc;obtain⟨Mw,wl',m',np',Q0⟩:=Mp.obj;refine cE (gg (wd:=pt) (ag rfl) SU) ?_;have N9:=SX.seq Wk hF;have fail:¬Fits fld acc pt->Rz CF E 4 (wd.at_:Nat):=λz=>by
    rw[Xo z] at hc;rw[←hc] at q0;exact q0 _ rfl
   dsimp only;refine aR (b:=!decide (Fits fld acc pt)) ?_ (λh=>?_) (λh=>?_)
   · cases hl:acc.getLast? with
     |none =>
      have:acc=[]:=by simpa using hl
      subst this;refine yJ (gN (aI (mK (ag rfl) (ag rfl) (.inl N9) rfl (fR fld))) λ_=>qr (c:=false) (jE (aU (ag rfl) (.inl (aQ.of e2))) aC) λz=>absurd z (by decide)) ?_;rw[Bool.and_false,ZD,←zK,←nN];rfl
     |some y =>
      have LJ:0 < acc.length:=by
       cases acc with
       |nil=>cases hl
       |cons _ _=>exact Nat.succ_pos _
      refine yJ (gN (aI (mK (ag rfl) (ag rfl) (.inl N9) rfl (fR fld))) λ_=>qr (jE (aU (ag rfl) (.inl (aQ.of e2))) aC) λz=>jE (ag rfl) (a6 (ag rfl) (uw aC) (aQ.of e2) (Ea hl))) ?_;rw[←zN hl,←nN,aN];rw[show decide ((acc.length:Int) > 0)=true from X4 (by omega)];rfl
   · exact (bf (ag rfl) Q0 T.cl (T.no _ (by simp)) bL) _ ⟨4,_,rfl,fail (by simpa using h)⟩
   · have Pc:Fits fld acc pt:=by simpa using h
     rw[Xp Pc] at hc;obtain⟨n,hn,_⟩:=Pc;have en:(ay pt).toNat=n:=by omega
     rw[en] at hc;have eA:nV acc++[V.int (n:Nat)]=nV (acc++[n]):=by
      unfold nV;rw[XH];rfl
     rw[hn];refine⟨_,rfl,.inl ⟨rfl,_,aQ.of e2⟩,_,rfl,p,_,_,rfl,rfl,e2,by rw[aN,XS];omega,?_⟩;rw[eA];exact⟨_,_,acc++[n],rfl,SX.laid hp,Mp.put e2 GK,ae,by rw[aq SS];exact e3,by rw[XM];simp;omega,LG,hc⟩
 · rintro σ H' ⟨v3,v4,acc,rfl,SX,Mp,e2,e3,P8,LG,hc⟩;rw[dH,Zg] at hc;have hc:some acc=jk fld ps []:=hc;rw[←hc] at q1;exact⟨_,rfl,q1 _ _ _ rfl _ _ SX hp e2 Mp⟩
end
theorem jJ {C:Addr}{E:XK}{tp:TE}{D:Ends}{σ:L2.St}{H:Hp}{k p:Int}(h:Ev tp σ H (.int p))(q:Rz C E k p):KI C E (cM (tC (.int k)) (cM tp eV)) D σ H:=h _ ⟨k,p,rfl,q⟩
section
variable {P:Program}{w:World}{K:aaa}{mg:aac}{base:Heap}
theorem lX {CW CF:Addr} {H:Hp} {Q:VK} {E:XK} {a t:Addr} {e:Nat} {l:List Word} {pl:Nat} {s:String} (hp:plainT s=true) (hW:aT K CW H a e l pl) (hT:b7 K H t [V.str (Str.ofString s)]) (q0:∀x,must e s l=.error x->Rz CF E (x.kind:Nat) (x.place:Nat))
  (q1:∀r,must e s l=.ok r->∀H' v NQ,aK a H H'->aT K CW H' a e r NQ->Q v H'):oM K CW CF [.ref a,.ref t] H Q E:=by
 have one:∀wd:Word,m9 [s] wd↔wd.w=ascii s:=λwd=>by
  rw[←bh _ hp];unfold m9;exact⟨λ⟨x,h1,h2⟩=>by rw[XC] at h1;subst h1;exact h2,λh=>⟨s,List.mem_singleton_self s,h⟩⟩
 refine⟨a,t,[s],e,l,pl,rfl,hW,hT,λz=>?_,λwd r hl hn=>?_,λwd r hl ho H' S h'=>?_⟩
 · subst z;exact q0 _ Be
 · subst hl;refine q0 ⟨3,wd.at_⟩ ?_;rw[rn,Xo (λz=>hn ((one wd).mpr z))]
 · subst hl;refine q1 r ?_ H' _ _ S h';rw[rn,Xp ((one wd).mp ho)]
def Ep (K:aaa)(CW CF:Addr)(a:Addr)(e:Nat)(H:Hp)(Q:VK)(E:XK)(x:Got):Prop:=(∀t,x=.error t->Rz CF E (t.kind:Nat) (t.place:Nat)) /\
 ∀s r,x=.ok (s,r)->∀H' y pl,aK a H H'->kZ H' y s->aT K CW H' a e r pl->Q (.ref y) H'
def BX (K:aaa)(CW CF:Addr):Sp:=λvs H Q E=>∃(a f:Addr) (fd:Z_) (k e:Nat) (l:List Word) (pl:Nat),vs=[.ref a,.ref f,.int (k:Nat)]/\aT K CW H a e l pl/\aQ K H f (nV fd)/\(∀x∈fd,x<=24)/\Ep K CW CF a e H Q E (xM e k fd l)
theorem AI:aG ["words","field","size","numbers"] ["words","field","size"] (aw iL):=fs
theorem GZ {CW CF aW:Addr}(G:GW mg)(B:GB K mg aW)(T:CK K mg "Words" cp CW)(FL:Flt P w K mg base CF){k:Nat}(hk:2<=k)(FS:Fn P w K mg base (eW P w CF) k "take_set" ["words","field"] (uS K CW CF))
  {f:Addr}{fd:FuncData}(F:de K "take_box" "take_box" iL f fd):a8 P w K mg base (eW P w CF) (k+1) f fd ["words","field","size"] (BX K CW CF):=by
 refine F.lU AI λLz A outer s H vs Q E hr h=>?_;obtain⟨a,fa,fld,sz,e,l,pl,rfl,hW,hF,LP,q0,q1⟩:=h;refine⟨_,af (a7 3 AI.nd (aS FS hr (bP aH rfl rfl) (aa (pv 0) (aa (pv 1) ah))))
  (af (aO (aB nS (bg G.len (pv 3)) (pv 2) (aJ _)) (ak (fG FL aH (hr.mono hk) (aa (bb B.num) (aa (aY (pv 0) rfl) ah)))) aA)
  (ak (az (bV (aa (pv 3) ah))))),?_⟩
 unfold xM at q0 q1;refine⟨_,rfl,_,rfl,a,fa,fld,e,l,pl,rfl,hW,hF,LP,λt ht=>?_,λst p r Md H1 x S1 hx Mq L3=>?_⟩
 · rw[ht] at q0;exact q0 _ rfl
 rw[Md] at q0 q1;obtain⟨P5,Rr,m1,Rt,L_⟩:=L3.obj;obtain⟨_,_,wd,_,LH,_⟩:=da LP Md;refine aR (jE (aU (ag rfl) (.inl (aQ.of Mq))) (ag rfl)) (λh=>?_) (λh=>?_)
 · rw[aN] at h;have h:=XI h;have q0:=q0 ⟨4,p⟩ (by show (if sz<=st.length then _ else _)=_;rw[Xo (by omega)]);exact (bf (ag rfl) L_ T.cl (T.no _ (by simp)) bL) _ ⟨4,_,rfl,q0⟩
 · rw[aN] at h;have h:=X8 h;have q1:=q1 [st] r (by show (if sz<=st.length then _ else _)=_;rw[Xp (by omega)]);refine⟨_,rfl,(by show 1<=sizeLine;decide),λy hy=>q1 _ y p (λb u z n=>?_) ⟨[x],ae,.cons ?_ .nil⟩ (L3.same ((au.refl H1).laid hy))⟩
   · have:=S1 b u z n;rw[aq (ao this hy)];exact this
   · rw[aq (ao Mq hy)];exact Mq
theorem bJ.Ip {fd s:Z_}(g:bJ fd s)(h:∀x∈fd,x<=24):s.length<=25:=by
 have:=hX (m:=List.range 25) g.rise.nodup λx hx=>Zc.mpr (by have:=h x (g.sub x hx);omega);simpa using this
def Cp (K:aaa)(CW CF:Addr):Sp:=λvs H Q E=>∃(a f:Addr) (fd:Z_) (k e:Nat) (l:List Word) (pl:Nat),vs=[.ref a,.ref f,.int (k:Nat)]/\aT K CW H a e l pl/\aQ K H f (nV fd)/\(∀x∈fd,x<=24)/\Ep K CW CF a e H Q E (xf e k fd l)
theorem qt:aG ["words","field","size","bankers","others","number"] ["words","field","size"] (aw i5):=fs
theorem HA {CW CF aW:Addr}(G:GW mg)(B:GB K mg aW)(T:CK K mg "Words" cp CW)(FL:Flt P w K mg base CF){k:Nat}(hk:2<=k)(FS:Fn P w K mg base (eW P w CF) k "take_set" ["words","field"] (uS K CW CF))(FO:qp P w K mg base (eW P w CF) k CW "take_one_of" ["self","known"] (oM K CW CF))
  {f:Addr}{fd:FuncData}(F:de K "take_key" "take_key" i5 f fd):a8 P w K mg base (eW P w CF) (k+1) f fd ["words","field","size"] (Cp K CW CF):=by
 refine F.lU qt λLz A outer s H vs Q E hr h=>?_;obtain⟨a,fa,fld,sz,e,l,pl,rfl,hW,hF,LP,q0,q1⟩:=h;refine⟨_,af (oV (i:=3) qt.nd rfl (Or.inr rfl) (aS FS hr (bP aH rfl rfl) (aa (pv 0) (aa (pv 1) ah))))
  (af (aO (aB kQ (bg G.len (pv 3)) (bG fE (pv 2) ax) (aJ _)) (ak (fG FL aH (hr.mono hk) (aa (bb B.num) (aa (aY (pv 0) rfl) ah)))) aA)
  (af (dR (lr FO T.cl (pv 0) hr (bP aH rfl rfl) (aa (di (aa bt ah)) ah)))
  (af (a7 4 qt.nd (aS FS hr (bP aH rfl rfl) (aa (pv 0) (aa (pv 1) ah))))
  (af (aO (PW.pt (d9 (h_ (bY (Ci rfl) (by rfl) B.any (by decide +kernel) (aa (fA (te:=kI (G2 K false) (cH 5) (cH 3)) rfl qt.nd (bH (pv 4)) (bz (own:=[("number",5)]) rfl) (λ_ _ _ _ _=>bp 5 qt.nd) (λ_ _ _ _ _=>cq)
    (λ_ _ _ _ _=>ft gd (pv 5) (pv 3) (by with_unfolding_all rfl))) ah)))
    (cR (aB nS (bG ej (bg G.len (pv 3)) (bg G.len (pv 4))) (pv 2) (aJ _))))) (ak (fG FL aH (hr.mono hk) (aa (bb B.num) (aa (aY (pv 0) rfl) ah)))) aA)
  (ak (az (bV (aa (pv 3) (aa (pv 4) ah))))))))),?_⟩
 unfold xf at q0 q1;obtain⟨d0,w0,m0,n0,L5⟩:=hW.obj;refine⟨_,rfl,_,rfl,a,fa,fld,e,l,pl,rfl,hW,hF,LP,λt ht=>?_,λsa p r SV H1 x S1 hx Mq L3=>?_⟩
 · rw[ht] at q0;exact q0 _ rfl
 rw[SV] at q0 q1;obtain⟨P5,Rr,m1,Rt,L_⟩:=L3.obj;obtain⟨ga,_⟩:=da LP SV;have q0:∀t,rK e sz fld sa p r=.error t->Rz CF E (t.kind:Nat) (t.place:Nat):=q0;have q1:∀s u,rK e sz fld sa p r=.ok (s,u)->_:=q1;unfold rK at q0 q1;have SW:x≠a:=(ao L5 hx).symm;refine aR (jE (aU (ag rfl) (.inl (aQ.of Mq))) (qB (ag rfl) aC)) (λh=>?_) (λh=>?_)
 · rw[aN] at h;have h:=XI h;rw[Xo (by omega)] at q0;exact (bf (ag rfl) L_ T.cl (T.no _ (by simp)) bL) _ ⟨4,_,rfl,q0 _ rfl⟩
 rw[aN] at h;have h:=X8 h;rw[Xp (by omega)] at q0 q1;refine⟨_,rfl,a,P5,_,rfl,L_,cB (by decide +kernel),(by show 1<=sizeLine;decide),λt ht=>?_⟩;have St:au H1 (upd H1 t (.tup [V.str (Str.ofString "with")])):=(au.refl H1).laid ht;show eV _ _ _;unfold eV;dsimp only [Yr];refine lX (s:="with") (by decide +kernel) (L3.same St) (b7.of ae) (λy hy=>?_) (λm hm H2 v Oe S2 Nn=>?_)
 · rw[hy] at q0;exact q0 _ rfl
 rw[hm] at q0 q1;have q0:∀t,qZ e sz fld sa m=.error t->Rz CF E (t.kind:Nat) (t.place:Nat):=q0;have q1:∀s u,qZ e sz fld sa m=.ok (s,u)->_:=q1;unfold qZ at q0 q1;have P9:aK a H H2:=(S1.trans St.x).trans S2;have Wl:H2 x=some (.lst (nV sa)):=S2 _ _ (St _ _ Mq) SW;refine⟨_,rfl,_,rfl,a,fa,fld,e,m,Oe,rfl,Nn,P9.seq L5 hF,LP,λt ht=>?_,λsb p2 r2 MJ H3 y S3 hy Rw Og=>?_⟩
 · rw[ht] at q0;exact q0 _ rfl
 rw[MJ] at q0 q1;have q0:∀t,(if (∀x∈sb,¬x∈sa)/\sz<=sa.length+sb.length then (Except.ok ([sa,sb],r2):Got) else .error ⟨4,p2⟩)=.error t->Rz CF E (t.kind:Nat) (t.place:Nat):=q0;have q1:∀s u,(if (∀x∈sb,¬x∈sa)/\sz<=sa.length+sb.length then (Except.ok ([sa,sb],r2):Got) else .error ⟨4,p2⟩)=.ok (s,u)->_:=q1;obtain⟨gb,_⟩:=da LP MJ;have P_:H3 x=some (.lst (nV sa)):=S3 _ _ Wl SW;have Qa:aK a H H3:=P9.trans S3;obtain⟨dx3,wl3,m3,np3,Wm⟩:=Og.obj;have lb:sb.length<=25:=gb.Ip LP;refine⟨_,rfl,y,rfl,⟨_,aQ.of Rw⟩,λD hD=>jf (K:=K) (a:=y) (xs:=nV sb) (λi H'=>au H3 H'/\H' D=some (.lst ((sb.take i).map λn=>V.bl (decide (n∈sa))))) ⟨(au.refl H3).laid hD,ae⟩ (λi H' _ h=>aQ.of (h.1 _ _ Rw)) ?_ ?_⟩
 · rintro i v H' hi ⟨k1,k2⟩;obtain⟨n,hn,rfl⟩:∃n,sb[i]?=some n/\V.int (n:Nat)=v:=by
    unfold nV at hi;rw[Xs] at hi;exact X0.mp hi
   refine⟨rfl,?_⟩;refine (mK (neg:=false) (ag rfl) (ag rfl) (.inl (aQ.of (k1 _ _ P_))) rfl (fR sa)) _ ⟨_,k2,?_,?_⟩
   · rw[Xn,XN,XS];omega
   · refine⟨λb u z=>?_,?_⟩
     · rw[aq (ao z hD)];exact k1 b u z
     · have e1:oh (V.int (n:Nat)) (nV sa)=decide (n∈sa):=by
        rw[nN,Za]
        exact⟨λ⟨m,h1,h2⟩=>by have:n=m:=by omega
                             subst this;exact h1,λh=>⟨n,h,rfl⟩⟩
       rw[ae,take_snoc hn,XH];show some (HO.lst (_++[V.bl (oh (V.int (n:Nat)) (nV sa))]))=_;rw[e1];rfl
 · rintro H' ⟨k1,k2⟩;have k2:H' D=some (.lst ((sb.take (nV sb).length).map λn=>V.bl (decide (n∈sa)))):=k2;rw[aN,Ym] at k2;refine⟨D,sb.map λn=>decide (n∈sa),rfl,aQ.of (by rw[k2,XR];rfl),_,rfl,?_⟩;have eA:((sb.map λn=>decide (n∈sa)).any id)=!decide (∀x∈sb,¬x∈sa):=by
    rw[X3,ZM];simp
   rw[eA];have NR:=k1 _ _ P_;have Rx:=k1 _ _ Rw;have Qb:=k1 _ _ Wm;have Qc:=Og.same k1;refine gG (λh=>?_) (λh=>?_)
   · have h:¬∀x∈sb,¬x∈sa:=by simpa using h
     rw[Xo (λz=>h z.1)] at q0;refine oN ?_;exact jJ (bf (ag rfl) Qb T.cl (T.no _ (by simp)) bL) (q0 _ rfl)
   · have LK:∀x∈sb,¬x∈sa:=by simpa using h
     refine aR (jE (jr (aU (ag rfl) (.inl (aQ.of NR))) (aU (ag rfl) (.inl (aQ.of Rx)))) (ag rfl)) (λh=>?_) (λh=>?_)
     · rw[aN,aN] at h;have h:=XI h;rw[Xo (λz=>by have:=z.2;omega)] at q0;exact jJ (bf (ag rfl) Qb T.cl (T.no _ (by simp)) bL) (q0 _ rfl)
     · rw[aN,aN] at h;have h:=X8 h;rw[Xp ⟨LK,by omega⟩] at q1;refine⟨_,rfl,_,rfl,(by show 2<=sizeLine;decide),λu hu=>q1 _ _ rfl _ u p2 (λb o z n=>?_) ⟨[x,y],ae,.cons ?_ (.cons ?_ .nil)⟩ (Qc.same ((au.refl H').laid hu))⟩
       · have:=k1 b o (Qa b o z n);rw[aq (ao this hu)];exact this
       · rw[aq (ao NR hu)];exact NR
       · rw[aq (ao Rx hu)];exact Rx
end
theorem Aw {e:Nat}{h:Z_}{t acc:Z9}{l:List Word}:jm e (h::t) acc l=match (if 0 < acc.length then must e "/" l else .ok l) with
  |.error x=>.error x
  |.ok m=>match setIn e h m with
   |.error x=>.error x
   |.ok s=>jm e t (acc++[s.1.1]) s.2:=rfl
section
variable {P:Program}{w:World}{K:aaa}{mg:aac}{base:Heap}
def GV (K:aaa) (CW CF:Addr):Sp:=λvs H Q E=>∃(a f:Addr) (fs:Z9) (e:Nat) (l:List Word) (pl:Nat),vs=[.ref a,.ref f]/\aT K CW H a e l pl/\bF K H f fs/\fs.length<=24/\(∀fd∈fs,∀x∈fd,x<=24)/\Ep K CW CF a e H Q E (jm e fs [] l)
theorem CU:aG ["words","fields","sets","field"] ["words","fields"] (aw jT):=fs
theorem JE {CW CF aW:Addr}(G:GW mg)(B:GB K mg aW)(T:CK K mg "Words" cp CW)(FL:Flt P w K mg base CF){k:Nat}(hk:2<=k)(FS:Fn P w K mg base (eW P w CF) k "take_set" ["words","field"] (uS K CW CF))(FO:qp P w K mg base (eW P w CF) k CW "take_one_of" ["self","known"] (oM K CW CF))
  {f:Addr}{fd:FuncData}(F:de K "take_on" "take_on" jT f fd):a8 P w K mg base (eW P w CF) (k+1) f fd ["words","fields"] (GV K CW CF):=by
 refine F.lU CU λLz A outer s H vs Q E hr h=>?_;obtain⟨a,fa,fs,e,l,pl,rfl,hW,⟨My,Qe,Qg⟩,Nj,LP,q0,q1⟩:=h;refine⟨_,af (a7 2 CU.nd (bV ah))
  (af (dm (yU aH) rfl (bH (pv 1)) (bp 3 CU.nd)
   (af (aO (aB kQ (bg G.len (pv 2)) ax (aJ _)) (ak (dR (lr FO T.cl (pv 0) hr (bP aH rfl rfl) (aa (di (aa bt ah)) ah)))) aA)
   (ak (dR (qA PySem.F.plainAttrs_list PySem.F.slot_list_append PySem.F.type_list_append ic (pv 2) (aa (aS FS hr (bP aH rfl rfl) (aa (pv 0) (aa (pv 3) ah))) ah))))))
  (ak (az (pv 2)))),?_⟩
 obtain⟨d0,w0,m0,n0,L5⟩:=hW.obj;have MG:My.length=fs.length:=Paired.length Qg;refine⟨XW _,λp hp=>?_⟩;have S0:au H (upd H p (.lst [])):=(au.refl H).laid hp;have SY:a≠p:=ao L5 hp;refine⟨_,rfl,fa,rfl,⟨_,S0.seq Qe⟩,cZ (K:=K) (a:=fa) (xs:=My.map V.ref) (λi σ H'=>∃(v3:Option V) (acc:Z9) (MR:List Addr) (l':List Word) (NQ:Nat),σ=[some (.ref a),some (.ref fa),some (.ref p),v3]/\aK a H H'/\aT K CW H' a e l' NQ /\
   H' p=some (.lst (MR.map V.ref))/\Paired (λb ns=>b≠p/\H' b=some (.lst (nV ns))) MR acc/\acc.length=i/\i<=fs.length/\jm e (fs.drop i) acc l'=jm e fs [] l)
  ⟨none,[],[],l,pl,rfl,S0.x,hW.same S0,ae,.nil,rfl,XW _,rfl⟩ (λi σ H' _ ⟨_,_,_,_,_,_,SX,_⟩=>SX.seq L5 Qe) ?_ ?_⟩
 · rintro i x σ H' hi ⟨v3,acc,MR,l',NQ,rfl,SX,Mp,e2,hP,P8,LG,hc⟩;rw[Xs] at hi;obtain⟨fi,Wn,rfl⟩:=X0.mp hi;obtain⟨fl,NS,Wo⟩:=Paired.qO Qg Wn;have LG:i < fs.length:=(XB.mp NS).1;have hd:fs.drop i=fl::fs.drop (i+1):=by
    rw[YL LG];congr 1;exact X2 ((Xy LG).symm.trans NS)
   rw[hd,Aw] at hc;have Wq:=LP fl (XT NS);obtain⟨d1,w1,m1,n1,L_⟩:=Mp.obj;have O4:MR.length=acc.length:=Paired.length hP;dsimp only;refine aR (b:=decide (0 < acc.length)) (yJ (jE (aU (ag rfl) (.inl (aQ.of e2))) aC) ?_) (λh=>?goA) (λh=>?goB)
   · rw[Xn,O4,Za];omega
   case' goA =>
    have h:=XI h;rw[Xp h] at hc;refine⟨_,rfl,a,d1,_,rfl,L_,cB (by decide +kernel),(by show 1<=sizeLine;decide),λt ht=>?_⟩;have St:au H' (upd H' t (.tup [V.str (Str.ofString "/")])):=(au.refl H').laid ht;show eV _ _ _;unfold eV;dsimp only [Yr];refine lX (s:="/") (by decide +kernel) (Mp.same St) (b7.of ae) (λy hy=>?_) (λm hm H2 v Oe S2 Nn=>?_)
    · rw[hy] at hc;exact q0 _ hc.symm
    rw[hm] at hc;have Oh:aK a H H2:=(SX.trans St.x).trans S2;have Qh:H2 p=some (.lst (MR.map V.ref)):=S2 _ _ (St _ _ e2) SY.symm;have S9:Paired (λb ns=>b≠p/\H2 b=some (.lst (nV ns))) MR acc:=Paired.d8 hP λb ns z=>⟨z.1,S2 _ _ (St _ _ z.2) (dE z.2 L_ (by intro q;cases q))⟩;clear e2 hP Mp L_ St S2 SX
   case' goB =>
    have h:=X8 h;rw[Xo h] at hc;obtain⟨H2,P2⟩:∃H2,H2=H':=⟨_,rfl⟩;obtain⟨m,hm⟩:∃m,m=l':=⟨_,rfl⟩;obtain⟨Oe,Ry⟩:∃m,m=NQ:=⟨_,rfl⟩;rw[←hm] at hc Mp;rw[←Ry] at Mp;rw[←P2] at Mp e2 hP SX;rw[←P2];have Nn:=Mp;have Oh:=SX;have Qh:=e2;have S9:=hP
   all_goals
    dsimp only at hc;obtain⟨d2,w2,m2,n2,Pd⟩:=Nn.obj;refine⟨_,rfl,.inl ⟨rfl,_,aQ.of Qh⟩,?_⟩;refine⟨_,rfl,_,rfl,a,fi,fl,e,m,Oe,rfl,Nn,Oh.seq L5 Wo,Wq,λt ht=>?_,λst q r Md H3 x S3 hx P_ Og=>?_⟩
    · rw[ht] at hc;exact q0 _ hc.symm
    rw[Md] at hc;dsimp only at hc;have OY:x≠p:=(ao Qh hx).symm;have e3:H3 p=some (.lst (MR.map V.ref)):=S3 _ _ Qh SY.symm;refine⟨p,_,_,rfl,rfl,e3,by rw[Xn,XS];omega,?_⟩;refine⟨_,acc++[st],MR++[x],r,q,rfl,(Oh.trans S3).laid hp,Og.put e3 Dk,?_,?_,by simp[P8],LG,hc⟩
    · rw[ae,XH];rfl
    · refine Paired.snoc (Paired.d8 S9 λb ns z=>⟨z.1,?_⟩) ⟨OY,by rw[aq OY];exact P_⟩;rw[aq z.1];exact S3 _ _ z.2 (dE z.2 Pd (by intro q;cases q))
 · rintro σ H' ⟨v3,acc,MR,l',NQ,rfl,SX,Mp,e2,hP,P8,LG,hc⟩;rw[Xn,MG,Zg] at hc;exact⟨_,rfl,q1 _ _ hc.symm _ _ NQ SX ⟨MR,e2,Paired.d8 hP λb ns z=>z.2⟩ Mp⟩
end
section
variable {P:Program}{w:World}{K:aaa}{mg:aac}{base:Heap}
theorem DY {H:Hp} {fa:Addr} {p:aM} (o:C5 p) (h:bF K H fa p.fields):∃(as:List Addr) (b:Addr),aQ K H fa (as.map V.ref)/\as.length=p.fields.length/\nW (as.map V.ref) 0=some (V.ref b)/\aQ K H b (nV (p.fields.getD 0 []))/\∀x∈p.fields.getD 0 [],x<=24:=by
 obtain⟨as,h1,h2⟩:=h;have hl:0 < p.fields.length:=Yt.mpr o.ne;obtain⟨b,hb,hI⟩:=Paired.at2 h2 (Xy hl);have eg:p.fields.getD 0 []=p.fields[0]:=by rw[X7,Xy hl];rfl
 refine⟨as,b,h1,Paired.length h2,?_,by rw[eg];exact hI,by rw[eg];exact o.hi _ (Zf hl)⟩;exact cw (j:=0) (by rw[Xs,hb];rfl)
def xK (K:aaa)(CW CF CP:Addr):Sp:=λvs H Q E=>∃(a b:Addr) (p:aM) (how e:Nat) (l:List Word) (pl:Nat),vs=[.ref a,.ref b,.int (how:Nat)]/\aT K CW H a e l pl/\dg K CP H b p/\C5 p/\Ep K CW CF a e H Q E (fC e p how l)
theorem yA:aG ["words","pool","how","size"] ["words","pool","how"] (aw gU):=fs
theorem EW {CW CF CP aW:Addr}(G:GW mg)(B:GB K mg aW)(TP:CK K mg "Pool" gZ CP){k:Nat}(FO:Fn P w K mg base (eW P w CF) k "take_on" ["words","fields"] (GV K CW CF))(FB:Fn P w K mg base (eW P w CF) k "take_box" ["words","field","size"] (BX K CW CF))(FK:Fn P w K mg base (eW P w CF) k "take_key" ["words","field","size"] (Cp K CW CF))
  {f:Addr}{fd:FuncData}(F:de K "take_sets" "take_sets" gU f fd):a8 P w K mg base (eW P w CF) (k+1) f fd ["words","pool","how"] (xK K CW CF CP):=by
 refine F.lU yA λLz A outer s H vs Q E hr h=>?_;obtain⟨a,b,p,how,e,l,pl,rfl,hW,⟨dx,fa,hb,hF⟩,o,g⟩:=h;refine⟨_,af (aO (aB ck (pv 2) (bb B.on) (aJ _)) (ak (az (aS FO hr (bP aH rfl rfl) (aa (pv 0) (aa (aY (pv 1) rfl) ah))))) aA)
  (af (a7 3 yA.nd (bg G.len (aY (pv 1) rfl)))
  (af (aO (aB ck (pv 2) (bb B.box) (aJ _)) (ak (az (aS FB hr (bP aH rfl rfl) (aa (pv 0) (aa (bo aL (aY (pv 1) rfl) ax (λ_ _=>rfl)) (aa (pv 3) ah)))))) aA)
  (ak (az (aS FK hr (bP aH rfl rfl) (aa (pv 0) (aa (bo aL (aY (pv 1) rfl) ax (λ_ _=>rfl)) (aa (pv 3) ah)))))))),?_⟩
 unfold fC at g;obtain⟨as,b0,h1,h2,h3,h4,h5⟩:=DY o hF;have Qi:∀{σ:L2.St},σ[1]?=some (some (V.ref b))->Ev (vJ K (cH 1) "fields") σ H (.ref fa):=λz=>bf (ag z) hb TP.cl (TP.no _ (by simp)) mH;refine aR (aI (b9 (ag rfl) aC)) (λh=>?_) (λh=>?_)
 · rw[aX] at h;have h:how=0:=by have:=YT h;omega
   rw[Xp h] at g;refine⟨_,rfl,Qi rfl _ ⟨a,fa,p.fields,e,l,pl,rfl,hW,hF,o.len,o.hi,g⟩⟩
 · rw[aX] at h;have h:¬how=0:=λz=>by rw[z] at h;cases h
   rw[Xo h] at g;refine cE (aU (Qi rfl) (.inl h1)) ?_;rw[Xn,h2];refine aR (aI (b9 (ag rfl) aC)) (λh=>?_) (λh=>?_)
   · rw[aX] at h;have h:how=1:=by have:=YT h;omega
     rw[Xp h] at g;refine⟨_,rfl,(a6 (Qi rfl) aC h1 h3) _ ⟨_,rfl,⟨a,b0,_,_,e,l,pl,rfl,hW,h4,h5,g⟩⟩⟩
   · rw[aX] at h;have h:¬how=1:=λz=>by rw[z] at h;cases h
     rw[Xo h] at g;refine⟨_,rfl,(a6 (Qi rfl) aC h1 h3) _ ⟨_,rfl,⟨a,b0,_,_,e,l,pl,rfl,hW,h4,h5,g⟩⟩⟩
end
end Bw
namespace L2
open PySem PySem.Spec PyProof.Rows
theorem tJ {prog:Program}{w:World}{A:Around}{a:Addr}{u0 u1 u2 uy:Value}{n:Nat}{E:aab}{Q:aab}{s:Shared}{o:Obj}(ho:s.heap.get? a=some o)(hc:o.cls=.type "tuple")(hd:o.data=.seq #[u0,u1,u2] n)
  {b0 b1 b2:Bool}(e0:SeqAt.EqAt A s u0 uy b0)(e1:SeqAt.EqAt A s u1 uy b1)(e2:SeqAt.EqAt A s u2 uy b2){j:Nat}(hj:(b0=true/\j=0)∨(b0=false/\((b1=true/\j=1)∨(b1=false/\b2=true/\j=2))))
  (q:Q (.int (j:Nat) s.toks) {s with toks:=s.toks+1}):wpAny (model prog w) A (Builtin.«tuple.index» {pos:=[.ref a,uy]}) (λfin s'=>∃v,fin=Fin.done (Flow.ret v)/\Q v s') E s:=by
 show wpAny _ _ (selfAndSome "tuple.index" "index" 1 3 {pos:=[.ref a,uy]} >>= _) _ E s;refine Xm (m:=selfAndSome "tuple.index" "index" 1 3 {pos:=[.ref a,uy]}) ?_;have h1:selfAndSome "tuple.index" "index" 1 3 {pos:=[.ref a,uy]}=pure (.ref a,[uy]):=by rfl
 rw[h1];refine Xu ?_;refine Xm (m:=Builtin.Tuple.tupleItemsOf (.ref a)) (tupleItemsOf_ (items:=#[u0,u1,u2]) ⟨_,ho,hc,n,hd⟩ ?_);refine Xm (m:=pure 0) (Xu ?_);refine Xm (m:=pure 3) (Xu ?_);refine Xm ?_;rw[Std.Legacy.Range.forIn_eq_forIn_range'];have hr:List.range' [:min 3 #[u0,u1,u2].size].start [:min 3 #[u0,u1,u2].size].size [:min 3 #[u0,u1,u2].size].step=[0,1,2]:=by
  show List.range' 0 ((min 3 3 - 0+1 - 1) / 1) 1=[0,1,2];decide
 rw[hr];have fin:∀(i:Nat),i=j->∀{R:ForInStep (Option PySem.Fin×Unit)->Shared->Prop},(∀v s',v=Value.int (j:Nat) s.toks->s'={s with toks:=s.toks+1}->R (.done (some (.done (.ret v)),())) s')->wpAny (model prog w) A (do let x ←retInt (i:Nat);pure (ForInStep.done (some x,()))) R E s:=λi hi R hR=>by
  subst hi;exact Xm (Xm (wpAny_mkInt (Xu (Xu (hR _ _ rfl rfl)))))
 rw[List.forIn_cons];refine Xm (Xm (e0 _ _ _ _ ?_));rcases hj with ⟨rfl,rfl⟩|⟨rfl,hj⟩
 · exact fin 0 rfl λv s' hv hs=>Xu (Xu ⟨v,rfl,by rw[hv,hs];exact q⟩)
 refine Xu ?_;show wpAny _ _ (forIn [1,2] _ _) _ _ _;rw[List.forIn_cons];refine Xm (Xm (e1 _ _ _ _ ?_));rcases hj with ⟨rfl,rfl⟩|⟨rfl,rfl,rfl⟩
 · exact fin 1 rfl λv s' hv hs=>Xu (Xu ⟨v,rfl,by rw[hv,hs];exact q⟩)
 refine Xu ?_;show wpAny _ _ (forIn [2] _ _) _ _ _;rw[List.forIn_cons];refine Xm (Xm (e2 _ _ _ _ ?_));exact fin 2 rfl λv s' hv hs=>Xu (Xu ⟨v,rfl,by rw[hv,hs];exact q⟩)
section
variable {X:Cx}
def IF (K:aaa):V->List V->Hp->VK->Prop:=λx xs H Q=>∃(a:Addr) (y0 y1 y2 y:V) (j:Nat),x=V.ref a/\xs=[y]/\b7 K H a [y0,y1,y2]/\dJ y=true/\[y0,y1,y2].all dJ=true /\
 ((sE y0 y=true/\j=0)∨(sE y0 y=false/\((sE y1 y=true/\j=1)∨(sE y1 y=false/\sE y2 y=true/\j=2))))/\Q (.int (j:Nat)) H
theorem Dq:B2 X "tuple.index" (IF X.K):=by
 intro pins s σ H x xs v us Q I rx QQ h;obtain⟨a,y0,y1,y2,y,j,rfl,rfl,hs,fy,Nd,hj,q⟩:=h;cases rx;obtain⟨uy,rfl,ry⟩:=QQ.one;obtain⟨Ly,rv,⟨o,ho,hc,n,hd⟩,hz⟩:=I.tuple hs;have Wr:=rv;cases rv with
 |cons r0 rv=>cases rv with
  |cons r1 rv=>cases rv with
   |cons r2 rv =>
    cases rv;have key:=λ(A:Around) (u:Value) (hu:u∈_)=>gD (A:=A) (s:=s) ry fy Wr Nd u hu;have f0:dJ y0=true:=XU.mp Nd _ (by simp);have f1:dJ y1=true:=XU.mp Nd _ (by simp);have f2:dJ y2=true:=XU.mp Nd _ (by simp);rw[←k9 r0 f0,←k9 r1 f1,←k9 r2 f2] at hj;exact YK PySem.F.slot_tuple_index ⟨_,ho,hc⟩ PySem.F.entry_tuple_index
     (tJ ho hc hd (key _ _ (by simp)) (key _ _ (by simp)) (key _ _ (by simp)) hj ⟨.int (j:Nat),H,I.tok _,⟨_,rfl⟩,q⟩) (PySem.F.args_tuple_index_2 _ _)
end
end L2
namespace Bw
open PySem PySem.Spec PyProof.Rows L2 Tote
section
variable {P:Program}{w:World}{K:aaa}{mg:aac}{base:Heap}
def CQ (K:aaa) (CW CF CP:Addr):Sp:=λvs H Q E=>∃(a b:Addr) (p:aM) (e:Nat) (l:List Word) (pl:Nat),vs=[.ref a,.ref b]/\aT K CW H a e l pl/\dg K CP H b p/\(l=[]->Rz CF E 3 (e:Nat)) /\
 (∀w r,l=w::r->jh p w.w=none->Rz CF E 3 (w.at_:Nat))/\(∀w r how,l=w::r->jh p w.w=some how->∀H',aK a H H'->aT K CW H' a e r w.at_->Q (.int (how:Nat)) H')
theorem Gk:aG ["words","pool"] ["words","pool"] (aw iG):=fs
theorem CH {k:Tote.Kind}:oh (.str (st (cd (kindS k)))) [V.str (Str.ofString "order"),V.str (Str.ofString "any")]=(k==.order||k==.any):=by
 have:=Bq (kn:=["order","any"]) (w:=cd (kindS k));rw[show [V.str (Str.ofString "order"),V.str (Str.ofString "any")]=(["order","any"].map λs=>V.str (Str.ofString s)) from rfl,this];cases k <;> decide
theorem GI {CW CF CP aW:Addr}(B:GB K mg aW)(T:CK K mg "Words" cp CW)(TP:CK K mg "Pool" gZ CP){k:Nat}(FO:qp P w K mg base (eW P w CF) k CW "take_one_of" ["self","known"] (oM K CW CF))
  {f:Addr}{fd:FuncData}(F:de K "take_how" "take_how" iG f fd):a8 P w K mg base (eW P w CF) (k+1) f fd ["words","pool"] (CQ K CW CF CP):=by
 refine F.lU Gk λLz A outer s H vs Q E hr h=>?_;obtain⟨a,b,p,e,l,pl,rfl,hW,⟨dx,fa,hb,hF⟩,q0,q1,q2⟩:=h;refine⟨_,af (aO (aB gd (aY (pv 1) rfl) (di (aa bt (aa bt ah))) (by with_unfolding_all rfl))
   (ak (az (qA PySem.F.plainAttrs_tuple PySem.F.slot_tuple_index PySem.F.type_tuple_index Dq (bb B.IY) (aa (lr FO T.cl (pv 0) hr (bP aH rfl rfl) (aa (bb B.IY) ah)) ah)))) aA)
  (af (dR (lr FO T.cl (pv 0) hr (bP aH rfl rfl) (aa (di (aa bt ah)) ah)))
  (ak (az (bb B.on)))),?_⟩
 obtain⟨d0,w0,m0,n0,L5⟩:=hW.obj;refine (bf (ag rfl) hb TP.cl (TP.no _ (by simp)) ja) _ ⟨(by show 2<=sizeLine;decide),λt ht=>⟨t,_,rfl,.inr (b7.of ae),rfl,rfl,?_⟩⟩;have S0:au H (upd H t (.tup [V.str (Str.ofString "order"),V.str (Str.ofString "any")])):=(au.refl H).laid ht;have P6:=hW.same S0;have L_:=S0 _ _ L5;refine⟨_,rfl,?_⟩;show if oh (.str (st (cd (kindS p.kind)))) [V.str (Str.ofString "order"),V.str (Str.ofString "any")]=true then _ else _;rw[CH];refine gG (λh=>?_) (λh=>?_)
 · have Pe:cP p=true:=h;have Oi:∀(x:String) (v:W),sE (V.str (Str.ofString x)) (V.str (st v))=decide (v=cd x):=λx v=>by
    show (Str.ofString x==st v)=_;rw[X3,Ye,Xw,kO,jB];exact⟨λz=>z.symm,λz=>z.symm⟩
   refine⟨.inr (.inl ⟨rfl,B.Iq⟩),_,rfl,a,d0,_,rfl,L_,cB (by decide +kernel),a,aW,["on","box","key"],e,l,pl,rfl,P6,B.yd _,q0,λwd r hl hn=>?_,λwd r hl ho H' S h'=>?_⟩
   · refine q1 wd r hl ?_;unfold jh;have no:∀x∈["on","box","key"],plainT x=true->¬wd.w=ascii x:=λx hx hp z=>hn ⟨x,hx,(bh _ hp).mpr z⟩;rw[Xo (no _ (by simp) (by decide +kernel)),Xo (λz=>no _ (by simp) (by decide +kernel) z.1),Xo (λz=>no _ (by simp) (by decide +kernel) z.1)]
   · have S_:=bh (s:="on") wd.w (by decide +kernel);have Pf:=bh (s:="box") wd.w (by decide +kernel);have RA:=bh (s:="key") wd.w (by decide +kernel);have S2:aK a H H':=S0.x.trans S;have q2:=λhow hh=>q2 wd r how hl hh H' S2 h';unfold jh at q2;by_cases c0:wd.w=ascii "on"
     · rw[Xp c0] at q2;exact⟨aW,_,_,_,_,0,rfl,rfl,B.yd _,rfl,rfl,.inl ⟨by rw[Oi];exact X4 (S_.mpr c0),rfl⟩,q2 0 rfl⟩
     · rw[Xo c0] at q2;have RB:¬tx wd.w=cd "on":=λz=>c0 (S_.mp z);by_cases c1:wd.w=ascii "box"
       · rw[Xp ⟨c1,Pe⟩] at q2;exact⟨aW,_,_,_,_,1,rfl,rfl,B.yd _,rfl,rfl,.inr ⟨by rw[Oi];exact Yc RB,.inl ⟨by rw[Oi];exact X4 (Pf.mpr c1),rfl⟩⟩,q2 1 rfl⟩
       · rw[Xo (λz=>c1 z.1)] at q2;have Ta:¬tx wd.w=cd "box":=λz=>c1 (Pf.mp z);have NY:tx wd.w=cd "key":=by
          obtain⟨x,hx,hw⟩:=ho;simp only[Xr,Zb,or_false] at hx;rcases hx with rfl|rfl|rfl
          · exact absurd hw RB
          · exact absurd hw Ta
          · exact hw
         rw[Xp ⟨RA.mp NY,Pe⟩] at q2;exact⟨aW,_,_,_,_,2,rfl,rfl,B.yd _,rfl,rfl,.inr ⟨by rw[Oi];exact Yc RB,.inr ⟨by rw[Oi];exact Yc Ta,by rw[Oi];exact X4 NY,rfl⟩⟩,q2 2 rfl⟩
 · have Pe:cP p=false:=by
    unfold cP;simpa using h
   refine⟨_,rfl,a,d0,_,rfl,L_,cB (by decide +kernel),(by show 1<=sizeLine;decide),λt2 Ws=>?_⟩;have St:au H (upd (upd H t (.tup [V.str (Str.ofString "order"),V.str (Str.ofString "any")])) t2 (.tup [V.str (Str.ofString "on")])):=S0.trans ((au.refl _).laid Ws);show eV _ _ _;unfold eV;dsimp only [Yr];have one:∀wd:Word,m9 ["on"] wd↔wd.w=ascii "on":=λwd=>by
    rw[←bh _ (by decide +kernel)];unfold m9;exact⟨λ⟨x,h1,h2⟩=>by rw[XC] at h1;subst h1;exact h2,λh=>⟨_,List.mem_singleton_self _,h⟩⟩
   refine⟨a,t2,["on"],e,l,pl,rfl,hW.same St,b7.of ae,q0,λwd r hl hn=>?_,λwd r hl ho H' S h'=>?_⟩
   · refine q1 wd r hl ?_;unfold jh;rw[Xo (λz=>hn ((one wd).mpr z)),Xo (λz=>by rw[Pe] at z;cases z.2),Xo (λz=>by rw[Pe] at z;cases z.2)]
   · refine q2 wd r 0 hl ?_ H' (St.x.trans S) h';unfold jh;rw[Xp ((one wd).mp ho)]
end
end Bw
namespace L2
open PySem PySem.Spec PyProof.Rows
theorem vE {K:aaa}{a:Addr}{xs:List V}{g:TG}{tb:TS}{D:Ends}{σ:L2.St}{H:Hp}(Pv:Nat->L2.St->Hp->Prop)(h0:Pv 0 σ H)(hl:∀i σ H,i<=xs.length->Pv i σ H->aQ K H a xs)
  (hs:∀i x σ H T,xs[i]?=some x->Pv i σ H->H T=none->g (.ref T) σ (upd H T (.tup [.int (i:Nat),x])) λσ2 H2=>tb {D with nx:=Pv (i+1),ct:=Pv (i+1),bk:=D.nx} σ2 H2)(hd:∀σ H,Pv xs.length σ H->D.nx σ H) :
  ∃W:Nat->Nat->L2.St->Hp->Prop,(∃m,W 0 m σ H)/\∀i m σ H,W i m σ H ->
   ((Fs K a).stop i H/\D.nx σ H)∨((Fs K a).go i H/\∃N:L2.St->Hp->Prop,(∀σ' H',N σ' H'->∃m',m' < m/\W (i+1) m' σ' H')/\∀x H',(Fs K a).vZ i H x H'->g x σ H' λσ2 H2=>tb {D with nx:=N,ct:=N,bk:=D.nx} σ2 H2):=by
 refine⟨λi m σ H=>m=xs.length - i/\i<=xs.length/\Pv i σ H,⟨xs.length,by simp,XW _,h0⟩,?_⟩;rintro i m σ H ⟨rfl,hi,p⟩;have q:=hl i σ H hi p;by_cases LC:i < xs.length
 · refine .inr ⟨⟨xs,xs[i],q,by simp[LC]⟩,Pv (i+1),λσ' H' p'=>⟨xs.length - (i+1),by omega,rfl,LC,p'⟩,λx H' y=>?_⟩;obtain⟨T,v,rfl,hT,rfl,hx⟩:=y;exact hs i v σ _ T (hx xs q) p hT
 · have e:i=xs.length:=by omega
   subst e;exact .inl ⟨⟨xs,q,Xx _⟩,hd σ H p⟩
end L2
namespace Bw
open PySem PySem.Spec PyProof.Rows L2 Tote
section
variable {K:aaa}{CW CP:Addr}{H H':Hp}{a b:Addr}
theorem aK.lists {dx:Addr} {fs:List (Str×V)} {rs:Z9} (S:aK a H H') (ha:H a=some (.ins CW dx fs)) (h:bF K H b rs):bF K H' b rs:=by
 obtain⟨as,h1,h2⟩:=h;exact⟨as,S.seq ha h1,Paired.d8 h2 λ_ _ z=>S.seq ha z⟩
theorem Cg {C dx C' Mw:Addr}{fs L6:List (Str×V)}(h:fs.length≠L6.length):HO.ins C dx fs≠HO.ins C' Mw L6:=by
 intro z;injection z with _ _ z;exact h (by rw[z])
theorem dg.jC {dx:Addr}{v0 v1 v2 v3 v4:V}{p:aM}(h:dg K CP H b p)(S:aK a H H')(ha:H a=some (.ins CW dx (bU v0 v1 v2 v3 v4))):dg K CP H' b p:=by
 obtain⟨d,fa,h1,h2⟩:=h;exact⟨d,fa,S _ _ h1 (dE h1 ha (Cg (by show 4≠5;decide))),aK.lists S ha h2⟩
theorem cV.jC {dx:Addr}{v0 v1 v2 v3 v4:V}{ps:List aM}(h:cV K CP H b ps)(S:aK a H H')(ha:H a=some (.ins CW dx (bU v0 v1 v2 v3 v4))):cV K CP H' b ps:=by
 obtain⟨as,h1,h2⟩:=h;exact⟨as,S.seq ha h1,Paired.d8 h2 λ_ _ z=>dg.jC z S ha⟩
end
section
variable {P:Program}{w:World}{K:aaa}{mg:aac}{base:Heap}
def ug (K:aaa) (CW CF CP:Addr):Sp:=λvs H Q E=>∃(a b:Addr) (ps:List aM) (e:Nat) (l:List Word) (pl:Nat),vs=[.ref b,.ref a]/\aT K CW H a e l pl/\cV K CP H b ps/\(l=[]->Rz CF E 3 (e:Nat)) /\
 (∀w r,l=w::r->dQ ps (tx w.w)=none->Rz CF E 5 (w.at_:Nat))/\(∀w r i,l=w::r->dQ ps (tx w.w)=some i->∀H',aK a H H'->aT K CW H' a e r w.at_->Q (.int (i:Nat)) H')
theorem mG:aG ["pools","words","name","number","pool"] ["pools","words"] (aw gQ):=fs
theorem Br {CW CF CP aW:Addr}(B:GB K mg aW)(T:CK K mg "Words" cp CW)(TP:CK K mg "Pool" gZ CP)(FL:Flt P w K mg base CF){k:Nat}(hk:2<=k)(FT:qp P w K mg base (eW P w CF) k CW "take" ["self"] (nq K CW CF))
  {f:Addr}{fd:FuncData}(F:de K "take_pool" "take_pool" gQ f fd):a8 P w K mg base (eW P w CF) (k+1) f fd ["pools","words"] (ug K CW CF CP):=by
 refine F.lU mG λLz A outer s H vs Q E hr h=>?_;obtain⟨a,b,ps,e,l,pl,rfl,hW,Mz,q0,q1,q2⟩:=h;refine⟨_,af (a7 2 mG.nd (jX FT T.cl (pv 1) hr (bP aH rfl rfl)))
  (af (dm (yU aH) rfl (sT rfl B.enum (aa (pv 0) ah)) (k_ rfl (cg (bp 3 mG.nd) (cg (bp 4 mG.nd) iP)))
   (ak (aO (aB ck (aY (pv 4) rfl) (pv 2) (aJ _)) (ak (az (pv 3))) aA)))
  (ak (fG FL aH (hr.mono hk) (aa (bb B.pool) (aa (aY (pv 1) rfl) ah))))),?_⟩
 obtain⟨d0,w0,m0,n0,L5⟩:=hW.obj;refine⟨_,rfl,a,d0,_,rfl,L5,cB (by decide +kernel),a,e,l,pl,rfl,hW,q0,λwd r hl H1 S1 L3 Mo=>?_⟩;have RC:=cV.jC Mz S1 L5;obtain⟨as,hA,hP⟩:=RC;have q1:=q1 wd r hl;have q2:=λi=>q2 wd r i hl;generalize tx wd.w=nm at q1 q2;refine⟨_,rfl,b,_,rfl,hA,vE (K:=K) (a:=b) (xs:=as.map V.ref) (λi σ H'=>∃(v3 v4:Option V),σ=[some (.ref b),some (.ref a),some (.str (st nm)),v3,v4]/\au H1 H'/\∀j p,j < i->ps[j]?=some p->¬p.name=nm)
  ⟨none,none,rfl,au.refl H1,λj p hj=>absurd hj (Nat.not_lt_zero j)⟩ (λi σ H' _ ⟨_,_,_,S,_⟩=>S.seq hA) ?_ ?_⟩
 · rintro i x σ H' tt hi ⟨v3,v4,rfl,S2,MP⟩ hT;rw[Xs] at hi;obtain⟨ai,LZ,rfl⟩:=X0.mp hi;obtain⟨p,hp,d,fa,MS,_⟩:=Paired.qO hP LZ;have S3:au H1 (upd H' tt (.tup [.int (i:Nat),.ref ai])):=S2.trans ((au.refl H').laid hT);refine⟨tt,_,rfl,b7.of ae,rfl,_,_,rfl,_,_,rfl,rfl,?_⟩;refine aR (aI (b9 (bf (ag rfl) (S3 _ _ MS) TP.cl (TP.no _ (by simp)) kY) (ag rfl))) (λh=>?_) (λh=>?_)
   · have h:p.name=nm:=by
      have:=XI h;injection this with this;exact jB.mp this
     refine⟨_,rfl,q2 i ?_ _ (S1.trans S3.x) (L3.same S3)⟩;unfold dQ;rw[ZF];obtain⟨LG,Wt⟩:=XB.mp hp;refine⟨LG,by rw[Wt,h];exact beq_self_eq_true _,λj hj=>?_⟩;have:=MP j _ hj (Xy (by omega));simpa using this
   · have h:¬p.name=nm:=λz=>by
      have:=X8 h;exact this (by rw[z])
     refine⟨_,_,rfl,S3,λj p' hj Pg=>?_⟩;by_cases Wu:j=i
     · subst Wu;rw[hp] at Pg;injection Pg with Pg;subst Pg;exact h
     · exact MP j p' (by omega) Pg
 · rintro σ H' ⟨v3,v4,rfl,S2,MP⟩;obtain⟨d1,w1,m1,n1,L_⟩:=L3.obj;dsimp only;refine jJ (bf (ag rfl) (S2 _ _ L_) T.cl (T.no _ (by simp)) bL) (q1 ?_);unfold dQ;rw[List.findIdx?_eq_none_iff];intro p hp;obtain⟨j,hj⟩:=List.mem_iff_getElem?.mp hp;have N6:=(XB.mp hj).1;have:=MP j p (by rw[Xn,Paired.length hP];exact N6) hj;simpa using this
end
def ql:Bool->Nat->Z_->Option Nat
 |_,_,[]=>none
 |gap,p,c::r=>if ¬(32<=c/\c<=126) then some p else if c=32/\(gap=true∨r=[]) then some p else ql (c==32) (p+1) r
def vO (cs:Z_):Option Nat:=if cs=[] then some 0 else ql true 0 cs
theorem tT:∀(l:Bytes) (gap:Bool) (p:Nat),gap=false∨l≠[]->badByte gap p l=ql gap p (l.map UInt8.toNat)
 |[],gap,p,h=>by
  have:gap=false:=by simpa using h
  subst this;rfl
 |c::r,gap,p,_=>by
  have Tb:c=32↔c.toNat=32:=⟨λz=>by rw[z];rfl,λz=>jI z⟩;have elt:(c < 32∨126 < c)↔¬(32<=c.toNat/\c.toNat<=126):=by
   rw[UInt8.lt_iff_toNat_lt,UInt8.lt_iff_toNat_lt];show c.toNat < 32∨126 < c.toNat↔_;omega
  show (if c < 32∨126 < c then some p else if c=32 then (if gap=true then some p else if r.isEmpty=true then some p else badByte true (p+1) r) else badByte false (p+1) r) =
   if ¬(32<=c.toNat/\c.toNat<=126) then some p else if c.toNat=32/\(gap=true∨r.map UInt8.toNat=[]) then some p else ql (c.toNat==32) (p+1) (r.map UInt8.toNat)
  by_cases h1:c < 32∨126 < c
  · rw[Xp h1,Xp (elt.mp h1)]
  · rw[Xo h1,Xo (λz=>h1 (elt.mpr z))];by_cases h2:c=32
    · have Qj:=Tb.mp h2;rw[Xp h2,Qj];by_cases h3:gap=true
      · rw[Xp h3,Xp ⟨rfl,.inl h3⟩]
      · rw[Xo h3];cases r with
        |nil=>rw[Xp (show ([]:Bytes).isEmpty=true from rfl),Xp ⟨rfl,.inr rfl⟩]
        |cons d r =>
         rw[Xo (by simp),Xo (by rintro⟨_,z|z⟩;exact h3 z;cases z)];exact tT (d::r) true (p+1) (.inr (by simp))
    · have Qj:¬c.toNat=32:=λz=>h2 (Tb.mpr z);rw[Xo h2,Xo (λz=>Qj z.1)];have:(c.toNat==32)=false:=by simpa using Qj
      rw[this];exact tT r false (p+1) (.inl rfl)
theorem C4 (l:Bytes):badByte true 0 l=vO (l.map UInt8.toNat):=by
 unfold vO;cases l with
 |nil=>rfl
 |cons c r =>
  rw[Xo (by simp)];exact tT (c::r) true 0 (.inr (by simp))
theorem Iv {ns:Z_}{i:Nat}(h:i < ns.length):nW (nV ns) ((i:Nat):Int)=some (.int (ns[i]:Nat)):=cw (by unfold nV;rw[Xs,Xy h];rfl)
section
variable {P:Program}{w:World}{K:aaa}{mg:aac}{base:Heap}
def wI (K:aaa) (CF:Addr):Sp:=λvs H Q E=>∃(a:Addr) (cs:Z_),vs=[.ref a]/\aQ K H a (nV cs)/\(∀i,vO cs=some i->Rz CF E 2 (i:Nat))/\(vO cs=none->∀H',au H H'->Q .cf H')
theorem tU:aG ["line","place","code"] ["line"] (aw fU):=fs
theorem DG {CF aW:Addr}(G:GW mg)(B:GB K mg aW)(FL:Flt P w K mg base CF)
  {f:Addr}{fd:FuncData}(F:de K "check_line" "check_line" fU f fd):a8 P w K mg base (eW P w CF) 3 f fd ["line"] (wI K CF):=by
 refine F.lU tU λLz A outer s H vs Q E hr h=>?_;obtain⟨a,cs,rfl,hS,q0,q1⟩:=h;refine⟨_,af (aO (aB ck (bg G.len (pv 0)) ax (aJ _)) (ak (fG FL aH hr (aa (bb B.byte) (aa ax ah)))) aA)
  (ak (dm (yU aH) rfl (sT rfl B.enum (aa (pv 0) ah)) (k_ rfl (cg (bp 1 tU.nd) (cg (bp 2 tU.nd) iP)))
   (af (aO (cz (cA cb cb ax (pv 2) ax)) (ak (fG FL aH hr (aa (bb B.byte) (aa (pv 1) ah)))) aA)
   (ak (aO (PW.pt (sR (aB ck (pv 2) (bb B.blank) (aJ _)) (oJ (PW.pt (d9 (aB gd (pv 1) (di (aa ax (aa (bG fE (bg G.len (pv 0)) ax) ah))) (by with_unfolding_all rfl))
    (cR (aB ck (bo aL (pv 0) (bG fE (pv 1) ax) (λ_ _=>rfl)) (bb B.blank) (aJ _)))))))) (ak (fG FL aH hr (aa (bb B.byte) (aa (pv 1) ah)))) aA))))),?_⟩
 refine aR (aI (b9 (aU (ag rfl) (.inl hS)) aC)) (λh=>?_) (λh=>?_)
 · rw[aX,aN] at h;have h:cs=[]:=by
    have:=YT h;exact Ze.mp (by omega)
   exact jJ aC (q0 0 (by unfold vO;rw[Xp h]))
 rw[aX,aN] at h;have LJ:cs≠[]:=λz=>by rw[z] at h;cases h
 have eL:vO cs=ql true 0 cs:=by unfold vO;rw[Xo LJ]
 rw[eL] at q0 q1;refine⟨_,rfl,a,_,rfl,hS,vE (K:=K) (a:=a) (xs:=nV cs) (λi σ H'=>∃(v1 v2:Option V) (gap:Bool),σ=[some (.ref a),v1,v2]/\au H H'/\(gap=true↔i=0∨cs[i - 1]?=some 32)/\ql gap i (cs.drop i)=ql true 0 cs)
  ⟨none,none,true,rfl,au.refl H,by simp,rfl⟩ (λi σ H' _ ⟨_,_,_,_,S,_⟩=>S.seq hS) ?_ ?_⟩
 · rintro i x σ H' tt hi ⟨v1,v2,gap,rfl,S2,hg,hc⟩ hT;have LG:i < cs.length:=by
    have:=(XB.mp hi).1
    rwa [aN] at this
   have hx:x=.int (cs[i]:Nat):=by
    unfold nV at hi;rw[Xs,Xy LG] at hi;exact (X2 hi).symm
   subst hx;have Tc:cs[i]?=some cs[i]:=Xy LG;rw[YL LG] at hc;have Np:cs.drop (i+1)=[]↔i=cs.length - 1:=by
    rw[List.drop_eq_nil_iff];omega
   generalize QH:cs[i]=c at hc Tc;have hc:(if ¬(32<=c/\c<=126) then some i else if c=32/\(gap=true∨cs.drop (i+1)=[]) then some i else ql (c==32) (i+1) (cs.drop (i+1)))=ql true 0 cs:=hc;have S3:au H (upd H' tt (.tup [.int (i:Nat),.int (c:Nat)])):=S2.trans ((au.refl H').laid hT);refine⟨tt,_,rfl,b7.of ae,rfl,_,_,rfl,_,_,rfl,rfl,?_⟩;refine aR (e_ (cy aC (ag rfl) aC)) (λh=>?_) (λh=>?_)
   · simp only[Yg,YM,X6] at h;rw[Xp (by omega)] at hc;exact jJ (ag rfl) (q0 i hc.symm)
   simp only[Yj,Xv,Xw] at h;rw[Xo (by omega)] at hc;have go:c=32->(gap=true∨cs.drop (i+1)=[])->Rz CF E 2 (i:Nat):=λz1 z2=>by
    rw[Xp ⟨z1,z2⟩] at hc;exact q0 i hc.symm
   have on:∀H4,au H H4->¬(c=32/\(gap=true∨cs.drop (i+1)=[]))->∃(v1 v2:Option V) (gap:Bool),[some (V.ref a),some (V.int (i:Nat)),some (V.int (c:Nat))]=[some (V.ref a),v1,v2]/\au H H4/\(gap=true↔i+1=0∨cs[i+1 - 1]?=some 32)/\ql gap (i+1) (cs.drop (i+1))=ql true 0 cs:=λH4 S4 hn=>by
    rw[Xo hn] at hc;refine⟨_,_,(c==32),rfl,S4,?_,hc⟩;rw[show i+1 - 1=i by omega,Tc,Ye];constructor
    · intro z;exact .inr (by rw[z])
    · rintro (z|z)
      · omega
      · exact X2 z
   refine (aI (b9 (ag rfl) aC)) _ ?_;refine gG (λh1=>?_) (λh1=>?_)
   · have h1:c=32:=by
      rw[aX] at h1;have:=YT h1;omega
     refine⟨_,rfl,(qB (aU (ag rfl) (.inl (S3.seq hS))) aC) _ ⟨(by show 2<=sizeLine;decide),λt ht=>⟨t,_,rfl,.inr (b7.of ae),rfl,rfl,_,rfl,?_⟩⟩⟩;rw[aN];have S4:=S3.trans ((au.refl _).laid ht (o:=.tup [V.int 0,V.int ((cs.length:Int) - 1)]));have eI:oh (V.int (i:Nat)) [V.int 0,V.int ((cs.length:Int) - 1)]=decide (i=0∨i=cs.length - 1):=by
      show ((0:Int)==(i:Nat)||((cs.length:Int) - 1==(i:Nat)||false))=_;rw[X3];simp only[Yp,Ye,Xw,ZD];omega
     show if oh (V.int (i:Nat)) [V.int 0,V.int ((cs.length:Int) - 1)]=true then _ else _;rw[eI];refine gG (λh2=>?_) (λh2=>?_)
     · refine oN ?_;refine jJ (ag rfl) (go h1 ?_);rcases XI h2 with z|z
       · exact .inl (hg.mpr (.inl z))
       · exact .inr (Np.mpr z)
     · have h2:¬(i=0∨i=cs.length - 1):=λz=>h2 (X4 z);have hi0:0 < i:=by omega
       refine aR (aI (b9 (a6 (ag rfl) (qB (ag rfl) aC) (S4.seq hS) (by rw[show (((i:Nat):Int) - 1)=((i - 1:Nat):Int) by omega];exact Iv (by omega))) aC)) (λh3=>?_) (λh3=>?_)
       · refine jJ (ag rfl) (go h1 (.inl (hg.mpr (.inr ?_))));rw[aX] at h3;have:=YT h3;rw[Xy (by omega)];congr 1;omega
       · refine on _ S4 ?_;rintro⟨_,z|z⟩
         · rcases hg.mp z with z|z
           · omega
           · rw[Xy (by omega)] at z;have z:=X2 z;rw[aX,z] at h3;cases h3
         · have:=Np.mp z;omega
   · have h1:¬c=32:=λz=>by
      rw[aX,z] at h1;exact h1 rfl
     refine vg ?_;exact on _ S3 λz=>h1 z.1
 · rintro σ H' ⟨v1,v2,gap,rfl,S2,hg,hc⟩;rw[aN,Zg] at hc;exact q1 hc.symm H' S2
end
end Bw
namespace L2
open PySem PySem.Spec PyProof.Rows
theorem oG {K:aaa}{a:Addr}{xs:List V}{g:TG}{te:TE}{vs:Z_}{σ:St}{H1:Hp}{D:Addr}{Qd:Hp->Prop}(F:Nat->V->Hp->Prop)(mono:∀i y H H',(∀b u,b≠D->H b=some u->H' b=some u)->F i y H->F i y H')(hA:aQ K H1 a xs)(hD:H1 D=none)(hz:xs.length<=100000)
  (hs:∀i x H',xs[i]?=some x->au H1 H'->(∃acc,H' D=some (.lst acc))->∀R:VK,(∀y H4,au H' H4->F i y H4->R y H4)->g x (wipe σ vs) H' λσ2 H2=>wipe σ2 vs=wipe σ vs/\te σ2 H2 R)
  (hd:∀ys H',au H1 H'->H' D=some (.lst ys)->ys.length=xs.length->(∀i y,ys[i]?=some y->F i y H')->Qd H') :
  ∃W:Nat->Nat->Hp->Prop,(∃m,W 0 m (upd H1 D (.lst [])))/\∀i m H,W i m H ->
   ((Bn K a).stop i H/\Qd H)∨((Bn K a).go i H/\∃Nx:Hp->Prop,(∀H',Nx H'->∃m',m' < m/\W (i+1) m' H')/\∀x H',(Bn K a).vZ i H x H'->g x (wipe σ vs) H' λσ2 H2=>wipe σ2 vs=wipe σ vs/\AV σ2 H2 λb H3 =>
    if b=true then te σ2 H3 λy H4=>∃acc,H4 D=some (.lst acc)/\acc.length < sizeLine/\Nx (upd H4 D (.lst (acc++[y]))) else Nx H3):=by
 refine jf (tt:=AV) (xs:=xs) (λi H'=>au H1 H'/\∃ys,H' D=some (.lst ys)/\ys.length=i/\∀j y,ys[j]?=some y->F j y H') ⟨(au.refl H1).laid hD,[],ae,rfl,λj y h=>by simp at h⟩ (λi H' _ h=>h.1.seq hA) ?_ ?_
 · rintro i x H' hx ⟨S,ys,e,l,f⟩;refine hs i x H' hx S ⟨ys,e⟩ _ λy H4 S4 fy=>⟨ys,S4 _ _ e,?_,?_,ys++[y],ae,by rw[XM,l];rfl,?_⟩
   · have:=(XB.mp hx).1;rw[XS];omega
   · intro b u z;rw[aq (ao z hD)];exact S4 b u (S b u z)
   · have up:∀b u,b≠D->H4 b=some u->(upd H4 D (.lst (ys++[y]))) b=some u:=λb u n z=>by rw[aq n];exact z
     intro j v h;by_cases z:j < ys.length
     · rw[List.getElem?_append_left z] at h;exact mono j v _ _ (λb u n z=>up b u n (S4 b u z)) (f j v h)
     · rw[Z7 (by omega)] at h;have:j - ys.length=0:=by
        have:=(XB.mp h).1;rw[YC] at this;omega
       rw[this] at h;cases h;have:j=i:=by omega
       subst this;exact mono j _ _ _ up fy
 · rintro H' ⟨S,ys,e,l,f⟩;exact hd ys H' S e l f
theorem qw {xs:List V}{n:Nat}:fQ xs (some ((n:Nat):Int)) none=xs.drop n:=by
 unfold fQ;rw[HT.kq,HT.jO];by_cases h:n<=xs.length
 · rw[Zn h];exact Yl (by rw[Yh];omega)
 · rw[Nat.min_eq_right (by omega),Zj (by omega:xs.length<=n),Zg];simp
theorem pD {xs:List V}{n:Nat}:fQ xs none (some ((n:Nat):Int))=xs.take n:=by
 unfold fQ;rw[HT.kq,HT.jO,List.drop_zero,Nat.sub_zero];by_cases h:n<=xs.length
 · rw[Zn h]
 · rw[Nat.min_eq_right (by omega),Yl (Xx _),Yl (by omega)]
end L2
namespace Bw
open PySem PySem.Spec PyProof.Rows L2 Tote
structure GN (mg:aac):Prop where
 range:mg "range"=none
 list:mg "list"=none
 tuple:mg "tuple"=none
 sorted:mg "sorted"=none
 sum:mg "sum"=none
 runners:Gv mg "MOST_RUNNERS" (.int 24)
 zip:mg "zip"=none
 set:mg "set"=none
theorem zZ (l:Z_)(x:Nat):product (l++[x])=product l*x:=by
 unfold product;rw[List.foldl_append];rfl
theorem BM {n:Nat}{l:Z_}:oh (V.int (n:Nat)) (nV l)=l.contains n:=by
 rw[nN,X3,Xw,Yw,Xw]
 exact⟨λ⟨m,h1,h2⟩=>by have:n=m:=by omega
                      subst this;exact h1,λh=>⟨n,h,rfl⟩⟩
theorem Eb {l:Z_}{x:Nat}:nV (l++[x])=nV l++[V.int (x:Nat)]:=by
 unfold nV;rw[XH];rfl
theorem yZ {l:Z_}{i:Nat}{v:V}(h:(nV l)[i]?=some v):∃n,l[i]?=some n/\v=V.int (n:Nat):=by
 unfold nV at h;rw[Xs] at h;obtain⟨n,h1,h2⟩:=X0.mp h;exact⟨n,h1,h2.symm⟩
theorem jA {l:List Addr}{i:Nat}{v:V}(h:(l.map V.ref)[i]?=some v):∃n,l[i]?=some n/\v=V.ref n:=by
 rw[Xs] at h;obtain⟨n,h1,h2⟩:=X0.mp h;exact⟨n,h1,h2.symm⟩
section
variable {P:Program}{w:World}{K:aaa}{mg:aac}{base:Heap}
def AF (K:aaa):Sp:=λvs H Q _=>∃(a:Addr) (ns:Z_),vs=[.ref a]/\aQ K H a (nV ns)/\(∀n∈ns,n < 1000000)/\∀H',au H H'->Q (.int (product ns:Nat)) H'
theorem oy:aG ["numbers","product","number"] ["numbers"] (aw fT):=fs
theorem ES {f:Addr}{fd:FuncData}(F:de K "product_of" "product_of" fT f fd):a8 P w K mg base bE 1 f fd ["numbers"] (AF K):=by
 refine F.oa oy λLz A outer s H vs Q E hr h=>?_;obtain⟨a,ns,rfl,hS,hn,q⟩:=h;refine⟨_,af (a7 1 oy.nd ax)
  (af (dm Yu rfl (bH (pv 0)) (bp 2 oy.nd) (ak (CY (i:=1) oy.nd rfl (Or.inl rfl) (pv 2) E7)))
  (ak (az (pv 1)))),?_⟩
 refine cE aC ?_;refine⟨_,rfl,a,rfl,⟨_,hS⟩,cZ (K:=K) (a:=a) (xs:=nV ns) (λi σ H'=>∃v2:Option V,σ=[some (.ref a),some (.int (product (ns.take i):Nat)),v2]/\au H H') ⟨none,rfl,au.refl H⟩ (λi σ H' _ ⟨_,_,S⟩=>S.seq hS) ?_ ?_⟩
 · rintro i x σ H' hi ⟨v2,rfl,S⟩;obtain⟨n,Td,rfl⟩:=yZ hi;have:=hn n (XT Td);refine⟨_,rfl,_,rfl,_,_,rfl,rfl,.inr ⟨by omega,by omega⟩,some (.int (n:Nat)),?_,S⟩;rw[take_snoc Td,zZ,Int.natCast_mul];rfl
 · rintro σ H' ⟨v2,rfl,S⟩;rw[aN,Ym];exact⟨_,rfl,q H' S⟩
def tG (K:aaa):Sp:=λvs H Q _=>∃(a t:Addr) (ns s:Z_),vs=[.ref a,.ref t]/\aQ K H a (nV ns)/\b7 K H t (nV s)/\ns.length<=1000/\∀H' x,au H H'->H x=none->H' x=some (.lst (nV (gE s ns)))->Q (.ref x) H'
theorem ub:aG ["numbers","taken","number"] ["numbers","taken"] (aw j1):=fs
theorem DB {f:Addr}{fd:FuncData}(F:de K "without" "without" j1 f fd):a8 P w K mg base bE 1 f fd ["numbers","taken"] (tG K):=by
 refine F.oa ub λLz A outer s H vs Q E hr h=>?_;obtain⟨a,t,ns,s,rfl,hA,hT,hl,q⟩:=h;refine⟨_,ak (az (fA (te:=cH 2) (tt:=oO (kI (G2 K true) (cH 2) (cH 1))) rfl ub.nd (bH (pv 0)) (bz (own:=[("number",2)]) rfl) (λ_ _ _ _ _=>bp 2 ub.nd) (λ_ _ _ _ _=>ow (aB eQ (pv 2) (pv 1) (by with_unfolding_all rfl))) (λ_ _ _ _ _=>pv 2))),?_⟩;refine⟨_,rfl,a,rfl,⟨_,hA⟩,λD hD=>jf (K:=K) (a:=a) (xs:=nV ns) (λi H'=>au H H'/\H' D=some (.lst (nV (gE s (ns.take i))))) ⟨(au.refl H).laid hD,ae⟩ (λi H' _ h=>h.1.seq hA) ?_ ?_⟩
 · rintro i v H' hi ⟨k1,k2⟩;obtain⟨n,hn,rfl⟩:=yZ hi;refine⟨rfl,?_⟩;refine (aI (mK (neg:=true) (ag rfl) (ag rfl) (.inr (k1.tup hT)) rfl (fR s))) _ ?_;show if (!oh (V.int (n:Nat)) (nV s))=true then _ else _;rw[BM];have e:gE s (ns.take (i+1))=gE s (ns.take i)++if (!s.contains n)=true then [n] else []:=by
    unfold gE;rw[take_snoc hn,Zi];congr 1;simp[YB]
   refine gG (λh=>?_) (λh=>?_)
   · rw[Xp h] at e;refine⟨_,rfl,_,k2,?_,?_,?_⟩
     · have:(gE s (ns.take i)).length<=(ns.take i).length:=ZP ..;rw[XN] at this;rw[aN,XS];omega
     · intro b u z;rw[aq (ao z hD)];exact k1 b u z
     · rw[ae,e,Eb]
   · rw[Xo h,Yr] at e;exact⟨k1,by rw[e];exact k2⟩
 · rintro H' ⟨k1,k2⟩;have k2:H' D=some (.lst (nV (gE s (ns.take (nV ns).length)))):=k2;rw[aN,Ym] at k2;exact q H' D k1 hD k2
def tZ (K:aaa):Sp:=λvs H Q _=>∃(a t:Addr) (ss:Z9) (s:Z_),vs=[.ref a,.ref t]/\bF K H a ss/\b7 K H t (nV s)/\ss.length<=6/\s.length<=ss.length/\∀H',au H H'->Q (.bl (ig ss s)) H'
theorem oq:aG ["sets","start","number","numbers"] ["sets","start"] (aw oK):=fs
theorem EI (G:GW mg)(N:GN mg){f:Addr}{fd:FuncData}(F:de K "is_of" "is_of" oK f fd):a8 P w K mg base bE 1 f fd ["sets","start"] (tZ K):=by
 refine F.oa oq λLz A outer s H vs Q E hr h=>?_;obtain⟨a,t,ss,s,rfl,⟨as,hA,hP⟩,hT,h6,hl,q⟩:=h;refine⟨_,ak (az (bY (wg rfl) (by rfl) G.all PyProof.Rows.boot_all (aa (fA (g:=ED K 2 (pb (fH 2) (pb (fH 3) DO))) (te:=kI (G2 K false) (cH 2) (cH 3)) rfl oq.nd (E5 rfl N.zip (aa (pv 1) (aa (pv 0) ah))) (bz (own:=[("number",2),("numbers",3)]) rfl)
  (λ_ _ _ _ _=>k_ rfl (cg (bp 2 oq.nd) (cg (bp 3 oq.nd) iP))) (λ_ _ _ _ _=>cq) (λ_ _ _ _ _=>ft gd (pv 2) (pv 3) (by with_unfolding_all rfl))) ah))),?_⟩
 have LA:as.length=ss.length:=Paired.length hP;refine⟨_,rfl,_,rfl,t,a,nV s,as.map V.ref,rfl,hT,hA,λD hD=>Ih (K:=K) (a:=t) (b:=a) (xs:=nV s) (ys:=as.map V.ref) (by rw[aN,Xn];omega) (λi H'=>au H H'/\H' D=some (.lst (((s.zip ss).take i).map λz=>V.bl (z.2.contains z.1)))) ⟨(au.refl H).laid hD,ae⟩ (λi H' _ h=>⟨h.1.tup hT,h.1.seq hA⟩) ?_ ?_⟩
 · rintro i x y H' T hx hy ⟨k1,k2⟩ Te;obtain⟨n,hn,rfl⟩:=yZ hx;obtain⟨ai,LZ,rfl⟩:=jA hy;obtain⟨si,Nq,hI⟩:=Paired.qO hP LZ;have Mx:au H' (upd H' T (.tup [.int (n:Nat),.ref ai])):=(au.refl H').laid Te;have Qk:D≠T:=ao k2 Te;refine⟨T,_,rfl,b7.of ae,rfl,_,_,rfl,_,_,rfl,rfl,rfl,?_⟩;refine (mK (neg:=false) (ag rfl) (ag rfl) (.inl ((k1.trans Mx).seq hI)) rfl (fR si)) _ ⟨_,by rw[aq Qk];exact k2,?_,?_,?_⟩
   · have:=(XB.mp hn).1;rw[Xn,XN,XS];omega
   · intro b u z;rw[aq (ao z hD)];exact Mx b u (k1 b u z)
   · have ez:(s.zip ss)[i]?=some (n,si):=by rw[List.getElem?_zip_eq_some];exact⟨hn,Nq⟩
     rw[ae,take_snoc ez,XH];show some (HO.lst (_++[V.bl (oh (V.int (n:Nat)) (nV si))]))=_;rw[BM];rfl
 · rintro H' ⟨k1,k2⟩;have k2:H' D=some (.lst (((s.zip ss).take (nV s).length).map λz=>V.bl (z.2.contains z.1))):=k2;rw[aN,Yl (by rw[List.length_zip];omega)] at k2;refine⟨D,(s.zip ss).map λz=>z.2.contains z.1,rfl,aQ.of (by rw[k2,XR];rfl),?_⟩;have e:((s.zip ss).map λz=>z.2.contains z.1).all id=ig ss s:=by unfold ig;rw[Zw];rfl
   rw[e];exact q H' k1
end
end Bw
namespace L2
open PySem PySem.Spec PyProof.Rows
def IE (K:aaa):V->V->Hp->VK->Prop:=λo i H Q=>∃(p:Addr) (xs:List V) (k:Nat) (v:V),o=.ref p/\i=.int (k:Nat)/\aQ K H p xs/\xs[k]?=some v/\Q v H
theorem A1 {X:Cx}:Jd X (IE X.K):=by
 intro pins s σ H o i ov iv Q I ro ri h;obtain⟨p,xs,k,v,rfl,rfl,hq,he,q⟩:=h;cases ro;obtain⟨t,rfl⟩:=ri;obtain⟨Ly,r,pl,hz⟩:=I.list hq;obtain⟨w,ew,NH⟩:=r.get he;have hl:=r.length;have hk:=(XB.mp he).1;have hn:=k8;exact wpAny_getItem_list pl.isList (by omega) (by omega) (by simpa using ew) ⟨v,H,I,NH,q⟩
theorem Ew {K:aaa}{a:Addr}{xs:List V}{g:TG}{tt:TT}{te:TE}{vs:Z_}{σ:L2.St}{H1:Hp}{D:Addr}{Qd:Hp->Prop}(Pv:Nat->Hp->Prop)(h0:Pv 0 (upd H1 D (.lst [])))(hl:∀i H,i<=xs.length->Pv i H->aQ K H a xs)
  (hs:∀i x H T,xs[i]?=some x->Pv i H->H T=none->g (.ref T) (wipe σ vs) (upd H T (.tup [.int (i:Nat),x])) λσ2 H2=>wipe σ2 vs=wipe σ vs/\tt σ2 H2 λb H3 =>
   if b=true then te σ2 H3 λy H4=>∃acc,H4 D=some (.lst acc)/\acc.length < sizeLine/\Pv (i+1) (upd H4 D (.lst (acc++[y]))) else Pv (i+1) H3) (hd:∀H,Pv xs.length H->Qd H) :
  ∃W:Nat->Nat->Hp->Prop,(∃m,W 0 m (upd H1 D (.lst [])))/\∀i m H,W i m H ->
   ((Fs K a).stop i H/\Qd H)∨((Fs K a).go i H/\∃Nx:Hp->Prop,(∀H',Nx H'->∃m',m' < m/\W (i+1) m' H')/\∀x H',(Fs K a).vZ i H x H'->g x (wipe σ vs) H' λσ2 H2=>wipe σ2 vs=wipe σ vs/\tt σ2 H2 λb H3 =>
    if b=true then te σ2 H3 λy H4=>∃acc,H4 D=some (.lst acc)/\acc.length < sizeLine/\Nx (upd H4 D (.lst (acc++[y]))) else Nx H3):=by
 refine⟨λi m H=>m=xs.length - i/\i<=xs.length/\Pv i H,⟨xs.length,by simp,XW _,h0⟩,?_⟩;rintro i m H ⟨rfl,hi,p⟩;have q:=hl i H hi p;by_cases LC:i < xs.length
 · refine .inr ⟨⟨xs,xs[i],q,by simp[LC]⟩,Pv (i+1),λH' p'=>⟨xs.length - (i+1),by omega,rfl,LC,p'⟩,λx H' y=>?_⟩;obtain⟨T,v,rfl,hT,rfl,hx⟩:=y;exact hs i v _ T (hx xs q) p hT
 · have e:i=xs.length:=by omega
   subst e;exact .inl ⟨⟨xs,q,Xx _⟩,hd H p⟩
end L2
namespace Bw
open PySem PySem.Spec PyProof.Rows L2 Tote
theorem Cj {σ:L2.St}{H:Hp}{ta tb:TE}{i j:Int}(ha:Ev ta σ H (.int i))(hb:Ev tb σ H (.int j))(h:Dh i j):Ev (kI (rI Dh λi j=>.int (i*2 ^ j.toNat)) ta tb) σ H (.int (i*2 ^ j.toNat)):=λ_ r=>ha _ (hb _ ⟨i,j,rfl,rfl,h,r⟩)
theorem oU:∀l:Z_,(l.map λn=>((n:Nat):Int)).sum=((l.sum:Nat):Int)
 |[]=>rfl
 |n::l=>by rw[XE,YW,YW,oU l,Int.natCast_add]
section
variable {P:Program}{w:World}{K:aaa}{mg:aac}{base:Heap}
def Fy (K:aaa):Sp:=λvs H Q _=>∃(a:Addr) (ss:Z9),vs=[.ref a]/\bF K H a ss/\C0 ss/\∀H',au H H'->Q (.int (dj ss la:Nat)) H'
theorem fF:aG ["sets","full","ways","number","bits","mask","place","numbers","bit"] ["sets"] (aw cW):=fs
theorem Hs {aW:Addr}(G:GW mg)(B:GB K mg aW)(N:GN mg){f:Addr}{fd:FuncData}(F:de K "count_different" "count_different" cW f fd):a8 P w K mg base bE 1 f fd ["sets"] (Fy K):=by
 refine F.oa fF λLz A outer s H vs Q E hr h=>?_;obtain⟨a,ss,rfl,hL,hS,q⟩:=h;refine⟨_,af (a7 1 fF.nd (bG fE (bG Bt ax (bg G.len (pv 0))) ax))
  (af (oV (i:=2) fF.nd rfl (Or.inr rfl) (bG yc (bV (aa ax ah)) (fA rfl fF.nd (gf rfl N.range (aa (pv 1) ah)) (bz (own:=[("mask",5)]) rfl) (λ_ _ _ _ _=>bp 5 fF.nd) (λ_ _ _ _ _=>cq) (λ_ _ _ _ _=>ax))))
  (af (dm Yu rfl (rM rfl N.range (aa ax (aa (bG ej (bb N.runners) ax) ah))) (uj (i:=3) fF.nd rfl (Or.inr rfl))
   (af (pd (i:=4) (te:=kI (rI Dh λi j=>.int (i*2 ^ j.toNat)) (tC (.int 1)) (cH 6)) (tt:=oO (kI (G2 K false) (cH 3) (cH 7))) (g:=ED K 2 (pb (fH 6) (pb (fH 7) DO))) rfl fF.nd rfl rfl (s_ rfl rfl rfl rfl) (sT rfl B.enum (aa (pv 0) ah)) (bz (own:=[("place",6),("numbers",7)]) rfl) (λ_ _ _ _ _=>k_ rfl (cg (bp 6 fF.nd) (cg (bp 7 fF.nd) iP)))
     (λ_ _ _ _ _=>ow (aB gd (pv 3) (pv 7) (by with_unfolding_all rfl))) (λ_ _ _ _ _=>bG Bt ax (pv 6)))
   (ak (dm Yu rfl (qU rfl N.range (aa (pv 1) (aa ax (aa (vn qz ax) ah)))) (uj (i:=5) fF.nd rfl (Or.inr rfl))
    (ak (Dn (pv 2) (pv 5) A1 (bY (xr rfl) (by rfl) N.sum (by decide +kernel) (aa (fA (te:=kI (zm K) (cH 2) (kI (qI λi j=>.int (i - j)) (cH 5) (cH 8))) rfl fF.nd (bH (pv 4)) (bz (own:=[("bit",8)]) rfl) (λ_ _ _ _ _=>bp 8 fF.nd)
     (λ_ _ _ _ _=>ow (aB pE (bG Gy (pv 5) (pv 8)) ax (aJ _))) (λ_ _ _ _ _=>bo aL (pv 2) (bG fE (pv 5) (pv 8)) (λ_ _=>rfl))) ah)) Cb set_list))))))
  (ak (az (bo aL (pv 2) (pv 1) (λ_ _=>rfl)))))),?_⟩
 obtain⟨as,hA,hP⟩:=hL;have LA:as.length=ss.length:=Paired.length hP;have h6:=hS.len;have hpow:0 < 2 ^ ss.length:=Nat.pow_pos (by decide);have hp64:2 ^ ss.length<=64:=Yb (Zq (by decide) h6) (by decide);obtain⟨f,hf⟩:∃f,f=2 ^ ss.length - 1:=⟨_,rfl⟩;have ef:(1:Int)*2 ^ ((as.map V.ref).length:Int).toNat - 1=((f:Nat):Int):=by
  rw[Xn,LA,X9,hf,Int.one_mul];have:((2 ^ ss.length:Nat):Int)=2 ^ ss.length:=by rw[Int.natCast_pow];rfl
  omega
 have nd:∀s∈ss,s.Nodup:=λs hs=>(hS.good s hs).1.nodup;refine cE (qB (Cj aC (aU (ag rfl) (.inl hA)) ⟨by omega,by rw[Xn];omega,by decide⟩) aC) ?_;rw[ef];refine⟨by show 1<=sizeLine;decide,λp1 O5=>?_⟩;refine yf (sY (ag rfl) (by omega) (by omega) λD0 M1=>?_);have RD:p1≠D0:=by
  rintro rfl;rw[ae] at M1;cases M1
 have Ph:H D0=none:=by rwa [aq RD.symm] at M1
 rw[X9];refine lK (lo:=0) (n:=f) (λi H'=>au H H'/\H' p1=some (.lst [V.int 1])/\H' D0=some (.lst (nV (List.replicate i 0)))) ⟨((au.refl H).laid O5).laid Ph,by rw[aq RD];exact ae,ae⟩ ?_ ?_
 · rintro i H' hi ⟨k0,k1,k2⟩;refine⟨rfl,?_⟩;refine⟨_,k2,by rw[aN,XZ,XS];omega,λb u z=>?_,by rw[aq RD];exact k1,?_⟩
   · rw[aq (ao z Ph)];exact k0 b u z
   · rw[ae,List.replicate_succ'];unfold nV;rw[XH];rfl
 rintro H1 ⟨S1,e1,e0⟩;refine⟨p1,D0,_,_,rfl,rfl,e1,e0,?_,λwy Tf=>?_⟩
 · show 1+_<=_;rw[aN,XZ,XS];omega
 have Wv:[V.int 1]++nV (List.replicate f 0)=nV (tab ss 1 f):=by
  rw[hf,←zE];unfold nV;rw[XH];rfl
 rw[Wv];have Pj:H wy=none:=by
  cases hz:H wy with
  |none=>rfl
  |some o=>rw[S1 wy o hz] at Tf;cases Tf
 have S2:au H (upd H1 wy (.lst (nV (tab ss 1 f)))):=λb u z=>by
  rw[aq (ao z Pj)];exact S1 b u z
 refine pP (y_ aC (jr aC aC) (by omega) ?_);refine ng (lo:=1) (n:=((24:Int)+1 - 1).toNat) (λi σ H'=>∃v3 v4 v5:Option V,σ=[some (.ref a),some (.int (f:Nat)),some (.ref wy),v3,v4,v5,none,none,none]/\au H H'/\H' wy=some (.lst (nV (tab ss (i+1) f))))
  ⟨none,none,none,rfl,S2,ae⟩ ?_ ?_
 · rintro i σ H2 hi ⟨v3,v4,v5,rfl,S3,e3⟩;have hi:i < 24:=hi;have ex:(1:Int)+(i:Nat)=((i+1:Nat):Int):=by omega
   rw[ex];obtain⟨x,hx⟩:∃x,x=i+1:=⟨_,rfl⟩;rw[←hx] at e3 ⊢;refine⟨_,rfl,a,_,rfl,S3.seq hA,λD hD=>Ew (K:=K) (a:=a) (xs:=as.map V.ref) (λj H'=>au H2 H'/\H' D=some (.lst (nV (bitsOf x 1 (ss.take j))))) ⟨(au.refl H2).laid hD,ae⟩ (λj H' _ h=>(S3.trans h.1).seq hA) ?_ ?_⟩
   · rintro j v H' T hj ⟨k1,k2⟩ hT;rw[Xs] at hj;obtain⟨aj,Ww,rfl⟩:=X0.mp hj;obtain⟨sj,NT,hI⟩:=Paired.qO hP Ww;have N6:j < ss.length:=(XB.mp NT).1;have Qk:D≠T:=ao k2 hT;have RE:au H2 (upd H' T (.tup [.int (j:Nat),.ref aj])):=k1.trans ((au.refl H').laid hT);have eb:=q_ x (ss.take j) 1 sj;rw[←take_snoc NT] at eb;refine⟨T,_,rfl,b7.of ae,rfl,_,_,rfl,_,_,rfl,rfl,rfl,?_⟩;refine (aI (mK (neg:=false) (ag rfl) (ag rfl) (.inl ((S3.trans RE).seq hI)) rfl (fR sj))) _ ?_;have eI:oh (V.int (x:Nat)) (nV sj)=sj.contains x:=by
      rw[nN,X3,Xw,Yw,Xw]
      exact⟨λ⟨m,h1,h2⟩=>by have:x=m:=by omega
                           subst this;exact h1,λh=>⟨x,h,rfl⟩⟩
     show if oh (V.int (x:Nat)) (nV sj)=true then _ else _;rw[eI];refine gG (λh=>?_) (λh=>?_)
     · rw[Xp h] at eb;refine (Cj aC (ag rfl) ⟨by omega,by omega,by decide⟩) _ ⟨_,by rw[aq Qk];exact k2,?_,?_,?_⟩
       · rw[aN];have:=pZ x (ss.take j) 1;rw[XN] at this;rw[XS];omega
       · intro b u z;rw[aq (ao z hD)];exact RE b u z
       · rw[ae,eb];have e2:(1:Int)*2 ^ ((j:Nat):Int).toNat=((1*2 ^ (ss.take j).length:Nat):Int):=by
          rw[X9,XN,Zn (by omega),Int.one_mul,Nat.one_mul,Int.natCast_pow];rfl
         rw[e2];unfold nV;rw[XH];rfl
     · rw[Xo h,Yr] at eb;exact⟨RE,by rw[aq Qk,eb];exact k2⟩
   rintro H3 ⟨k1,k2⟩;have k2:H3 D=some (.lst (nV (bitsOf x 1 (ss.take (as.map V.ref).length)))):=k2;rw[Xn,LA,Ym] at k2;obtain⟨bits,Mr⟩:∃bits,bits=bitsOf x 1 ss:=⟨_,rfl⟩;rw[←Mr] at k2;have Wx:D≠wy:=by
    rintro rfl;rw[e3] at hD;cases hD
   have e4:=k1 _ _ e3;have S4:=S3.trans k1;have hDH:H D=none:=by
    cases hz:H D with
    |none=>rfl
    |some o=>rw[S3 D o hz] at hD;cases hD
   refine pP (y4 (n:=f) (ag rfl) aC (uw aC) ?_ ?_)
   · have:=JJ.neg (i:=(f:Int)) (j:=0) (by omega) (by omega) (by omega) (by omega);rw[show ((f:Int) - 0).toNat=f by omega] at this;exact this
   refine qE (lo:=(f:Nat)) (c:=-1) (n:=f) (λj σ H'=>∃v5:Option V,σ=[some (.ref a),some (.int (f:Nat)),some (.ref wy),some (.int (x:Nat)),some (.ref D),v5,none,none,none]/\au H H'/\H' wy=some (.lst (nV (jF ss x f j)))/\H' D=some (.lst (nV bits)))
    ⟨v5,rfl,S4,by rw[Cs];exact e4,k2⟩ ?_ ?_
   · rintro j σ H4 hj ⟨v5,rfl,S5,e5,e6⟩;obtain⟨m,hm⟩:∃m,m=f - j:=⟨_,rfl⟩;have em:((f:Nat):Int)+((j:Nat):Int)*(-1)=((m:Nat):Int):=by omega
     rw[em];have Wy:m<=f:=by omega
     have old:(nV (jF ss x f j))[m]?=some (.int (cF ss x m:Nat)):=by
      unfold nV;rw[Xs,tP Wy,Xo (by omega)];rfl
     refine⟨_,rfl,_,rfl,wy,_,m,_,rfl,rfl,aQ.of e5,old,?_⟩;refine⟨_,rfl,D,rfl,⟨_,aQ.of e6⟩,λD2 Tg=>jf (K:=K) (a:=D) (xs:=nV bits) (λt H'=>au H4 H'/\H' D2=some (.lst (nV (((bits.take t).filter (bB m)).map λb=>cF ss x (m - b))))) ⟨(au.refl H4).laid Tg,ae⟩ (λt H' _ h=>aQ.of (h.1 _ _ e6)) ?_ ?_⟩
     · rintro t v H' ht ⟨k3,k4⟩;unfold nV at ht;rw[Xs] at ht;obtain⟨b,hb,rfl⟩:=X0.mp ht;obtain⟨pw,hpw,RF⟩:=uQ x ss 1 b (by rw[←Mr];exact XT hb);rw[Nat.one_mul] at RF;have Oo:0 < b:=by rw[RF];exact Nat.pow_pos (by decide)
       refine⟨rfl,?_⟩;refine (aI (oT (mn (f:=λi j=>.int (Builtin.bitAnd i j)) (ag rfl) (ag rfl)) aC)) _ ?_;have eA:(!decide (V.int (Builtin.bitAnd ((m:Nat):Int) ((b:Nat):Int))=V.int 0))=bB m b:=by
        rw[aX];have e1:Builtin.bitAnd ((m:Nat):Int) ((b:Nat):Int)=((m &&& b:Nat):Int):=by
         unfold Builtin.bitAnd;rw[X4 (by omega:(0:Int)<=((m:Nat):Int)),X4 (by omega:(0:Int)<=((b:Nat):Int))];rfl
        rw[e1,X3,RF,←DZ,Yg,XX];omega
       rw[eA];refine gG (λh=>?_) (λh=>?_)
       · have hbm:=HH h Oo;have at2:nW (nV (jF ss x f j)) (((m:Nat):Int) - ((b:Nat):Int))=some (.int (cF ss x (m - b):Nat)):=by
          rw[show ((m:Nat):Int) - ((b:Nat):Int)=((m - b:Nat):Int) by omega];refine cw ?_;unfold nV;rw[Xs,tP (by omega),Xo (by omega)];rfl
         refine (a6 (ag rfl) (qB (ag rfl) (ag rfl)) (aQ.of (k3 _ _ e5)) at2) _ ⟨_,k4,?_,?_,?_⟩
         · rw[aN,Xn,XS];have l1:=ZP (bB m) (bits.take t);have l2:=pZ x ss 1;rw[←Mr] at l2;rw[XN] at l1;omega
         · intro c u z;rw[aq (ao z Tg)];exact k3 c u z
         · rw[ae,take_snoc hb,Zi,XH];have:[b].filter (bB m)=[b]:=by rw[YB,Xp h];rfl
           rw[this];unfold nV;rw[XH];rfl
       · refine⟨k3,?_⟩;have:[b].filter (bB m)=[]:=by rw[YB,Xo h];rfl
         rw[take_snoc hb,Zi,this,Yr];exact k4
     rintro H5 ⟨k3,k4⟩;have k4:H5 D2=some (.lst (nV (((bits.take (nV bits).length).filter (bB m)).map λb=>cF ss x (m - b)))):=k4;rw[aN,Ym] at k4;refine⟨D2,((bits.filter (bB m)).map λb=>cF ss x (m - b)).map λn=>((n:Nat):Int),rfl,aQ.of (by rw[k4];unfold nV;rw[XR,XR,XR];rfl),?_⟩;rw[oU];refine⟨_,_,rfl,rfl,wy,_,_,m,rfl,rfl,k3 _ _ e5,?_,?_⟩
     · unfold EL;rw[Xp (by omega),aN,Xp (by unfold jF;rw[Xn,ZH];omega)];rfl
     have ew:((cF ss x m:Nat):Int)+((((bits.filter (bB m)).map λb=>cF ss x (m - b)).sum:Nat):Int)=((cF ss (x+1) m:Nat):Int):=by
      rw[BI nd (by omega),←Mr,Int.natCast_add]
     refine⟨_,rfl,λc u z=>?_,?_,?_⟩
     · rw[aq (ao z Pj)];exact k3 c u (S5 c u z)
     · rw[ae];show some (HO.lst ((nV (jF ss x f j)).set m (V.int (((cF ss x m:Nat):Int)+((((bits.filter (bB m)).map λb=>cF ss x (m - b)).sum:Nat):Int)))))=_;rw[ew,←A_ (by omega),hm];unfold nV;rw[List.map_set]
     · rw[aq Wx];exact k3 _ _ e6
   · rintro σ H4 ⟨v5,rfl,S5,e5,e6⟩;rw[BS] at e5;exact⟨_,_,_,rfl,S5,e5⟩
 · rintro σ H2 ⟨v3,v4,v5,rfl,S3,e3⟩;have e3:H2 wy=some (.lst (nV (tab ss 25 f))):=e3;refine bS (a6 (ag rfl) (ag rfl) (aQ.of e3) (cw (v:=.int (dj ss la:Nat)) ?_)) (q H2 S3);unfold nV;rw[Xs,BE (Xx _),←BH,hf];rfl
end
end Bw
namespace L2
open PySem PySem.Spec PyProof.Rows
section
variable {P:Program}{w:World}{d:Addr}{o:Obj}{es:Array DictEntry}{ep:Nat}
theorem zH {A:Around} (hh:A.handled=none) (it:Addr) (ne:d≠it) (dt:o.data=.dict es ep) :
  Walks P w A it [it,d] [it] es.size (λi v=>∃en,es[i]?=some en/\v=en.key) (λi h=>h.IsKeyIter it d i es.size ep/\h.get? d=some o) where
 sub:=λb hb=>Xr.mpr (.inl (XC.mp hb))
 frame:=λi h h' st k=>⟨st.1.at λob e=>k it (X_ ..) ob e,k d (by simp) o st.2⟩
 item:=λi s Q E hi st hQ=>by
  obtain⟨en,N7⟩:∃en,es[i]?=some en:=⟨es[i],Array.getElem?_eq_getElem hi⟩;refine qP st.1 st.2 dt rfl N7 λh' Wz sb=>?_;exact hQ _ h' s.toks ⟨en,N7,rfl⟩ ⟨Wz,(sb.2 d ne).trans st.2⟩ λb ob hb e=>(sb.2 b λz=>hb (by simp[z])).trans e
 done:=λs Q E st hQ=>t_ hh st.1 st.2 dt rfl (Xx _) λh' eb=>hQ h' s.toks λb ob hb e=>eb b ob (λz=>hb (by simp[z])) e
 self:=λi s Q E st hQ=>wpAny_pyIter_keyiter st.1 hQ
theorem AB (lo:(d==sysModules)=false)(hx:o.ExactDict)(dt:o.data=.dict es ep):W.KdlSrc P w "dict" d d es.size (λi v=>∃en,es[i]?=some en/\v=en.key) (λh=>h.get? d=some o) where
 type:=λs e=>⟨o,e,hx.1⟩
 there:=λh e=>⟨XA e,XA e⟩
 keep:=λh h' e k=>k d (.inl rfl) o e
 notList:=by decide
 notTuple:=by decide
 hint:=λA E s Q e q=>W.kdl_hint_dict ⟨o,e,hx.1⟩ q
 iter:=λA s hh e=>⟨_,_,(λE Q q=>zF lo e hx dt q),zH hh _ (X1 (XA e)) dt,⟨⟨_,XD _ rfl,rfl,rfl⟩,Xq _ e⟩⟩
end
section
variable {X:Cx}
theorem xP (hc:X.calm=true):iz X (.type "list") (λxs H Q=>∃(d:Addr) (Lx:List (List Key×V)),xs=[.ref d]/\H d=some (.dT Lx) /\
  ∀(qs:List Addr) (l:Addr),Paired (λq (kv:List Key×V)=>H q=some (.tup (kv.1.map kV))) qs Lx->H l=none->Q (.ref l) (upd H l (.lst (qs.map V.ref)))):=by
 intro pins s σ H xs us Q I r h;obtain⟨d,Lx,rfl,hd,q⟩:=h;rw[Vals.we r];obtain⟨z,lo,ys,pr,ob,es,ep,ho,hx,dt,he,_⟩:=I.bu d _ hd;have l1:es.size=ys.length:=size_of_entries he;have l2:Lx.length=ys.length:=Paired.length pr;refine W.kdl_call (AB lo hx dt) (I.ok.hd hc) ho (by omega) λh' tk acc c' kp hl it=>?_;have pq:Paired (λq (kv:List Key×V)=>H q=some (.tup (kv.1.map kV))) (ys.map λy=>y.2.1) Lx:=by
  refine kh (by rw[Xn,l2]) λi a b ha hb=>?_;rw[Xs] at ha;obtain⟨y,hy,rfl⟩:=X0.mp ha;obtain⟨y',Ng,e1,e2,_⟩:=ya pr hb;rw[hy] at Ng;injection Ng with Ng;subst Ng;exact e2
 have rv:Vals ((ys.map λy=>y.2.1).map V.ref) acc.toList:=by
  have l3:acc.toList.length=es.size:=by rw[Y_];exact it.1
  refine kh (by rw[Xn,Xn];omega) λi a b ha hb=>?_;obtain⟨en,N7,rfl⟩:=it.2 i b (by simpa using hb);rw[Xs,Xs] at ha;have qe:=entry_at he i;cases hy:ys[i]? with
  |none=>rw[hy] at ha;cases ha
  |some y =>
   rw[hy] at ha qe;have ha:some (V.ref y.2.1)=some a:=ha;injection ha with ha;subst ha;rw[N7] at qe;injection qe with qe;rw[qe];rfl
 have hlen:((ys.map λy=>y.2.1).map V.ref).length<=sizeLine:=by rw[Xn,Xn];omega
 exact⟨.ref s.heap.objs.size,_,I.laid (t':=tk) kp (Xx _) (show bK X.prog X.w _ h' _ (.lst _) from ⟨hlen,acc.toList,c',rv,by simpa using hl⟩),rfl,q _ _ pq (I.bu.fresh (Xx _))⟩
end
section
variable {P:Program}{w:World}{A:Around}{E:aab}{s:Shared}
theorem BR {t b:Addr} {ws:aae} {R:aab} (ht:IsTup s.heap t #[]) (hb:IsTup s.heap b ws.toArray) (hR:R (.ref b) s):wpAny (model P w) A (binaryOp .Add (.ref t) (.ref b)) R E s:=by
 obtain⟨⟨c1,d1,f1,l1⟩,g1,k1,n1,e1⟩:=id ht;obtain⟨⟨c2,d2,f2,l2⟩,g2,k2,n2,e2⟩:=id hb;simp only at k1 e1 k2 e2;subst k1 e1 k2 e2;have m:=tuple_addW0 t b #[] ws.toArray n1 n2 d1 d2 l1 l2 rfl;exact concat_meets ⟨_,g1,rfl⟩ ⟨_,g2,rfl⟩ noFill_tuple_add seq_tuple_add F.slot_tuple_add F.entry_tuple_add (F.args_tuple_add_2 _ _) m ⟨g1,g2,hR⟩
end
section
variable {X:Cx}
def ID (K:aaa):R2:=λx y H Q=>∃a b xs ys,x=.ref a/\y=.ref b/\b7 K H a xs/\H b=some (.tup ys)/\ys≠[]/\xs.length+ys.length<=sizeLine/\∀p H',au H H'->H' p=some (.tup (xs++ys))->Q (.ref p) H'
theorem Ds:jo X (binaryOp .Add) (ID X.K):=by
 intro pins s σ H x y v u Q I rx ry h;obtain⟨a,b,xs,ys,rfl,rfl,ha,hb,hy,hz,q⟩:=h;by_cases e:xs=[]
 · subst e;cases rx;cases ry;obtain⟨Ly,r1,p1,_⟩:=I.tuple ha;obtain⟨L0,r2,p2,_⟩:=I.tuple (b7.of hb);have:Ly=[]:=r1.ou.mpr rfl;subst this;exact BR p1 p2 ⟨.ref b,H,I,rfl,q b H (au.refl H) hb⟩
 · exact D4 pins s σ H _ _ v u Q I rx ry ⟨a,b,xs,ys,rfl,rfl,ha,b7.of hb,e,hz,λz=>absurd z hy,λ_ p hp=>q p _ ((au.refl H).laid hp) ae⟩
end
end L2
namespace Bw
open PySem PySem.Spec PyProof.Rows L2 Tote
def kL (l:Z_):List Key:=l.map λn=>Sum.inl ((n:Nat):Int)
theorem EV (l:Z_):(kL l).map kV=nV l:=by
 unfold kL nV;rw[XR];rfl
theorem B_ {l m:Z_}(h:kL l=kL m):l=m:=by
 unfold kL at h;refine List.map_inj_right (λa b e=>?_) |>.mp h;have:=Sum.inl.inj e;omega
theorem u7 {Lx:List (List Key×V)}{K:Z9}{k:Z_}{v:V}(h:Lx.map (·.1)=K.map kL):(putK Lx (kL k) v).map (·.1)=(jQ K k).map kL:=by
 have RG:(Lx.any λkv=>decide (kv.1=kL k))=K.contains k:=by
  have e1:(Lx.any λkv=>decide (kv.1=kL k))=(Lx.map (·.1)).any λz=>decide (z=kL k):=by rw[ZM];rfl
  rw[e1,h,ZM,X3,Y2,Yw,Xw];constructor
  · rintro⟨x,h1,h2⟩;have:=B_ (XI h2);rw[←this];exact h1
  · intro hk;exact⟨k,hk,X4 rfl⟩
 unfold putK jQ;rw[RG];by_cases c:K.contains k=true
 · rw[Xp c,Xp c,←h,XR];refine Yi λkv _=>?_;show (if kv.1=kL k then (kv.1,v) else kv).1=kv.1;split <;> rfl
 · rw[Xo c,Xo c,XH,XH,h];rfl
theorem wZ {pick:Z_}{n:Nat}{ms:List Int}(hp:cn pick)(hn:¬n∈pick)(h1:ms.Perm ((pick++[n]).map λx=>((x:Nat):Int)))(h2:ms.Pairwise (·<=·)):ms=(fM n pick).map λx=>((x:Nat):Int):=by
 have hr:=lA hp hn;have nd:(pick++[n]).Nodup:=by
  rw[Y5];refine⟨hp.nodup,by simp,λa ha b hb=>?_⟩;rw[XC] at hb;subst hb;exact λz=>hn (z ▸ ha)
 have pm:(fM n pick).Perm (pick++[n]):=(Z5 hr.nodup nd).mpr λx=>by
  rw[lW];simp[or_comm]
 refine List.Perm.eq_of_pairwise (le:=(·<=·)) (λa b _ _ x y=>by omega) h2 ?_ (h1.trans (pm.map _).symm);rw[List.pairwise_map];exact hr.imp λh=>by omega
theorem lD {pick:Z_}:∀(s:Z_) (K:Z9),(cO s K pick).length<=K.length+s.length
 |[],K=>Xx _
 |n::s,K=>by
  show (cO s (cu pick K n) pick).length<=_;have:=lD (pick:=pick) s (cu pick K n);have h2:(cu pick K n).length<=K.length+1:=by
   unfold cu jQ;split
   · omega
   · split
     · omega
     · simp
  rw[Xz];omega
theorem pK {s:Z_}{c:Nat}(hs:s.length<=c):∀(ps K:Z9),(ps.foldl (cO s) K).length<=K.length+ps.length*c
 |[],K=>by simp
 |p::ps,K=>by
  rw[YU,Xz];have h1:=pK hs ps (cO s K p);have h2:=lD (pick:=p) s K;rw[Nat.add_mul];omega
theorem oY {α β:Type}(f:β->α->β)(b:β)(l:List α)(x:α):(l++[x]).foldl f b=f (l.foldl f b) x:=by rw[List.foldl_append];rfl
theorem mQ:∀(i:Nat) (ss:Z9),(∀s∈ss,s.length<=25)->(bx (ss.take i)).length<=25 ^ i
 |0,ss,_=>by show 1<=1;decide
 |i+1,ss,h=>by
  have ih:=mQ i ss h;by_cases hi:i < ss.length
  · rw[List.take_add_one,Xy hi];show (bx (ss.take i++[ss[i]])).length<=_;rw[jd];have:=pK (h _ (Zf hi)) (bx (ss.take i)) [];unfold eY;rw[Zs];have h2:(bx (ss.take i)).length*25<=25 ^ i*25:=Nat.mul_le_mul_right _ ih;simp only[YZ] at this;omega
  · have:ss.take (i+1)=ss.take i:=by rw[Yl (by omega),Yl (by omega)]
    rw[this,Zs];omega
section
variable {P:Program}{w:World}{K:aaa}{mg:aac}{base:Heap}
def Bo (H:Hp) (x:Addr) (R:Z9):Prop:=∃qs:List Addr,H x=some (.lst (qs.map V.ref))/\Paired (λq l=>H q=some (.tup (nV l))) qs R
def rV (K:aaa):Sp:=λvs H Q _=>∃(a:Addr) (ss:Z9),vs=[.ref a]/\bF K H a ss/\C0 ss/\ss.length<=3/\∀H' x,au H H'->Bo H' x (bx ss)->Q (.ref x) H'
theorem ll:aG ["sets","picks","numbers","longer","pick","number"] ["sets"] (aw iM):=fs
theorem Hw (N:GN mg){f:Addr}{fd:FuncData}(F:de K "picks_of" "picks_of" iM f fd):a8 P w K mg base bE 1 f fd ["sets"] (rV K):=by
 refine F.oa ll λLz A outer s H vs Q E hr h=>?_;obtain⟨a,ss,rfl,⟨as,hA,hP⟩,hS,h3,q⟩:=h;have hu:=vS hr;refine⟨_,af (a7 1 ll.nd (bV (aa (di ah) ah)))
  (af (dm Yu rfl (bH (pv 0)) (bp 2 ll.nd)
   (af (a7 3 ll.nd oS)
   (af (dm Yu rfl (bH (pv 1)) (bp 4 ll.nd)
    (ak (dm Yu rfl (bH (pv 2)) (bp 5 ll.nd)
     (ak (aO (aB eQ (pv 5) (pv 4) (by with_unfolding_all rfl)) (ak (ma hu (pv 3) (kj qR (by rfl) N.tuple (by decide +kernel) (aa (bY xS (by rfl) N.sorted PyProof.Rows.boot_sorted (aa (bG Ds (pv 4) (di (aa (pv 5) ah))) ah)) ah)) mz rfl)) aA)))))
   (ak (a7 1 ll.nd (kj (xP rfl) (by rfl) N.list (by decide +kernel) (aa (pv 3) ah)))))))
  (ak (az (pv 1)))),?_⟩
 have LA:as.length=ss.length:=Paired.length hP;have Th:∀s∈ss,s.length<=25:=λs hs=>mJ (hS.good s hs).1 (hS.good s hs).2;refine⟨XW _,λt0 WA=>⟨by show 1<=sizeLine;decide,λp0 Ov=>?_⟩⟩;have n0:p0≠t0:=by
  rintro rfl;rw[ae] at Ov;cases Ov
 have S0:au H (upd (upd H t0 (.tup [])) p0 (.lst [V.ref t0])):=((au.refl H).laid WA).trans ((au.refl _).laid Ov);refine⟨_,rfl,a,rfl,⟨_,S0.seq hA⟩,cZ (K:=K) (a:=a) (xs:=as.map V.ref) (λi σ H'=>∃(pk:Addr) (qs:List Addr) (v2 v3 v4 v5:Option V),σ=[some (.ref a),some (.ref pk),v2,v3,v4,v5]/\au H H'/\H' pk=some (.lst (qs.map V.ref))/\Paired (λq l=>H' q=some (.tup (nV l))) qs (bx (ss.take i)))
  ⟨p0,[t0],none,none,none,none,rfl,S0,ae,.cons (by rw[aq n0.symm];exact ae) .nil⟩ (λi σ H' _ ⟨_,_,_,_,_,_,_,S,_⟩=>S.seq hA) ?_ ?_⟩
 · rintro i x σ H1 hi ⟨pk,qs,v2,v3,v4,v5,rfl,S1,e1,hQ⟩;rw[Xs] at hi;obtain⟨ai,LZ,rfl⟩:=X0.mp hi;obtain⟨sj,NT,hI⟩:=Paired.qO hP LZ;have LG:i < ss.length:=(XB.mp NT).1;have gs:=hS.good sj (XT NT);have WB:=Th sj (XT NT);have lp:=mQ i ss Th;have WC:(bx (ss.take i)).length<=625:=Yb lp (Yb (Zq (by decide) (show i<=2 by omega)) (by decide));have Pk:∀l∈bx (ss.take i),cn l/\l.length<=6:=λl hl=>by
    obtain⟨z1,z2⟩:=(j4 (ss.take i) l).mp hl;refine⟨z1,?_⟩;have:=(j2 z2).1;rw[XN] at this;omega
   have Nr:bx (ss.take (i+1))=eY (bx (ss.take i)) sj:=by rw[take_snoc NT,jd]
   generalize bx (ss.take i)=M5 at hQ WC Pk Nr;have NU:qs.length=M5.length:=Paired.length hQ;intro lg Ti;have S2:au H1 (upd H1 lg (.dT [])):=(au.refl H1).laid Ti;refine⟨_,rfl,pk,rfl,⟨_,S2.seq (aQ.of e1)⟩,cZ (K:=K) (a:=pk) (xs:=qs.map V.ref) (λj σ H'=>∃(v4 v5:Option V) (Lx:List (List Key×V)),σ=[some (.ref a),some (.ref pk),some (.ref ai),some (.ref lg),v4,v5]/\au H1 H'/\H' lg=some (.dT Lx)/\Lx.map (·.1)=((M5.take j).foldl (cO sj) []).map kL)
    ⟨v4,v5,[],rfl,S2,ae,rfl⟩ (λj σ H' _ ⟨_,_,_,_,S,_⟩=>aQ.of (S _ _ e1)) ?_ ?_⟩
   · rintro j x σ H2 hj ⟨v4,v5,Lx,rfl,S3,e3,hk⟩;rw[Xs] at hj;obtain⟨qa,RH,rfl⟩:=X0.mp hj;obtain⟨pick,MK,hT⟩:=Paired.qO hQ RH;have N6:j < M5.length:=(XB.mp MK).1;obtain⟨NN,hr6⟩:=Pk pick (XT MK);have lk:=pK WB (M5.take j) [];rw[XN,YZ] at lk;have Tj:(M5.take (j+1)).foldl (cO sj) []=cO sj ((M5.take j).foldl (cO sj) []) pick:=by rw[take_snoc MK,oY]
     generalize (M5.take j).foldl (cO sj) []=K2 at hk lk Tj;refine⟨_,rfl,ai,rfl,⟨_,(S1.trans S3).seq hI⟩,cZ (K:=K) (a:=ai) (xs:=nV sj) (λm σ H'=>∃(v5:Option V) (Lx:List (List Key×V)),σ=[some (.ref a),some (.ref pk),some (.ref ai),some (.ref lg),some (.ref qa),v5]/\au H1 H'/\H' lg=some (.dT Lx)/\Lx.map (·.1)=((sj.take m).foldl (cu pick) K2).map kL)
      ⟨v5,Lx,rfl,S3,e3,hk⟩ (λm σ H' _ ⟨_,_,_,S,_⟩=>(S1.trans S).seq hI) ?_ ?_⟩
     · rintro m x σ H3 hm ⟨v5,Lx,rfl,S4,e4,hk⟩;unfold nV at hm;rw[Xs] at hm;obtain⟨n,hn,rfl⟩:=X0.mp hm;have lk3:Lx.length<=K2.length+25:=by
        have z1:Lx.length=(cO (sj.take m) K2 pick).length:=by
         have:=Yv List.length hk;rw[Xn,Xn] at this;exact this
        have z2:=lD (pick:=pick) (sj.take m) K2;rw[XN] at z2;omega
       have RI:(sj.take (m+1)).foldl (cu pick) K2=cu pick ((sj.take m).foldl (cu pick) K2) n:=by rw[take_snoc hn,oY]
       generalize (sj.take m).foldl (cu pick) K2=K3 at hk RI;have Tn:=S4 _ _ hT;have eI:(!oh (V.int (n:Nat)) (nV pick))=!decide (n∈pick):=by
        congr 1;rw[nN,Za]
        exact⟨λ⟨y,h1,h2⟩=>by have:n=y:=by omega
                             subst this;exact h1,λh=>⟨n,h,rfl⟩⟩
       refine aR (b:=!decide (n∈pick)) (yJ (aI (mK (neg:=true) (ag rfl) (ag rfl) (.inr (b7.of Tn)) rfl (fR pick))) eI) (λh=>?_) (λh=>?_)
       · have Od:¬n∈pick:=by simpa using h
         refine⟨_,rfl,_,rfl,_,rfl,by show 1<=sizeLine;decide,λt1 WD=>?_⟩;have S5:au H3 (upd H3 t1 (.tup [V.int (n:Nat)])):=(au.refl H3).laid WD;refine⟨qa,t1,nV pick,[V.int (n:Nat)],rfl,rfl,b7.of (S5 _ _ Tn),ae,by simp,by rw[aN,XS];simp;omega,λp4 H4 S6 WE=>?_⟩;have RJ:nV pick++[V.int (n:Nat)]=((pick++[n]).map λx=>((x:Nat):Int)).map V.int:=by
          unfold nV;rw[XH,XH,XR];rfl
         refine⟨p4,(pick++[n]).map λx=>((x:Nat):Int),rfl,b7.of (by rw[WE,RJ]),by rw[Xn,XM];simp;omega,λms p5 WG WH P4=>?_⟩;have WI:=wZ NN Od WG WH;subst WI;have e7:((fM n pick).map λx=>((x:Nat):Int)).map V.int=(kL (fM n pick)).map kV:=by
          rw[EV];unfold nV;rw[XR];rfl
         rw[e7];refine⟨p5,_,rfl,.inl ⟨aQ.of ae,λp6 WJ=>?_⟩⟩;have S7:au H3 (upd (upd H4 p5 (.lst ((kL (fM n pick)).map kV))) p6 (.tup ((kL (fM n pick)).map kV))):=(S5.trans S6).trans (((au.refl H4).laid P4).trans ((au.refl _).laid WJ));have RK:=S7 _ _ e4;refine⟨lg,_,rfl,.inr ⟨Lx,kL (fM n pick),p6,RK,rfl,ae,by rw[XS];omega,rfl⟩,some (.int (n:Nat)),putK Lx (kL (fM n pick)) (V.bl true),rfl,?_,ae,?_⟩
         · intro c u z;rw[aq (ao z Ti)];exact S7 c u (S4 c u z)
         · rw[RI,u7 hk];unfold cu;rw[Xo (by rw[Yw,Xw];exact Od)]
       · have Od:n∈pick:=by simpa using h
         refine⟨_,Lx,rfl,S4,e4,?_⟩;rw[RI,hk];unfold cu;rw[Xp (by rw[Yw,Xw];exact Od)]
     · rintro σ H3 ⟨v5,Lx,rfl,S4,e4,hk⟩;rw[aN,Ym] at hk;exact⟨_,_,Lx,rfl,S4,e4,by rw[Tj];exact hk⟩
   · rintro σ H2 ⟨v4,v5,Lx,rfl,S3,e3,hk⟩;rw[Xn,NU,Ym] at hk;refine⟨_,rfl,lg,Lx,rfl,e3,λrs l To hl=>?_⟩;refine⟨l,rs,_,_,_,_,rfl,(S1.trans S3).laid ?_,ae,?_⟩
     · cases hz:H l with
       |none=>rfl
       |some o=>rw[S3 l o (S1 l o hz)] at hl;cases hl
     · rw[Nr];have hk:Lx.map (·.1)=(eY M5 sj).map kL:=hk;have RM:Lx.length=(eY M5 sj).length:=by
        have:=Yv List.length hk
        rwa [Xn,Xn] at this
       refine kh (by rw[Paired.length To,RM]) λt q' l' MO Ox=>?_;obtain⟨kv,WK,hH⟩:=Paired.qO To MO;have WL:kv.1=kL l':=by
        have z1:(Lx.map (·.1))[t]?=some kv.1:=by rw[Xs,WK];rfl
        rw[hk,Xs,Ox] at z1;exact (X2 z1).symm
       rw[aq (ao hH hl),hH,WL,EV]
 · rintro σ H1 ⟨pk,qs,v2,v3,v4,v5,rfl,S1,e1,hQ⟩;rw[Xn,LA,Ym] at hQ;exact⟨_,rfl,q H1 pk S1 ⟨qs,e1,hQ⟩⟩
end
theorem xW {α:Type}{ys zs:List α}(l:ys.length=zs.length)(f:∀(i:Nat) y,ys[i]?=some y->zs[i]?=some y):ys=zs:=ZL λi=>by
 cases h:ys[i]? with
 |some y=>exact (f i y h).symm
 |none =>
  rw[List.getElem?_eq_none_iff] at h;exact (Ys (by omega)).symm
theorem yF {β:Type}{G:Addr->β->Prop}:∀{ys:List V} {zs:List β},ys.length=zs.length->(∀(i:Nat) (y:V),ys[i]?=some y->∃b z,zs[i]?=some z/\y=V.ref b/\G b z)->∃bs:List Addr,ys=bs.map V.ref/\Paired G bs zs
 |[],[],_,_=>⟨[],rfl,.nil⟩
 |y::ys,z::zs,l,f=>by
  obtain⟨b,z',h1,h2,h3⟩:=f 0 y rfl;obtain⟨bs,e,p⟩:=yF (ys:=ys) (zs:=zs) (G:=G) (by simpa using l) λi v h=>f (i+1) v h;cases h1;exact⟨b::bs,by rw[h2,e];rfl,.cons h3 p⟩
 |[],_::_,l,_=>by simp at l
 |_::_,[],l,_=>by simp at l
theorem nJ {α β γ:Type}{F:α->β->Prop}{G:α->γ->Prop}{f:β->γ}:∀{l:List α} {m:List β},Paired F l m->(∀a b,F a b->G a (f b))->Paired G l (m.map f)
 |_,_,.nil,_=>.nil
 |_,_,.cons h t,k=>.cons (k _ _ h) (nJ t k)
theorem xn {s:Z_}:(s.map λn=>((n:Nat):Int)).Nodup↔s.Nodup:=by
 unfold List.Nodup;rw[List.pairwise_map];exact⟨λh=>h.imp λn e=>n (by rw[e]),λh=>h.imp λn e=>n (by omega)⟩
theorem Fb {s:Z_}:nV s=(s.map λn=>((n:Nat):Int)).map V.int:=by
 unfold nV;rw[XR];rfl
section
variable {P:Program}{w:World}{K:aaa}{mg:aac}{base:Heap}
def iN (K:aaa) (r:Z9->Z_->Nat):Sp:=λvs H Q _=>∃(a t:Addr) (ss:Z9) (s:Z_),vs=[.ref a,.ref t]/\bF K H a ss/\b7 K H t (nV s)/\C0 ss/\s.length<=ss.length/\∀H',au H H'->Q (.int (r ss s:Nat)) H'
theorem tR:aG ["sets","start","numbers"] ["sets","start"] (aw fV):=fs
theorem Eo (G:GW mg){k:Nat}(FI:Fn P w K mg base bE k "is_of" ["sets","start"] (tZ K))(FP:Fn P w K mg base bE k "product_of" ["numbers"] (AF K)){f:Addr}{fd:FuncData}(F:de K "count_legs" "count_legs" fV f fd):a8 P w K mg base bE (k+1) f fd ["sets","start"] (iN K kW):=by
 refine F.oa tR λLz A outer s H vs Q E hr h=>?_;obtain⟨a,t,ss,s,rfl,hL,hT,hS,hl,q⟩:=h;refine⟨_,af (aO (cz (h_ (aS FI hr a_ (aa (pv 0) (aa (pv 1) ah))))) (ak (az ax)) aA)
  (ak (az (aS FP hr a_ (aa (fA (te:=GF (λxs H Q=>∃p ys,xs=[.ref p]/\(aQ K H p ys∨b7 K H p ys)/\Q (.int ys.length) H) (cM (cH 2) eV)) rfl tR.nd (bH (dq fW (pv 0) (dv (bg G.len (pv 1))) fX)) (bz (own:=[("numbers",2)]) rfl)
   (λ_ _ _ _ _=>bp 2 tR.nd) (λ_ _ _ _ _=>cq) (λ_ _ _ _ _=>bg G.len (pv 2))) ah)))),?_⟩
 refine⟨_,rfl,_,rfl,a,t,ss,s,rfl,hL,hT,hS.len,hl,λH1 S1=>⟨_,rfl,?_⟩⟩;obtain⟨as,hA,hP⟩:=hL;have LA:as.length=ss.length:=Paired.length hP;unfold kW at q;refine gG (λh=>?_) (λh=>?_)
 · have h:¬ig ss s=true:=by simpa using h
   rw[Xo h] at q;exact q H1 S1
 have h:ig ss s=true:=by simpa using h
 rw[Xp h] at q;refine⟨_,rfl,_,rfl,t,_,rfl,.inr (S1.tup hT),_,rfl,a,_,rfl,S1.seq hA,λp hp=>?_⟩;rw[aN,qw,←ZT];have S2:au H (upd H1 p (.lst ((as.drop s.length).map V.ref))):=S1.trans ((au.refl H1).laid hp);refine⟨p,rfl,⟨_,aQ.of ae⟩,λD hD=>oG (K:=K) (a:=p) (xs:=(as.drop s.length).map V.ref) (λi y _=>∃si,(ss.drop s.length)[i]?=some si/\y=.int (si.length:Nat)) (λi y H H' _ z=>z) (aQ.of ae) hD (by rw[Xn,Yh];have:=hS.len;omega) ?_ ?_⟩
 · rintro i x H' hx S _ R hR;obtain⟨ai,LZ,rfl⟩:=jA hx;obtain⟨si,Nq,hI⟩:=Paired.qO (Paired.dp s.length hP) LZ;exact⟨rfl,_,rfl,ai,nV si,rfl,.inl ((S2.trans S).seq hI),hR _ _ (au.refl _) ⟨si,Nq,by rw[aN]⟩⟩
 · rintro ys H' S e l f;have ey:ys=nV ((ss.drop s.length).map List.length):=by
    refine xW (by rw[l,aN,Xn,Xn,Yh,Yh,LA]) λi y hy=>?_;obtain⟨si,Nq,rfl⟩:=f i y hy;unfold nV;rw[Xs,Xs,Nq];rfl
   subst ey;refine⟨D,_,rfl,aQ.of e,λn hn=>?_,λH2 S3=>q H2 ((S2.trans S).trans S3)⟩;obtain⟨s0,Rl,rfl⟩:=XY.mp hn;have g:=hS.good s0 (YY Rl);have:=mJ g.1 g.2;omega
theorem C0.out {ss:Z9}{s:Z_}(o:C0 ss)(n:Nat):C0 ((ss.drop n).map (gE s)):=by
 refine⟨by rw[Xn,Yh];have:=o.len;omega,λu hu=>?_,λu hu x hx=>?_⟩
 · obtain⟨v,hv,rfl⟩:=XY.mp hu;have g:=o.good v (YY hv);exact⟨List.Pairwise.filter _ g.1,λx hx=>g.2 x (Yy.mp hx).1⟩
 · obtain⟨v,hv,rfl⟩:=XY.mp hu;exact o.lo v (YY hv) x (Yy.mp hx).1
theorem sZ:aG ["sets","start","numbers"] ["sets","start"] (aw eT):=fs
theorem C3 (G:GW mg)(N:GN mg){k:Nat}(FI:Fn P w K mg base bE k "is_of" ["sets","start"] (tZ K))(FD:Fn P w K mg base bE k "count_different" ["sets"] (Fy K))(FW:Fn P w K mg base bE k "without" ["numbers","taken"] (tG K)){f:Addr}{fd:FuncData}(F:de K "count_orders" "count_orders" eT f fd):a8 P w K mg base bE (k+1) f fd ["sets","start"] (iN K sM):=by
 refine F.oa sZ λLz A outer s H vs Q E hr h=>?_;obtain⟨a,t,ss,s,rfl,hL,hT,hS,hl,q⟩:=h;refine⟨_,af (aO (PW.pt (d9 (cz (h_ (aS FI hr a_ (aa (pv 0) (aa (pv 1) ah))))) (cR (aB nS (bY Ec (by rfl) G.len PySem.boot_len (aa (kj (Dc rfl) (by rfl) N.set (by decide +kernel) (aa (pv 1) ah)) ah)) (bg G.len (pv 1)) (aJ _))))) (ak (az ax)) aA)
  (ak (az (aS FD hr a_ (aa (fA (te:=nE (tG K) [] E0 (cM (cH 2) (cM (cH 1) eV))) rfl sZ.nd (bH (dq fW (pv 0) (dv (bg G.len (pv 1))) fX)) (bz (own:=[("numbers",2)]) rfl)
   (λ_ _ _ _ _=>bp 2 sZ.nd) (λ_ _ _ _ _=>cq) (λ_ _ _ _ _=>aS FW (by first|exact hr|exact hr.qK) a_ (aa (pv 2) (aa (pv 1) ah)))) ah)))),?_⟩
 refine⟨_,rfl,_,rfl,a,t,ss,s,rfl,hL,hT,hS.len,hl,λH1 S1=>⟨_,rfl,?_⟩⟩;obtain⟨as,hA,hP⟩:=hL;have LA:as.length=ss.length:=Paired.length hP;have h6:=hS.len;unfold sM at q;refine gG (λh=>?_) (λh=>?_)
 · have h:¬ig ss s=true:=by simpa using h
   rw[Xo λz=>h z.1] at q;exact oN (q H1 S1)
 have h:ig ss s=true:=by simpa using h
 refine⟨_,rfl,t,s.map λn=>((n:Nat):Int),rfl,by rw[←Fb];exact S1.tup hT,by rw[Xn];omega,λp S n hp hn M6=>?_⟩;rw[Xn] at hn M6;rw[xn] at M6;have Sp:au H (upd H1 p (.set S n)):=S1.trans ((au.refl H1).laid hp);refine⟨p,S,n,rfl,ae,by omega,_,rfl,t,_,rfl,.inr (Sp.tup hT),_,_,rfl,rfl,_,rfl,?_⟩;rw[aN];refine gG (λh2=>?_) (λh2=>?_)
 · have h2:=XI h2;rw[Xo λz=>by have:=M6.mpr z.2;omega] at q;exact q _ Sp
 have h2:s.Nodup:=M6.mp (by have:¬((n:Nat):Int) < ((s.length:Nat):Int):=by simpa using h2
                            omega)
 rw[Xp ⟨h,h2⟩] at q;refine⟨_,rfl,_,rfl,t,_,rfl,.inr (Sp.tup hT),_,rfl,a,_,rfl,Sp.seq hA,λp2 NP=>?_⟩;rw[aN,qw,←ZT];have S2:au H (upd (upd H1 p (.set S n)) p2 (.lst ((as.drop s.length).map V.ref))):=Sp.trans ((au.refl _).laid NP);refine⟨p2,rfl,⟨_,aQ.of ae⟩,λD hD=>oG (K:=K) (a:=p2) (xs:=(as.drop s.length).map V.ref) (λi y H=>∃b si,(ss.drop s.length)[i]?=some si/\y=.ref b/\b≠D/\H b=some (.lst (nV (gE s si)))) (λi y H H' z ⟨b,si,z1,z2,z3,z4⟩=>⟨b,si,z1,z2,z3,z b _ z3 z4⟩) (aQ.of ae) hD (by rw[Xn,Yh];omega) ?_ ?_⟩
 · rintro i x H' hx S3 ⟨acc,RN⟩ R hR;obtain⟨ai,LZ,rfl⟩:=jA hx;obtain⟨si,Nq,hI⟩:=Paired.qO (Paired.dp s.length hP) LZ;have g:=hS.good si (YY (XT Nq));have:=mJ g.1 g.2;refine⟨rfl,_,rfl,_,rfl,ai,t,si,s,rfl,(S2.trans S3).seq hI,(S2.trans S3).tup hT,by omega,λH4 x S4 Tp NR=>hR _ _ S4 ⟨x,si,Nq,rfl,?_,NR⟩⟩;rintro rfl;rw[RN] at Tp;cases Tp
 · rintro ys H' S3 e l f;obtain⟨bs,rfl,hB⟩:=yF (zs:=ss.drop s.length) (G:=λb si=>b≠D/\H' b=some (.lst (nV (gE s si)))) (by rw[l,Xn,Yh,Yh,LA]) f;refine⟨D,(ss.drop s.length).map (gE s),rfl,⟨bs,aQ.of e,nJ hB λb si z=>aQ.of z.2⟩,hS.out _,λH2 S4=>q H2 ((S2.trans S3).trans S4)⟩
end
structure pC (Lx:List (List Key×V))(f:Z_->Nat):Prop where
 val:∀s,cS Lx (kL s)=if f s=0 then none else some (.int (f s:Nat))
 keys:∃ks:Z9,Lx.map (·.1)=ks.map kL/\ks.Nodup
theorem pC.get {Lx:List (List Key×V)}{f:Z_->Nat}(h:pC Lx f)(s:Z_):(cS Lx (kL s)).getD (.int 0)=.int (f s:Nat):=by
 rw[h.val s];by_cases z:f s=0
 · rw[Xp z,z];rfl
 · rw[Xo z];rfl
theorem pC.put {Lx:List (List Key×V)}{f g:Z_->Nat}(h:pC Lx f)(s:Z_)(hg:∀r,g r=if r=s then f s+1 else f r):pC (putK Lx (kL s) (.int (f s+1:Nat))) g:=by
 refine⟨λr=>?_,?_⟩
 · rw[qx,hg r];by_cases e:r=s
   · subst e;rw[Xp rfl,Xp rfl,Xo (by omega)]
   · rw[Xo λz=>e (B_ z),Xo e,h.val r]
 · obtain⟨ks,e,nd⟩:=h.keys;exact⟨_,u7 e,mm nd⟩
theorem A5 {Lx:List (List Key×V)}{k:List Key}{v:V}:(putK Lx k v).length<=Lx.length+1:=by
 unfold putK;split
 · rw[Xn];omega
 · rw[XM];exact Xx _
def um (R:Z9)(row:Z_)(j:Nat)(s:Z_):Nat:=pre R s+if s.length < j/\s.isPrefixOf row=true then 1 else 0
theorem zJ (R:Z9)(row s:Z_):um R row 0 s=pre R s:=by
 unfold um;rw[Xo (by omega),Nat.add_zero]
theorem AL (R:Z9)(row s:Z_):um R row (row.length+1) s=pre (R++[row]) s:=by
 unfold um pre;rw[List.countP_append,List.countP_singleton];congr 1;refine ka ⟨λh=>h.2,λh=>⟨?_,h⟩⟩;have:=(Z6.mp h).length_le;omega
theorem zw {R:Z9}{row:Z_}{j:Nat}(hj:j<=row.length)(s:Z_):um R row (j+1) s=if s=row.take j then um R row j (row.take j)+1 else um R row j s:=by
 have l:(row.take j).length=j:=by rw[XN];omega
 unfold um;by_cases e:s=row.take j
 · subst e;rw[Xp rfl,Xp ⟨by omega,Z6.mpr (List.take_prefix ..)⟩,Xo (by omega)]
 · rw[Xo e];congr 1;refine ka ⟨λh=>⟨?_,h.2⟩,λh=>⟨by omega,h.2⟩⟩;have:s.length≠j:=λz=>e (by rw[(List.prefix_iff_eq_take.mp (Z6.mp h.2)),z]);omega
section
variable {P:Program}{w:World}{K:aaa}{mg:aac}{base:Heap}
def Fm:Sp:=λvs H Q _=>∃(a:Addr) (R:Z9),vs=[.ref a]/\Bo H a R/\(∀r∈R,r.length<=3)/\R.length<=20000/\∀H' x Lx,au H H'->H x=none->H' x=some (.dT Lx)->pC Lx (pre R)->Q (.ref x) H'
theorem qv:aG ["rows","counts","row","size","start"] ["rows"] (aw eD):=fs
theorem Hl (G:GW mg)(N:GN mg){f:Addr}{fd:FuncData}(F:de K "count_starts" "count_starts" eD f fd):a8 P w K mg base bE 1 f fd ["rows"] Fm:=by
 refine F.oa qv λLz A outer s H vs Q E hr h=>?_;obtain⟨a,R,rfl,⟨qs,hA,hP⟩,h3,hl,q⟩:=h;have hu:=vS hr;refine⟨_,af (a7 1 qv.nd oS)
  (af (dm Yu rfl (bH (pv 0)) (bp 2 qv.nd)
   (ak (dm Yu rfl (gf rfl N.range (aa (bG ej (bg G.len (pv 2)) ax) ah)) (bp 3 qv.nd)
    (af (a7 4 qv.nd (dq Dv (pv 2) fX (dv (pv 3))))
    (ak (ma hu (pv 1) (pv 4) (bG ej (vF hu (pv 1) (pv 4) ax ⟨rfl,rfl,rfl,rfl⟩) ax) rfl))))))
  (ak (az (pv 1)))),?_⟩
 have NU:qs.length=R.length:=Paired.length hP;intro dc RO;have S0:au H (upd H dc (.dT [])):=(au.refl H).laid RO;refine⟨_,rfl,a,rfl,⟨_,aQ.of (S0 _ _ hA)⟩,cZ (K:=K) (a:=a) (xs:=qs.map V.ref) (λi σ H'=>∃(v2 v3 v4:Option V) (Lx:List (List Key×V)),σ=[some (.ref a),some (.ref dc),v2,v3,v4]/\au H H'/\H' dc=some (.dT Lx)/\pC Lx (pre (R.take i))/\Lx.length<=4*i)
  ⟨none,none,none,[],rfl,S0,ae,⟨λs=>rfl,[],rfl,by simp⟩,by simp⟩ (λi σ H' _ ⟨_,_,_,_,_,S,_⟩=>aQ.of (S _ _ hA)) ?_ ?_⟩
 · rintro i x σ H1 hi ⟨v2,v3,v4,Lx,rfl,S1,e1,k1,l1⟩;obtain⟨qa,RH,rfl⟩:=jA hi;obtain⟨row,NV,hT⟩:=Paired.qO hP RH;have LG:i < R.length:=(XB.mp NV).1;have r3:=h3 row (XT NV);refine pP (sY (jr (aU (ag rfl) (.inr (b7.of (S1 _ _ hT)))) aC) (by omega) (by rw[aN];omega) ?_);rw[aN,show (((row.length:Nat):Int)+1).toNat=row.length+1 by omega];refine ng (lo:=0) (n:=row.length+1) (λj σ H'=>∃(v3 v4:Option V) (Lx:List (List Key×V)),σ=[some (.ref a),some (.ref dc),some (.ref qa),v3,v4]/\au H H'/\H' dc=some (.dT Lx)/\pC Lx (um (R.take i) row j)/\Lx.length<=4*i+j)
    ⟨v3,v4,Lx,rfl,S1,e1,⟨λs=>by rw[zJ];exact k1.val s,k1.keys⟩,l1⟩ ?_ ?_
   · rintro j σ H2 hj ⟨v3,v4,Lx,rfl,S2,e2,k2,l2⟩;rw[Int.zero_add];refine⟨_,rfl,_,rfl,_,rfl,qa,_,rfl,S2 _ _ hT,λp H3 S3 hp=>?_⟩;rw[pD] at hp;have et:(nV row).take j=(kL (row.take j)).map kV:=by rw[EV];unfold nV;rw[List.map_take]
     rw[et] at hp;have e3:=S3 _ _ e2;refine⟨_,rfl,dc,rfl,.inr ⟨Lx,.inl e3⟩,_,rfl,_,gp.t e3 hp,_,_,k2.get _,rfl,_,rfl,_,rfl,dc,_,rfl,.inr ⟨Lx,_,p,e3,rfl,hp,by rw[XS];omega,rfl⟩,_,_,_,rfl,?_,ae,?_,?_⟩
     · intro b u z;rw[aq (ao z RO)];exact S3 b u (S2 b u z)
     · have:=k2.put (row.take j) (zw (R:=R.take i) (row:=row) (j:=j) (by omega));exact this
     · exact Yb A5 (by omega)
   · rintro σ H2 ⟨v3,v4,Lx,rfl,S2,e2,k2,l2⟩;refine⟨_,_,_,Lx,rfl,S2,e2,⟨λs=>?_,k2.keys⟩,by omega⟩;rw[k2.val s,AL,←take_snoc NV]
 · rintro σ H1 ⟨v2,v3,v4,Lx,rfl,S1,e1,k1,l1⟩;rw[Xn,NU,Ym] at k1;exact⟨_,rfl,q H1 dc Lx S1 RO e1 k1⟩
end
def lZ (k g p:V):List (Str×V):=[("kind",k),("grids",g),("picks",p)]
abbrev jv:List Str:=["kind","grids","picks"]
section
variable {a b c:V}
theorem x_:(lZ a b c).lookup ("kind":Str)=some a:=bR
theorem u_:(lZ a b c).lookup ("grids":Str)=some b:=by unfold lZ;rw[a9 (by decide +kernel)];exact bR
theorem uD:(lZ a b c).lookup ("picks":Str)=some c:=by unfold lZ;rw[a9 (by decide +kernel),a9 (by decide +kernel)];exact bR
theorem AG {f:Str}(h:¬f∈jv):(lZ a b c).lookup f=none:=oF h
end
def dA (K:aaa)(H:Hp)(a:Addr)(gs:List (Z9)):Prop:=∃as:List Addr,aQ K H a (as.map V.ref)/\Paired (bF K H) as gs
def dU (K:aaa)(CR:Addr)(H:Hp)(x:Addr)(kd:Tote.Kind)(gs:List (Z9)):Prop :=
 ∃dx ga pa Lx,H x=some (.ins CR dx (lZ (.str (st (cd (kindS kd)))) (.ref ga) (.ref pa)))/\dA K H ga gs/\uB kd gs/\H pa=some (.dT Lx)/\(kd=.any->pC Lx (pre (bx (gs.headD []))))
section
variable {K:aaa}{H H':Hp}{CR a x:Addr}{kd:Tote.Kind}{gs:List (Z9)}
theorem dA.same (h:dA K H a gs) (e:au H H'):dA K H' a gs:=by
 obtain⟨as,h1,h2⟩:=h;exact⟨as,e.seq h1,Paired.d8 h2 λ_ _ z=>z.same e⟩
theorem dA.jC {C dx:Addr}{fs:List (Str×V)}(h:dA K H a gs)(S:aK x H H')(hx:H x=some (.ins C dx fs)):dA K H' a gs:=by
 obtain⟨as,h1,h2⟩:=h;exact⟨as,S.seq hx h1,Paired.d8 h2 λ_ _ z=>aK.lists S hx z⟩
theorem dA.first (h:dA K H a gs)(ne:gs≠[]):∃(as:List Addr) (a0:Addr),aQ K H a (as.map V.ref)/\nW (as.map V.ref) 0=some (V.ref a0)/\bF K H a0 (gs.headD [])/\gs.headD []∈gs:=by
 obtain⟨as,h1,h2⟩:=h;cases h2 with
 |nil=>exact absurd rfl ne
 |@cons a0 g as gs h t=>exact⟨_,a0,h1,cw (j:=0) rfl,h,by simp⟩
theorem dU.same (h:dU K CR H x kd gs)(e:au H H'):dU K CR H' x kd gs:=by
 obtain⟨dx,ga,pa,Lx,h1,h2,h3,h4,h5⟩:=h;exact⟨dx,ga,pa,Lx,e _ _ h1,h2.same e,h3,e _ _ h4,h5⟩
theorem dU.jC {y C dy:Addr}{fs:List (Str×V)}(h:dU K CR H x kd gs)(S:aK y H H')(hy:H y=some (.ins C dy fs))(hl:fs.length≠3):dU K CR H' x kd gs:=by
 obtain⟨dx,ga,pa,Lx,h1,h2,h3,h4,h5⟩:=h;exact⟨dx,ga,pa,Lx,S _ _ h1 (dE h1 hy (Cg λz=>hl z.symm)),h2.jC S hy,h3,S _ _ h4 (dE h4 hy (by intro z;cases z)),h5⟩
end
theorem kind_any {kd:Tote.Kind}:decide (V.str (st (cd (kindS kd)))=V.str (Str.ofString "any"))=decide (kd=.any):=by
 rw[iA];cases kd <;> decide
theorem kind_ord {kd:Tote.Kind}:decide (V.str (st (cd (kindS kd)))=V.str (Str.ofString "order"))=decide (kd=.order):=by
 rw[iA];cases kd <;> decide
section
variable {P:Program}{w:World}{K:aaa}{mg:aac}{base:Heap}
def jZ (K:aaa) (CR:Addr):Sp:=λvs H Q _=>∃(x dx ga:Addr) (kd:Tote.Kind) (gs:List (Z9)),vs=[.ref x,.str (st (cd (kindS kd))),.ref ga]/\H x=some (.ins CR dx [])/\dA K H ga gs/\uB kd gs/\∀H',aK x H H'->dU K CR H' x kd gs->Q .cf H'
theorem Cm:aG ["self","kind","grids"] ["self","kind","grids"] (aw gW):=fs
theorem BG {CR:Addr}(T:CK K mg "Rows" jv CR){k:Nat}(FC:Fn P w K mg base bE k "count_starts" ["rows"] Fm)(FP:Fn P w K mg base bE k "picks_of" ["sets"] (rV K)){f:Addr}{fd:FuncData}(F:de K "__init__" "Rows.__init__" gW f fd):a8 P w K mg base bE (k+1) f fd ["self","kind","grids"] (jZ K CR):=by
 refine F.oa Cm λLz A outer s H vs Q E hr h=>?_;obtain⟨x,dx,ga,kd,gs,rfl,hx,hG,o,q⟩:=h;refine⟨_,af (cD (pv 0) (pv 1) rfl) (af (cD (pv 0) (pv 2) rfl) (ak (cD (pv 0) (A4 (aB ck (pv 1) bt (aJ _)) (aS FC hr a_ (aa (aS FP hr a_ (aa (bo aL (pv 2) ax (λ_ _=>rfl)) ah)) ah)) oS) rfl))),?_⟩;refine⟨_,rfl,_,rfl,x,CR,dx,[],rfl,hx,T.cl,T.no _ (by simp),(by show 0 < 1000;decide),?_⟩;refine⟨_,rfl,_,rfl,x,CR,dx,_,rfl,ae,T.cl,T.no _ (by simp),(by show 1 < 1000;decide),?_⟩;rw[cI]
 repeat (first|rw[bQ]|rw[bc (by decide +kernel)])
 have S1:aK x H (upd H x (.ins CR dx [("kind",.str (st (cd (kindS kd)))),("grids",.ref ga)])):=(aK.refl x H).upd;have Mq:(upd H x (.ins CR dx [("kind",.str (st (cd (kindS kd)))),("grids",.ref ga)])) x=some (.ins CR dx [("kind",.str (st (cd (kindS kd)))),("grids",.ref ga)]):=ae;generalize upd H x (.ins CR dx [("kind",.str (st (cd (kindS kd)))),("grids",.ref ga)])=H1 at S1 Mq;have WM:=hG.jC S1 hx;have fin:∀(H2:Hp) (pa:Addr) (Lx:List (List Key×V)),au H1 H2->H2 pa=some (.dT Lx)->(kd=.any->pC Lx (pre (bx (gs.headD []))))->Q .cf (upd H2 x (.ins CR dx (lZ (.str (st (cd (kindS kd)))) (.ref ga) (.ref pa)))):=λH2 pa Lx S2 hp hk=>by
  have SX:aK x H (upd H2 x (.ins CR dx (lZ (.str (st (cd (kindS kd)))) (.ref ga) (.ref pa)))):=(S1.trans S2.x).upd;exact q _ SX ⟨dx,ga,pa,Lx,ae,hG.jC SX hx,o,by rw[aq (dE hp (S2 _ _ Mq) (by intro z;cases z))];exact hp,hk⟩
 have last:∀(H2:Hp) (pa:Addr) (Lx:List (List Key×V)),au H1 H2->H2 pa=some (.dT Lx)->(kd=.any->pC Lx (pre (bx (gs.headD []))))->Q .cf (upd H2 x (.ins CR dx (eG "picks" (.ref pa) [("kind",.str (st (cd (kindS kd)))),("grids",.ref ga)]))):=λH2 pa Lx S2 hp hk=>by
  rw[bc (by decide +kernel),bc (by decide +kernel),bQ];exact fin H2 pa Lx S2 hp hk
 refine (aI (b9 (ag rfl) aC)) _ ?_;rw[kind_any];refine gG (λh=>?_) (λh=>?_)
 · have h:=XI h;obtain⟨as,a0,hA,h0,hL,hm⟩:=WM.first o.ne
   have sg:=o.ok _ hm;have l3:=o.any h _ hm;generalize gs.headD []=g at hL sg l3 last;refine (a6 (ag rfl) aC hA h0) _ ⟨a0,g,rfl,hL,sg,l3,λH2 xp S2 Mx=>⟨xp,_,rfl,Mx,λr hm=>?_,?_,λH3 xd Lx S3 hxd e3 k3=>?_⟩⟩
   · rw[(j2 ((j4 g r).mp hm).2).1];exact l3
   · have:=mQ 3 g λs hs=>mJ (sg.good s hs).1 (sg.good s hs).2;rw[Yl l3] at this;exact Yb this (by decide)
   · exact⟨_,rfl,x,CR,dx,_,rfl,S3 _ _ (S2 _ _ Mq),T.cl,T.no _ (by simp),(by show 2 < 1000;decide),last H3 xd Lx (S2.trans S3) e3 λ_=>k3⟩
 · have h:=X8 (by simpa using h);intro d hd;exact⟨_,rfl,x,CR,dx,_,rfl,((au.refl H1).laid hd) _ _ Mq,T.cl,T.no _ (by simp),(by show 2 < 1000;decide),last _ d [] ((au.refl H1).laid hd) ae λz=>absurd z h⟩
def uc (K:aaa)(CR:Addr):Sp:=λvs H Q _=>∃(x t:Addr) (kd:Tote.Kind) (gs:List (Z9)) (s:Z_),vs=[.ref x,.ref t]/\dU K CR H x kd gs/\H t=some (.tup (nV s))/\(∀g∈gs,s.length<=g.length)/\∀H',au H H'->Q (.int (pre (rS kd gs) s:Nat)) H'
theorem ju:aG ["self","start","grid"] ["self","start"] (aw dO):=fs
theorem A3 {CR:Addr}(N:GN mg)(T:CK K mg "Rows" jv CR){k:Nat}(FO:Fn P w K mg base bE k "count_orders" ["sets","start"] (iN K sM))(FL:Fn P w K mg base bE k "count_legs" ["sets","start"] (iN K kW)){f:Addr}{fd:FuncData}(F:de K "starting" "Rows.starting" dO f fd):a8 P w K mg base bE (k+1) f fd ["self","start"] (uc K CR):=by
 refine F.oa ju λLz A outer s H vs Q E hr h=>?_;obtain⟨x,t,kd,gs,s,rfl,⟨dx,ga,pa,Lx,hx,hG,o,hp,hk⟩,hT,hl,q⟩:=h;have hu:=vS hr;refine⟨_,af (aO (aB ck (aY (pv 0) rfl) bt (aJ _)) (ak (az (vF hu (aY (pv 0) rfl) (pv 1) ax ⟨rfl,rfl,rfl,rfl⟩))) aA)
  (af (aO (aB ck (aY (pv 0) rfl) bt (aJ _)) (ak (az (bY (xr rfl) (by rfl) N.sum (by decide +kernel) (aa (fA (te:=nE (iN K sM) [] E0 (cM (cH 2) (cM (cH 1) eV))) rfl ju.nd (bH (aY (pv 0) rfl)) (bz (own:=[("grid",2)]) rfl) (λ_ _ _ _ _=>bp 2 ju.nd) (λ_ _ _ _ _=>cq) (λ_ _ _ _ _=>aS FO (by first|exact hr|exact hr.qK) a_ (aa (pv 2) (aa (pv 1) ah)))) ah)))) aA)
  (ak (az (bY (xr rfl) (by rfl) N.sum (by decide +kernel) (aa (fA (te:=nE (iN K kW) [] E0 (cM (cH 2) (cM (cH 1) eV))) rfl ju.nd (bH (aY (pv 0) rfl)) (bz (own:=[("grid",2)]) rfl) (λ_ _ _ _ _=>bp 2 ju.nd) (λ_ _ _ _ _=>cq) (λ_ _ _ _ _=>aS FL (by first|exact hr|exact hr.qK) a_ (aa (pv 2) (aa (pv 1) ah)))) ah))))),?_⟩
 have Tq:∀{σ:L2.St},σ[0]?=some (some (V.ref x))->Ev (vJ K (cH 0) "kind") σ H (.str (st (cd (kindS kd)))):=λz=>bf (ag z) hx T.cl (T.no _ (by simp)) x_;have WN:∀{σ:L2.St},σ[0]?=some (some (V.ref x))->Ev (vJ K (cH 0) "grids") σ H (.ref ga):=λz=>bf (ag z) hx T.cl (T.no _ (by simp)) u_;have many:∀(r:Z9->Z_->Nat) (R:VK),(∀H',au H H'->R (.int (((gs.map λg=>r g s).sum:Nat))) H')->(HM (FU K (vJ K (cH 0) "grids")) (fH 2) AV (nE (iN K r) [] E0 (cM (cH 2) (cM (cH 1) eV))) [2]) [some (.ref x),some (.ref t),none] H λv H'=>I_ K [v] H' R:=by
  intro r R hR;obtain⟨as,hA,hP⟩:=hG;have LA:as.length=gs.length:=Paired.length hP;refine yf ?_;show vJ _ _ _ _ _ _;refine WN rfl _ ⟨ga,rfl,⟨_,hA⟩,λD hD=>oG (K:=K) (a:=ga) (xs:=as.map V.ref) (λi y _=>∃g,gs[i]?=some g/\y=.int (r g s:Nat)) (λi y H H' _ z=>z) hA hD (by rw[Xn,LA];have:=o.v9;omega) ?_ ?_⟩
  · rintro i v H' hi S _ R hR;obtain⟨ai,LZ,rfl⟩:=jA hi;obtain⟨g,hg,hL⟩:=Paired.qO hP LZ;have mg:=XT hg;exact⟨rfl,_,rfl,_,rfl,ai,t,g,s,rfl,hL.same S,b7.of (S _ _ hT),o.ok g mg,hl g mg,λH4 S4=>hR _ _ S4 ⟨g,hg,rfl⟩⟩
  · rintro ys H' S e l f;have ey:ys=((gs.map λg=>r g s).map λn=>((n:Nat):Int)).map V.int:=by
     refine xW (by rw[l];simp[LA]) λi y hy=>?_;obtain⟨g,hg,rfl⟩:=f i y hy;rw[Xs,Xs,Xs,hg];rfl
    subst ey;refine⟨D,_,rfl,aQ.of e,?_⟩;rw[oU];exact hR H' S
 refine aR (aI (b9 (Tq rfl) aC)) (λh=>?_) (λh=>?_)
 · rw[kind_any] at h;have h:=XI h;have SE:=hk h;subst h;show vJ _ _ _ _ _ _;refine (bf (ag rfl) hx T.cl (T.no _ (by simp)) uD) _ ⟨pa,rfl,.inr ⟨Lx,.inl hp⟩,_,rfl,_,gp.t hp (k:=kL s) (by rw[EV];exact hT),?_⟩;show Q ((cS Lx (kL s)).getD (.int 0)) H;rw[SE.get s];exact q H (au.refl H)
 rw[kind_any] at h;have na:=X8 h;refine aR (aI (b9 (Tq rfl) aC)) (λh=>?_) (λh=>?_)
 · rw[kind_ord] at h;have h:=XI h;subst h;refine many sM _ λH' S=>?_;rw[zI o hl];exact q H' S
 rw[kind_ord] at h;have no:=X8 h;refine many kW _ λH' S=>?_;rw[BF no na o hl];exact q H' S
end
abbrev dN (s:Z_):List PyData:=s.map λn=>.int (n:Nat)
theorem vw:∀s t:Z_,PyData.eqvAll (dN s) (dN t)=(s==t)
 |[],[]=>by simp[PyData.eqvAll]
 |[],_::_=>by simp[PyData.eqvAll]
 |_::_,[]=>by simp[PyData.eqvAll]
 |x::s,y::t=>by
  have ih:=vw s t;have e:(((x:Nat):Int)==((y:Nat):Int))=(x==y):=by rw[X3,Ye,Ye];omega
  show (PyData.eqv (.int (x:Nat)) (.int (y:Nat))&&PyData.eqvAll (dN s) (dN t))=_;rw[ih];simp only[PyData.eqv];rw[e];rfl
theorem shaped_ints (s:Z_):SeqAt.shaped (.list (dN s))=true:=by
 have h1:∀s:Z_,PyData.canLayAll0 (dN s)=true:=λs=>by
  induction s with
  |nil=>simp[PyData.canLayAll0]
  |cons x s ih=>show (PyData.canLay0 (.int (x:Nat))&&PyData.canLayAll0 (dN s))=true;rw[ih];simp[PyData.canLay0]
 have h2:∀s:Z_,PyData.depthAll (dN s)=0:=λs=>by
  induction s with
  |nil=>simp[PyData.depthAll]
  |cons x s ih=>show max (PyData.depth (.int (x:Nat))) (PyData.depthAll (dN s))=0;rw[ih];simp[PyData.depth]
 unfold SeqAt.shaped;rw[Xv,Xw];refine⟨?_,?_⟩
 · simp only[PyData.canLay0];exact h1 s
 · simp only[PyData.depth];rw[h2];decide
theorem zc {K:aaa}{H:Hp}{c:Addr}{s:Z_}(h:aQ K H c (nV s)):Dp K H (.ref c) (.list (dN s)):=by
 refine .lst h ?_;clear h
 induction s with
 |nil=>exact .nil
 |cons x s ih=>exact .cons (.int _) ih
def RS (K:aaa)(sd:Addr)(H:Hp)(c:Addr)(xs:List V):Prop:=∀H',aK sd H H'->aQ K H' c xs
def RL (K:aaa)(sd:Addr)(H:Hp)(b:Addr)(g:Z9):Prop:=∃as:List Addr,RS K sd H b (as.map V.ref)/\Paired (λc s=>RS K sd H c (nV s)) as g
section
variable {K:aaa}{sd b c:Addr}{H H':Hp}{xs:List V}{g:Z9}
theorem RS.of (h:H c=some (.lst xs)) (n:c≠sd):RS K sd H c xs:=λ_ S=>aQ.of (S _ _ h n)
theorem RS.old (h:aQ K H c xs)(n:H sd=none)(S:au H H'):RS K sd H' c xs:=λ_ SX=>au.seq (λb u z=>SX b u (S b u z) (ao z n)) h
theorem RS.step (h:RS K sd H c xs)(S:aK sd H H'):RS K sd H' c xs:=λ_ T=>h _ (S.trans T)
theorem RL.step (h:RL K sd H b g)(S:aK sd H H'):RL K sd H' b g:=by
 obtain⟨as,h1,h2⟩:=h;exact⟨as,h1.step S,Paired.d8 h2 λ_ _ z=>z.step S⟩
theorem RL.lists (h:RL K sd H b g):bF K H b g:=by
 obtain⟨as,h1,h2⟩:=h;exact⟨as,h1 _ (aK.refl sd H),Paired.d8 h2 λ_ _ z=>z _ (aK.refl sd H)⟩
end
theorem gm {α β:Type}{F:α->β->Prop}:∀{l:List α} {m:List β} {l':List α} {m':List β},Paired F l m->Paired F l' m'->Paired F (l++l') (m++m')
 |_,_,_,_,.nil,h=>h
 |_,_,_,_,.cons h t,k=>.cons h (gm t k)
section
variable {P:Program}{w:World}{K:aaa}{mg:aac}{base:Heap}
def qk (K:aaa) (CR:Addr):Sp:=λvs H Q _=>∃(a:Addr) (kd:Tote.Kind) (ss:Z9),vs=[.str (st (cd (kindS kd))),.ref a]/\bF K H a ss/\uB kd [ss]/\∀H' x,au H H'->dU K CR H' x kd [ss]->Q (.ref x) H'
theorem HP:aG ["kind","sets"] ["kind","sets"] (aw j_):=fs
theorem made {CR:Addr}{H H1:Hp}{Q:VK}{ga:Addr}{kd:Tote.Kind}{gs:List (Z9)}(S:au H H1)(hG:dA K H1 ga gs)(o:uB kd gs)(q:∀H' x,au H H'->dU K CR H' x kd gs->Q (.ref x) H')(x dx:Addr)(hx:H1 x=none)(Mg:H1 dx=none)(nx:dx≠x) :
  jZ K CR [.ref x,.str (st (cd (kindS kd))),.ref ga] (upd (upd H1 dx (.own x)) x (.ins CR dx [])) (λv H2=>v=.cf/\Q (.ref x) H2) E0:=by
 have S1:au H1 (upd (upd H1 dx (.own x)) x (.ins CR dx [])):=((au.refl H1).laid Mg).laid hx;exact⟨x,dx,ga,kd,gs,rfl,ae,hG.same S1,o,λH' SX hR=>⟨rfl,q H' x (λb u z=>SX b u (S1 b u (S b u z)) (ao (S b u z) hx)) hR⟩⟩
theorem Hf {CR:Addr}(T:CK K mg "Rows" jv CR){k:Nat}(FR:xY P w K mg base bE k CR ["self","kind","grids"] (jZ K CR)){f:Addr}{fd:FuncData}(F:de K "rows_on" "rows_on" j_ f fd):a8 P w K mg base bE (k+2) f fd ["kind","sets"] (qk K CR):=by
 refine F.oa HP λLz A outer s H vs Q E hr h=>?_;obtain⟨a,kd,ss,rfl,hL,o,q⟩:=h;refine⟨_,ak (az (qi FR hr T.mg a_ (aa (pv 0) (aa (bV (aa (pv 1) ah)) ah)))),?_⟩;refine⟨_,rfl,_,rfl,by show 1<=sizeLine;decide,λl hl=>?_⟩;have S1:au H (upd H l (.lst [V.ref a])):=(au.refl H).laid hl;exact λx dx hx Mg nx=>made S1 ⟨[a],aQ.of ae,.cons (hL.same S1) .nil⟩ o q x dx hx Mg nx
def qX (K:aaa)(CR:Addr):Sp:=λvs H Q _=>∃(a:Addr) (k:Nat) (kd:Tote.Kind) (s:Z_),vs=[.str (st (cd (kindS kd))),.int (k:Nat),.ref a]/\aQ K H a (nV s)/\k<=6/\uB kd [List.replicate k s]/\∀H' x,au H H'->dU K CR H' x kd [List.replicate k s]->Q (.ref x) H'
theorem tH:aG ["kind","size","numbers","place"] ["kind","size","numbers"] (aw iH):=fs
theorem yR {te:TE}{σ:L2.St}{H:Hp}{Q:VK}(h:te σ H λx H1=>1<=sizeLine/\∀p,H1 p=none->Q (.ref p) (upd H1 p (.lst [x]))):Jl (cM te eV) σ H Q:=h
theorem HR {te:TE}{n:Nat}{D:Ends}{σ:L2.St}{H:Hp}(h:te σ H λv H'=>D.nx (σ.set n (some v)) H'):An te (fH n) D σ H:=h
theorem yI {k n m:Nat}{vs:Z_}{a:Addr}{σ:L2.St}{H:Hp}{Q:VK}{ta:TA}{g:TG}(hk:k<=6)(ha:∀R:List V->Hp->Prop,R [.int (k:Nat)] H->ta σ H R)(hg:g=fH n)(WO:vs=[n])(hv:∀i:Int,((wipe σ [n]).set n (some (.int i)))[m]?=some (some (.ref a))/\wipe ((wipe σ [n]).set n (some (.int i))) [n]=wipe σ [n])
  (q:∀D H',H D=none->au H H'->H' D=some (.lst (List.replicate k (V.ref a)))->Q (.ref D) H'):(HM (AO ta) g AV (cH m) vs) σ H Q:=by
 subst hg WO;refine yf (ha _ ⟨_,rfl,by omega,by omega,λD hD=>?_⟩);rw[X9];refine lK (lo:=0) (n:=k) (λi H'=>au H H'/\H' D=some (.lst (List.replicate i (V.ref a)))) ⟨(au.refl H).laid hD,ae⟩ ?_ ?_
 · rintro i H' hi ⟨k1,k2⟩;refine⟨(hv _).2,_,(hv _).1,_,k2,by rw[XZ,XS];omega,λb u z=>?_,?_⟩
   · rw[aq (ao z hD)];exact k1 b u z
   · rw[ae,List.replicate_succ']
 · rintro H' ⟨k1,k2⟩;exact q D H' hD k1 k2
theorem sF {H:Hp}{D a:Addr}{k:Nat}{s:Z_}(h:H D=some (.lst (List.replicate k (V.ref a))))(hs:aQ K H a (nV s)):bF K H D (List.replicate k s):=⟨List.replicate k a,aQ.of (by rw[h,List.map_replicate]),Paired.rep (F:=hZ K H) hs k⟩
theorem Du {CR:Addr}(N:GN mg)(T:CK K mg "Rows" jv CR){k:Nat}(FR:xY P w K mg base bE k CR ["self","kind","grids"] (jZ K CR)){f:Addr}{fd:FuncData}(F:de K "rows_box" "rows_box" iH f fd):a8 P w K mg base bE (k+2) f fd ["kind","size","numbers"] (qX K CR):=by
 refine F.oa tH λLz A outer s H vs Q E hr h=>?_;obtain⟨a,n,kd,ss,rfl,hS,h6,o,q⟩:=h;refine⟨_,ak (az (qi FR hr T.mg a_ (aa (pv 0) (aa (bV (aa (fA (te:=cH 2) rfl tH.nd (gf rfl N.range (aa (pv 1) ah)) (bz (own:=[("place",3)]) rfl) (λ_ _ _ _ _=>bp 3 tH.nd) (λ_ _ _ _ _=>cq) (λ_ _ _ _ _=>pv 2)) ah)) ah)))),?_⟩;refine⟨_,rfl,yR (yI h6 (λR r=>⟨_,rfl,r⟩) rfl rfl (λi=>⟨rfl,rfl⟩) λD H1 hD S1 e1=>⟨by show 1<=sizeLine;decide,λl hl=>?_⟩)⟩;have S2:au H1 (upd H1 l (.lst [V.ref D])):=(au.refl H1).laid hl;exact λx dx hx Mg nx=>made (S1.trans S2) ⟨[D],aQ.of ae,.cons ((sF e1 (S1.seq hS)).same S2) .nil⟩ o q x dx hx Mg nx
end
section
variable {P:Program}{w:World}{K:aaa}{mg:aac}{base:Heap}
def K5 (K:aaa) (H:Hp) (a:Addr) (gs:List (Z9)):Prop:=∃bs:List Addr,H a=some (.lst (bs.map V.ref))/\Paired (bF K H) bs gs
def xl (K:aaa):Sp:=λvs H Q _=>∃(a b:Addr) (k:Nat) (A B:Z_),vs=[.int (k:Nat),.ref a,.ref b]/\aQ K H a (nV A)/\aQ K H b (nV B)/\k<=4/\A.length<=3/\∀H' x,au H H'->K5 K H' x (bC B A [List.replicate k B])->Q (.ref x) H'
theorem f9:aG ["size","bankers","others","grids","banker","seated","grid","place"] ["size","bankers","others"] (aw gu):=fs
theorem Ex (N:GN mg){f:Addr}{fd:FuncData}(F:de K "seatings" "seatings" gu f fd):a8 P w K mg base bE 1 f fd ["size","bankers","others"] (xl K):=by
 refine F.oa f9 λLz A outer s H vs Q E hr h=>?_;obtain⟨a,b,k,Bk,B,rfl,hA,hB,h4,h3,q⟩:=h;have hu:(A.deeper (envOfC "seatings" (aw gu) s.heap.objs.size f Lz)).units+64 < cLine:=by have:=hr.un;omega
 refine⟨_,af (a7 3 f9.nd (bV (aa (fA (te:=cH 2) rfl f9.nd (gf rfl N.range (aa (pv 0) ah)) (bz (own:=[("place",7)]) rfl) (λ_ _ _ _ _=>bp 7 f9.nd) (λ_ _ _ _ _=>cq) (λ_ _ _ _ _=>pv 2)) ah)))
  (af (dm Yu rfl (bH (pv 1)) (bp 4 f9.nd)
   (af (a7 5 f9.nd (bV ah))
   (af (dm Yu rfl (bH (pv 3)) (bp 6 f9.nd)
    (ak (dm Yu rfl (gf rfl N.range (aa (pv 0) ah)) (bp 7 f9.nd)
     (ak (aO (aB (HX hu) (bo aL (pv 6) (pv 7) (λ_ _=>rfl)) (pv 2) (aJ _))
      (ak (dR (qA PySem.F.plainAttrs_list PySem.F.slot_list_append PySem.F.type_list_append ic (pv 5) (aa (bG yc (bG yc (dq fW (pv 6) fX (dv (pv 7))) (bV (aa (bV (aa (pv 4) ah)) ah))) (dq fW (pv 6) (dv (bG ej (pv 7) ax)) fX)) ah)))) aA)))))
   (ak (a7 3 f9.nd (pv 5))))))
  (ak (az (pv 3)))),?_⟩
 refine Hj (HR (yR (yI (by omega) (λR r=>⟨_,rfl,r⟩) rfl rfl (λi=>⟨rfl,rfl⟩) λD0 H0 M1 S0 e0=>⟨by show 1<=sizeLine;decide,λg0 WQ=>?_⟩)));have S1:au H0 (upd H0 g0 (.lst [V.ref D0])):=(au.refl H0).laid WQ;have gk:∀i,∀g∈bC B (Bk.take i) [List.replicate k B],g.length=k:=λi=>yu λg hg=>by rw[XC.mp hg,XZ]
 have gn:∀i,(bC B (Bk.take i) [List.replicate k B]).length<=64:=λi=>by
  have z:=mM (B:=B) (A:=Bk.take i) (k:=k) (gs:=[List.replicate k B]) (λg hg=>by rw[XC.mp hg,XZ]);have pw:k ^ (Bk.take i).length<=4 ^ 3:=Yb (Nat.pow_le_pow_left h4 _) (Zq (by decide) (by rw[XN];omega));rw[YC,Nat.one_mul] at z;omega
 refine⟨_,rfl,a,rfl,⟨_,(S0.trans S1).seq hA⟩,cZ (K:=K) (a:=a) (xs:=nV Bk) (λi σ H'=>∃(gr:Addr) (v4 v5 v6 v7:Option V),σ=[some (.int (k:Nat)),some (.ref a),some (.ref b),some (.ref gr),v4,v5,v6,v7]/\au H H'/\K5 K H' gr (bC B (Bk.take i) [List.replicate k B]))
  ⟨g0,none,none,none,none,rfl,S0.trans S1,[D0],ae,.cons ((sF e0 (S0.seq hB)).same S1) .nil⟩ (λi σ H' _ ⟨_,_,_,_,_,_,S,_⟩=>S.seq hA) ?_ ?_⟩
 · rintro i x σ H1 hi ⟨gr,v4,v5,v6,v7,rfl,SH,bs,eg,hP⟩;obtain⟨bk,WR,rfl⟩:=yZ hi;have k1:=gk i;have n1:=gn i;have en:bC B (Bk.take (i+1)) [List.replicate k B]=(bC B (Bk.take i) [List.replicate k B]).flatMap (jn bk B):=by rw[take_snoc WR,xH]
   generalize bC B (Bk.take i) [List.replicate k B]=gs at hP k1 n1 en;have RP:bs.length=gs.length:=Paired.length hP;refine⟨XW _,λsd RQ=>?_⟩;have S2:au H1 (upd H1 sd (.lst [])):=(au.refl H1).laid RQ;refine⟨_,rfl,gr,rfl,⟨_,S2.seq (aQ.of eg)⟩,cZ (K:=K) (a:=gr) (xs:=bs.map V.ref) (λj σ H'=>∃(v6 v7:Option V) (cs:List Addr),σ=[some (.int (k:Nat)),some (.ref a),some (.ref b),some (.ref gr),some (.int (bk:Nat)),some (.ref sd),v6,v7]/\au H1 H'/\H' sd=some (.lst (cs.map V.ref))/\Paired (RL K sd H') cs ((gs.take j).flatMap (jn bk B)))
    ⟨v6,v7,[],rfl,S2,ae,.nil⟩ (λj σ H' _ ⟨_,_,_,_,S,_⟩=>aQ.of (S _ _ eg)) ?_ ?_⟩
   · rintro j x σ H2 hj ⟨v6,v7,cs,rfl,S3,e3,hC⟩;obtain⟨bj,WS,rfl⟩:=jA hj;obtain⟨g,hg,as,RR,Mz⟩:=Paired.qO hP WS;have N6:j < gs.length:=(XB.mp hg).1;have gl:=k1 g (XT hg);have LA:as.length=g.length:=Paired.length Mz;have Tr:(gs.take (j+1)).flatMap (jn bk B)=(gs.take j).flatMap (jn bk B)++kK bk B g k:=by
      rw[take_snoc hg,List.flatMap_append,←gl,qW];simp
     have ln:((gs.take j).flatMap (jn bk B)).length<=256:=by
      have z:=pT (f:=jn bk B) (c:=4) (l:=gs.take j) λg' WT=>Yb (sS g') (by rw[k1 g' (Y6 WT)];exact h4);rw[XN] at z;have:min j gs.length<=64:=by omega
      omega
     generalize (gs.take j).flatMap (jn bk B)=had at hC Tr ln;refine pP (sY (ag rfl) (by omega) (by omega) ?_);rw[X9];refine ng (lo:=0) (n:=k) (λp σ H'=>∃(v7:Option V) (cs:List Addr),σ=[some (.int (k:Nat)),some (.ref a),some (.ref b),some (.ref gr),some (.int (bk:Nat)),some (.ref sd),some (.ref bj),v7]/\au H1 H'/\H' sd=some (.lst (cs.map V.ref))/\Paired (RL K sd H') cs (had++kK bk B g p))
      ⟨v7,cs,rfl,S3,e3,by simpa [kK] using hC⟩ ?_ ?_
     · rintro p σ H3 hp ⟨v7,cs,rfl,S4,e4,hC⟩;rw[Int.zero_add];have hpg:p < g.length:=by omega
       have MS:p < as.length:=by omega
       have ha:as[p]?=some as[p]:=Xy MS;obtain⟨sp,Mb,hI⟩:=Paired.qO Mz ha;have WU:g.getD p []=sp:=by rw[X7,Mb];rfl
       have eS:=xk bk B g p;rw[WU] at eS;have lc:cs.length<=300:=by
        have z:=Paired.length hC;rw[XM] at z;have:=zt (a:=bk) (B:=B) (g:=g) (j:=p);omega
       refine (a6 (ag rfl) (ag rfl) (S4.seq RR) (cw (by rw[Xs,ha];rfl))) _ ⟨_,rfl,_,_,zc (S4.seq hI),zc ((SH.trans S4).seq hB),shaped_ints sp,shaped_ints B,_,rfl,?_⟩;have ee:PyData.eqv (.list (dN sp)) (.list (dN B))=(sp==B):=by simp only[PyData.eqv];exact vw sp B
       rw[ee];refine gG (λh=>?_) (λh=>?_)
       · rw[Xp h] at eS;refine⟨_,rfl,.inl ⟨rfl,_,aQ.of e4⟩,_,rfl,_,rfl,_,rfl,bj,_,rfl,S4.seq RR,λq1 WV=>?_⟩;rw[pD];refine⟨_,rfl,by show 1<=sizeLine;decide,λq2 RT=>⟨by show 1<=sizeLine;decide,λq3 RU=>?_⟩⟩;have T1:au H3 (upd H3 q1 (.lst ((as.map V.ref).take p))):=(au.refl H3).laid WV;have f1:(upd H3 q1 (.lst ((as.map V.ref).take p))) q1=some (.lst ((as.map V.ref).take p)):=ae;generalize upd H3 q1 (.lst ((as.map V.ref).take p))=h1 at T1 f1 RT RU ⊢;have T2:au h1 (upd h1 q2 (.lst [V.int (bk:Nat)])):=(au.refl h1).laid RT;have f2:(upd h1 q2 (.lst [V.int (bk:Nat)])) q2=some (.lst [V.int (bk:Nat)]):=ae;generalize upd h1 q2 (.lst [V.int (bk:Nat)])=h2 at T2 f2 RU ⊢;have T3:au h2 (upd h2 q3 (.lst [V.ref q2])):=(au.refl h2).laid RU;have f3:(upd h2 q3 (.lst [V.ref q2])) q3=some (.lst [V.ref q2]):=ae;generalize upd h2 q3 (.lst [V.ref q2])=h3 at T3 f3 ⊢;refine⟨q1,q3,_,_,rfl,rfl,T3 _ _ (T2 _ _ f1),f3,by rw[XN,Xn,XS];show _+1<=_;omega,λq4 WW=>?_⟩;have T4:au h3 (upd h3 q4 (.lst ((as.map V.ref).take p++[V.ref q2]))):=(au.refl h3).laid WW;have f4:(upd h3 q4 (.lst ((as.map V.ref).take p++[V.ref q2]))) q4=some (.lst ((as.map V.ref).take p++[V.ref q2])):=ae;generalize upd h3 q4 (.lst ((as.map V.ref).take p++[V.ref q2]))=Oj at T4 f4 ⊢;have T:au H3 Oj:=((T1.trans T2).trans T3).trans T4;refine⟨_,rfl,(jr (ag rfl) aC) _ ⟨_,rfl,bj,_,rfl,(S4.trans T).seq RR,λq5 WX=>?_⟩⟩;rw[show ((p:Nat):Int)+1=((p+1:Nat):Int) by omega,qw];have T5:au Oj (upd Oj q5 (.lst ((as.map V.ref).drop (p+1)))):=(au.refl Oj).laid WX;have f5:(upd Oj q5 (.lst ((as.map V.ref).drop (p+1)))) q5=some (.lst ((as.map V.ref).drop (p+1))):=ae;generalize upd Oj q5 (.lst ((as.map V.ref).drop (p+1)))=h5 at T5 f5 ⊢;refine⟨q4,q5,_,_,rfl,rfl,T5 _ _ f4,f5,by rw[XM,XN,Yh,Xn,XS];show _+1+_<=_;omega,λq6 Ts=>?_⟩;have T6:au h5 (upd h5 q6 (.lst ((as.map V.ref).take p++[V.ref q2]++(as.map V.ref).drop (p+1)))):=(au.refl h5).laid Ts;have f6:(upd h5 q6 (.lst ((as.map V.ref).take p++[V.ref q2]++(as.map V.ref).drop (p+1)))) q6=some (.lst ((as.map V.ref).take p++[V.ref q2]++(as.map V.ref).drop (p+1))):=ae;have WY:q6≠sd:=(ao (T5 _ _ (T _ _ e4)) Ts).symm;have WZ:q2≠sd:=(ao (T1 _ _ e4) RT).symm;generalize upd h5 q6 (.lst ((as.map V.ref).take p++[V.ref q2]++(as.map V.ref).drop (p+1)))=h6 at T6 f6 ⊢;have TT:au H3 h6:=(T.trans T5).trans T6;have W0:h6 q2=some (.lst [V.int (bk:Nat)]):=T6 _ _ (T5 _ _ (T4 _ _ (T3 _ _ f2)));refine⟨sd,_,_,rfl,rfl,TT _ _ e4,by rw[Xn,XS];omega,some (.int (p:Nat)),cs++[q6],rfl,?_,by rw[ae,XH];rfl,?_⟩
         · intro c u z;rw[aq (ao z RQ)];exact TT c u (S4 c u z)
         · have SX:aK sd H3 (upd h6 sd (.lst (cs.map V.ref++[V.ref q6]))):=(TT.x).upd;have Ol:aK sd h6 (upd h6 sd (.lst (cs.map V.ref++[V.ref q6]))):=(aK.refl sd h6).upd;have S6:au H1 h6:=S4.trans TT;rw[eS,←YS];refine gm (Paired.d8 hC λ_ _ z=>z.step SX) (.cons ⟨as.take p++[q2]++as.drop (p+1),?_,?_⟩ .nil)
           · refine RS.step (RS.of ?_ WY) Ol;rw[f6,XH,XH,List.map_take,ZT];rfl
           · have old:Paired (λc s=>RS K sd (upd h6 sd (.lst (cs.map V.ref++[V.ref q6]))) c (nV s)) as g:=Paired.d8 Mz λc s z=>RS.step (RS.old z RQ S6) Ol;exact gm (gm (Paired.tk p old) (.cons (RS.step (RS.of W0 WZ) Ol) .nil)) (Paired.dp (p+1) old)
       · rw[Xo h,Yr] at eS;exact⟨_,cs,rfl,S4,e4,by rw[eS];exact hC⟩
     · rintro σ H3 ⟨v7,cs,rfl,S4,e4,hC⟩;exact⟨_,_,cs,rfl,S4,e4,by rw[Tr];exact hC⟩
   · rintro σ H2 ⟨v6,v7,cs,rfl,S3,e3,hC⟩;rw[Xn,RP,Ym,←en] at hC;exact⟨_,rfl,sd,_,_,_,_,rfl,SH.trans S3,cs,e3,Paired.d8 hC λ_ _ z=>z.lists⟩
 · rintro σ H1 ⟨gr,v4,v5,v6,v7,rfl,SH,hG⟩;rw[aN,Ym] at hG;exact⟨_,rfl,q H1 gr SH hG⟩
end
theorem tW {sp:Sp}{LQ:List V}{E:XK}{te:TE}{t:TA}{D:Ends}{σ:L2.St}{H:Hp}{v:V}(h:Ev te σ H v)(q:t σ H λxs H2=>sp ((v::xs)++LQ) H2 D.rt E):ET (nE sp LQ E (cM te t)) D σ H:=h _ q
section
variable {P:Program}{w:World}{K:aaa}{mg:aac}{base:Heap}
abbrev Es (kd:Tote.Kind) (k:Nat) (A B:Z_):List (Z9):=if kd=.any then (bC B A [List.replicate k B]).take 1 else bC B A [List.replicate k B]
def rk (K:aaa)(CR:Addr):Sp:=λvs H Q _=>∃(a b:Addr) (k:Nat) (kd:Tote.Kind) (A B:Z_),vs=[.str (st (cd (kindS kd))),.int (k:Nat),.ref a,.ref b]/\aQ K H a (nV A)/\aQ K H b (nV B)/\k<=4/\A.length<=3/\uB kd (Es kd k A B)/\∀H' x,au H H'->dU K CR H' x kd (Es kd k A B)->Q (.ref x) H'
theorem yO:aG ["kind","size","bankers","others","grids"] ["kind","size","bankers","others"] (aw iJ):=fs
theorem E9 {CR:Addr}(T:CK K mg "Rows" jv CR){k:Nat}(FS:Fn P w K mg base bE (k+1) "seatings" ["size","bankers","others"] (xl K))(FR:xY P w K mg base bE k CR ["self","kind","grids"] (jZ K CR)){f:Addr}{fd:FuncData}(F:de K "rows_key" "rows_key" iJ f fd):a8 P w K mg base bE (k+2) f fd ["kind","size","bankers","others"] (rk K CR):=by
 refine F.oa yO λLz A outer s H vs Q E hr h=>?_;obtain⟨a,b,n,kd,Bk,B,rfl,hA,hB,h4,h3,o,q⟩:=h;refine⟨_,af (a7 4 yO.nd (aS FS hr a_ (aa (pv 1) (aa (pv 2) (aa (pv 3) ah)))))
  (af (aO (aB ck (pv 0) bt (aJ _)) (ak (az (qi FR hr T.mg a_ (aa (pv 0) (aa (dq fW (pv 4) fX (dv ax)) ah))))) aA)
  (ak (az (qi FR hr T.mg a_ (aa (pv 0) (aa (pv 4) ah)))))),?_⟩
 refine⟨_,rfl,_,rfl,_,rfl,a,b,n,Bk,B,rfl,hA,hB,h4,h3,λH1 x S1 ⟨bs,e1,hP⟩=>?_⟩;refine aR (aI (b9 (ag rfl) aC)) (λh=>?_) (λh=>?_)
 · rw[kind_any] at h;have h:=XI h;unfold Es at o q;rw[Xp h] at o q;refine⟨_,rfl,_,rfl,_,rfl,x,_,rfl,aQ.of e1,λl hl=>?_⟩;have ec:fQ (bs.map V.ref) none (some 1)=(bs.take 1).map V.ref:=by rw[show (1:Int)=((1:Nat):Int) from rfl,pD,List.map_take]
   rw[ec];have S2:au H1 (upd H1 l (.lst ((bs.take 1).map V.ref))):=(au.refl H1).laid hl;exact λy dy hy RV ny=>made (S1.trans S2) ⟨bs.take 1,aQ.of ae,Paired.d8 (Paired.tk 1 hP) λ_ _ z=>z.same S2⟩ o q y dy hy RV ny
 · rw[kind_any] at h;have h:=X8 h;unfold Es at o q;rw[Xo h] at o q;refine⟨_,rfl,_,rfl,?_⟩;exact λy dy hy RV ny=>made S1 ⟨bs,aQ.of e1,hP⟩ o q y dy hy RV ny
def yq (K:aaa)(CP CR:Addr):Sp:=λvs H Q _=>∃(pa sa:Addr) (p:aM) (how:Nat) (sets:Z9),vs=[.ref pa,.int (how:Nat),.ref sa]/\dg K CP H pa p/\bF K H sa sets/\xU p how sets/\∀H' x,au H H'->dU K CR H' x p.kind (js p.kind (cG how) p.fields.length sets)->Q (.ref x) H'
theorem CC:aG ["pool","how","sets","size"] ["pool","how","sets"] (aw ko):=fs
theorem HY {CP CR aW:Addr}(G:GW mg)(B:GB K mg aW)(TP:CK K mg "Pool" gZ CP){k:Nat}(FO:Fn P w K mg base bE k "rows_on" ["kind","sets"] (qk K CR))(FB:Fn P w K mg base bE k "rows_box" ["kind","size","numbers"] (qX K CR))(FK:Fn P w K mg base bE k "rows_key" ["kind","size","bankers","others"] (rk K CR))
  {f:Addr}{fd:FuncData}(F:de K "rows_of" "rows_of" ko f fd):a8 P w K mg base bE (k+1) f fd ["pool","how","sets"] (yq K CP CR):=by
 refine F.oa CC λLz A outer s H vs Q E hr h=>?_;obtain⟨pa,sa,p,how,sets,rfl,⟨dp,fa,MS,⟨My,Qe,Qg⟩⟩,Pl,m,q⟩:=h;refine⟨_,af (aO (aB ck (pv 1) (bb B.on) (aJ _)) (ak (az (aS FO hr a_ (aa (aY (pv 0) rfl) (aa (pv 2) ah))))) aA)
  (af (a7 3 CC.nd (bg G.len (aY (pv 0) rfl)))
  (af (aO (aB ck (pv 1) (bb B.box) (aJ _)) (ak (az (aS FB hr a_ (aa (aY (pv 0) rfl) (aa (pv 3) (aa (bo aL (pv 2) ax (λ_ _=>rfl)) ah)))))) aA)
  (ak (az (aS FK hr a_ (aa (aY (pv 0) rfl) (aa (pv 3) (aa (bo aL (pv 2) ax (λ_ _=>rfl)) (aa (bo aL (pv 2) ax (λ_ _=>rfl)) ah))))))))),?_⟩
 have MG:My.length=p.fields.length:=Paired.length Qg;have o:=m.IT;obtain⟨_,_,mb,mk⟩:=m.all;refine aR (aI (b9 (ag rfl) aC)) (λh=>?_) (λh=>?_)
 · rw[aX] at h;have h:how=0:=by have:=YT h;omega
   rw[vf.mpr h] at q o;exact tW (bf (ag rfl) MS TP.cl (TP.no _ (by simp)) ja) ⟨_,rfl,sa,p.kind,sets,rfl,Pl,o,q⟩
 rw[aX] at h;have h0:how≠0:=λz=>by rw[z] at h;cases h
 obtain⟨as,hA,hP⟩:=Pl;refine cE (aU (bf (ag rfl) MS TP.cl (TP.no _ (by simp)) mH) (.inl Qe)) ?_;rw[Xn,MG];refine aR (aI (b9 (ag rfl) aC)) (λh=>?_) (λh=>?_)
 · rw[aX] at h;have h:how=1:=by have:=YT h;omega
   obtain⟨t,e,h2⟩:=mb h;rw[B7.mpr h] at q o;rw[e] at hP q o;cases hP with
   |cons hI hn =>
    cases hn;rename_i a0;exact tW (bf (ag rfl) MS TP.cl (TP.no _ (by simp)) ja) ⟨_,rfl,(a6 (ag rfl) aC hA (v:=.ref a0) rfl) _ ⟨a0,p.fields.length,p.kind,t,rfl,hI,m.ok.six,o,q⟩⟩
 rw[aX] at h;have h1:how≠1:=λz=>by rw[z] at h;cases h
 obtain⟨t,u,e,h2,h3,h4⟩:=mk h0 h1;have k4:=m.k4 h0;rw[AS.mpr ⟨h0,h1⟩] at q o;rw[e] at hP q o;cases hP with
 |cons hI hn =>
  cases hn with
  |cons hJ hn =>
   cases hn;rename_i a0 a1;exact tW (bf (ag rfl) MS TP.cl (TP.no _ (by simp)) ja) ⟨_,rfl,(a6 (ag rfl) aC hA (v:=.ref a0) rfl) _ ((a6 (ag rfl) aC hA (v:=.ref a1) rfl) _ ⟨a0,a1,p.fields.length,p.kind,t,u,rfl,hI,hJ,k4,by omega,o,q⟩)⟩
def xD (K:aaa)(CB CR:Addr):Sp:=λvs H Q _=>∃(x dx r:Addr) (a b c d e:V) (kd:Tote.Kind) (gs:List (Z9)),vs=[.ref x,a,b,c,d,e,.ref r]/\H x=some (.ins CB dx [])/\dU K CR H r kd gs/\∀H',aK x H H'->H' x=some (.ins CB dx (uC a b c d e (.ref r) (.int ((rS kd gs).length:Nat))))->Q .cf H'
theorem EK:aG ["self","pool","pool_number","how","stake","sets","rows"] ["self","pool","pool_number","how","stake","sets","rows"] (aw iT):=fs
theorem DT {CB CR:Addr}(T:CK K mg "Bet" vv CB)(TR:CK K mg "Rows" jv CR){k:Nat}(FS:qp P w K mg base bE k CR "starting" ["self","start"] (uc K CR)){f:Addr}{fd:FuncData}(F:de K "__init__" "Bet.__init__" iT f fd):a8 P w K mg base bE (k+1) f fd ["self","pool","pool_number","how","stake","sets","rows"] (xD K CB CR):=by
 refine F.oa EK λLz A outer s H vs Q E hr h=>?_;obtain⟨x,dx,r,a,b,c,d,e,kd,gs,rfl,hx,hR,q⟩:=h;refine⟨_,af (cD (pv 0) (pv 1) rfl) (af (cD (pv 0) (pv 2) rfl) (af (cD (pv 0) (pv 3) rfl) (af (cD (pv 0) (pv 4) rfl) (af (cD (pv 0) (pv 5) rfl) (af (cD (pv 0) (pv 6) rfl) (ak (cD (pv 0) (lr FS TR.cl (pv 6) hr a_ (aa (di ah) ah)) rfl))))))),?_⟩;refine⟨_,rfl,_,rfl,x,CB,dx,[],rfl,hx,T.cl,T.no _ (by simp),(by show 0 < 1000;decide),?_⟩;refine⟨_,rfl,_,rfl,x,CB,dx,_,rfl,ae,T.cl,T.no _ (by simp),(by show 1 < 1000;decide),?_⟩;refine⟨_,rfl,_,rfl,x,CB,dx,_,rfl,ae,T.cl,T.no _ (by simp),(by repeat (first|rw[bQ]|rw[bc (by decide +kernel)]);show 2 < 1000;decide),?_⟩;refine⟨_,rfl,_,rfl,x,CB,dx,_,rfl,ae,T.cl,T.no _ (by simp),(by repeat (first|rw[bQ]|rw[bc (by decide +kernel)]);show 3 < 1000;decide),?_⟩;refine⟨_,rfl,_,rfl,x,CB,dx,_,rfl,ae,T.cl,T.no _ (by simp),(by repeat (first|rw[bQ]|rw[bc (by decide +kernel)]);show 4 < 1000;decide),?_⟩;refine⟨_,rfl,_,rfl,x,CB,dx,_,rfl,ae,T.cl,T.no _ (by simp),(by repeat (first|rw[bQ]|rw[bc (by decide +kernel)]);show 5 < 1000;decide),?_⟩;rw[cI,cI,cI,cI,cI]
 repeat (first|rw[bQ]|rw[bc (by decide +kernel)])
 have S1:aK x H (upd H x (.ins CB dx [("pool",a),("pool_number",b),("how",c),("stake",d),("sets",e),("rows",.ref r)])):=(aK.refl x H).upd;have Mq:(upd H x (.ins CB dx [("pool",a),("pool_number",b),("how",c),("stake",d),("sets",e),("rows",.ref r)])) x=some (.ins CB dx [("pool",a),("pool_number",b),("how",c),("stake",d),("sets",e),("rows",.ref r)]):=ae;generalize upd H x (.ins CB dx [("pool",a),("pool_number",b),("how",c),("stake",d),("sets",e),("rows",.ref r)])=H1 at S1 Mq;have Tt:=hR.jC S1 hx (by decide);obtain⟨dr,_,_,_,NN,_⟩:=id Tt;refine⟨_,rfl,r,dr,_,rfl,NN,AG (by decide +kernel),XW _,λt ht=>?_⟩;have S2:au H1 (upd H1 t (.tup [])):=(au.refl H1).laid ht;show eV _ _ _;unfold eV;dsimp only [Yr];refine⟨r,t,kd,gs,[],rfl,Tt.same S2,ae,λg _=>XW _,λH2 S3=>?_⟩;rw[mi];refine⟨_,rfl,x,CB,dx,_,rfl,S3 _ _ (S2 _ _ Mq),T.cl,T.no _ (by simp),(by show 6 < 1000;decide),?_⟩;rw[bc (by decide +kernel),bc (by decide +kernel),bc (by decide +kernel),bc (by decide +kernel),bc (by decide +kernel),bc (by decide +kernel),bQ];exact q _ ((S1.trans (S2.trans S3).x).upd) ae
end
def jz (K:aaa)(CB CP CR:Addr)(H:Hp)(x:Addr)(p:aM)(b:bT):Prop:=∃dx pa sa ra,H x=some (.ins CB dx (uC (.ref pa) (.int (b.pool:Nat)) (.int (b.how:Nat)) (.int (b.stake:Nat)) (.ref sa) (.ref ra) (.int (countM p.kind (cG b.how) p.fields.length b.sets:Nat))))/\dg K CP H pa p/\kZ H sa b.sets/\dU K CR H ra p.kind (js p.kind (cG b.how) p.fields.length b.sets)/\b.stake<=1000000/\xU p b.how b.sets
section
variable {a b c d e r m:V}
theorem wA:(uC a b c d e r m).lookup ("stake":Str)=some d:=by unfold uC;rw[a9 (by decide +kernel),a9 (by decide +kernel),a9 (by decide +kernel)];exact bR
theorem rP:(uC a b c d e r m).lookup ("many":Str)=some m:=by unfold uC;rw[a9 (by decide +kernel),a9 (by decide +kernel),a9 (by decide +kernel),a9 (by decide +kernel),a9 (by decide +kernel),a9 (by decide +kernel)];exact bR
theorem Dx {f:Str}(h:¬f∈vv):(uC a b c d e r m).lookup f=none:=oF h
end
theorem Hm {σ:L2.St}{H:Hp}{ta tb:TE}{i j:Int}(ha:Ev ta σ H (.int i))(hb:Ev tb σ H (.int j))(h:Ab i j):Ev (kI (rI Ab λi j=>.int (i*j)) ta tb) σ H (.int (i*j)):=λ_ r=>ha _ (hb _ ⟨i,j,rfl,rfl,h,r⟩)
section
variable {K:aaa}{CB CP CR CW:Addr}{H H':Hp}{a x:Addr}{p:aM}{b:bT}
theorem jz.same (h:jz K CB CP CR H x p b) (e:au H H'):jz K CB CP CR H' x p b:=by
 obtain⟨dx,pa,sa,ra,h1,h2,h3,h5,h4⟩:=h;exact⟨dx,pa,sa,ra,e _ _ h1,h2.same e,h3.same e,h5.same e,h4⟩
end
section
variable {P:Program}{w:World}{K:aaa}{mg:aac}{base:Heap}
def pW (K:aaa) (CB CP CR:Addr):Sp:=λvs H Q _=>∃(x:Addr) (p:aM) (b:bT),vs=[.ref x]/\jz K CB CP CR H x p b/\Q (.int ((b.stake:Int)*(countM p.kind (cG b.how) p.fields.length b.sets:Nat))) H
theorem DF:aG ["self"] ["self"] (aw iY):=fs
theorem DH {CB CP CR:Addr}(TB:CK K mg "Bet" vv CB){f:Addr}{fd:FuncData}(F:de K "cost" "Bet.cost" iY f fd):a8 P w K mg base bE 1 f fd ["self"] (pW K CB CP CR):=by
 refine F.oa DF λLz A outer s H vs Q E hr h=>?_;obtain⟨x,p,b,rfl,⟨dx,pa,sa,ra,h1,_,_,_,h4,_⟩,q⟩:=h;refine⟨_,ak (az (bG wY (aY (pv 0) rfl) (aY (pv 0) rfl))),?_⟩;exact (Hm (bf (ag rfl) h1 TB.cl (TB.no _ (by simp)) wA) (bf (ag rfl) h1 TB.cl (TB.no _ (by simp)) rP) (.inl ⟨by omega,by omega⟩)) _ q
def xR (K:aaa)(CW CF CB CP CR:Addr):Sp:=λvs H Q E=>∃(a b:Addr) (ps:List aM) (e:Nat) (l:List Word) (pl:Nat),vs=[.ref b,.ref a]/\aT K CW H a e l pl/\cV K CP H b ps/\(∀p∈ps,C5 p) /\
 (∀t,BD e ps l=.error t->Rz CF E (t.kind:Nat) (t.place:Nat))/\(∀y,BD e ps l=.ok y->∀H' x p,aK a H H'->jz K CB CP CR H' x p y->ps[y.pool]?=some p->Q (.ref x) H')
theorem fN:aG ["pools","words","pool_number","pool","stake","stake_place","how","how_place","sets","bet"] ["pools","words"] (aw fS):=fs
theorem Eu {CW CF CB CP CR aW:Addr}(B:GB K mg aW)(T:CK K mg "Words" cp CW)(TP:CK K mg "Pool" gZ CP)(TB:CK K mg "Bet" vv CB)(FL:Flt P w K mg base CF){k:Nat}(hk:5<=k)
  (FO:qp P w K mg base (eW P w CF) k CW "take_one_of" ["self","known"] (oM K CW CF))(W2:Fn P w K mg base (eW P w CF) k "take_pool" ["pools","words"] (ug K CW CF CP))(FS:Fn P w K mg base (eW P w CF) k "take_stake" ["words","unit"] (tq K CW CF))
  (FH:Fn P w K mg base (eW P w CF) k "take_how" ["words","pool"] (CQ K CW CF CP))(W3:Fn P w K mg base (eW P w CF) k "take_sets" ["words","pool","how"] (xK K CW CF CP))(FB:xY P w K mg base bE 4 CB ["self","pool","pool_number","how","stake","sets","rows"] (xD K CB CR))
  (FF:qp P w K mg base (eW P w CF) k CW "finish" ["self"] (AD K CW CF))(FM:Fn P w K mg base bE k "rows_of" ["pool","how","sets"] (yq K CP CR))(FC:qp P w K mg base bE k CB "cost" ["self"] (pW K CB CP CR))
  {f:Addr}{fd:FuncData}(F:de K "read_words" "read_words" fS f fd):a8 P w K mg base (eW P w CF) (k+1) f fd ["pools","words"] (xR K CW CF CB CP CR):=by
 refine F.lU fN λLz A outer s H vs Q E hr h=>?_;obtain⟨a,b,ps,e,l,pl,rfl,hW,Mz,bu,q0,q1⟩:=h;refine⟨_,af (dR (lr FO T.cl (pv 1) hr (bP aH rfl rfl) (aa (di (aa bt ah)) ah)))
  (af (a7 2 fN.nd (aS W2 hr (bP aH rfl rfl) (aa (pv 0) (aa (pv 1) ah))))
  (af (a7 3 fN.nd (bo aL (pv 0) (pv 2) (λ_ _=>rfl)))
  (af (dR (lr FO T.cl (pv 1) hr (bP aH rfl rfl) (aa (di (aa bt ah)) ah)))
  (af (a7 4 fN.nd (aS FS hr (bP aH rfl rfl) (aa (pv 1) (aa (aY (pv 3) rfl) ah))))
  (af (a7 5 fN.nd (aY (pv 1) rfl))
  (af (a7 6 fN.nd (aS FH hr (bP aH rfl rfl) (aa (pv 1) (aa (pv 3) ah))))
  (af (a7 7 fN.nd (aY (pv 1) rfl))
  (af (a7 8 fN.nd (aS W3 hr (bP aH rfl rfl) (aa (pv 1) (aa (pv 3) (aa (pv 6) ah)))))
  (af (dR (jX FF T.cl (pv 1) hr (bP aH rfl rfl)))
  (af (a7 9 fN.nd (qi FB (hr.mono hk) TB.mg a_ (aa (pv 3) (aa (pv 2) (aa (pv 6) (aa (pv 4) (aa (pv 8) (aa (aS FM hr a_ (aa (pv 3) (aa (pv 6) (aa (pv 8) ah)))) ah))))))))
  (af (aO (aB ck (aY (pv 9) rfl) ax (aJ _)) (ak (fG FL aH (hr.mono (by omega)) (aa (bb B.comb) (aa (pv 7) ah)))) aA)
  (af (aO (aB kQ (jX FC TB.cl (pv 9) hr a_) (bb B.cost) (aJ _)) (ak (fG FL aH (hr.mono (by omega)) (aa (bb B.Kr) (aa (pv 5) ah)))) aA)
  (ak (az (pv 9))))))))))))))),?_⟩
 obtain⟨d0,w0,m0,n0,L5⟩:=hW.obj;unfold BD at q0 q1;refine⟨_,rfl,a,d0,_,rfl,L5,cB (by decide +kernel),(by show 1<=sizeLine;decide),λt ht=>?_⟩;have St:au H (upd H t (.tup [V.str (Str.ofString "bet")])):=(au.refl H).laid ht;show eV _ _ _;unfold eV;dsimp only [Yr];refine lX (s:="bet") (by decide +kernel) (hW.same St) (b7.of ae) (λy hy=>?_) (λm hm H1 v W4 S1 L3=>?_)
 · rw[hy] at q0;exact q0 _ rfl
 rw[hm] at q0 q1;have q0:∀t,JC e ps m=.error t->Rz CF E (t.kind:Nat) (t.place:Nat):=q0;have q1:∀y,JC e ps m=.ok y->_:=q1;have Pb:aK a H H1:=St.x.trans S1;refine⟨_,rfl,_,rfl,a,b,ps,e,m,W4,rfl,L3,cV.jC Mz Pb L5,λz=>?_,λwn r hl hn=>?_,λwn r i hl hi H2 S2 Nn=>?_⟩
 · subst z;exact q0 ⟨3,e⟩ rfl
 · subst hl;refine q0 ⟨5,wn.at_⟩ ?_;show (match dQ ps (tx wn.w) with
    |none=>(Except.error ⟨5,wn.at_⟩:Except Fault bT)
    |some i=>match ps[i]? with
     |none=>.error ⟨5,wn.at_⟩
     |some p=>CA e i p r)=_
   rw[hn]
 subst hl;have Oh:=Pb.trans S2;have LG:=wU hi;have eB:JC e ps (wn::r)=CA e i ps[i] r:=by
  show (match dQ ps (tx wn.w) with
   |none=>(Except.error ⟨5,wn.at_⟩:Except Fault bT)
   |some i=>match ps[i]? with
    |none=>.error ⟨5,wn.at_⟩
    |some p=>CA e i p r)=_
  rw[hi];show (match ps[i]? with
    |none=>(Except.error ⟨5,wn.at_⟩:Except Fault bT)
    |some p=>CA e i p r)=_
  rw[Xy LG]
 rw[eB] at q0 q1;have hO:=bu _ (Zf LG);have Tu:∃(as:List Addr) (pa:Addr),aQ K H b (as.map V.ref)/\as[i]?=some pa/\dg K CP H pa ps[i]:=by
  obtain⟨as,h1,h2⟩:=Mz;obtain⟨pa,h3,h4⟩:=Paired.at2 h2 (Xy LG);exact⟨as,pa,h1,h3,h4⟩
 have Tw:ps[i]?=some ps[i]:=Xy LG;generalize ps[i]=p at q0 q1 hO Tu Tw;obtain⟨as,pa,hA,MS,W5⟩:=Tu;have pool:∀{H'},aK a H H'->dg K CP H' pa p:=λS=>dg.jC W5 S L5;refine cE (a6 (ag rfl) (ag rfl) (Oh.seq L5 hA) (cw (by rw[Xs,MS];rfl))) ?_;unfold CA at q0 q1;obtain⟨d2,w2,m2,n2,Pd⟩:=Nn.obj;refine⟨_,rfl,a,d2,_,rfl,Pd,cB (by decide +kernel),(by show 1<=sizeLine;decide),λt3 W6=>?_⟩;have Tx:au H2 (upd H2 t3 (.tup [V.str (Str.ofString "for")])):=(au.refl H2).laid W6;dsimp only [Yr];refine lX (s:="for") (by decide +kernel) (Nn.same Tx) (b7.of ae) (λy hy=>?_) (λm3 W7 H3 v3 W8 S3 Og=>?_)
 · rw[hy] at q0;exact q0 _ rfl
 rw[W7] at q0 q1;have q0:∀t,Iu e i p m3=.error t->Rz CF E (t.kind:Nat) (t.place:Nat):=q0;have q1:∀y,Iu e i p m3=.ok y->_:=q1;have Tz:aK a H H3:=(Oh.trans Tx.x).trans S3;obtain⟨dp,fap,P7,LH⟩:=pool Tz;refine⟨_,rfl,(bf (ag rfl) P7 TP.cl (TP.no _ (by simp)) wM) _ ⟨a,p.unit,e,m3,W8,rfl,hO.unit,Og,λz=>?_,λws r4 hl hn=>?_,λws r4 hl hs H4 S4 Qc=>?_⟩⟩
 · subst z;exact q0 ⟨3,e⟩ rfl
 · subst hl;refine q0 ⟨4,ws.at_⟩ ?_;show (if eU p.unit (tx ws.w) then _ else _)=_;rw[Xo (show ¬eU p.unit (tx ws.w) from hn)]
 subst hl;have eB:Iu e i p (ws::r4)=II e i p (ay (tx ws.w)).toNat ws.at_ r4:=by
  show (if eU p.unit (tx ws.w) then _ else _)=_;rw[Xp (show eU p.unit (tx ws.w) from hs)]
 rw[eB] at q0 q1;have Md:ay (tx ws.w)=(((ay (tx ws.w)).toNat:Nat):Int):=by have:=hs.1;omega
 have MJ:(ay (tx ws.w)).toNat<=1000000:=by have:=hs.2.1;omega
 generalize (ay (tx ws.w)).toNat=stake at q0 q1 Md MJ;rw[Md];have TC:=Tz.trans S4;obtain⟨d4,w4,m4,n4,Qb⟩:=Qc.obj;refine cE (bf (ag rfl) Qb T.cl (T.no _ (by simp)) bL) ?_;refine⟨_,rfl,_,rfl,a,pa,p,e,r4,ws.at_,rfl,Qc,pool TC,λz=>?_,λwh r5 hl hn=>?_,λwh r5 how hl hh H5 S5 TF=>?_⟩
 · subst z;exact q0 ⟨3,e⟩ rfl
 · subst hl;refine q0 ⟨3,wh.at_⟩ ?_;show (match jh p wh.w with
    |none=>(Except.error ⟨3,wh.at_⟩:Except Fault bT)
    |some how=>xu e i how stake wh.at_ ws.at_ p (fC e p how r5))=_
   rw[hn]
 subst hl;have eB:II e i p stake ws.at_ (wh::r5)=xu e i how stake wh.at_ ws.at_ p (fC e p how r5):=by
  show (match jh p wh.w with
   |none=>(Except.error ⟨3,wh.at_⟩:Except Fault bT)
   |some how=>xu e i how stake wh.at_ ws.at_ p (fC e p how r5))=_
  rw[hh]
 rw[eB] at q0 q1;have TH:=TC.trans S5;obtain⟨d5,w5,m5,n5,W9⟩:=TF.obj;refine cE (bf (ag rfl) W9 T.cl (T.no _ (by simp)) bL) ?_;have RW:how=0∨cP p=true:=by
  unfold jh at hh;split at hh
  · exact .inl (X2 hh).symm
  · split at hh
    · rename_i z;exact .inr z.2
    · split at hh
      · rename_i z;exact .inr z.2
      · cases hh
 refine⟨_,rfl,_,rfl,_,rfl,a,pa,p,how,e,r5,wh.at_,rfl,TF,pool TH,hO,λt ht=>?_,λsets r6 TJ H6 sa W_ S6 Pl TK=>?_⟩
 · rw[ht] at q0;exact q0 t rfl
 rw[TJ] at q0 q1;have Ol:=TH.trans S6;obtain⟨d6,w6,m6,n6,Xa⟩:=TK.obj;refine⟨_,rfl,a,d6,_,rfl,Xa,cB (by decide +kernel),a,e,r6,W_,rfl,TK,λwr r7 hl=>?_,λhl=>?_⟩
 · subst hl;exact q0 ⟨3,wr.at_⟩ rfl
 subst hl;have q0:∀t,GY i how stake wh.at_ ws.at_ p sets=.error t->Rz CF E (t.kind:Nat) (t.place:Nat):=q0;have q1:∀y,GY i how stake wh.at_ ws.at_ p sets=.ok y->_:=q1;unfold GY at q0 q1;have hM:xU p how sets:=⟨hO,RW,e,r5,[],TJ⟩;refine⟨_,rfl,_,rfl,_,rfl,_,rfl,_,rfl,_,rfl,_,rfl,_,rfl,pa,sa,p,how,sets,rfl,pool Ol,Pl.lists,hM,λH7 ra S7 hR=>?_⟩;have TM:aK a H H7:=Ol.trans S7.x;intro x dx hx Mg PX;have Sn:au H7 (upd (upd H7 dx (.own x)) x (.ins CB dx [])):=((au.refl H7).laid Mg).laid hx;refine⟨x,dx,ra,_,_,_,_,_,p.kind,_,rfl,ae,hR.same Sn,λH8 SX Pn=>⟨rfl,?_⟩⟩;have Pn:H8 x=some (.ins CB dx (uC (.ref pa) (.int (i:Nat)) (.int (how:Nat)) (.int (stake:Nat)) (.ref sa) (.ref ra) (.int (countM p.kind (cG how) p.fields.length sets:Nat)))):=Pn;have S8:au H7 H8:=λb u z=>SX b u (Sn b u z) (ao z hx);have TN:jz K CB CP CR H8 x p ⟨i,how,stake,sets⟩:=⟨dx,pa,sa,ra,Pn,(pool TM).same S8,(Pl.same S7).same S8,hR.same S8,MJ,hM⟩;have Xb:aK a H H8:=TM.trans S8.x;refine aR (aI (b9 (bf (ag rfl) Pn TB.cl (TB.no _ (by simp)) rP) aC)) (λh=>?_) (λh=>?_)
 · rw[aX] at h;rw[Xp (by have:=YT h;omega)] at q0;exact jJ (ag rfl) (q0 _ rfl)
 have Xc:¬countM p.kind (cG how) p.fields.length sets=0:=λz=>by rw[z] at h;cases h
 rw[Xo Xc] at q0 q1;have Xd:∀{σ:L2.St},σ[9]?=some (some (V.ref x))->Ev (uY CB "cost" (pW K CB CP CR) [] E0 (cH 9) λ_ H Q=>Q [] H) σ H8 (.int ((stake:Int)*(countM p.kind (cG how) p.fields.length sets:Nat))):=λz _ r =>
  ⟨_,z,x,dx,_,rfl,Pn,Dx (by decide +kernel),x,p,⟨i,how,stake,sets⟩,rfl,TN,r⟩
 refine aR (jE (Xd rfl) aC) (λh=>?_) (λh=>?_)
 · have h:=XI h;have h:2147483647 < stake*countM p.kind (cG how) p.fields.length sets:=by
    have e1:((stake:Int)*(countM p.kind (cG how) p.fields.length sets:Int))=((stake*countM p.kind (cG how) p.fields.length sets:Nat):Int):=by rw[Int.natCast_mul]
    rw[e1] at h;omega
   rw[Xp h] at q0;exact jJ (ag rfl) (q0 _ rfl)
 · have h:=X8 h;have h:¬2147483647 < stake*countM p.kind (cG how) p.fields.length sets:=by
    have e1:((stake:Int)*(countM p.kind (cG how) p.fields.length sets:Int))=((stake*countM p.kind (cG how) p.fields.length sets:Nat):Int):=by rw[Int.natCast_mul]
    rw[e1] at h;omega
   rw[Xo h] at q1;exact⟨_,rfl,q1 _ rfl H8 x p Xb TN Tw⟩
end
def ia (b:Bytes):Z_:=b.map UInt8.toNat
theorem za {b:Bytes}:10∈ia b↔(10:UInt8)∈b:=by
 unfold ia;rw[XY]
 exact⟨λ⟨x,h1,h2⟩=>by have:x=10:=jI h2
                      rwa [←this],λh=>⟨10,h,rfl⟩⟩
theorem pD {xs:List V}{j:Nat}(h:j<=xs.length):fQ xs none (some (j:Int))=xs.take j:=by
 unfold fQ;rw[HT.kq,HT.jO,Zn h];simp
section
variable {P:Program}{w:World}{K:aaa}{mg:aac}{base:Heap}
def Bf (K:aaa) (CF CB CP CR:Addr):Sp:=λvs H Q E=>∃(c b:Addr) (ps:List aM) (bs:Bytes),vs=[.ref b,.ref c]/\aQ K H c (nV (ia bs))/\bs.length<=4096/\cV K CP H b ps/\(∀p∈ps,C5 p) /\
 (∀t,dF ps bs=.error t->Rz CF E (t.kind:Nat) (t.place:Nat))/\(∀y,dF ps bs=.ok y->∀H' x p,au H H'->jz K CB CP CR H' x p y->ps[y.pool]?=some p->Q (.ref x) H')
theorem tN:aG ["pools","codes","line_end","line","bet"] ["pools","codes"] (aw i9):=fs
theorem Hb {CW CF CB CP CR aW:Addr}(G:GW mg)(B:GB K mg aW)(T:CK K mg "Words" cp CW)(FL:Flt P w K mg base CF){k:Nat}(hk:2<=k)
  (FC:Fn P w K mg base (eW P w CF) k "check_line" ["line"] (wI K CF))(FR:Fn P w K mg base (eW P w CF) k "read_words" ["pools","words"] (xR K CW CF CB CP CR))(FX:Fn P w K mg base bE k "text_of" ["codes"] (sQ K))(FW:xY P w K mg base bE 1 CW ["self","line"] (pj K CW))
  {f:Addr}{fd:FuncData}(F:de K "read_bet" "read_bet" i9 f fd):a8 P w K mg base (eW P w CF) (k+1) f fd ["pools","codes"] (Bf K CF CB CP CR):=by
 refine F.lU tN λLz A outer s H vs Q E hr h=>?_;obtain⟨c,b,ps,bs,rfl,hS,hlen,Mz,bu,q0,q1⟩:=h;refine⟨_,af (aO (aB eQ (bb B.nl) (pv 1) (by with_unfolding_all rfl)) (ak (fG FL aH (hr.mono hk) (aa (bb B.ended) (aa (bg G.len (pv 1)) ah)))) aA)
  (af (a7 2 tN.nd (qA PySem.F.plainAttrs_list PySem.F.slot_list_index PySem.F.type_list_index Cv (pv 1) (aa (bb B.nl) ah)))
  (af (a7 3 tN.nd (dq fW (pv 1) fX (dv (pv 2))))
  (af (dR (aS FC hr (bP aH rfl rfl) (aa (pv 3) ah)))
  (af (a7 4 tN.nd (aS FR hr (bP aH rfl rfl) (aa (pv 0) (aa (qi FW (hr.mono hk) T.mg a_ (aa (aS FX hr a_ (aa (pv 3) ah)) ah)) ah))))
  (af (aO (aB nS (bG ej (pv 2) ax) (bg G.len (pv 1)) (aJ _)) (ak (fG FL aH (hr.mono hk) (aa (bb B.more) (aa (bG ej (pv 2) ax) ah)))) aA)
  (ak (az (pv 4)))))))),?_⟩
 have Ql:(ia bs).length=bs.length:=by unfold ia;rw[Xn]
 refine aR (aI (mK aC (ag rfl) (.inl hS) rfl (fR _))) (λh=>?_) (λh=>?_)
 · have h:(!oh (V.int 10) (nV (ia bs)))=true:=h;rw[nN,Yg,X6] at h;have hn:¬(10:UInt8)∈bs:=λz=>h ⟨10,za.mpr z,rfl⟩;have hu:upTo bs=none:=by
    cases hu:upTo bs with
    |none=>rfl
    |some x =>
     obtain⟨l,r⟩:=x;obtain⟨e,_⟩:=kl hu;exact absurd (by rw[e];simp) hn
   rw[yb hu] at q0;refine jJ (p:=(bs.length:Nat)) ?_ (q0 _ rfl);have:=aU (K:=K) (σ:=L2.start ["pools","codes","line_end","line","bet"] [V.ref b,V.ref c]) (H:=H) (ag (n:=1) rfl) (.inl hS);rw[aN,Ql] at this;exact this
 have h:(!oh (V.int 10) (nV (ia bs)))=false:=h;rw[nN,Yj,Xw] at h;have Xe:(10:UInt8)∈bs:=by
  obtain⟨n,h1,h2⟩:=h;have:n=10:=by omega
  subst this;exact za.mp h1
 cases hu:upTo bs with
 |none=>exact absurd Xe (sk hu)
 |some x =>
 obtain⟨l,r⟩:=x;obtain⟨TQ,RX⟩:=kl hu;rw[wo hu] at q0 q1;have RY:nV (ia bs)=nV (ia l)++V.int 10::nV (ia r):=by
  rw[TQ];unfold nV ia;rw[XH,XH];rfl
 have Xf:(nV (ia l)).length=l.length:=by rw[aN];unfold ia;rw[Xn]
 have RZ:bs.length=l.length+1+r.length:=by rw[TQ];simp;omega
 refine⟨_,rfl,.inl ⟨rfl,_,hS⟩,c,nV (ia bs),.int 10,l.length,.int 10,rfl,rfl,hS,rfl,fR _,?_,rfl,?_,?_⟩
 · rw[RY,Z7 (by omega),Xf];simp
 · intro m z hm hz;rw[RY,List.getElem?_append_left (by omega)] at hz;unfold nV ia at hz;rw[Xs,Xs,Option.map_map] at hz;obtain⟨y,hy,rfl⟩:=X0.mp hz
   have hny:¬y.toNat=10:=λq=>RX (by have:y=10:=jI q
                                    rw[←this];exact XT hy)
   show ((y.toNat:Int)==10)=false;rw[XX];omega
 refine⟨_,rfl,_,rfl,_,rfl,c,_,rfl,hS,λp hp=>?_⟩;rw[pD (by rw[aN,Ql,RZ];omega),RY,List.take_append_of_le_length (by omega),Yl (by omega)];have S1:au H (upd H p (.lst (nV (ia l)))):=(au.refl H).laid hp;have e1:(upd H p (.lst (nV (ia l)))) p=some (.lst (nV (ia l))):=ae;generalize upd H p (.lst (nV (ia l)))=H1 at S1 e1;have M7:badByte true 0 l=vO (ia l):=C4 l;unfold Fg at q0 q1;rw[M7] at q0 q1;refine⟨_,rfl,p,ia l,rfl,aQ.of e1,λi hi=>?_,λhi H2 S2=>?_⟩
 · rw[hi] at q0;exact q0 ⟨2,i⟩ rfl
 rw[hi] at q0 q1 M7;have q0:∀t,(match BD l.length ps (wordsFrom 0 [] l) with
  |.error t=>(Except.error t:Except Fault bT)
  |.ok x=>if r=[] then .ok x else .error ⟨8,l.length+1⟩)=.error t->Rz CF E (t.kind:Nat) (t.place:Nat):=q0
 have q1:∀y,(match BD l.length ps (wordsFrom 0 [] l) with
  |.error t=>(Except.error t:Except Fault bT)
  |.ok x=>if r=[] then .ok x else .error ⟨8,l.length+1⟩)=.ok y->_:=q1
 have P9:=S1.trans S2;have Qm:(ia l).map sg=tx l:=by
  unfold ia tx;rw[XR];rfl
 have hl4:l.length<=4096:=by omega
 refine⟨_,rfl,_,rfl,p,ia l,rfl,aQ.of (S2 _ _ e1),by unfold ia;rw[Xn];omega,λH3 S3=>?_⟩;rw[Qm];intro x dx hx Mg PX;have Xg:(tx l).length=l.length:=iy l;refine⟨x,dx,tx l,rfl,ae,by omega,λH4 wl S4 MQ R0 NR=>⟨rfl,?_⟩⟩;have Qa:=P9.trans S3;have R1:au H H4:=λd o z=>by
  have z3:=Qa d o z;have n1:d≠x:=ao z3 hx;have n2:d≠dx:=ao z3 Mg;exact S4 d o (by rw[aq n1,aq n2];exact z3) n1
 have Xh:H x=none:=by
  cases hz:H x with
  |none=>rfl
  |some o=>rw[Qa x o hz] at hx;cases hx
 have R3:∀c∈tx l,c < 128:=λc hc=>by
  unfold tx at hc;obtain⟨d,_,rfl⟩:=XY.mp hc;exact Fx _
 have R4:mS (aV 32 [] (tx l)):=by
  have h3:=fh 32 (tx l) [];refine⟨by omega,λv hv=>?_⟩;obtain⟨z1,z2⟩:=dX 32 (tx l) [] v hv;refine⟨by simp at z1;omega,λc hc=>?_⟩;rcases z2 c hc with z|z
  · simp at z
  · exact R3 c z
 have NW:=(words_of l [] 0 0 (Xx _) M7).2;have Xi:aT K CW H4 x l.length (wordsFrom 0 [] l) 0:=by
  refine⟨dx,wl,aV 32 [] (tx l),0,0,?_,aQ.of R0,⟨R4,jU 32 _ []⟩,XW _,?_,NW⟩
  · rw[NR,Xg]
  · rw[qD 0 M7];rfl
 have R5:cV K CP H4 b ps:=by
  obtain⟨as,h1,h2⟩:=Mz;exact⟨as,R1.seq h1,qu h2 R1⟩
 refine⟨x,b,ps,l.length,wordsFrom 0 [] l,0,rfl,Xi,R5,bu,λt ht=>?_,λy hy H5 xb pp S5 hB Po=>?_⟩
 · rw[ht] at q0;exact q0 t rfl
 rw[hy] at q0 q1;have q0:∀t,(if r=[] then (Except.ok y:Except Fault bT) else .error ⟨8,l.length+1⟩)=.error t->Rz CF E (t.kind:Nat) (t.place:Nat):=q0;have q1:∀y',(if r=[] then (Except.ok y:Except Fault bT) else .error ⟨8,l.length+1⟩)=.ok y'->_:=q1;have TU:au H H5:=λd o z=>S5 d o (R1 d o z) (ao z Xh);refine aR (jE (jr (ag rfl) aC) (aU (ag rfl) (.inl (TU.seq hS)))) (λh=>?_) (λh=>?_)
 · rw[aN,Ql,RZ] at h;have h:=XI h;rw[Xo (λz=>by rw[z] at h;simp at h)] at q0;have e8:((l.length+1:Nat):Int)=(l.length:Int)+1:=by omega
   have q8:=q0 _ rfl;dsimp only at q8;rw[e8] at q8;exact jJ (jr (ag rfl) aC) q8
 · rw[aN,Ql,RZ] at h;have h:=X8 h;rw[Xp (Ze.mp (by omega))] at q1;exact⟨_,rfl,q1 _ rfl H5 xb pp TU hB Po⟩
end
end Bw
namespace L2
open PySem PySem.Spec PyProof.Rows
def zg (K:aaa)(H:Hp):Prop:=∀b o,K.lookup b=some o->H b=none
def Cq (K:aaa):V->List V->Hp->VK->Prop:=λx vs H Q=>∃l xs y,x=.ref l/\vs=[y]/\H l=some (.lst xs)/\xs.length < sizeLine/\(zg K H->Q .cf (upd H l (.lst (xs++[y]))))
theorem w8 {X:Cx}:K4 X "list.append" (Cq X.K):=by
 intro pins s σ H x vs v us Q I rx rv h;obtain⟨l,xs,y,e1,e2,hH,hz,q⟩:=h;exact ic pins s σ H x vs v us Q I rx rv ⟨l,xs,y,e1,e2,hH,hz,q λb o hb=>(I.bs b o (I.ok.mod.Fc _ _ hb)).2⟩
end L2
namespace Bw
open PySem PySem.Spec PyProof.Rows L2 Tote
section
variable {K:aaa}{H:Hp}{c fo a x:Addr}{ys zs:List V}{o:HO}{xs:List Addr}
theorem xF (h:aQ K H c ys) (hf:H fo=some (.lst zs)) (ne:ys≠zs):aQ K (upd H fo o) c ys:=by
 rcases h with (h|⟨u,h⟩)|h
 · exact .inl (.inl (by rw[aq (dE h hf (by intro z;cases z;exact ne rfl))];exact h))
 · exact .inl (.inr ⟨u,by rw[aq (dE h hf (by intro z;cases z))];exact h⟩)
 · exact .inr h
theorem Hy (hK:zg K H)(h:aQ K H c ys){C dx:Addr}{fs:List (Str×V)}(hi:H c=some (.ins C dx fs)):False:=by
 rcases h with (h|⟨u,h⟩)|⟨u,_,_,h,_⟩
 · rw[hi] at h;cases h
 · rw[hi] at h;cases h
 · rw[hK _ _ h] at hi;cases hi
def J7 (H:Hp)(xs:List Addr):Prop:=∀x∈xs,∃C dx fs,H x=some (.ins C dx fs)
theorem yt {s:Z_}(h:s≠[]):nV s≠xs.map V.ref:=λe=>by
 cases s with
 |nil=>exact h rfl
 |cons n s =>
  cases xs with
  |nil=>cases e
  |cons x xs=>cases e
theorem t7 {bs:List Addr}(ne:bs≠[])(hK:zg K H)(hG:∀b∈bs,∃ys,aQ K H b ys)(hi:J7 H xs):bs.map V.ref≠xs.map V.ref:=λe=>by
 cases bs with
 |nil=>exact ne rfl
 |cons b bs =>
  cases xs with
  |nil=>cases e
  |cons x xs =>
   injection e with e1 e2;injection e1 with e1;subst e1;obtain⟨ys,h⟩:=hG b (by simp);obtain⟨C,dx,fs,hx⟩:=hi b (by simp);exact Hy hK h hx
theorem gF {α β:Type}{F:α->β->Prop}{G:α->Prop}(k:∀a b,F a b->G a):∀{l:List α} {m:List β},Paired F l m->∀a∈l,G a
 |_,_,.nil,_,h=>by cases h
 |_,_,.cons h t,a,hm=>by
  rcases Xr.mp hm with rfl|hm
  · exact k _ _ h
  · exact gF k t a hm
theorem kb {α β:Type}{F G:α->β->Prop}:∀{l:List α} {m:List β},Paired F l m->(∀a b,b∈m->F a b->G a b)->Paired G l m
 |_,_,.nil,_=>.nil
 |_,_,.cons h t,k=>.cons (k _ _ (by simp) h) (kb t λa b hb z=>k a b (by simp[hb]) z)
theorem mV {α β:Type}{F:α->β->Prop}{l:List α}{m:List β}(h:Paired F l m)(n:m≠[]):l≠[]:=λe=>by
 subst e;cases h;exact n rfl
variable (hK:zg K H)(hf:H fo=some (.lst (xs.map V.ref)))(hi:J7 H xs)
include hK hf hi
theorem rq {g:Z9}(h:bF K H a g)(ne:g≠[])(hs:∀s∈g,s≠[]):bF K (upd H fo o) a g:=by
 obtain⟨as,h1,h2⟩:=h;exact⟨as,xF h1 hf (t7 (mV h2 ne) hK (gF (λ_ _ z=>⟨_,z⟩) h2) hi),kb h2 λ_ s m z=>xF z hf (yt (hs s m))⟩
theorem zq {gs:List (Z9)}(h:dA K H a gs)(ne:gs≠[])(hs:∀g∈gs,g≠[]/\∀s∈g,s≠[]):dA K (upd H fo o) a gs:=by
 obtain⟨as,h1,h2⟩:=h;exact⟨as,xF h1 hf (t7 (mV h2 ne) hK (gF (λ_ _ ⟨_,z,_⟩=>⟨_,z⟩) h2) hi),kb h2 λ_ g m z=>rq hK hf hi z (hs g m).1 (hs g m).2⟩
theorem yH {CB CP CR:Addr}{p:aM}{y:bT}(h:jz K CB CP CR H x p y):jz K CB CP CR (upd H fo o) x p y:=by
 obtain⟨dx,pa,sa,ra,h1,⟨dp,fa,h2,h3⟩,⟨as,h4,h5⟩,⟨dr,ga,qa,Lx,h6,h7,h8,h9,Qr⟩,Qt,m⟩:=h;have ins:∀{b C d:Addr} {fs:List (Str×V)},H b=some (.ins C d fs)->(upd H fo o) b=some (.ins C d fs):=λz=>by rw[aq (dE z hf (by intro z;cases z))];exact z
 have Xj:y.sets≠[]:=λz=>by
  obtain⟨_,m0,m1,m2⟩:=m.all;have pos:0 < p.fields.length:=Yt.mpr m.ok.ne;by_cases z0:y.how=0
  · have:=(m0 z0).1;rw[z] at this;have:0=p.fields.length:=this;omega
  · by_cases z1:y.how=1
    · obtain⟨t,e,_⟩:=m1 z1;rw[e] at z;cases z
    · obtain⟨t,u,e,_⟩:=m2 z0 z1;rw[e] at z;cases z
 refine⟨dx,pa,sa,ra,ins h1,⟨dp,fa,ins h2,rq hK hf hi h3 m.ok.ne m.KQ⟩,⟨as,?_,kb h5 λb s hm z=>?_⟩,⟨dr,ga,qa,Lx,ins h6,zq hK hf hi h7 h8.ne m.Lq,h8,?_,Qr⟩,Qt,m⟩
 · rw[aq (dE h4 hf (by
    intro z;injection z with z;exact t7 (mV h5 Xj) hK (gF (λ_ _ z=>⟨_,aQ.of z⟩) h5) hi z))]
   exact h4
 · rw[aq (dE z hf (by intro q;injection q with q;exact yt (m.all.1 s hm).1 q))];exact z
 · rw[aq (dE h9 hf (by intro z;cases z))];exact h9
end
structure GD (mg:aac):Prop where
 long:Gv mg "TOO_LONG" (.int (-2))
 G9:Gv mg "FAULTY_BET" (.int (-6))
 GG:Gv mg "NO_CARD" (.int (-8))
 Jw:Gv mg "MOST_CARD" (.int 65536)
 Jf:Gv mg "MOST_BET" (.int 4096)
def readAll (ps:List aM):List Bytes->Except Fault (List bT)
 |[]=>.ok []
 |b::bs=>match dF ps b with
  |.error f=>.error f
  |.ok y=>match readAll ps bs with
   |.error f=>.error f
   |.ok ys=>.ok (y::ys)
theorem jD {ps:List aM}:∀{l m:List Bytes} {ys:List bT},readAll ps l=.ok ys->readAll ps (l++m)=match readAll ps m with
  |.error f=>.error f
  |.ok zs=>.ok (ys++zs)
 |[],m,ys,h=>by
  injection h with h;subst h;cases h2:readAll ps m with
  |error f=>exact h2
  |ok zs=>exact h2
 |b::l,m,ys,h=>by
  show (match dF ps b with
   |.error f=>(Except.error f:Except Fault (List bT))
   |.ok y=>match readAll ps (l++m) with
    |.error f=>.error f
    |.ok ys=>.ok (y::ys))=_
  have h:(match dF ps b with
   |.error f=>(Except.error f:Except Fault (List bT))
   |.ok y=>match readAll ps l with
    |.error f=>.error f
    |.ok ys=>.ok (y::ys))=.ok ys:=h
  cases hb:dF ps b with
  |error f=>rw[hb] at h;cases h
  |ok y =>
   rw[hb] at h;cases hl:readAll ps l with
   |error f=>rw[hl] at h;cases h
   |ok xs =>
    rw[hl] at h;injection h with h;subst h;show (match readAll ps (l++m) with
     |.error f=>(Except.error f:Except Fault (List bT))
     |.ok ys=>.ok (y::ys))=_
    rw[jD hl];cases readAll ps m <;> rfl
theorem nQ {ps:List aM}{b:Bytes}:readAll ps [b]=match dF ps b with
  |.error f=>.error f
  |.ok y=>.ok [y]:=by
 show (match dF ps b with
   |.error f=>(Except.error f:Except Fault (List bT))
   |.ok y=>.ok [y])=_
 cases dF ps b <;> rfl
def ki (t:Bytes)(bs:List Bytes):Except (List Int) (List bT):=if 65536 < t.length∨(bs.any λb=>decide (4096 < b.length))=true then .error [-2] else match eh (tx t) with
 |none=>.error [-8]
 |some ps=>match readAll ps bs with
  |.error f=>.error [-6,(f.kind:Nat),(f.place:Nat)]
  |.ok ys=>.ok ys
theorem uV {t b:Bytes}:ki t [b]=match nY t b with
  |.error z=>.error z
  |.ok y=>.ok [y]:=by
 unfold ki nY;have e:([b].any λb=>decide (4096 < b.length))=true↔4096 < b.length:=by simp
 rw[ka (p:=65536 < t.length∨([b].any λb=>decide (4096 < b.length))=true) (q:=65536 < t.length∨4096 < b.length) ⟨λh=>h.imp id e.mp,λh=>h.imp id e.mpr⟩];by_cases h:65536 < t.length∨4096 < b.length
 · rw[Xp h,Xp h]
 · rw[Xo h,Xo h];cases eh (tx t) with
   |none=>rfl
   |some ps =>
    show (match readAll ps [b] with
     |.error f=>(Except.error [-6,((f.kind:Nat):Int),((f.place:Nat):Int)]:Except (List Int) (List bT))
     |.ok ys=>.ok ys)=_
    rw[nQ];show _=(match (match dF ps b with
     |.error f=>(Except.error [-6,((f.kind:Nat):Int),((f.place:Nat):Int)]:Except (List Int) bT)
     |.ok y=>.ok y) with
     |.error z=>(Except.error z:Except (List Int) (List bT))
     |.ok y=>.ok [y])
    cases dF ps b <;> rfl
section
variable {P:Program}{w:World}{K:aaa}{mg:aac}{base:Heap}
theorem yE {CX:lO} {N:List Str} {qual:Str} {scope:Scope} {f:Addr} {cd:Value} {A:Around} {outer:List Env} {s:Shared} {H:Hp} {E:XK}:my (ni CX P w K mg base N qual scope f cd A outer s H E).He:=⟨rfl,rfl,rfl,rfl⟩
def tM (K:aaa)(CB CP CR:Addr)(ps:List aM)(H:Hp)(x:Addr)(y:bT):Prop:=∃p,jz K CB CP CR H x p y/\ps[y.pool]?=some p
def uk (K:aaa)(CB CP CR:Addr):Sp:=λvs H Q _=>∃(c d:Addr) (ds:List Addr) (t:Bytes) (bs:List Bytes),vs=[.ref c,.ref d]/\aQ K H c (nV (ia t))/\aQ K H d (ds.map V.ref)/\Paired (λa b=>aQ K H a (nV (ia b))) ds bs/\bs.length<=2 /\
 (∀zs,ki t bs=.error zs->∀H' T L F,H' T=some (.tup [.ref L,.ref F])->H' L=some (.lst (zs.map V.int))->H' F=some (.lst [])->Q (.ref T) H') /\
 (∀ys,ki t bs=.ok ys->∀H' T L F xs ps,H' T=some (.tup [.ref L,.ref F])->H' L=some (.lst [])->H' F=some (.lst (xs.map V.ref))->Paired (tM K CB CP CR ps H') xs ys->eh (tx t)=some ps->Q (.ref T) H')
theorem gq:aG ["card","bets","bet","pools","found","fault"] ["card","bets"] (aw fq):=fs
theorem BV {CF CB CP CR aW N fI:Addr}(R6:∀t ps,eh (tx t)=some ps->∀p∈ps,C5 p)(G:GW mg)(B:GB K mg aW)(D:GD mg)(Z:pH K CF N fI)(hF:mg "Fault"=some (.ref CF)){k:Nat}
  (FC:Fn P w K mg base bE k "read_card" ["codes"] (wq K CP))(FB:Fn P w K mg base (eW P w CF) k "read_bet" ["pools","codes"] (Bf K CF CB CP CR))
  {f:Addr}{fd:FuncData}(F:de K "look_at_all" "look_at_all" fq f fd):a8 P w K mg base bE (k+1) f fd ["card","bets"] (uk K CB CP CR):=by
 refine F.Kz gq (λvs H Q E h=>?_) (λLz A outer s H vs Q E hr h=>?_)
 · obtain⟨_,_,_,_,_,rfl,_⟩:=h;rfl
 · obtain⟨c,d,ds,t,bs,rfl,hC,hD,hP,h2,q0,q1⟩:=h
   refine⟨_,ik (PS.zero (aO (PW.pt (d9 (aB kQ (bg G.len (pv 0)) (bb D.Jw) (aJ _)) (cR (h_ (bY (Ci rfl) (by rfl) B.any (by decide +kernel) (aa (fA (te:=kI (qI λi j=>.bl (decide (j < i))) (GF (λxs H Q=>∃p ys,xs=[.ref p]/\(aQ K H p ys∨b7 K H p ys)/\Q (.int ys.length) H) (cM (cH 2) eV)) (tC (.int 4096))) rfl gq.nd (bH (pv 1)) (bz (own:=[("bet",2)]) rfl)
         (λ_ _ _ _ _=>bp 2 gq.nd) (λ_ _ _ _ _=>cq) (λ_ _ _ _ _=>ft kQ (bg G.len (pv 2)) (bb D.Jf) (aJ _))) ah))))))
     (ak (az (di (aa (bV (aa (bb D.long) ah)) (aa (bV ah) ah))))) aA))
    (ik (PS.zero (a7 3 gq.nd (aS FC hr a_ (aa (pv 0) ah))))
    (ik (PS.zero (aO (aB ua (pv 3) cC (aJ _)) (ak (az (di (aa (bV (aa (bb D.GG) ah)) (aa (bV ah) ah))))) aA))
    (ik (PS.zero (a7 4 gq.nd (bV ah)))
    (ik (Et Yu rfl (bH (pv 1)) (bp 2 gq.nd)
      (HW (i:=5) (R:=λk p=>∃ps y,eh (tx t)=some ps/\readAll ps bs=.error y/\k=(y.kind:Nat)/\p=(y.place:Nat)) yE Z (by rfl) hF gq.nd rfl rfl
       (ak (dR (qA PySem.F.plainAttrs_list PySem.F.slot_list_append PySem.F.type_list_append w8 (pv 4) (aa (aS FB hr (bP yE rfl rfl) (aa (pv 3) (aa (pv 2) ah))) ah))))
       (λ_=>ak (az (di (aa (bV (aa (bb D.G9) (aa (yW Z Z.fK (pv 5) rfl) (aa (yW Z Z.fP (pv 5) rfl) ah)))) (aa (bV ah) ah)))))))
    (qT.zero (ak (az (di (aa (bV ah) (aa (pv 4) ah)))))))))),?_⟩
   have MH:ds.length=bs.length:=Paired.length hP;have tl:(ia t).length=t.length:=by unfold ia;rw[Xn]
   have bl:∀b:Bytes,(ia b).length=b.length:=λb=>by unfold ia;rw[Xn]
   have Qm:(ia t).map sg=tx t:=by
    unfold ia tx;rw[XR];rfl
   have no:∀(zs:List Int) (H1:Hp) (L:Addr),ki t bs=.error zs->H1 L=none->∀F,(upd H1 L (.lst (zs.map V.int))) F=none->∀T,(upd (upd H1 L (.lst (zs.map V.int))) F (.lst [])) T=none->Q (.ref T) (upd (upd (upd H1 L (.lst (zs.map V.int))) F (.lst [])) T (.tup [.ref L,.ref F])):=λzs H1 L e hL F hF T hT=>by
    have nF:L≠F:=λz=>by rw[←z,ae] at hF;cases hF
    have nT:L≠T:=λz=>by rw[←z,aq nF,ae] at hT;cases hT
    have Xk:F≠T:=λz=>by rw[←z,ae] at hT;cases hT
    exact q0 zs e _ T L F ae (by rw[aq nT,aq nF];exact ae) (by rw[aq Xk];exact ae)
   unfold ki at no q1;refine (jE (aU (ag rfl) (.inl hC)) aC) _ ?_;rw[aN,tl];refine gG (λh=>?_) (λh=>?_)
   · have h:65536 < t.length:=by have:=XI h;omega
     rw[Xp (.inl h)] at no;exact oN ⟨by show 1<=sizeLine;decide,λL hL=>⟨XW _,λF hF=>⟨by show 2<=sizeLine;decide,λT hT=>no [-2] _ L rfl hL F hF T hT⟩⟩⟩
   have h1:¬65536 < t.length:=λz=>h (X4 (by omega));refine⟨_,rfl,d,rfl,⟨_,hD⟩,λD0 M1=>oG (K:=K) (a:=d) (xs:=ds.map V.ref) (λi y _=>∃b,bs[i]?=some b/\y=.bl (decide (4096 < b.length))) (λi y H H' _ z=>z) hD M1 (by rw[Xn,MH];omega) ?_ ?_⟩
   · rintro i v H' hi S _ R hR;obtain⟨ai,LZ,rfl⟩:=jA hi;obtain⟨b,hb,hI⟩:=Paired.qO hP LZ;refine⟨rfl,_,rfl,ai,_,rfl,.inl (S.seq hI),_,_,rfl,rfl,hR _ _ (au.refl _) ⟨b,hb,?_⟩⟩;rw[aN,bl];show V.bl (decide _)=V.bl (decide _);congr 1;rw[Za];omega
   rintro ys H1 S1 e1 l1 f1;have ey:ys=(bs.map λb=>decide (4096 < b.length)).map V.bl:=by
    refine xW (by rw[l1];simp[MH]) λi y hy=>?_;obtain⟨b,hb,rfl⟩:=f1 i y hy;rw[Xs,Xs,hb];rfl
   subst ey;refine⟨D0,_,rfl,aQ.of e1,_,rfl,?_⟩;have ea:(bs.map λb=>decide (4096 < b.length)).any id=bs.any λb=>decide (4096 < b.length):=by rw[ZM];rfl
   rw[ea];refine gG (λh=>?_) (λh=>?_)
   · rw[Xp (.inr h)] at no;exact⟨by show 1<=sizeLine;decide,λL hL=>⟨XW _,λF hF=>⟨by show 2<=sizeLine;decide,λT hT=>no [-2] _ L rfl hL F hF T hT⟩⟩⟩
   rw[Xo λz=>z.elim h1 h] at no q1;have small:∀b∈bs,b.length<=4096:=λb hb=>by
    have:¬4096 < b.length:=λz=>h (Y2.mpr ⟨b,hb,X4 z⟩);omega
   refine⟨_,rfl,c,ia t,rfl,S1.seq hC,by omega,λhn H2 S2=>?_,λps NX H2 x S2 Mz=>?_⟩
   · rw[Qm] at hn;rw[hn] at no;refine aR (aI (tX (ag rfl))) (λh=>?_) (λh=>absurd h (by decide));exact⟨by show 1<=sizeLine;decide,λL hL=>⟨XW _,λF hF=>⟨by show 2<=sizeLine;decide,λT hT=>no [-8] _ L rfl hL F hF T hT⟩⟩⟩
   rw[Qm] at NX;rw[NX] at no q1;have no:∀(zs:List Int) (H1:Hp) (L:Addr),(match readAll ps bs with
    |.error f=>(Except.error [-6,((f.kind:Nat):Int),((f.place:Nat):Int)]:Except (List Int) (List bT))
    |.ok ys=>.ok ys)=.error zs->_:=no
   have q1:∀ys,(match readAll ps bs with
    |.error f=>(Except.error [-6,((f.kind:Nat):Int),((f.place:Nat):Int)]:Except (List Int) (List bT))
    |.ok ys=>.ok ys)=.ok ys->_:=q1
   refine aR (aI (tX (ag rfl))) (λh=>absurd (XI h) (by intro z;cases z)) (λh=>?_);refine⟨XW _,λfo PM=>?_⟩;have SH:au H H2:=S1.trans S2;have Sf:au H2 (upd H2 fo (.lst [])):=(au.refl H2).laid PM;refine⟨_,rfl,d,rfl,⟨_,(SH.trans Sf).seq hD⟩,cZ (K:=K) (a:=d) (xs:=ds.map V.ref) (λi σ H'=>∃(v2:Option V) (xs:List Addr) (ys:List bT),σ=[some (.ref c),some (.ref d),v2,some (.ref x),some (.ref fo),none]/\au H2 H'/\H' fo=some (.lst (xs.map V.ref))/\readAll ps (bs.take i)=.ok ys/\Paired (tM K CB CP CR ps H') xs ys)
    ⟨none,[],[],rfl,Sf,ae,rfl,.nil⟩ (λi σ H' _ ⟨_,_,_,_,S,_⟩=>(SH.trans S).seq hD) ?_ ?_⟩
   · rintro i v σ H3 hi ⟨v2,xs,ys,rfl,S3,e3,r3,Qn⟩;obtain⟨ai,LZ,rfl⟩:=jA hi;obtain⟨b,hb,hI⟩:=Paired.qO hP LZ;have LG:i < bs.length:=(XB.mp hb).1;have hs:=small b (XT hb);have ed:bs=bs.take i++b::bs.drop (i+1):=by
      rw[←(XB.mp hb).2,List.getElem_cons_drop,List.take_append_drop]
     refine⟨?_,?_⟩
     · refine⟨_,rfl,.inl ⟨rfl,_,aQ.of e3⟩,_,rfl,_,rfl,ai,x,ps,b,rfl,(SH.trans S3).seq hI,hs,Mz.same S3,R6 t ps NX,λy hy=>Iy ⟨ps,y,NX,?_,rfl,rfl⟩,λy hy H4 xb p S4 Xl Po=>?_⟩
       · rw[ed,jD r3];show (match (match dF ps b with
          |.error f=>(Except.error f:Except Fault (List bT))
          |.ok y=>match readAll ps (bs.drop (i+1)) with
           |.error f=>.error f
           |.ok ys=>.ok (y::ys)) with
          |.error f=>(Except.error f:Except Fault (List bT))
          |.ok zs=>.ok (ys++zs))=_
         rw[hy]
       · have lx:xs.length<=2:=by
          have z1:=Paired.length Qn;have z2:∀{l:List Bytes} {zs:List bT},readAll ps l=.ok zs->zs.length=l.length:=λ{l}=>by
           induction l with
           |nil=>intro zs h;injection h with h;subst h;rfl
           |cons b l ih =>
            intro zs h;have h:(match dF ps b with
             |.error f=>(Except.error f:Except Fault (List bT))
             |.ok y=>match readAll ps l with
              |.error f=>.error f
              |.ok ys=>.ok (y::ys))=.ok zs:=h
            cases hb:dF ps b with
            |error f=>rw[hb] at h;cases h
            |ok y =>
             rw[hb] at h;cases hl:readAll ps l with
             |error f=>rw[hl] at h;cases h
             |ok xs =>
              rw[hl] at h;injection h with h;subst h;rw[Xz,Xz,ih hl]
          have z3:=z2 r3;rw[XN] at z3;omega
         refine⟨fo,_,_,rfl,rfl,S4 _ _ e3,by rw[Xn,XS];omega,λhK=>⟨some (.ref ai),xs++[xb],ys++[y],rfl,?_,by rw[ae,XH];rfl,?_,?_⟩⟩
         · intro b' u z;rw[aq (ao z PM)];exact S4 b' u (S3 b' u z)
         · rw[take_snoc hb,jD r3,nQ,hy]
         · have old:Paired (tM K CB CP CR ps H4) xs ys:=Paired.d8 Qn λ_ _ ⟨p,z1,z2⟩=>⟨p,z1.same S4,z2⟩;have hi:J7 H4 xs:=gF (λ_ _ ⟨p,⟨dx,_,_,_,z,_⟩,_⟩=>⟨_,dx,_,z⟩) old;exact gm (Paired.d8 old λ_ _ ⟨p,z1,z2⟩=>⟨p,yH hK (S4 _ _ e3) hi z1,z2⟩) (.cons ⟨p,yH hK (S4 _ _ e3) hi Xl,Po⟩ .nil)
     · rintro σ' H' a dx k' p' ⟨ps',y,h1,h2,rfl,rfl⟩ hσ ha Mg;rw[NX] at h1;injection h1 with h1;subst h1;rw[h2] at no;refine⟨_,hσ,a,dx,_,_,rfl,ha,Mg,bR,_,hσ,a,dx,_,_,rfl,ha,Mg,(a9 (by decide +kernel)).trans bR,by show 3<=sizeLine;decide,λL hL=>⟨XW _,λF hF=>⟨by show 2<=sizeLine;decide,λT hT=>?_⟩⟩⟩;exact no [-6,((y.kind:Nat):Int),((y.place:Nat):Int)] _ L rfl hL F hF T hT
   · rintro σ H3 ⟨v2,xs,ys,rfl,S3,e3,r3,Qn⟩;rw[Xn,MH,Ym] at r3;rw[r3] at q1;refine⟨XW _,λL hL=>⟨_,rfl,by show 2<=sizeLine;decide,λT hT=>?_⟩⟩;have S4:au H3 (upd H3 L (.lst [])):=(au.refl H3).laid hL;have S5:au (upd H3 L (.lst [])) (upd (upd H3 L (.lst [])) T (.tup [.ref L,.ref fo])):=(au.refl _).laid hT;exact q1 ys rfl _ T L fo xs ps ae (S5 _ _ ae) (S5 _ _ (S4 _ _ e3)) (Paired.d8 Qn λ_ _ ⟨p,z1,z2⟩=>⟨p,z1.same (S4.trans S5),z2⟩) rfl
def xG (K:aaa)(CB CP CR:Addr):Sp:=λvs H Q _=>∃(c d:Addr) (t b:Bytes),vs=[.ref c,.ref d]/\aQ K H c (nV (ia t))/\aQ K H d (nV (ia b)) /\
 (∀zs,nY t b=.error zs->∀H' T L,H' T=some (.tup [.ref L,.cf])->H' L=some (.lst (zs.map V.int))->Q (.ref T) H') /\
 (∀y,nY t b=.ok y->∀H' T L x p,H' T=some (.tup [.ref L,.ref x])->jz K CB CP CR H' x p y->(∃ps,eh (tx t)=some ps/\ps[y.pool]?=some p)->Q (.ref T) H')
theorem tF:aG ["card","bet","refusal","found"] ["card","bet"] (aw j0):=fs
theorem Ee {CB CP CR:Addr}(G:GW mg){k:Nat}(FA:Fn P w K mg base bE k "look_at_all" ["card","bets"] (uk K CB CP CR)){f:Addr}{fd:FuncData}(F:de K "look_at" "look_at" j0 f fd):a8 P w K mg base bE (k+1) f fd ["card","bet"] (xG K CB CP CR):=by
 refine F.oa tF λLz A outer s H vs Q E hr h=>?_;obtain⟨c,d,t,b,rfl,hC,hB,q0,q1⟩:=h;refine⟨_,af (CO (aS FA hr a_ (aa (pv 0) (aa (bV (aa (pv 1) ah)) ah))) (k_ rfl (cg (bp 2 tF.nd) (cg (bp 3 tF.nd) iP))))
  (af (aO (aB ck (bg G.len (pv 3)) ax (aJ _)) (ak (az (di (aa (pv 2) (aa cC ah))))) aA)
  (ak (az (di (aa (pv 2) (aa (bo aL (pv 3) ax (λ_ _=>rfl)) ah)))))),?_⟩
 refine⟨_,rfl,_,rfl,by show 1<=sizeLine;decide,λl hl=>?_⟩;have Sl:au H (upd H l (.lst [V.ref d])):=(au.refl H).laid hl;have e1:=uV (t:=t) (b:=b);refine⟨c,l,[d],t,[b],rfl,Sl.seq hC,aQ.of ae,.cons (Sl.seq hB) .nil,by show 1<=2;decide,λzs hz H' T L F hT hL hF=>?_,λys hy H' T L F xs ps hT hL hF hP NX=>?_⟩
 · refine⟨T,_,rfl,b7.of hT,rfl,_,_,rfl,_,_,rfl,rfl,?_⟩;refine aR (aI (b9 (aU (ag rfl) (.inl (aQ.of hF))) aC)) (λh=>?_) (λh=>absurd h (by decide));rw[e1] at hz;cases hm:nY t b with
   |ok y=>rw[hm] at hz;cases hz
   |error z =>
    rw[hm] at hz;injection hz with hz;subst hz;refine⟨_,rfl,by show 2<=sizeLine;decide,λT2 Mx=>q0 z hm _ T2 L ae ?_⟩;rw[aq (ao hL Mx)];exact hL
 · rw[e1] at hy;cases hm:nY t b with
   |error z=>rw[hm] at hy;cases hy
   |ok y =>
    rw[hm] at hy;injection hy with hy;subst hy;cases hP with
    |cons hx hn =>
     cases hn;rename_i x;obtain⟨p,TV,Po⟩:=hx;refine⟨T,_,rfl,b7.of hT,rfl,_,_,rfl,_,_,rfl,rfl,?_⟩;refine aR (aI (b9 (aU (ag rfl) (.inl (aQ.of hF))) aC)) (λh=>absurd h (by show ¬decide (V.int 1=V.int 0)=true;decide)) (λh=>?_);refine⟨_,rfl,(a6 (ag rfl) aC (aQ.of hF) (v:=.ref x) rfl) _ ⟨by show 2<=sizeLine;decide,λT2 Mx=>q1 y hm _ T2 L x p ae (TV.same ((au.refl H').laid Mx)) ⟨ps,NX,Po⟩⟩⟩
end
section
variable {P:Program}{w:World}{K:aaa}{mg:aac}{base:Heap}
theorem qp.mono {CX:lO} {C:Addr} {m:Str} {ps:List Str} {j k:Nat} {sp:Sp} (F:qp P w K mg base CX j C m ps sp) (h:j<=k):qp P w K mg base CX k C m ps sp:=by
 obtain⟨f,fd,hm,hb,F⟩:=F;exact⟨f,fd,hm,hb,F.mono h⟩
structure TopW (K:aaa)(mg:aac):Prop where
 G:GW mg
 sign:g_ K mg "sign_of" j8
 text:g_ K mg "text_of" j3
 name:g_ K mg "is_name" j7
 num:g_ K mg "number_of" gT
section
variable (T:TopW K mg)
include T
theorem TopW.D5:Fn P w K mg base bE 1 "number_of" ["word"] kP:=T.num.mk λ_ _ F=>F5 T.G F
theorem TopW.Ff:Fn P w K mg base bE 1 "is_name" ["word"] mf:=T.name.mk λ_ _ F=>zC T.G F
theorem TopW.FG:Fn P w K mg base bE 2 "text_of" ["codes"] (sQ K):=T.text.mk λ_ _ F=>EN (T.sign.mk λ_ _ F=>Dr T.G F) F
end
theorem Di.mk {CX:lO}{C:Addr}{qual:Str}{st:Stmt}{ps:List Str}{k:Nat}{sp:Sp}(D:Di K C qual st)
  (ok:∀f fd,de K "__init__" qual st f fd->a8 P w K mg base CX k f fd ps sp)(hb:∀(kV doc pm:Value) (an:Option Addr) (Lz ct:Value) (us:aae),us.length=ps.length->bindArgs (PySem.W.fnOf "__init__" qual (cU st) (b6 st) (aw st) .none kV doc pm an Lz ct) ⟨us,[]⟩=pure (ps.zip us):=by intro _ _ _ _ _ _;first|exact JR (λ_=>rfl)|exact IJ (λ_ _=>rfl)|exact IQ (λ_ _ _=>rfl)|exact JV (λ_ _ _ _=>rfl)|exact JT (λ_ _ _ _ _=>rfl)|exact J_ (λ_ _ _ _ _ _ _=>rfl)):xY P w K mg base CX k C ps sp:=by
 obtain⟨f,fd,hm,F⟩:=D;exact⟨f,fd,hm,F.binds hb,ok f fd F⟩
theorem xY.mono {CX:lO}{C:Addr}{ps:List Str}{j k:Nat}{sp:Sp}(F:xY P w K mg base CX j C ps sp)(h:j<=k):xY P w K mg base CX k C ps sp:=by
 obtain⟨f,fd,hm,hb,F⟩:=F;exact⟨f,fd,hm,hb,F.mono h⟩
theorem Dm.mk {CX:lO}{C:Addr}{m qual:Str}{st:Stmt}{ps:List Str}{k:Nat}{sp:Sp}(D:Dm K C m qual st)
  (ok:∀f fd,de K m qual st f fd->a8 P w K mg base CX k f fd ps sp)(hb:∀(kV doc pm:Value) (an:Option Addr) (Lz ct:Value) (us:aae),us.length=ps.length->bindArgs (PySem.W.fnOf m qual (cU st) (b6 st) (aw st) .none kV doc pm an Lz ct) ⟨us,[]⟩=pure (ps.zip us):=by intro _ _ _ _ _ _;first|exact JR (λ_=>rfl)|exact IJ (λ_ _=>rfl)|exact IQ (λ_ _ _=>rfl)|exact JV (λ_ _ _ _=>rfl)|exact JT (λ_ _ _ _ _=>rfl)|exact J_ (λ_ _ _ _ _ _ _=>rfl)):qp P w K mg base CX k C m ps sp:=by
 obtain⟨f,fd,hm,F⟩:=D;exact⟨f,fd,hm,F.binds hb,ok f fd F⟩
structure TopC (P:Program)(w:World)(K:aaa)(mg:aac)(dS aF CP:Addr):Prop where
 W:TopW K mg
 GC:GC P w K mg dS aF
 TP:CK K mg "Pool" gZ CP
 Bb:Di K CP "Pool.__init__" gK
 day:g_ K mg "is_day" lN
 G0:g_ K mg "has_pool_form" dP
 CN:g_ K mg "are_terms_good" dB
 fields:g_ K mg "fields_of" gY
 pool:g_ K mg "read_pool" gX
 race:g_ K mg "read_race" fw
 pools:g_ K mg "read_pools" f_
 GG:g_ K mg "read_card" gH
theorem TopC.JB {dS aF CP:Addr}(T:TopC P w K mg dS aF CP):Fn P w K mg base bE 6 "read_card" ["codes"] (wq K CP):=by
 have num:Fn P w K mg base bE 2 "number_of" ["word"] kP:=T.W.D5.mono (by decide);have day:Fn P w K mg base bE 2 "is_day" ["words"] (AY K):=T.day.mk λ_ _ F=>HL T.W.G T.W.Ff F;have G0:Fn P w K mg base bE 2 "has_pool_form" ["words"] (wG K):=T.G0.mk λ_ _ F=>DM T.W.G T.GC T.W.Ff F;have CN:Fn P w K mg base bE 2 "are_terms_good" ["words"] (t8 K):=T.CN.mk λ_ _ F=>A8 T.W.D5 F;have fields:Fn P w K mg base bE 1 "fields_of" ["kind","size","race","races"] (qd K):=T.fields.mk λ_ _ F=>zT T.W.G T.GC F;have Bb:xY P w K mg base bE 1 CP ["self","name","kind","fields","unit"] (tK CP):=T.Bb.mk λ_ _ F=>Bd T.TP F;have pool:Fn P w K mg base bE 4 "read_pool" ["words","races"] (xN K CP):=T.pool.mk λ_ _ F=>C8 T.W.G T.GC T.TP G0 CN num (fields.mono (by decide)) (Bb.mono (by decide)) F;have race:Fn P w K mg base bE 2 "read_race" ["words"] (wQ K):=T.race.mk λ_ _ F=>D8 T.W.G T.GC T.W.D5 F;have pools:Fn P w K mg base bE 5 "read_pools" ["lines","races"] (tL K CP):=T.pools.mk λ_ _ F=>Bg T.W.G T.GC T.TP pool F;exact T.GG.mk λ_ _ F=>DR T.W.G T.GC (T.W.FG.mono (by decide)) (day.mono (by decide)) (race.mono (by decide)) pools F
structure wj (K:aaa)(mg:aac)(aW CR:Addr):Prop where
 G:GW mg
 B:GB K mg aW
 N:GN mg
 TR:CK K mg "Rows" jv CR
 prod:g_ K mg "product_of" fT
 Ka:g_ K mg "without" j1
 legs:g_ K mg "count_legs" fV
 Hg:g_ K mg "count_orders" eT
 D_:g_ K mg "is_of" oK
 Lj:g_ K mg "count_different" cW
 Lb:g_ K mg "picks_of" iM
 cst:g_ K mg "count_starts" eD
 Ir:Di K CR "Rows.__init__" gW
 start:Dm K CR "starting" "Rows.starting" dO
 Lf:g_ K mg "rows_on" j_
 KP:g_ K mg "rows_box" iH
 J5:g_ K mg "rows_key" iJ
 Gq:g_ K mg "seatings" gu
 Kk:g_ K mg "rows_of" ko
section
variable {aW CR:Addr}(T:wj K mg aW CR)
include T
theorem wj.Ie:Fn P w K mg base bE 1 "without" ["numbers","taken"] (tG K):=T.Ka.mk λ_ _ F=>DB F
theorem wj.Hv:qp P w K mg base bE 3 CR "starting" ["self","start"] (uc K CR):=by
 have D_:Fn P w K mg base bE 1 "is_of" ["sets","start"] (tZ K):=T.D_.mk λ_ _ F=>EI T.G T.N F;have legs:Fn P w K mg base bE 2 "count_legs" ["sets","start"] (iN K kW):=T.legs.mk λ_ _ F=>Eo T.G D_ (T.prod.mk λ_ _ F=>ES F) F;have Hg:Fn P w K mg base bE 2 "count_orders" ["sets","start"] (iN K sM):=T.Hg.mk λ_ _ F=>C3 T.G T.N D_ (T.Lj.mk λ_ _ F=>Hs T.G T.B T.N F) T.Ie F;exact T.start.mk λ_ _ F=>A3 T.N T.TR Hg legs F
theorem wj.xi:xY P w K mg base bE 2 CR ["self","kind","grids"] (jZ K CR):=T.Ir.mk λ_ _ F=>BG T.TR (T.cst.mk λ_ _ F=>Hl T.G T.N F) (T.Lb.mk λ_ _ F=>Hw T.N F) F
theorem wj.Ku:Fn P w K mg base bE 4 "rows_on" ["kind","sets"] (qk K CR):=T.Lf.mk λ_ _ F=>Hf T.TR T.xi F
theorem wj.KR {CP:Addr}(TP:CK K mg "Pool" gZ CP):Fn P w K mg base bE 5 "rows_of" ["pool","how","sets"] (yq K CP CR):=by
 have Gq:Fn P w K mg base bE 1 "seatings" ["size","bankers","others"] (xl K):=T.Gq.mk λ_ _ F=>Ex T.N F;exact T.Kk.mk λ_ _ F=>HY T.G T.B TP T.Ku (T.KP.mk λ_ _ F=>Du T.N T.TR T.xi F) (T.J5.mk λ_ _ F=>E9 T.TR (Gq.mono (by decide)) T.xi F) F
end
structure Df (P:Program)(w:World)(K:aaa)(mg:aac)(dS aF CP CW CB CF nF fI aW CR:Addr):Prop where
 C:TopC P w K mg dS aF CP
 N:wj K mg aW CR
 D:GD mg
 TW:CK K mg "Words" cp CW
 TB:CK K mg "Bet" vv CB
 Z:pH K CF nF fI
 mF:mg "Fault"=some (.ref CF)
 Gw:∃fd,de K "__init__" "Fault.__init__" fL fI fd
 G4:Di K CB "Bet.__init__" iT
 cost:Dm K CB "cost" "Bet.cost" iY
 xJ:Di K CW "Words.__init__" gc
 take:Dm K CW "take" "Words.take" f7
 one:Dm K CW "take_one_of" "Words.take_one_of" cv
 fin:Dm K CW "finish" "Words.finish" eJ
 stake:g_ K mg "take_stake" fZ
 set:g_ K mg "take_set" iU
 box:g_ K mg "take_box" iL
 key:g_ K mg "take_key" i5
 on:g_ K mg "take_on" jT
 sets:g_ K mg "take_sets" gU
 how:g_ K mg "take_how" iG
 pool:g_ K mg "take_pool" gQ
 line:g_ K mg "check_line" fU
 words:g_ K mg "read_words" fS
 J1:g_ K mg "read_bet" i9
 Jj:g_ K mg "look_at_all" fq
 look:g_ K mg "look_at" j0
section
variable {dS aF CP CW CB CF nF fI aW CR:Addr}(T:Df P w K mg dS aF CP CW CB CF nF fI aW CR)
include T
theorem Df.GX:Fn P w K mg base bE 9 "look_at_all" ["card","bets"] (uk K CB CP CR):=by
 have G:=T.C.W.G;have B:=T.N.B;have FL:Flt P w K mg base CF:=by
  obtain⟨fd,F⟩:=T.Gw;exact⟨nF,fI,fd,T.Z,F.binds (λ_ _ _ _ _ _=>IQ λ_ _ _=>rfl),zr T.Z F,T.mF⟩
 have num:∀k,1<=k->Fn P w K mg base bE k "number_of" ["word"] kP:=λk hk=>T.C.W.D5.mono hk;have take:qp P w K mg base (eW P w CF) 3 CW "take" ["self"] (nq K CW CF):=T.take.mk λ_ _ F=>EJ G B T.TW FL F;have one:qp P w K mg base (eW P w CF) 4 CW "take_one_of" ["self","known"] (oM K CW CF):=T.one.mk λ_ _ F=>G3 B T.TW FL (by decide) take F;have fin:qp P w K mg base (eW P w CF) 3 CW "finish" ["self"] (AD K CW CF):=T.fin.mk λ_ _ F=>Ge G B T.TW FL F;have stake:Fn P w K mg base (eW P w CF) 4 "take_stake" ["words","unit"] (tq K CW CF):=T.stake.mk λ_ _ F=>Co B T.TW FL (by decide) take (num 3 (by decide)) F;have set:Fn P w K mg base (eW P w CF) 4 "take_set" ["words","field"] (uS K CW CF):=T.set.mk λ_ _ F=>GU G B T.TW FL (by decide) take (num 3 (by decide)) F;have box:Fn P w K mg base (eW P w CF) 5 "take_box" ["words","field","size"] (BX K CW CF):=T.box.mk λ_ _ F=>GZ G B T.TW FL (by decide) set F;have key:Fn P w K mg base (eW P w CF) 5 "take_key" ["words","field","size"] (Cp K CW CF):=T.key.mk λ_ _ F=>HA G B T.TW FL (by decide) set one F;have on:Fn P w K mg base (eW P w CF) 5 "take_on" ["words","fields"] (GV K CW CF):=T.on.mk λ_ _ F=>JE G B T.TW FL (by decide) set one F;have sets:Fn P w K mg base (eW P w CF) 6 "take_sets" ["words","pool","how"] (xK K CW CF CP):=T.sets.mk λ_ _ F=>EW G B T.C.TP on box key F;have how:Fn P w K mg base (eW P w CF) 5 "take_how" ["words","pool"] (CQ K CW CF CP):=T.how.mk λ_ _ F=>GI B T.TW T.C.TP one F;have pool:Fn P w K mg base (eW P w CF) 4 "take_pool" ["pools","words"] (ug K CW CF CP):=T.pool.mk λ_ _ F=>Br B T.TW T.C.TP FL (by decide) take F;have line:Fn P w K mg base (eW P w CF) 3 "check_line" ["line"] (wI K CF):=T.line.mk λ_ _ F=>DG G B FL F;have G4:xY P w K mg base bE 4 CB ["self","pool","pool_number","how","stake","sets","rows"] (xD K CB CR):=T.G4.mk λ_ _ F=>DT T.TB T.N.TR T.N.Hv F;have xJ:xY P w K mg base bE 1 CW ["self","line"] (pj K CW):=T.xJ.mk λ_ _ F=>Al G T.TW F;have Kk:Fn P w K mg base bE 6 "rows_of" ["pool","how","sets"] (yq K CP CR):=(T.N.KR T.C.TP).mono (by decide);have cost:qp P w K mg base bE 6 CB "cost" ["self"] (pW K CB CP CR):=(T.cost.mk λ_ _ F=>DH T.TB F:qp P w K mg base bE 1 CB "cost" ["self"] (pW K CB CP CR)).mono (by decide);have words:Fn P w K mg base (eW P w CF) 7 "read_words" ["pools","words"] (xR K CW CF CB CP CR):=T.words.mk λ_ _ F=>Eu B T.TW T.C.TP T.TB FL (k:=6) (by decide) (one.mono (by decide)) (pool.mono (by decide)) (stake.mono (by decide)) (how.mono (by decide)) sets G4 (fin.mono (by decide)) Kk cost F;have J1:Fn P w K mg base (eW P w CF) 8 "read_bet" ["pools","codes"] (Bf K CF CB CP CR):=T.J1.mk λ_ _ F=>Hb G B T.TW FL (k:=7) (by decide) (line.mono (by decide)) words (T.C.W.FG.mono (by decide)) xJ F;exact T.Jj.mk λ_ _ F=>BV AQ G B T.D T.Z T.mF (k:=8) (T.C.JB.mono (by decide)) J1 F
theorem Df.IK:Fn P w K mg base bE 10 "look_at" ["card","bet"] (xG K CB CP CR):=T.look.mk λ_ _ F=>Ee T.C.W.G T.GX F
end
end
theorem Ct {u:Value}{v:V}(r:BJ u=some v):RelV v u:=by
 cases u <;> cases r <;> first|rfl|exact⟨_,rfl⟩
theorem yg:∀{us:aae} {vs:List V},us.map BJ=vs.map some->Vals vs us
 |[],[],_=>.nil
 |[],_::_,h=>by cases h
 |_::_,[],h=>by cases h
 |u::us,v::vs,h=>by
  rw[XE,XE] at h;injection h with h1 h2;exact .cons (Ct h1) (yg h2)
section
variable {P:Program}{w:World}{K:aaa}{mg:aac}{h:Heap}{x m qual:Str}{st:Stmt}{f C:Addr}{u:Value}{v:V}{fs:List Str}
 {oc kV dc pm cd ct:Value}{od an:Option Addr}{sl:Array (Option Value)}
theorem dC (X:K.In h) (G:h.Ns mainGlobals mg) (e:PySem.W.nsIn K mainGlobals x=some none:=by k_is):mg x=none:=by
 obtain⟨o,es,ep,ho,hd,_,hf⟩:=G;rw[←hf x];have z:=uu e;unfold C2 at z;cases q:K.lookup mainGlobals with
 |none =>
  unfold PySem.W.nsIn at e;rw[q] at e;cases e
 |some o' =>
  have:=X _ _ q;rw[ho] at this;cases this;obtain⟨c,d,dt,sl⟩:=o;cases hd;rw[q] at z;exact z
theorem gv (X:K.In h)(G:h.Ns mainGlobals mg)(e:PySem.W.nsIn K mainGlobals x=some (some u):=by k_is)(r:BJ u=some v:=by first|rfl|decide +kernel):Gv mg x v:=⟨u,PySem.W.mg_of X G e,Ct r⟩
theorem aZ (X:K.In h)(G:h.Ns mainGlobals mg)(a:PySem.W.nsIn K mainGlobals x=some (some (.ref f)):=by k_is)(l:K.lookup f=some ⟨oc,od,.func (PySem.W.fnOf x x (cU st) (b6 st) (aw st) .none kV dc pm an cd ct),sl⟩:=by k_is)
  (c:PySem.W.codeIn K cd x=true:=by k_is)(k:PySem.W.keepIn K (.ref f)=true:=by k_is):g_ K mg x st:=⟨f,_,PySem.W.mg_of X G a,uv l c k⟩
theorem vo (a:PySem.W.findIn K (.ref C) m=some (some (.ref f)):=by k_is)(i:PySem.W.isFn K (.ref f)=true:=by k_is)(l:K.lookup f=some ⟨oc,od,.func (PySem.W.fnOf m qual (cU st) (b6 st) (aw st) .none kV dc pm an cd ct),sl⟩:=by k_is)
  (c:PySem.W.codeIn K cd qual=true:=by k_is)(k:PySem.W.keepIn K (.ref f)=true:=by k_is):Dm K C m qual st:=⟨f,_,⟨a,i,k⟩,uv l c k⟩
theorem zj (mk:PySem.W.makesIn K C=true:=by k_is)(kc:PySem.W.keepIn K (.ref C)=true:=by k_is)(a:PySem.W.findIn K (.ref C) "__init__"=some (some (.ref f)):=by k_is)(i:PySem.W.isFn K (.ref f)=true:=by k_is)(l:K.lookup f=some ⟨oc,od,.func (PySem.W.fnOf "__init__" qual (cU st) (b6 st) (aw st) .none kV dc pm an cd ct),sl⟩:=by k_is)
  (c:PySem.W.codeIn K cd qual=true:=by k_is)(k:PySem.W.keepIn K (.ref f)=true:=by k_is):Di K C qual st:=⟨f,_,⟨mk,a,i,kc⟩,uv l c k⟩
theorem IP (l:K.lookup f=some ⟨oc,od,.func (PySem.W.fnOf "__init__" qual (cU st) (b6 st) (aw st) .none kV dc pm an cd ct),sl⟩:=by k_is)
  (c:PySem.W.codeIn K cd qual=true:=by k_is)(k:PySem.W.keepIn K (.ref f)=true:=by k_is):∃fd,de K "__init__" qual st f fd:=⟨_,uv l c k⟩
def nP (K:aaa)(C:Addr)(fs:List Str):Prop:=∀f∈fs,hU K C f
theorem nP.nil:nP K C []:=λ_ h=>by cases h
theorem nP.cons {g:Str}(n:PySem.W.findIn K (.ref C) g=some none)(r:nP K C fs):nP K C (g::fs):=λf h=>by
 cases h with
 |head=>exact n
 |tail _ h=>exact r f h
theorem y9 (X:K.In h)(G:h.Ns mainGlobals mg)(a:PySem.W.nsIn K mainGlobals x=some (some (.ref C)):=by k_is)(pg:PySem.W.plainGet K C Str.empty=true:=by k_is)(hd:PySem.W.hasDictIn K C=true:=by k_is)(po:PySem.W.plainOver K C=true:=by k_is)
  (sa:PySem.W.findIn K (.ref C) "__setattr__"=some (some (.builtin "object.__setattr__")):=by k_is)(no:nP K C fs:=by (repeat refine Bw.nP.cons (by k_is) ?_);exact Bw.nP.nil):CK K mg x fs C:=⟨⟨pg,hd,po,sa⟩,no,PySem.W.mg_of X G a⟩
theorem eZ {a:Addr}{Ly:Array Value}{n:Nat}{xs:List V}(l:K.lookup a=some ⟨.type "tuple",od,.seq Ly n,sl⟩:=by k_is)(hs:Ly.size<=sizeLine:=by decide)(r:Ly.toList.map BJ=xs.map some:=by first|rfl|decide +kernel):∀H:Hp,b7 K H a xs:=λ_ =>
 .inr ⟨_,Ly,n,l,rfl,rfl,hs,yg r⟩
theorem Eh {a:Addr}{o:Obj}(l:K.lookup a=some o:=by k_is)(c:o.cls=.type "tuple":=by rfl)(d:o.dict=none:=by rfl):∃o,K.lookup a=some o/\o.cls=.type "tuple"/\o.dict=none:=⟨o,l,c,d⟩
theorem key_is {s:String}{t:Tok}:oX (.inr (Bw.st (Bw.cd s))) (.str (Str.ofString s) t)=true:=by rw[←kO];exact rC _ _
theorem yS {s:String}:PyData.keyHash w.params (Str.ofString s)=Jx w (.inr (Bw.st (Bw.cd s))):=by rw[←kO];rfl
theorem CI {dS d1 d2 d3 d4:Addr}{t1 t2 t3 t4:Tok}{ep:Nat}(l:K.lookup dS=some ⟨.type "dict",none,.dict #[⟨PyData.keyHash w.params (Str.ofString "place"),.str (Str.ofString "place") t1,.ref d1⟩,⟨PyData.keyHash w.params (Str.ofString "order"),.str (Str.ofString "order") t2,.ref d2⟩,
      ⟨PyData.keyHash w.params (Str.ofString "any"),.str (Str.ofString "any") t3,.ref d3⟩,⟨PyData.keyHash w.params (Str.ofString "legs"),.str (Str.ofString "legs") t4,.ref d4⟩] ep,#[]⟩:=by k_is) (ne:(dS==sysModules)=false:=by decide)
  (h1:∀H,b7 K H d1 [.int 1,.int 4]:=by exact Bw.eZ) (h2:∀H,b7 K H d2 [.int 2,.int 4]:=by exact Bw.eZ) (h3:∀H,b7 K H d3 [.int 2,.int 3]:=by exact Bw.eZ) (h4:∀H,b7 K H d4 [.int 2,.int 6]:=by exact Bw.eZ) :
  ∃ts:Tote.Kind->Addr,yX P w K dS [(.inr (Bw.st (Bw.cd "place")),.ref (ts .place)),(.inr (Bw.st (Bw.cd "order")),.ref (ts .order)),(.inr (Bw.st (Bw.cd "any")),.ref (ts .any)),(.inr (Bw.st (Bw.cd "legs")),.ref (ts .legs))]/\∀(k:Tote.Kind) (H:Hp),b7 K H (ts k) [.int (sizeOf k).1,.int (sizeOf k).2]:=by
 have nd:([.inr (Bw.st (Bw.cd "place")),.inr (Bw.st (Bw.cd "order")),.inr (Bw.st (Bw.cd "any")),.inr (Bw.st (Bw.cd "legs"))]:List Key).Nodup:=by decide +kernel
 refine⟨fun|.place=>d1|.order=>d2|.any=>d3|.legs=>d4,⟨λh X=>⟨_,_,ep,X _ _ l,⟨rfl,rfl,rfl⟩,rfl,λe he=>?_,.cons (key_is (t:=t1)) rfl (.cons (key_is (t:=t2)) rfl (.cons (key_is (t:=t3)) rfl (.cons (key_is (t:=t4)) rfl .nil))),nd⟩,ne⟩,λk=>?_⟩
 · simp only[List.mem_toArray,Xr,Zb,or_false] at he;rcases he with rfl|rfl|rfl|rfl
   · exact⟨.inr (Bw.st (Bw.cd "place")),key_is (s:="place") (t:=t1),yS (w:=w) (s:="place")⟩
   · exact⟨.inr (Bw.st (Bw.cd "order")),key_is (s:="order") (t:=t2),yS (w:=w) (s:="order")⟩
   · exact⟨.inr (Bw.st (Bw.cd "any")),key_is (s:="any") (t:=t3),yS (w:=w) (s:="any")⟩
   · exact⟨.inr (Bw.st (Bw.cd "legs")),key_is (s:="legs") (t:=t4),yS (w:=w) (s:="legs")⟩
 · cases k
   · exact h1
   · exact h2
   · exact h3
   · exact h4
theorem Cd {aF t0 t1 t2 t3 t4 t5 t6:Addr}(l:∀H,b7 K H aF [.ref t0,.ref t1,.ref t2,.ref t3,.ref t4,.ref t5,.ref t6]:=by exact Bw.eZ)(h0:∀H,b7 K H t0 [.int 0,.str (Str.ofString "pool")]:=by exact Bw.eZ)(h1:∀H,b7 K H t1 [.int 4,.str (Str.ofString "from")]:=by exact Bw.eZ)
  (h2:∀H,b7 K H t2 [.int 6,.str (Str.ofString "take")]:=by exact Bw.eZ)(h3:∀H,b7 K H t3 [.int 8,.str (Str.ofString "break")]:=by exact Bw.eZ)(h4:∀H,b7 K H t4 [.int 10,.str (Str.ofString "least")]:=by exact Bw.eZ)(h5:∀H,b7 K H t5 [.int 12,.str (Str.ofString "unit")]:=by exact Bw.eZ)(h6:∀H,b7 K H t6 [.int 14,.str (Str.ofString "none")]:=by exact Bw.eZ) :
  ∃ts:List Addr,(∀H,b7 K H aF (ts.map V.ref))/\Paired (λt (p:Nat×W)=>∀H,b7 K H t [.int (p.1:Nat),.str (Bw.st p.2)]) ts fc:=by
 rw[kO] at h0 h1 h2 h3 h4 h5 h6;exact⟨[t0,t1,t2,t3,t4,t5,t6],l,.cons h0 (.cons h1 (.cons h2 (.cons h3 (.cons h4 (.cons h5 (.cons h6 .nil))))))⟩
theorem DJ {N:Addr}{es:Array DictEntry}{ep:Nat}(l:K.lookup N=some ⟨oc,od,.dict es ep,sl⟩:=by k_is)(e:(es.toList.all λe=>match e.key with
  |.str _ _=>true
  |_=>false)=true:=by rfl):iB K N=true:=by
 unfold iB;rw[l];exact e
theorem GA {N fI:Addr}{nm q:Str}{bs:aae}{sn:List Str}{sub:aae}{ab:Bool}{col:Option Bool}{dd:Option Addr}{k0 k1 k2 k3 k5:Option Value}(l:K.lookup C=some (excClassObj nm q C N bs BwX.rO true sn sub ab col dd k0 k1 k2 k3 k5 "Exception.__new__"):=by k_is)
  (keys:iB K N=true:=by exact Bw.DJ)(init:PySem.W.nsIn K N "__init__"=some (some (.ref fI)):=by k_is)(fn:PySem.W.isFn K (.ref fI)=true:=by k_is)(kp:PySem.W.keepIn K (.ref C)=true:=by k_is)(Bp:PySem.W.nsIn K N "__setattr__"=some none:=by k_is)(Kv:PySem.W.nsIn K N "kind"=some none:=by k_is)(KW:PySem.W.nsIn K N "place"=some none:=by k_is)
  (sa:PySem.W.findIn K (.ref C) "__setattr__"=some (some (.builtin "object.__setattr__")):=by k_is)(ga:PySem.W.findIn K (.ref C) "__getattribute__"=some (some (.builtin "BaseException.__getattribute__")):=by k_is)(gt:PySem.W.findIn K (.ref C) "__getattr__"=some none:=by k_is)(fK:PySem.W.findIn K (.ref C) "kind"=some none:=by k_is)(fP:PySem.W.findIn K (.ref C) "place"=some none:=by k_is):pH K C N fI :=
 ⟨⟨_,l,nm,q,bs,sn,sub,ab,col,dd,k0,k1,k2,k3,k5,rfl⟩,keys,init,fn,kp,Bp,Kv,KW,sa,ga,gt,fK,fP⟩
end
theorem vp {l:List Int}(h:∀i∈l,0<=i/\i<=255):nV (ia (BetNeutral.text l))=l.map V.int:=by
 unfold nV ia BetNeutral.text BetNeutral.nats;rw[XR,XR,XR];refine Yi λi hi=>?_;obtain⟨h1,h2⟩:=h i hi;show V.int (((UInt8.ofNat i.toNat).toNat:Nat):Int)=V.int i;have e:(UInt8.ofNat i.toNat).toNat=i.toNat:=by
  rw[UInt8.toNat_ofNat'];omega
 rw[e];congr 1;omega
theorem vN {l:List Int}(h:l.all (PySem.W.Codec.inInt (Int.ofNat 0) (Int.ofNat 255))=true):∀i∈l,0<=i/\i<=255:=λi hi=>by
 have z:=XU.mp h i hi;unfold PySem.W.Codec.inInt at z;simp only[Xv,Xw] at z;exact⟨z.1,z.2⟩
section
variable {K:aaa}{H:Hp}{xs:List V}{a b:List Int}
theorem Kl {lo hi R7 R8:Nat} (hx:iE K H xs (PySem.W.Codec.encAll [.list lo hi (.int (Int.ofNat 0) (Int.ofNat 255)),.list R7 R8 (.int (Int.ofNat 0) (Int.ofNat 255))] ((a,b,()):List Int×List Int×Unit)))
  (N8:PySem.W.Codec.withinAll [.list lo hi (.int (Int.ofNat 0) (Int.ofNat 255)),.list R7 R8 (.int (Int.ofNat 0) (Int.ofNat 255))] ((a,b,()):List Int×List Int×Unit)=true) :
  ∃c d,xs=[.ref c,.ref d]/\aQ K H c (nV (ia (BetNeutral.text a)))/\aQ K H d (nV (ia (BetNeutral.text b))):=by
 have w:((PySem.W.Codec.inLen lo hi a&&a.all (PySem.W.Codec.inInt (Int.ofNat 0) (Int.ofNat 255)))&&((PySem.W.Codec.inLen R7 R8 b&&b.all (PySem.W.Codec.inInt (Int.ofNat 0) (Int.ofNat 255)))&&true))=true:=N8;simp only[Xv] at w;cases hx with
 |cons h1 h2 =>
  cases h2 with
  |cons h2 h3 =>
   cases h3;cases h1 with
   |lst hs ha =>
    cases h2 with
    |lst NC Pd =>
     have e:=L2.tD a _ ha;have e2:=L2.tD b _ Pd;subst e e2;exact⟨_,_,rfl,by rw[vp (vN w.1.2)];exact hs,by rw[vp (vN w.2.1.2)];exact NC⟩
end
def Ks (P:Program)(w:World)(mg:aac){K:aaa}{h:Heap}(_:K.In h):Prop:=∃dS aF CP CW CB CF nF fI aW CR,Df P w K mg dS aF CP CW CB CF nF fI aW CR
def KG (mg:aac){K:aaa}{h:Heap}(_:K.In h)(x:Str)(st:Stmt):Prop:=g_ K mg x st
section
variable {P:Program}{w:World}{K:aaa}{mg:aac}{fa:Addr}{x:Str}{st:Stmt}{ps:List Str}{k:Nat}{sp:Sp}
theorem Gi (D:g_ K mg x st) (OQ:mg x=some (.ref fa))
  (hb:∀(kV doc pm:Value) (an:Option Addr) (Lz ct:Value) (us:aae),us.length=ps.length->bindArgs (PySem.W.fnOf x x (cU st) (b6 st) (aw st) .none kV doc pm an Lz ct) ⟨us,[]⟩=pure (ps.zip us))
  (ok:∀(base:Heap) (f:Addr) (fd:FuncData),de K x x st f fd->a8 P w K mg base bE k f fd ps sp) :
  ∃fd:FuncData,(∀(s:Shared) (us:aae),us.length=ps.length->BindsTo s fd ⟨us,[]⟩ (ps.zip us))/\∀base:Heap,K.In base->base.Ns mainGlobals mg->a8 P w K mg base bE k fa fd ps sp:=by
 obtain⟨f,fd,hm,F⟩:=D;rw[OQ] at hm;cases hm;obtain⟨oc,od,kV,doc,pm,an,Lz,ct,Ms,rfl,lk,Ma⟩:=id F.ex;exact⟨_,λs us hu=>.of_eq (hb _ _ _ _ _ _ us hu),λbase _ _=>ok base _ _ F⟩
end
section
variable {P:Program}{w:World}{K:aaa}{mg:aac}{base:Heap}
def zk (K:aaa):Sp:=λvs H Q _=>∃(c d:Addr) (t b:Bytes),vs=[.ref c,.ref d]/\aQ K H c (nV (ia t))/\aQ K H d (nV (ia b))/\∀H' L,H' L=some (.lst ((tS t b).map V.int))->Q (.ref L) H'
theorem pV:aG ["card","bet","refusal","found"] ["card","bet"] (aw gS):=fs
theorem Ca {CB CP CR:Addr}{k:Nat}(FL:Fn P w K mg base bE k "look_at" ["card","bet"] (xG K CB CP CR)){f:Addr}{fd:FuncData}(F:de K "judge" "judge" gS f fd):a8 P w K mg base bE (k+1) f fd ["card","bet"] (zk K):=by
 refine F.oa pV λLz A outer s H vs Q E hr h=>?_;obtain⟨c,d,t,b,rfl,hC,hB,q⟩:=h;refine⟨_,af (CO (aS FL hr a_ (aa (pv 0) (aa (pv 1) ah))) (k_ rfl (cg (bp 2 pV.nd) (cg (bp 3 pV.nd) iP))))
  (af (aO (aB ua (pv 3) cC (aJ _)) (ak (az (pv 2))) aA)
  (ak (az (bV (aa ax ah))))),?_⟩
 unfold tS at q;refine⟨_,rfl,_,rfl,c,d,t,b,rfl,hC,hB,λzs hz H' T L hT hL=>?_,λy hy H' T L x p hT TV _=>?_⟩
 · rw[hz] at q;refine⟨T,_,rfl,b7.of hT,rfl,_,_,rfl,_,_,rfl,rfl,?_⟩;refine aR (aI (tX (ag rfl))) (λh=>?_) (λh=>absurd h (by decide));exact⟨_,rfl,q H' L hL⟩
 · rw[hy] at q;refine⟨T,_,rfl,b7.of hT,rfl,_,_,rfl,_,_,rfl,rfl,?_⟩;refine aR (aI (tX (ag rfl))) (λh=>absurd (XI h) (by intro z;cases z)) (λh=>?_);exact⟨by show 1<=sizeLine;decide,λL' hL'=>q _ L' ae⟩
end
end Bw
end
set_option Elab.async false
set_option linter.all false
set_option maxRecDepth 100000
open PySem PySem.W PyProof.Rows
def gL0:OpenLaw:=⟨PySem.Challenge.pw_betwords_s01_judge,"",[],0,none,none,false⟩
set_option maxHeartbeats 0 in
theorem PySem.Challenge.cw_betwords_s01_judge_holds : PySem.Challenge.rw_betwords_s01_judge.Holds := by
 refine holds_os (r:=PySem.Challenge.rw_betwords_s01_judge) (q:=Bw.qV) (loose:=Bw.lV) (Xt:=Bw.xV) (XP:=XL Bw.qV []) (Yf:=(PySem.W.kHook Bw.om Bw.Ay Bw.AE).obs) (Ya:=(PySem.W.kHook Bw.om Bw.Ay Bw.AE).val) (YP:=(PySem.W.kHook Bw.om Bw.Ay Bw.AE).says) (d:=Bw.dV) (kwd:=[]) (N:=5200) Bw.hl (PySem.W.kHook Bw.om Bw.Ay Bw.AE).of (PySem.W.kHook Bw.om Bw.Ay Bw.AE).keeps (λs e=>xl_of s (ZW.mp e).1) XL.keeps (by kernel_rfl) (by kernel_rfl) (by kernel_rfl) (λs e=>recFacts_of (ZW.mp e).2) os_shapes (by decide +kernel) (by decide +kernel) ⟨rfl,rfl,rfl,rfl,rfl,by decide +kernel⟩ ⟨[.list [],.list []],by decide +kernel,by decide +kernel⟩ ?_
 have:(gL0,Bw.om)=(gL0,Bw.om):=by k_fill;rfl
 refine L2.xt (r:=PySem.Challenge.rw_betwords_s01_judge) (k:=11) (CX:=L2.bE) (ps:=["card","bet"]) (sp:=Bw.zk) (by decide +kernel) rfl rfl ⟨rfl,by decide,by decide⟩ (λw h Y=>kIn_of Y) ?F ?S (λ_ _ _ _ z=>z)
 case F =>
  intro w mg fa h Y KX G OQ;have gw:Bw.GW mg:=⟨Bw.gv KX G,Bw.gv KX G,Bw.gv KX G,Bw.gv KX G,Bw.dC KX G,Bw.dC KX G,Bw.dC KX G⟩;have T:Bw.Ks PySem.Challenge.rw_betwords_s01_judge.prog w mg KX:=⟨46,58,75,324,282,255,254,252,238,209,⟨⟨⟨gw,Bw.aZ KX G,Bw.aZ KX G,Bw.aZ KX G,Bw.aZ KX G⟩,⟨Bw.gv KX G,Bw.gv KX G,Bw.gv KX G,Bw.gv KX G,Bw.gv KX G,Bw.gv KX G,Bw.gv KX G,Bw.CI,Bw.Cd,Bw.dC KX G⟩,Bw.y9 KX G,Bw.zj,Bw.aZ KX G,Bw.aZ KX G,Bw.aZ KX G,Bw.aZ KX G,Bw.aZ KX G,Bw.aZ KX G,Bw.aZ KX G,Bw.aZ KX G⟩,
    ⟨gw,⟨Bw.gv KX G,Bw.gv KX G,Bw.gv KX G,Bw.gv KX G,Bw.gv KX G,Bw.gv KX G,Bw.gv KX G,Bw.gv KX G,Bw.gv KX G,Bw.gv KX G,Bw.gv KX G,Bw.gv KX G,Bw.gv KX G,Bw.gv KX G,Bw.gv KX G,Bw.eZ,Bw.Eh,Bw.dC KX G,Bw.dC KX G⟩,⟨Bw.dC KX G,Bw.dC KX G,Bw.dC KX G,Bw.dC KX G,Bw.dC KX G,Bw.gv KX G,Bw.dC KX G,Bw.dC KX G⟩,Bw.y9 KX G,Bw.aZ KX G,Bw.aZ KX G,Bw.aZ KX G,Bw.aZ KX G,Bw.aZ KX G,Bw.aZ KX G,Bw.aZ KX G,Bw.aZ KX G,Bw.zj,Bw.vo,Bw.aZ KX G,Bw.aZ KX G,Bw.aZ KX G,Bw.aZ KX G,Bw.aZ KX G⟩,
    ⟨Bw.gv KX G,Bw.gv KX G,Bw.gv KX G,Bw.gv KX G,Bw.gv KX G⟩,Bw.y9 KX G,Bw.y9 KX G,Bw.GA,mg_of KX G (by k_is),Bw.IP,Bw.zj,Bw.vo,Bw.zj,Bw.vo,Bw.vo,Bw.vo,Bw.aZ KX G,Bw.aZ KX G,Bw.aZ KX G,Bw.aZ KX G,Bw.aZ KX G,Bw.aZ KX G,Bw.aZ KX G,Bw.aZ KX G,Bw.aZ KX G,Bw.aZ KX G,Bw.aZ KX G,Bw.aZ KX G,Bw.aZ KX G⟩⟩
  have J:Bw.KG mg KX "judge" Bw.gS:=Bw.aZ KX G;obtain⟨dS,aF,CP,CW,CB,CF,nF,fI,aW,CR,T⟩:=T;exact Bw.Gi J OQ (λ_ _ _ _ _ _=>Bw.IJ λ_ _=>rfl) (λbase f fd F=>Bw.Ca T.IK F)
 case S =>
  intro K H xs a hO N8 hask hx;obtain⟨c,d,rfl,hc,hd⟩:=Bw.Kl (a:=a.1) (b:=a.2.1) hx N8;refine⟨c,d,_,_,rfl,hc,hd,λH' L hL=>?_⟩;rw[Bw.A9] at hL;exact .lst (L2.aQ.of hL) (L2.ym _)
