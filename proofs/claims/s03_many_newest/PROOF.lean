import PyProof.Rows.All
import KE.KDictList
import KE.KIntText
import Open.SpecLaws
import KE.KStateDown
import KE.OsHead
import Wide.FinOn
import KE.BitLaws
import PyWqaqcl
import PySem.Challenge.RW_betwords_s03_many
section
set_option Elab.async false
section
set_option autoImplicit false
open PySem PySem.Spec PyProof.Rows
abbrev Xr:=@wpAny_bind
abbrev Xs:=@List.length_map
abbrev Xu:=@if_neg
abbrev Xv:=@if_pos
abbrev Xw:=@Heap.get?_push_of_some
abbrev Xx:=@List.mem_cons
abbrev Xy:=@List.getElem?_map
abbrev Xz:=@wpAny_pure
abbrev XA:=@Bool.and_eq_true
abbrev XB:=@decide_eq_true_eq
abbrev XC:=@Nat.le_refl
abbrev XD:=@List.getElem?_eq_getElem
abbrev XE:=@List.length_cons
abbrev XG:=@Heap.lt_size
abbrev XH:=@List.getElem?_eq_some_iff
abbrev XI:=@List.mem_singleton
abbrev XJ:=@Heap.get?_push_size
abbrev XM:=@List.map_cons
abbrev XN:=@List.mem_cons_of_mem
abbrev XO:=@List.map_append
abbrev XQ:=@of_decide_eq_true
abbrev XR:=@List.size_toArray
abbrev XS:=@List.length_append
abbrev XT:=@List.length_take
abbrev XU:=@Bool.false_ne_true
abbrev XW:=@Heap.SameBut.update
abbrev XX:=@List.map_map
abbrev XY:=@sizeLine_eq
abbrev XZ:=@List.mem_of_getElem?
abbrev X0:=@List.all_eq_true
abbrev X1:=@Nat.zero_le
abbrev X2:=@beq_eq_false_iff_ne
abbrev X3:=@List.mem_map
abbrev X4:=@List.length_replicate
abbrev X5:=@Option.map_eq_some_iff
abbrev X6:=@Nat.ne_of_lt
abbrev X7:=@Option.some.inj
abbrev X8:=@Bool.eq_iff_iff
abbrev X9:=@decide_eq_true
abbrev X_:=@Nat.lt_of_lt_of_le
abbrev Yb:=@decide_eq_false_iff_not
abbrev Yc:=@List.getD_eq_getElem?_getD
abbrev Yd:=@of_decide_eq_false
abbrev Ye:=@Int.toNat_natCast
abbrev Yg:=@List.mem_cons_self
abbrev Yh:=@Nat.le_trans
abbrev Yi:=@decide_eq_false
abbrev Yj:=@List.mem_append
abbrev Yk:=@beq_iff_eq
abbrev Yl:=@Bool.not_eq_true'
abbrev Ym:=@List.length_drop
abbrev Yn:=@List.map_congr_left
abbrev Yo:=@Bool.not_eq_false'
abbrev Yp:=@List.nil_append
abbrev Yq:=@List.take_of_length_le
abbrev Yr:=@List.take_length
abbrev Ys:=@List.mem_append_right
abbrev Yt:=@Heap.get?_update_self
abbrev Yu:=@Bool.or_eq_true
abbrev Yv:=@List.eq_of_mem_replicate
abbrev Yw:=@List.append_nil
abbrev Yx:=@List.getElem?_eq_none
abbrev Yy:=@List.length_pos_iff
abbrev Yz:=@PassesOwn.never
abbrev YA:=@congrArg
abbrev YB:=@List.contains_eq_mem
abbrev YC:=@Heap.size_push
abbrev YD:=@List.mem_filter
abbrev YE:=@Bool.or_eq_false_iff
abbrev YF:=@List.nodup_cons
abbrev YG:=@List.filter_cons
abbrev YH:=@List.length_singleton
abbrev YI:=@wpAny_truthy_bool
abbrev YJ:=@wpAny_callSpecial?_slot
abbrev YK:=@PyProof.Rows.slot_tuple_getitem
abbrev YL:=@wpAny_mono
abbrev YM:=@List.pairwise_cons
abbrev YN:=@wpAny_passesOwn
abbrev YO:=@Nat.lt_irrefl
abbrev YQ:=@wpAny_call_entry
abbrev YR:=@List.drop_eq_getElem_cons
abbrev YS:=@Bool.and_eq_false_iff
abbrev YT:=@List.map_nil
abbrev YU:=@Bool.false_eq_true
abbrev YV:=@PyProof.Rows.callWith_type1
abbrev YW:=@wpAny_newObj_type
abbrev YX:=@List.append_assoc
abbrev YY:=@eq_of_beq
abbrev YZ:=@List.foldl_cons
abbrev Y0:=@decide_eq_true_iff
abbrev Y1:=@List.sum_cons
abbrev Y2:=@List.any_cons
abbrev Y3:=@List.mem_of_mem_drop
abbrev Y4:=@List.length_nil
abbrev Y5:=@F.slot_dict_keyiterator_next
abbrev Y6:=@List.isEmpty_iff
abbrev Y7:=@List.any_eq_true
abbrev Y8:=@List.find?_cons
abbrev Y9:=@List.pairwise_iff_forall_sublist
abbrev Y_:=@List.nodup_append
abbrev Za:=@List.mem_of_mem_take
abbrev Zb:=@List.length_erase_of_mem
abbrev Zc:=@if_true
abbrev Zd:=@List.getElem?_range
abbrev Ze:=@Array.length_toList
abbrev Zf:=@decide_eq_decide
abbrev Zg:=@List.not_mem_nil
abbrev Zh:=@List.mem_range
abbrev Zi:=@List.lookup_cons
abbrev Zj:=@List.length_eq_zero_iff
abbrev Zk:=@List.getElem_mem
abbrev Zl:=@List.drop_length
abbrev Zm:=@wpAny_typeNameOfWhole_keyiter
abbrev Zn:=@List.filter_append
abbrev Zo:=@List.drop_eq_nil_of_le
abbrev Zq:=@Heap.get?_update_other
abbrev Zr:=@wpAny_execs_nil
abbrev Zs:=@if_false
abbrev Zu:=@Nat.min_eq_left
abbrev Zv:=@wpAny_holding
abbrev Zw:=@Nat.pow_le_pow_right
abbrev Zx:=@F.slot_tuple_iterator_next
abbrev Zy:=@Nat.pow_succ
abbrev Zz:=@List.mem_flatMap
abbrev ZC:=@List.cons_append
abbrev ZD:=@List.all_map
abbrev ZE:=@List.takeWhile_cons
abbrev ZF:=@wpAny_typeNameOf_keyiter
abbrev ZG:=@Option.isSome_iff_exists
abbrev ZH:=@List.all_cons
abbrev ZI:=@Bool.or_false
abbrev ZJ:=@wpAny_Call_Name_kw
abbrev ZK:=@List.findIdx?_eq_some_iff_getElem
abbrev ZL:=@Nat.mul_comm
abbrev ZM:=@List.length_range
abbrev ZN:=@List.length_pos_of_mem
abbrev ZO:=@List.getElem?_set_self
abbrev ZP:=@List.flatMap_cons
abbrev ZQ:=@List.ext_getElem?
abbrev ZR:=@List.any_map
abbrev ZS:=@F.called_set
abbrev ZT:=@Calls.callWith_builtin
abbrev ZU:=@List.length_filter_le
abbrev ZV:=@typeIs_str
abbrev ZW:=@Nat.lt_succ_self
abbrev ZX:=@Nat.le_add_right
abbrev ZY:=@List.map_drop
abbrev ZZ:=@List.mem_erase_of_ne
abbrev Z0:=@List.forall_mem_cons
abbrev Z1:=@Bool.and_eq_true_iff
abbrev Z2:=@List.replicate_succ
abbrev Z3:=@List.map_eq_nil_iff
abbrev Z4:=@List.filterMap_cons
abbrev Z5:=@List.dropWhile_cons
abbrev Z6:=@codeAny_mono
abbrev Z7:=@Ne.symm
abbrev Z8:=@Nat.le_of_eq
abbrev Z9:=@tupleKind_room_in1
abbrev Z_:=@List.perm_ext_iff_of_nodup
abbrev aaa:=@List.isPrefixOf_iff_prefix
abbrev aab:=@List.getElem?_append_right
abbrev aac:=@Calls.spliced_cons
abbrev aad:=List (List Nat)
abbrev aae:=List Nat
abbrev aaf:=PySem.W.Frag
abbrev aag:=Value->Shared->Prop
abbrev aah:=Str->Option Value
abbrev aai:=List (Addr×Obj)
abbrev aaj:=List Value
end
section
set_option autoImplicit false
set_option linter.all false
set_option maxRecDepth 100000
set_option maxHeartbeats 0
namespace L2
open PySem PySem.Spec PyProof.Rows
def inClass (s:Stmt)(j:Nat):Stmt:=match s with
 |.ClassDef _ _ _ body _ _ _ _ _ _ _=>body.getD j (.Pass ⟨0,0,0,0⟩)
 |_=>.Pass ⟨0,0,0,0⟩
def cX (s:Stmt):Arguments:=match s with
 |.FunctionDef _ a _ _ _ _ _ _ _ _=>a
 |_=>{posonlyargs:=[],args:=[],vararg:=none,kwonlyargs:=[],kw_defaults:=[],kwarg:=none,defaults:=[]}
def b7 (s:Stmt):List Stmt:=match s with
 |.FunctionDef _ _ b _ _ _ _ _ _ _=>b
 |_=>[]
def aw (s:Stmt):Scope:=match s with
 |.FunctionDef _ _ _ _ _ _ sc _ _ _=>sc
 |_=>{kind:=.function,names:=[],isGenerator:=false,isCoroutine:=false}
end L2
end
section
set_option autoImplicit false
set_option linter.all false
set_option maxRecDepth 100000
set_option maxHeartbeats 0
namespace Bw
open PySem L2
def top (i:Nat):Stmt:=PySem.Challenge.pw_betwords_s03_many.main.body.getD i (.Pass ⟨0,0,0,0⟩)
abbrev EF:Stmt:=top 0
abbrev j4:Stmt:=top 6
abbrev j8:Stmt:=top 7
abbrev ko:Stmt:=top 8
abbrev gI:Stmt:=top 9
abbrev gU:Stmt:=inClass (top 18) 0
abbrev gJ:Stmt:=top 19
abbrev lL:Stmt:=top 20
abbrev fF:Stmt:=top 21
abbrev fQ:Stmt:=top 22
abbrev gY:Stmt:=top 23
abbrev dU:Stmt:=top 24
abbrev dC:Stmt:=top 25
abbrev gS:Stmt:=top 26
abbrev fY:Stmt:=top 28
abbrev j3:Stmt:=top 29
abbrev fR:Stmt:=top 30
abbrev eh:Stmt:=top 31
abbrev oK:Stmt:=top 32
abbrev cW:Stmt:=top 33
abbrev iN:Stmt:=top 34
abbrev eU:Stmt:=top 35
abbrev gR:Stmt:=inClass (top 37) 0
abbrev dQ:Stmt:=inClass (top 37) 1
abbrev qM:Stmt:=inClass (top 37) 2
abbrev qN:Stmt:=inClass (top 37) 3
abbrev jY:Stmt:=top 38
abbrev iX:Stmt:=top 39
abbrev iQ:Stmt:=top 40
abbrev gj:Stmt:=top 41
abbrev fO:Stmt:=inClass (top 58) 0
abbrev iO:Stmt:=inClass (top 59) 0
abbrev iT:Stmt:=inClass (top 59) 1
abbrev fS:Stmt:=inClass (top 60) 0
abbrev gc:Stmt:=inClass (top 60) 1
abbrev cv:Stmt:=inClass (top 60) 2
abbrev ej:Stmt:=inClass (top 60) 3
abbrev iS:Stmt:=top 61
abbrev fT:Stmt:=top 62
abbrev fV:Stmt:=top 63
abbrev gT:Stmt:=top 64
abbrev fX:Stmt:=top 65
abbrev jh:Stmt:=top 66
abbrev gW:Stmt:=top 67
abbrev j_:Stmt:=top 68
abbrev jg:Stmt:=top 69
abbrev iZ:Stmt:=top 70
abbrev i_:Stmt:=top 71
abbrev kg:Stmt:=top 72
abbrev ju:Stmt:=top 79
abbrev ka:Stmt:=top 80
abbrev fq:Stmt:=top 81
end Bw
end
section
set_option autoImplicit false
set_option linter.all false
set_option maxRecDepth 100000
set_option maxHeartbeats 0
namespace Bw
open PySem L2
abbrev kS (s:String)(t:Nat):Value:=.str (Str.ofString s) t
abbrev kE (P:Params)(s:String)(t:Nat)(v:Value):DictEntry:=⟨PyData.keyHash P (Str.ofString s),.str (Str.ofString s) t,v⟩
abbrev kF (x q:String)(st:Stmt)(m:Value)(c:Nat):Obj:=⟨.type "function",none,.func (PySem.W.fnOf (Str.ofString x) (Str.ofString q) (cX st) (b7 st) (aw st) .none .none .none m none (.ref c) .none),#[]⟩
abbrev kC (x q:String)(t l a g c:Nat)(b:Bool)(z d:Nat)(u v w y:Value)(k:Nat):Obj:=⟨.type "code",none,.fields #[kS x t,kS q (t+1),kS "/claim/cut.py" (t+2),.int l 0,.int a 0,.int 0 0,.int 0 0,.int g 0,.ref c,.bool b,.int z 0,.ref d,u,v,w,y,.int k 0,.int l 0,kS "/claim/cut.py" (k+1)],#[]⟩
abbrev kT (l:List Value)(n:Nat):Obj:=⟨.type "tuple",none,.seq l.toArray n,#[]⟩
abbrev kD (l:List DictEntry)(n:Nat):Obj:=⟨.type "dict",none,.dict l.toArray n,#[]⟩
abbrev kG (x:String)(t l a c d e f g k:Nat):Obj:=kC x x t l a 3 c true 181 d .none (.ref e) (.ref f) (.ref g) k
abbrev kH (x:String)(st:Stmt)(m:Value)(c:Nat):Obj:=kF x x st m c
abbrev kR (P:Params)(s:String)(t a:Nat):DictEntry:=kE P s t (.ref a)
abbrev JX:Value:=kS "betwords.desk" 814
abbrev J2:Value:=kS "betwords.words" 194
abbrev C3:Value:=kS "betwords.cards" 230
abbrev Fp:Value:=kS "betwords.counts" 374
abbrev E4:Value:=kS "betwords.rows" 438
abbrev qK:Value:=kS "betwords.bets" 524
noncomputable def om (P:Params):PySem.W.Frag:=(nat_lit 3,kD [kE P "__name__" 165 JX,kE P "__doc__" 166 .none,kE P "__package__" 167 .none,kE P "__loader__" 168 (.builtin "__main__.__loader__#opaque"),kE P "__spec__" 169 .none,kR P "__annotations__" 170 6,kR P "__builtins__" 171 4,kE P "__file__" 173 (kS "/claim/cut.py" 172),kE P "__cached__" 174 .none,kR P "_wall" 193 21,kE P "LETTERS" 197 (kS "abcdefghijklmnopqrstuvwxyz" 196),kE P "DIGITS" 199 (kS "0123456789" 198),kE P "MOST_NAME" 201 (.int 12 200),kE P "MOST_DIGITS" 203 (.int 7 202),kR P "sign_of" 210 28,kR P "text_of" 216 33,kR P "is_name" 222 38,kR P "number_of" 229 45,kE P "MOST_RACES" 233 (.int 16 232),kE P "MOST_POOLS" 235 (.int 64 234),kE P "MOST_COUPLES" 237 (.int 8 236),kE P "MOST_RUNNERS" 239 (.int 24 238),kR P "SIZES" 256 46,kR P "FIXED" 271 58,kE P "POOL_WORDS" 273 (.int 16 272),kR P "Pool" 308 75,kR P "read_card" 314 84,kR P "is_day" 321 91,kR P "read_race" 327 96,kR P "read_pools" 339 103,kR P "read_pool" 352 110,kR P "has_pool_form" 358 115,kR P "are_terms_good" 367 122,kR P "fields_of" 373 127,kR P "product_of" 384 134,kR P "without" 390 139,kR P "count_legs" 396 144,kR P "count_orders" 402 149,kR P "is_of" 408 154,kR P "count_different" 414 159,kR P "picks_of" 426 166,kR P "count_starts" 437 173,kR P "Rows" 492 209,kR P "rows_on" 500 220,kR P "rows_box" 506 225,kR P "rows_key" 517 232,kR P "seatings" 523 237,kE P "NOT_ENDED" 527 (.int 1 526),kE P "BAD_BYTE" 529 (.int 2 528),kE P "BAD_WORD" 531 (.int 3 530),kE P "BAD_NUMBER" 533 (.int 4 532),kE P "NO_POOL" 535 (.int 5 534),kE P "NO_COMBINATION" 537 (.int 6 536),kE P "TOO_DEAR" 539 (.int 7 538),kE P "MORE_BYTES" 541 (.int 8 540),kE P "LINE_END" 543 (.int 10 542),kE P "BLANK" 545 (.int 32 544),kE P "MOST_STAKE" 547 (.int 1000000 546),kE P "MOST_COST" 549 (.int 2147483647 548),kE P "ON" 551 (.int 0 550),kE P "BOX" 553 (.int 1 552),kR P "WAYS" 557 238,kR P "Fault" 588 255,kR P "Bet" 635 282,kR P "Words" 692 324,kR P "read_bet" 703 335,kR P "check_line" 712 342,kR P "read_words" 728 349,kR P "take_pool" 739 356,kR P "take_stake" 748 363,kR P "take_how" 756 370,kR P "take_sets" 766 377,kR P "take_on" 776 384,kR P "take_box" 786 391,kR P "take_key" 792 396,kR P "take_set" 803 403,kR P "rows_of" 813 410,kE P "TOO_LONG" 818 (.int (-2) 817),kE P "FAULTY_BET" 821 (.int (-6) 820),kE P "NO_CARD" 824 (.int (-8) 823),kE P "MOST_CARD" 826 (.int 65536 825),kE P "MOST_BET" 828 (.int 4096 827),kR P "many" 838 417,kR P "look_at" 848 424,kR P "look_at_all" 854 429] 85) ::
 (nat_lit 6,kD [] 0) ::
 (nat_lit 20,kG "_wall" 187 1 1 15 16 17 18 19 191) ::
 (nat_lit 21,kH "_wall" EF (kS "__main__" 164) 20) ::
 (nat_lit 27,kG "sign_of" 204 9 1 22 23 24 25 26 208) ::
 (nat_lit 28,kH "sign_of" j4 J2 27) ::
 (nat_lit 32,kC "text_of" "text_of" 211 23 1 3 29 true 181 30 .none .none .none (.ref 31) 214) ::
 (nat_lit 33,kH "text_of" j8 J2 32) ::
 (nat_lit 37,kC "is_name" "is_name" 217 25 1 3 34 true 181 35 .none .none .none (.ref 36) 220) ::
 (nat_lit 38,kH "is_name" ko J2 37) ::
 (nat_lit 44,kG "number_of" 223 29 1 39 40 41 42 43 227) ::
 (nat_lit 45,kH "number_of" gI J2 44) ::
 (nat_lit 46,kD [kR P "place" 240 47,kR P "order" 243 48,kR P "any" 246 49,kR P "legs" 249 50] 4) ::
 (nat_lit 47,kT [.int 1 241,.int 4 242] 0) ::
 (nat_lit 48,kT [.int 2 244,.int 4 245] 0) ::
 (nat_lit 49,kT [.int 2 247,.int 3 248] 0) ::
 (nat_lit 50,kT [.int 2 250,.int 6 251] 0) ::
 (nat_lit 51,kT [.int 0 257,kS "pool" 258] 0) ::
 (nat_lit 52,kT [.int 4 259,kS "from" 260] 0) ::
 (nat_lit 53,kT [.int 6 261,kS "take" 262] 0) ::
 (nat_lit 54,kT [.int 8 263,kS "break" 264] 0) ::
 (nat_lit 55,kT [.int 10 265,kS "least" 266] 0) ::
 (nat_lit 56,kT [.int 12 267,kS "unit" 268] 0) ::
 (nat_lit 57,kT [.int 14 269,kS "none" 270] 0) ::
 (nat_lit 58,kT [.ref 51,.ref 52,.ref 53,.ref 54,.ref 55,.ref 56,.ref 57] 0) ::
 (nat_lit 71,kC "__init__" "Pool.__init__" 286 45 5 3 66 true 181 67 .none (.ref 68) (.ref 69) (.ref 70) 294) ::
 (nat_lit 72,kF "__init__" "Pool.__init__" gU C3 71) ::
 (nat_lit 73,kT [kS "fields" 297,kS "kind" 298,kS "name" 299,kS "unit" 300] 0) ::
 (nat_lit 74,kD [kE P "__module__" 281 C3,kE P "__firstlineno__" 285 (.int 43 284),kR P "__init__" 296 72,kR P "__static_attributes__" 301 73,kR P "__dict__" 303 76,kR P "__weakref__" 305 77,kE P "__doc__" 306 .none] 4) ::
 (nat_lit 75,⟨.type "type",none,.cls ⟨"Pool",[.type "object"],[.ref 75,.type "object"],74,"Pool",true,[],[],false,none,false⟩,#[none,none,some (kS "Pool" 274),some (kS "Pool" 282),some (.builtin "object.__new__"),some (.bool true)]⟩) ::
 (nat_lit 83,kC "read_card" "read_card" 309 50 1 3 80 true 181 81 .none .none .none (.ref 82) 312) ::
 (nat_lit 84,kH "read_card" gJ C3 83) ::
 (nat_lit 90,kG "is_day" 315 64 1 85 86 87 88 89 319) ::
 (nat_lit 91,kH "is_day" lL C3 90) ::
 (nat_lit 95,kC "read_race" "read_race" 322 66 1 3 92 true 181 93 .none .none .none (.ref 94) 325) ::
 (nat_lit 96,kH "read_race" fF C3 95) ::
 (nat_lit 102,kG "read_pools" 328 85 2 97 98 99 100 101 337) ::
 (nat_lit 103,kH "read_pools" fQ C3 102) ::
 (nat_lit 109,kG "read_pool" 340 97 2 104 105 106 107 108 350) ::
 (nat_lit 110,kH "read_pool" gY C3 109) ::
 (nat_lit 114,kC "has_pool_form" "has_pool_form" 353 110 1 3 111 true 181 112 .none .none .none (.ref 113) 356) ::
 (nat_lit 115,kH "has_pool_form" dU C3 114) ::
 (nat_lit 121,kG "are_terms_good" 359 116 1 116 117 118 119 120 365) ::
 (nat_lit 122,kH "are_terms_good" dC C3 121) ::
 (nat_lit 126,kC "fields_of" "fields_of" 368 126 4 3 123 true 181 124 .none .none .none (.ref 125) 371) ::
 (nat_lit 127,kH "fields_of" gS C3 126) ::
 (nat_lit 133,kG "product_of" 376 138 1 128 129 130 131 132 382) ::
 (nat_lit 134,kH "product_of" fY Fp 133) ::
 (nat_lit 138,kC "without" "without" 385 143 2 3 135 true 181 136 .none .none .none (.ref 137) 388) ::
 (nat_lit 139,kH "without" j3 Fp 138) ::
 (nat_lit 143,kC "count_legs" "count_legs" 391 145 2 3 140 true 181 141 .none .none .none (.ref 142) 394) ::
 (nat_lit 144,kH "count_legs" fR Fp 143) ::
 (nat_lit 148,kC "count_orders" "count_orders" 397 149 2 3 145 true 181 146 .none .none .none (.ref 147) 400) ::
 (nat_lit 149,kH "count_orders" eh Fp 148) ::
 (nat_lit 153,kC "is_of" "is_of" 403 153 2 3 150 true 181 151 .none .none .none (.ref 152) 406) ::
 (nat_lit 154,kH "is_of" oK Fp 153) ::
 (nat_lit 158,kC "count_different" "count_different" 409 155 1 3 155 true 181 156 .none .none .none (.ref 157) 412) ::
 (nat_lit 159,kH "count_different" cW Fp 158) ::
 (nat_lit 165,kG "picks_of" 415 163 1 160 161 162 163 164 424) ::
 (nat_lit 166,kH "picks_of" iN Fp 165) ::
 (nat_lit 172,kG "count_starts" 427 173 1 167 168 169 170 171 435) ::
 (nat_lit 173,kH "count_starts" eU Fp 172) ::
 (nat_lit 186,kC "__init__" "Rows.__init__" 452 183 3 3 181 true 181 182 .none (.ref 183) (.ref 184) (.ref 185) 458) ::
 (nat_lit 187,kF "__init__" "Rows.__init__" gR E4 186) ::
 (nat_lit 191,kC "starting" "Rows.starting" 461 188 2 3 188 true 181 189 .none .none .none (.ref 190) 464) ::
 (nat_lit 192,kF "starting" "Rows.starting" dQ E4 191) ::
 (nat_lit 198,kC "row_at" "Rows.row_at" 467 195 2 3 193 true 181 194 .none (.ref 195) (.ref 196) (.ref 197) 472) ::
 (nat_lit 199,kF "row_at" "Rows.row_at" qM E4 198) ::
 (nat_lit 205,kC "listed" "Rows.listed" 475 198 1 3 200 true 181 201 .none (.ref 202) (.ref 203) (.ref 204) 479) ::
 (nat_lit 206,kF "listed" "Rows.listed" qN E4 205) ::
 (nat_lit 207,kT [kS "grids" 482,kS "kind" 483,kS "picks" 484] 0) ::
 (nat_lit 208,kD [kE P "__module__" 447 E4,kE P "__firstlineno__" 451 (.int 181 450),kR P "__init__" 460 187,kR P "starting" 466 192,kR P "row_at" 474 199,kR P "listed" 481 206,kR P "__static_attributes__" 485 207,kR P "__dict__" 487 210,kR P "__weakref__" 489 211,kE P "__doc__" 490 .none] 4) ::
 (nat_lit 209,⟨.type "type",none,.cls ⟨"Rows",[.type "object"],[.ref 209,.type "object"],208,"Rows",true,[],[],false,none,false⟩,#[none,none,some (kS "Rows" 440),some (kS "Rows" 448),some (.builtin "object.__new__"),some (.bool true)]⟩) ::
 (nat_lit 219,kG "rows_on" 493 200 2 214 215 216 217 218 498) ::
 (nat_lit 220,kH "rows_on" jY E4 219) ::
 (nat_lit 224,kC "rows_box" "rows_box" 501 202 3 3 221 true 181 222 .none .none .none (.ref 223) 504) ::
 (nat_lit 225,kH "rows_box" iX E4 224) ::
 (nat_lit 231,kG "rows_key" 507 204 4 226 227 228 229 230 515) ::
 (nat_lit 232,kH "rows_key" iQ E4 231) ::
 (nat_lit 236,kC "seatings" "seatings" 518 209 3 3 233 true 181 234 .none .none .none (.ref 235) 521) ::
 (nat_lit 237,kH "seatings" gj E4 236) ::
 (nat_lit 238,kT [kS "on" 554,kS "box" 555,kS "key" 556] 0) ::
 (nat_lit 251,kC "__init__" "Fault.__init__" 570 237 3 3 246 true 181 247 .none (.ref 248) (.ref 249) (.ref 250) 576) ::
 (nat_lit 252,kF "__init__" "Fault.__init__" fO qK 251) ::
 (nat_lit 253,kT [kS "kind" 579,kS "place" 580] 0) ::
 (nat_lit 254,kD [kE P "__module__" 565 qK,kE P "__firstlineno__" 569 (.int 235 568),kR P "__init__" 578 252,kR P "__static_attributes__" 581 253,kR P "__weakref__" 583 256,kE P "__doc__" 584 .none] 3) ::
 (nat_lit 255,⟨.type "type",none,.cls ⟨"Fault",[.type "Exception"],[.ref 255,.type "Exception",.type "BaseException",.type "object"],254,"Fault",true,[],[],false,none,false⟩,#[some (.ref 239),none,some (kS "Fault" 558),some (kS "Fault" 566),some (.builtin "Exception.__new__"),some (.bool true)]⟩) ::
 (nat_lit 271,kC "__init__" "Bet.__init__" 601 242 7 3 266 true 181 267 .none (.ref 268) (.ref 269) (.ref 270) 611) ::
 (nat_lit 272,kF "__init__" "Bet.__init__" iO qK 271) ::
 (nat_lit 278,kC "cost" "Bet.cost" 614 251 1 3 273 true 181 274 .none (.ref 275) (.ref 276) (.ref 277) 618) ::
 (nat_lit 279,kF "cost" "Bet.cost" iT qK 278) ::
 (nat_lit 280,kT [kS "how" 621,kS "many" 622,kS "pool" 623,kS "pool_number" 624,kS "rows" 625,kS "sets" 626,kS "stake" 627] 0) ::
 (nat_lit 281,kD [kE P "__module__" 596 qK,kE P "__firstlineno__" 600 (.int 240 599),kR P "__init__" 613 272,kR P "cost" 620 279,kR P "__static_attributes__" 628 280,kR P "__dict__" 630 283,kR P "__weakref__" 632 284,kE P "__doc__" 633 .none] 4) ::
 (nat_lit 282,⟨.type "type",none,.cls ⟨"Bet",[.type "object"],[.ref 282,.type "object"],281,"Bet",true,[],[],false,none,false⟩,#[none,none,some (kS "Bet" 589),some (kS "Bet" 597),some (.builtin "object.__new__"),some (.bool true)]⟩) ::
 (nat_lit 299,kC "__init__" "Words.__init__" 648 255 2 3 294 true 181 295 .none (.ref 296) (.ref 297) (.ref 298) 653) ::
 (nat_lit 300,kF "__init__" "Words.__init__" fS qK 299) ::
 (nat_lit 306,kC "take" "Words.take" 656 262 1 3 301 true 181 302 .none (.ref 303) (.ref 304) (.ref 305) 661) ::
 (nat_lit 307,kF "take" "Words.take" gc qK 306) ::
 (nat_lit 313,kC "take_one_of" "Words.take_one_of" 664 271 2 3 308 true 181 309 .none (.ref 310) (.ref 311) (.ref 312) 670) ::
 (nat_lit 314,kF "take_one_of" "Words.take_one_of" cv qK 313) ::
 (nat_lit 320,kC "finish" "Words.finish" 673 277 1 3 315 true 181 316 .none (.ref 317) (.ref 318) (.ref 319) 677) ::
 (nat_lit 321,kF "finish" "Words.finish" ej qK 320) ::
 (nat_lit 322,kT [kS "line_end" 680,kS "met" 681,kS "next_place" 682,kS "place" 683,kS "words" 684] 0) ::
 (nat_lit 323,kD [kE P "__module__" 643 qK,kE P "__firstlineno__" 647 (.int 253 646),kR P "__init__" 655 300,kR P "take" 663 307,kR P "take_one_of" 672 314,kR P "finish" 679 321,kR P "__static_attributes__" 685 322,kR P "__dict__" 687 325,kR P "__weakref__" 689 326,kE P "__doc__" 690 .none] 4) ::
 (nat_lit 324,⟨.type "type",none,.cls ⟨"Words",[.type "object"],[.ref 324,.type "object"],323,"Words",true,[],[],false,none,false⟩,#[none,none,some (kS "Words" 636),some (kS "Words" 644),some (.builtin "object.__new__"),some (.bool true)]⟩) ::
 (nat_lit 334,kG "read_bet" 693 280 2 329 330 331 332 333 701) ::
 (nat_lit 335,kH "read_bet" iS qK 334) ::
 (nat_lit 341,kG "check_line" 704 290 1 336 337 338 339 340 710) ::
 (nat_lit 342,kH "check_line" fT qK 341) ::
 (nat_lit 348,kG "read_words" 713 298 2 343 344 345 346 347 726) ::
 (nat_lit 349,kH "read_words" fV qK 348) ::
 (nat_lit 355,kG "take_pool" 729 315 2 350 351 352 353 354 737) ::
 (nat_lit 356,kH "take_pool" gT qK 355) ::
 (nat_lit 362,kG "take_stake" 740 321 2 357 358 359 360 361 746) ::
 (nat_lit 363,kH "take_stake" fX qK 362) ::
 (nat_lit 369,kG "take_how" 749 326 2 364 365 366 367 368 754) ::
 (nat_lit 370,kH "take_how" jh qK 369) ::
 (nat_lit 376,kG "take_sets" 757 331 3 371 372 373 374 375 764) ::
 (nat_lit 377,kH "take_sets" gW qK 376) ::
 (nat_lit 383,kG "take_on" 767 338 2 378 379 380 381 382 774) ::
 (nat_lit 384,kH "take_on" j_ qK 383) ::
 (nat_lit 390,kG "take_box" 777 345 3 385 386 387 388 389 784) ::
 (nat_lit 391,kH "take_box" jg qK 390) ::
 (nat_lit 395,kC "take_key" "take_key" 787 350 3 3 392 true 181 393 .none .none .none (.ref 394) 790) ::
 (nat_lit 396,kH "take_key" iZ qK 395) ::
 (nat_lit 402,kG "take_set" 793 359 2 397 398 399 400 401 801) ::
 (nat_lit 403,kH "take_set" i_ qK 402) ::
 (nat_lit 409,kG "rows_of" 804 367 3 404 405 406 407 408 811) ::
 (nat_lit 410,kH "rows_of" kg qK 409) ::
 (nat_lit 416,kG "many" 829 380 2 411 412 413 414 415 836) ::
 (nat_lit 417,kH "many" ju JX 416) ::
 (nat_lit 423,kG "look_at" 839 385 2 418 419 420 421 422 846) ::
 (nat_lit 424,kH "look_at" ka JX 423) ::
 (nat_lit 428,kC "look_at_all" "look_at_all" 849 390 2 3 425 true 181 426 .none .none .none (.ref 427) 852) ::
 (nat_lit 429,kH "look_at_all" fq JX 428)::[]
def Ay:List Nat:=[3,6,20,21,27,28,32,33,37,38,44,45,46,47,48,49,50,51,52,53,54,55,56,57,58,71,72,73,74,75,83,84,90,91,95,96,102,103,109,110,114,115,121,122,126,127,133,134,138,139,143,144,148,149,153,154,158,159,165,166,172,173,186,187,191,192,198,199,205,206,207,208,209,219,220,224,225,231,232,236,237,238,251,252,253,254,255,271,272,278,279,280,281,282,299,300,306,307,313,314,320,321,322,323,324,334,335,341,342,348,349,355,356,362,363,369,370,376,377,383,384,390,391,395,396,402,403,409,410,416,417,423,424,428,429]
def Il:List Str:=List.map Str.ofString ["_wall","LETTERS","DIGITS","MOST_NAME","MOST_DIGITS","sign_of","text_of","is_name","number_of","MOST_RACES","MOST_POOLS","MOST_COUPLES","MOST_RUNNERS","SIZES","FIXED","POOL_WORDS","Pool","read_card","is_day","read_race","read_pools","read_pool","has_pool_form","are_terms_good","fields_of","product_of","without","count_legs","count_orders","is_of","count_different","picks_of","count_starts","Rows","rows_on","rows_box","rows_key","seatings","NOT_ENDED","BAD_BYTE","BAD_WORD","BAD_NUMBER","NO_POOL","NO_COMBINATION","TOO_DEAR","MORE_BYTES","LINE_END","BLANK","MOST_STAKE","MOST_COST","ON","BOX","WAYS","Fault","Bet","Words","read_bet","check_line","read_words","take_pool","take_stake","take_how","take_sets","take_on","take_box","take_key","take_set","rows_of","TOO_LONG","FAULTY_BET","NO_CARD","MOST_CARD","MOST_BET","many","look_at","look_at_all"]
end Bw
end
section
set_option autoImplicit false
set_option linter.all false
set_option maxRecDepth 100000
set_option maxHeartbeats 0
namespace Bw
open PySem PyProof.Rows L2
theorem Co (P:Params):Ay=(om P).map (·.1):=by kernel_rfl
def qV:Program:={PySem.Challenge.pw_betwords_s03_many with main:={PySem.Challenge.pw_betwords_s03_many.main with body:=[ju]}}
def lV:List Str:=Il.filter λk=>k != "many"
def xV (s:Shared):Bool:=PySem.W.xlAt qV [] s&&PySem.W.recOk [] s
def dV:DefRec:=match ju with
 |.FunctionDef n a b _ _ _ c _ _ p=>⟨n,a,b,c,p⟩
 |_=>⟨"",cX ju,[],aw ju,⟨0,0,0,0⟩⟩
theorem gA0 {a b c:Type}{o:Option a}{f:a->b}{g:a->c}{x:b}{y:c}(h:o.map f=some x)(k:o.map g=some y):o.map (fun s=>(f s,g s))=some (x,y):=by
 cases o with
 |none=>cases h
 |some z=>cases h;cases k;rfl
theorem gA1 {a b c:Type}{o:Option a}{f:a->b×c}{x:b×c}(h:o.map (fun s=>(f s).1)=some x.1)(k:o.map (fun s=>(f s).2)=some x.2):o.map f=some x:=by
 cases o with
 |none=>cases h
 |some z=>exact congrArg some (Prod.ext (Option.some.inj h) (Option.some.inj k))
theorem gA2 {a b:Type}{o:Option a}{f:a->List b}{x:List b}(n:Nat)(h:o.map (fun s=>List.take n (f s))=some (List.take n x))(k:o.map (fun s=>List.drop n (f s))=some (List.drop n x)):o.map f=some x:=by
 cases o with
 |none=>cases h
 |some z=>exact congrArg some ((List.take_append_drop n (f z)).symm.trans ((congr (congrArg _ (Option.some.inj h)) (Option.some.inj k)).trans (List.take_append_drop n x)))
theorem gB01 (w:World):(PySem.W.openEnds treeTable PySem.Challenge.pw_betwords_s03_many (w.withFollow "special-get-raises" false) 5200).map (fun s=>(PySem.W.openSeen qV lV (importedModules PySem.Challenge.pw_betwords_s03_many.main.body) xV true s).1)=some (PySem.W.openGood qV lV).1:=by kernel_rfl
theorem gB02 (w:World):(PySem.W.openEnds treeTable PySem.Challenge.pw_betwords_s03_many (w.withFollow "special-get-raises" false) 5200).map (fun s=>(PySem.W.openSeen qV lV (importedModules PySem.Challenge.pw_betwords_s03_many.main.body) xV true s).2)=some (PySem.W.openGood qV lV).2:=by kernel_rfl
theorem gB03 (w:World):(PySem.W.openEnds treeTable PySem.Challenge.pw_betwords_s03_many (w.withFollow "special-get-raises" false) 5200).map (fun s=>List.take 68 ((PySem.W.kHook Bw.om Bw.Ay Bw.Co).obs s))=some (List.take 68 ((PySem.W.kHook Bw.om Bw.Ay Bw.Co).val (w.withFollow "special-get-raises" false))):=by kernel_rfl
theorem gB04 (w:World):(PySem.W.openEnds treeTable PySem.Challenge.pw_betwords_s03_many (w.withFollow "special-get-raises" false) 5200).map (fun s=>List.drop 68 ((PySem.W.kHook Bw.om Bw.Ay Bw.Co).obs s))=some (List.drop 68 ((PySem.W.kHook Bw.om Bw.Ay Bw.Co).val (w.withFollow "special-get-raises" false))):=by kernel_rfl
theorem Lr (w:World):(PySem.W.openEnds treeTable PySem.Challenge.pw_betwords_s03_many (w.withFollow "special-get-raises" false) 5200).map (fun s=>(PySem.W.openSeen qV lV (importedModules PySem.Challenge.pw_betwords_s03_many.main.body) xV true s,(PySem.W.kHook Bw.om Bw.Ay Bw.Co).obs s))=some (PySem.W.openGood qV lV,(PySem.W.kHook Bw.om Bw.Ay Bw.Co).val (w.withFollow "special-get-raises" false)):=gA0 (gA1 (gB01 w) (gB02 w)) (gA2 68 (gB03 w) (gB04 w))
theorem gB11 (w:World):(PySem.W.openEnds treeTable PySem.Challenge.pw_betwords_s03_many (w.withFollow "special-get-raises" true) 5200).map (fun s=>(PySem.W.openSeen qV lV (importedModules PySem.Challenge.pw_betwords_s03_many.main.body) xV true s).1)=some (PySem.W.openGood qV lV).1:=by kernel_rfl
theorem gB12 (w:World):(PySem.W.openEnds treeTable PySem.Challenge.pw_betwords_s03_many (w.withFollow "special-get-raises" true) 5200).map (fun s=>(PySem.W.openSeen qV lV (importedModules PySem.Challenge.pw_betwords_s03_many.main.body) xV true s).2)=some (PySem.W.openGood qV lV).2:=by kernel_rfl
theorem gB13 (w:World):(PySem.W.openEnds treeTable PySem.Challenge.pw_betwords_s03_many (w.withFollow "special-get-raises" true) 5200).map (fun s=>List.take 68 ((PySem.W.kHook Bw.om Bw.Ay Bw.Co).obs s))=some (List.take 68 ((PySem.W.kHook Bw.om Bw.Ay Bw.Co).val (w.withFollow "special-get-raises" true))):=by kernel_rfl
theorem gB14 (w:World):(PySem.W.openEnds treeTable PySem.Challenge.pw_betwords_s03_many (w.withFollow "special-get-raises" true) 5200).map (fun s=>List.drop 68 ((PySem.W.kHook Bw.om Bw.Ay Bw.Co).obs s))=some (List.drop 68 ((PySem.W.kHook Bw.om Bw.Ay Bw.Co).val (w.withFollow "special-get-raises" true))):=by kernel_rfl
theorem Lh (w:World):(PySem.W.openEnds treeTable PySem.Challenge.pw_betwords_s03_many (w.withFollow "special-get-raises" true) 5200).map (fun s=>(PySem.W.openSeen qV lV (importedModules PySem.Challenge.pw_betwords_s03_many.main.body) xV true s,(PySem.W.kHook Bw.om Bw.Ay Bw.Co).obs s))=some (PySem.W.openGood qV lV,(PySem.W.kHook Bw.om Bw.Ay Bw.Co).val (w.withFollow "special-get-raises" true)):=gA0 (gA1 (gB11 w) (gB12 w)) (gA2 68 (gB13 w) (gB14 w))
theorem hl:PySem.W.LeftO PySem.Challenge.pw_betwords_s03_many qV lV xV (PySem.W.kHook Bw.om Bw.Ay Bw.Co).obs (PySem.W.kHook Bw.om Bw.Ay Bw.Co).val 5200:=PySem.W.byRow2 "special-get-raises" Lr Lh
end Bw
end
section
set_option autoImplicit false
set_option linter.all false
namespace Bw
open Tote
theorem sum_map_add {α:Type}(f g:α->Nat):∀l:List α,(l.map λx=>f x+g x).sum=(l.map f).sum+(l.map g).sum
 |[]=>rfl
 |x::l=>by
  simp only[XM,Y1,sum_map_add f g l];omega
theorem sum_map_congr {α:Type}{f g:α->Nat}:∀{l:List α},(∀x∈l,f x=g x)->(l.map f).sum=(l.map g).sum
 |[],_=>rfl
 |x::l,h=>by
  simp only[XM,Y1];rw[h x (by simp),sum_map_congr λy hy=>h y (by simp[hy])]
theorem sum_map_const {α:Type}(c:Nat):∀l:List α,(l.map λ_=>c).sum=l.length*c
 |[]=>by simp
 |x::l=>by
  simp only[XM,Y1,sum_map_const c l,XE,Nat.add_mul];omega
theorem fH {α β:Type}(f:α->List β):∀l:List α,(l.flatMap f).length=(l.map λx=>(f x).length).sum
 |[]=>rfl
 |x::l=>by simp[ZP,fH f l]
theorem nS {α:Type}(p:α->Bool)(c d:Nat):∀l:List α,(l.map λx=>if p x=true then c else d).sum=(l.filter p).length*c+(l.filter λx=>!p x).length*d
 |[]=>by simp
 |x::l=>by
  have ih:=nS p c d l;simp only[XM,Y1,YG];by_cases h:p x=true
  · simp only[h,Zc,Bool.not_true,YU,Zs,XE,Nat.add_mul,ih];omega
  · have h':p x=false:=by simpa using h
    simp only[h',YU,Zs,Bool.not_false,Zc,XE,Nat.add_mul,ih];omega
section
variable (A u:aae)
end
theorem i8:∀(k:Nat) (l r:aae),r∈risingRows k l->r.Sublist l
 |0,_,r,h=>by
  have:r=[]:=by simpa [risingRows] using h
  subst this;exact List.nil_sublist _
 |k+1,[],r,h=>by simp[risingRows] at h
 |k+1,x::l,r,h=>by
  rw[risingRows,Yj] at h;rcases h with h|h
  · obtain⟨q,hq,rfl⟩:=X3.mp h;exact (i8 k l q hq).cons₂ x
  · exact (i8 (k+1) l r h).cons x
def dm:aad->(Nat->Bool)->Nat
 |[],_=>1
 |s::ss,p=>((s.filter p).map λy=>dm ss λz=>p z&&z != y).sum
theorem gD:∀(ss:aad) {p q:Nat->Bool},(∀s∈ss,∀y∈s,p y=q y)->dm ss p=dm ss q
 |[],_,_,_=>rfl
 |s::ss,p,q,h=>by
  unfold dm;have e:s.filter p=s.filter q:=List.filter_congr λy hy=>h s (by simp) y hy;rw[e];refine sum_map_congr λy _=>gD ss λt ht z hz=>?_;rw[h t (by simp[ht]) z hz]
theorem r9:∀(ss:aad) (had:aae),(apartRows ss had).length=dm ss λz=>!had.contains z
 |[],_=>rfl
 |s::ss,had=>by
  unfold dm;rw[apartRows,fH];refine sum_map_congr λy _=>?_;rw[Xs,r9 ss (y::had)];refine gD ss λt _ z _=>?_;simp only[YB,Xx];by_cases c1:z∈had <;> by_cases c2:z=y <;> simp[c1,c2]
def outs (x:Nat):aad->List (aad)
 |[]=>[]
 |s::ss=>(if s.contains x=true then [ss] else [])++(outs x ss).map λr=>s::r
theorem kP {α β:Type}(f:α->β->Nat):∀(l:List α) (m:List β),(l.map λx=>(m.map λy=>f x y).sum).sum=(m.map λy=>(l.map λx=>f x y).sum).sum
 |[],m=>by
  simp only[YT,List.sum_nil];rw[sum_map_const 0 m];simp
 |x::l,m=>by
  simp only[XM,Y1];rw[kP f l m,←sum_map_add]
theorem lH {x:Nat}:∀{s:aae},s.Nodup->s.filter (λy=>y==x)=if s.contains x=true then [x] else []
 |[],_=>rfl
 |y::s,nd=>by
  obtain⟨h1,h2⟩:=YF.mp nd;have ih:=lH (x:=x) h2;by_cases e:y=x
  · subst e;have:s.filter (λz=>z==y)=[]:=List.filter_eq_nil_iff.mpr λz hz c=>h1 ((Yk.mp c) ▸ hz);simp[this]
  · have e':¬x=y:=λz=>e z.symm;rw[YG,Xu (by simp[e]),ih];simp[e']
theorem kQ {f:Nat->Nat}{p q:Nat->Bool}(hd:∀y,p y=true->q y=false):∀l:aae,((l.filter λy=>p y||q y).map f).sum=((l.filter p).map f).sum+((l.filter q).map f).sum
 |[]=>rfl
 |y::l=>by
  have ih:=kQ (f:=f) hd l;rw[YG,YG,YG];by_cases c:p y=true
  · have:=hd y c;simp only[c,this,ZI,Zc,YU,Zs,XM,Y1,ih];omega
  · have c':p y=false:=by simpa using c
    by_cases c2:q y=true
    · simp only[c',c2,Bool.or_true,Zc,YU,Zs,XM,Y1,ih];omega
    · have N5:q y=false:=by simpa using c2
      simp only[c',N5,ZI,YU,Zs,ih]
theorem sk (x:Nat):∀(ss:aad) (p:Nat->Bool),(∀s∈ss,s.Nodup)->p x=false ->
  dm ss (λz=>p z||z==x)=dm ss p+((outs x ss).map λr=>dm r p).sum
 |[],_,_,_=>rfl
 |s::ss,p,nd,hx=>by
  have T9:s.Nodup:=nd s (by simp);have T_:∀t∈ss,t.Nodup:=λt ht=>nd t (by simp[ht]);have L9:∀y,p y=true->(y==x)=false:=λy hy=>by
   by_cases e:y=x
   · rw[e,hx] at hy;cases hy
   · simp[e]
  show ((s.filter λz=>p z||z==x).map λy=>dm ss λz=>(p z||z==x)&&z != y).sum=_;rw[kQ (q:=λy=>y==x) L9,lH T9];have e1:((s.filter p).map λy=>dm ss λz=>(p z||z==x)&&z != y).sum
    = ((s.filter p).map λy=>dm ss (λz=>p z&&z != y)+((outs x ss).map λr=>dm r λz=>p z&&z != y).sum).sum:=by
   refine sum_map_congr λy hy=>?_;have py:p y=true:=(YD.mp hy).2;have ne:x≠y:=λe=>by rw[e,py] at hx;cases hx
   rw[←sk x ss (λz=>p z&&z != y) T_ (by simp[hx])];refine gD ss λt _ z _=>?_;show ((p z||z==x)&&z != y)=(p z&&z != y||z==x);cases Ua:p z <;> by_cases c:z=x <;> by_cases d:z=y <;> simp_all
  rw[e1,sum_map_add,kP (λy r=>dm r λz=>p z&&z != y)];have e2:(((if s.contains x=true then [x] else []:aae)).map λy=>dm ss λz=>(p z||z==x)&&z != y).sum
    = (((if s.contains x=true then [ss] else []:List (aad))).map λr=>dm r p).sum:=by
   by_cases c:s.contains x=true
   · rw[Xv c,Xv c];simp only[XM,YT,Y1,List.sum_nil,Nat.add_zero];refine gD ss λt _ z _=>?_;show ((p z||z==x)&&z != x)=p z;cases Ua:p z <;> by_cases d:z=x <;> simp_all
   · rw[Xu c,Xu c];rfl
  rw[e2];show _=dm (s::ss) p+(((if s.contains x=true then [ss] else [])++(outs x ss).map λr=>s::r).map λr=>dm r p).sum;rw[XO,List.sum_append,XX];show ((s.filter p).map λy=>dm ss λz=>p z&&z != y).sum+((outs x ss).map λr=>((s.filter p).map λy=>dm r λz=>p z&&z != y).sum).sum+_
   = ((s.filter p).map λy=>dm ss λz=>p z&&z != y).sum+(_+((outs x ss).map λr=>((s.filter p).map λy=>dm r λz=>p z&&z != y).sum).sum)
  omega
def sel:Nat->aad->aad
 |_,[]=>[]
 |m,s::ss=>(if m % 2=1 then [s] else [])++sel (m / 2) ss
def bitsOf (x:Nat):Nat->aad->aae
 |_,[]=>[]
 |b,s::ss=>(if s.contains x=true then [b] else [])++bitsOf x (2*b) ss
theorem nZ (x:Nat):∀(ss:aad) (b:Nat),bitsOf x (2*b) ss=(bitsOf x b ss).map λc=>2*c
 |[],_=>rfl
 |s::ss,b=>by
  unfold bitsOf;rw[XO,nZ x ss (2*b)];congr 1;by_cases c:s.contains x=true
  · simp only[Xv c];rfl
  · simp only[Xu c];rfl
def bF (m b:Nat):Bool:=m / b % 2==1
theorem pV (m:Nat)(s:aae)(ss:aad):sel m (s::ss)=(if m % 2=1 then [s] else [])++sel (m / 2) ss:=rfl
theorem u_:∀ss:aad,sel 0 ss=[]
 |[]=>rfl
 |s::ss=>by
  unfold sel;rw[u_ ss];rfl
theorem vW (x:Nat):∀(ss:aad) (m:Nat),outs x (sel m ss)=((bitsOf x 1 ss).filter (bF m)).map λb=>sel (m - b) ss
 |[],_=>rfl
 |s::ss,m=>by
  have ih:=vW x ss (m / 2);have e1:bitsOf x 1 (s::ss)=(if s.contains x=true then [1] else [])++(bitsOf x 1 ss).map λc=>2*c:=by
   show (if s.contains x=true then [1] else [])++bitsOf x (2*1) ss=_;rw[nZ]
  have f1:∀c,bF m (2*c)=bF (m / 2) c:=λc=>by
   unfold bF;rw[Nat.div_div_eq_div_mul]
  have e2:(((bitsOf x 1 ss).map λc=>2*c).filter (bF m))=((bitsOf x 1 ss).filter (bF (m / 2))).map λc=>2*c:=by
   rw[List.filter_map];congr 1;exact List.filter_congr λc _=>f1 c
  rw[e1,Zn,XO,e2,XX];have big:∀c∈(bitsOf x 1 ss).filter (bF (m / 2)),c<=m / 2:=λc hc=>by
   have h:=(YD.mp hc).2;unfold bF at h;have h':m / 2 / c % 2=1:=by simpa using h
   by_cases z:c<=m / 2
   · exact z
   · rw[Nat.div_eq_of_lt (by omega)] at h';simp at h'
  have e3:((bitsOf x 1 ss).filter (bF (m / 2))).map ((λb=>sel (m - b) (s::ss)) ∘ λc=>2*c)
    = ((bitsOf x 1 ss).filter (bF (m / 2))).map λc=>(if m % 2=1 then [s] else [])++sel (m / 2 - c) ss:=by
   refine Yn λc hc=>?_;have:=big c hc;show (if (m - 2*c) % 2=1 then [s] else [])++sel ((m - 2*c) / 2) ss=_;have a1:(m - 2*c) % 2=m % 2:=by omega
   have a2:(m - 2*c) / 2=m / 2 - c:=by omega
   rw[a1,a2]
  rw[e3,pV];by_cases odd:m % 2=1
  · simp only[Xv odd,List.singleton_append];have NB:bF m 1=true:=by unfold bF;simp[odd]
    rw[outs,ih,XX];congr 1;by_cases c:s.contains x=true
    · simp only[Xv c,YG,NB,Zc,List.filter_nil,XM,YT];have a1:¬(m - 1) % 2=1:=by omega
      have a2:(m - 1) / 2=m / 2:=by omega
      rw[pV,Xu a1,a2];rfl
    · simp only[Xu c];rfl
  · have NB:bF m 1=false:=by unfold bF;simp[odd]
    simp only[Xu odd,Yp];rw[ih];by_cases c:s.contains x=true
    · simp only[Xv c,YG,NB,YU,Zs,List.filter_nil,YT,Yp]
    · simp only[Xu c,List.filter_nil,YT,Yp]
theorem yh:∀{ss:aad} {m:Nat} {s:aae},s∈sel m ss->s∈ss
 |[],_,_,h=>by simp[sel] at h
 |t::ss,m,s,h=>by
  unfold sel at h;rcases Yj.mp h with h|h
  · by_cases c:m % 2=1
    · rw[Xv c] at h;simp at h;simp[h]
    · rw[Xu c] at h;simp at h
  · exact XN _ (yh h)
theorem uE:∀ss:aad,sel (2 ^ ss.length - 1) ss=ss
 |[]=>rfl
 |s::ss=>by
  have hp:0 < 2 ^ ss.length:=Nat.two_pow_pos _;have e:2 ^ (s::ss).length - 1=2*(2 ^ ss.length - 1)+1:=by
   rw[XE,Zy];omega
  unfold sel;rw[e];have a1:(2*(2 ^ ss.length - 1)+1) % 2=1:=by omega
  have a2:(2*(2 ^ ss.length - 1)+1) / 2=2 ^ ss.length - 1:=by omega
  rw[Xv a1,a2,uE ss];rfl
theorem As (x m:Nat)(ss:aad)(p:Nat->Bool)(nd:∀s∈ss,s.Nodup)(hx:p x=false) :
  dm (sel m ss) (λz=>p z||z==x)=dm (sel m ss) p+(((bitsOf x 1 ss).filter (bF m)).map λb=>dm (sel (m - b) ss) p).sum:=by
 rw[sk x (sel m ss) p (λs hs=>nd s (yh hs)) hx,vW,XX];rfl
abbrev cq (l:aae):Prop:=l.Pairwise (· < ·)
theorem kj:∀l:aae,risesN l=true↔cq l
 |[]=>by simp[risesN]
 |[x]=>by simp[risesN]
 |x::y::l=>by
  have ih:=kj (y::l);rw[risesN,XA,Y0,ih];constructor
  · rintro⟨h1,h2⟩;refine YM.mpr ⟨λz hz=>?_,h2⟩;rcases Xx.mp hz with rfl|hz
    · exact h1
    · exact Nat.lt_trans h1 ((YM.mp h2).1 z hz)
  · intro h;obtain⟨h1,h2⟩:=YM.mp h;exact⟨h1 y (by simp),h2⟩
theorem cq.nodup {l:aae}(h:cq l):l.Nodup:=List.Pairwise.imp (λh=>X6 h) h
theorem h_ {α:Type} [DecidableEq α]:∀{l m:List α},l.Nodup->(∀x∈l,x∈m)->l.length<=m.length
 |[],_,_,_=>X1 _
 |x::l,m,nd,h=>by
  obtain⟨h1,h2⟩:=YF.mp nd;have hx:x∈m:=h x (by simp);have ih:=h_ (l:=l) (m:=m.erase x) h2 λy hy=>by
   have:y≠x:=λe=>h1 (e ▸ hy);exact (ZZ this).mpr (h y (by simp[hy]))
  have e:=Zb hx;have:0 < m.length:=ZN hx;rw[XE];omega
def gd (n:Nat):aae->aae
 |[]=>[n]
 |x::r=>if n < x then n::x::r else x::gd n r
theorem mK {n y:Nat}:∀{l:aae},y∈gd n l↔y=n∨y∈l
 |[]=>by simp[gd]
 |x::r=>by
  unfold gd;by_cases c:n < x
  · rw[Xv c];simp
  · rw[Xu c,Xx,mK (l:=r),Xx];constructor
    · rintro (h|h|h) <;> simp[h]
    · rintro (h|h|h) <;> simp[h]
theorem ly {n:Nat}:∀{l:aae},cq l->¬n∈l->cq (gd n l)
 |[],_,_=>by simp[gd]
 |x::r,h,hn=>by
  obtain⟨h1,h2⟩:=YM.mp h;unfold gd;by_cases c:n < x
  · rw[Xv c];refine YM.mpr ⟨λz hz=>?_,h⟩;rcases Xx.mp hz with rfl|hz
    · exact c
    · exact Nat.lt_trans c (h1 z hz)
  · rw[Xu c];have ne:n≠x:=λe=>hn (by simp[e]);refine YM.mpr ⟨λz hz=>?_,ly h2 λm=>hn (by simp[m])⟩;rcases mK.mp hz with rfl|hz
    · omega
    · exact h1 z hz
theorem pP {n:Nat}:∀{l:aae},cq l->n∈l->gd n (l.erase n)=l
 |[],_,h=>by simp at h
 |x::r,h,hn=>by
  obtain⟨h1,h2⟩:=YM.mp h;by_cases e:x=n
  · subst e;rw[List.erase_cons_head];cases r with
    |nil=>rfl
    |cons y r=>unfold gd;rw[Xv (h1 y (by simp))]
  · have MQ:n∈r:=by
     rcases Xx.mp hn with z|z
     · exact absurd z.symm e
     · exact z
    rw[List.erase_cons_tail (by simpa using e)];have:=h1 n MQ;unfold gd;rw[Xu (by omega),pP h2 MQ]
theorem oO {n:Nat}:∀{l:aae},¬n∈l->(gd n l).erase n=l
 |[],_=>by simp[gd]
 |x::r,h=>by
  have ne:x≠n:=λe=>h (by simp[e]);unfold gd;by_cases c:n < x
  · rw[Xv c,List.erase_cons_head]
  · rw[Xu c,List.erase_cons_tail (by simpa using ne),oO λm=>h (by simp[m])]
def jx (K:aad)(k:aae):aad:=if K.contains k=true then K else K++[k]
def cx (pick:aae)(K:aad)(n:Nat):aad:=if pick.contains n=true then K else jx K (gd n pick)
def cS (s:aae)(K:aad)(pick:aae):aad:=s.foldl (cx pick) K
def fe (picks:aad)(s:aae):aad:=picks.foldl (cS s) []
def bx (ss:aad):aad:=ss.foldl fe [[]]
theorem wB {K:aad}{k r:aae}:r∈jx K k↔r∈K∨r=k:=by
 unfold jx;by_cases c:K.contains k=true
 · rw[Xv c];have c':k∈K:=by simpa using c
   exact⟨.inl,λh=>h.elim id λe=>e ▸ c'⟩
 · rw[Xu c];simp
theorem mr {K:aad}{k:aae}(h:K.Nodup):(jx K k).Nodup:=by
 unfold jx;by_cases c:K.contains k=true
 · rw[Xv c];exact h
 · rw[Xu c];have c':¬k∈K:=by simpa using c
   refine Y_.mpr ⟨h,by simp,λa ha b hb=>?_⟩;have:b=k:=by simpa using hb
   subst this;exact λe=>c' (e ▸ ha)
theorem pf {pick r:aae}:∀{s:aae} {K:aad},r∈cS s K pick↔r∈K∨∃n∈s,¬n∈pick/\r=gd n pick
 |[],K=>by simp[cS]
 |n::s,K=>by
  show r∈cS s (cx pick K n) pick↔_;rw[pf (s:=s)];unfold cx;by_cases c:pick.contains n=true
  · rw[Xv c];have c':n∈pick:=by simpa using c
    constructor
    · rintro (h|⟨m,hm,h1,h2⟩)
      · exact .inl h
      · exact .inr ⟨m,by simp[hm],h1,h2⟩
    · rintro (h|⟨m,hm,h1,h2⟩)
      · exact .inl h
      · rcases Xx.mp hm with rfl|hm
        · exact absurd c' h1
        · exact .inr ⟨m,hm,h1,h2⟩
  · rw[Xu c,wB];have c':¬n∈pick:=by simpa using c
    constructor
    · rintro ((h|h)|⟨m,hm,h1,h2⟩)
      · exact .inl h
      · exact .inr ⟨n,by simp,c',h⟩
      · exact .inr ⟨m,by simp[hm],h1,h2⟩
    · rintro (h|⟨m,hm,h1,h2⟩)
      · exact .inl (.inl h)
      · rcases Xx.mp hm with rfl|hm
        · exact .inl (.inr h2)
        · exact .inr ⟨m,hm,h1,h2⟩
theorem mC {pick:aae}:∀{s:aae} {K:aad},K.Nodup->(cS s K pick).Nodup
 |[],_,h=>h
 |n::s,K,h=>by
  show (cS s (cx pick K n) pick).Nodup;refine mC (s:=s) ?_;unfold cx;by_cases c:pick.contains n=true
  · rw[Xv c];exact h
  · rw[Xu c];exact mr h
theorem vv {s r:aae}:∀{picks K:aad},r∈picks.foldl (cS s) K↔r∈K∨∃pick∈picks,∃n∈s,¬n∈pick/\r=gd n pick
 |[],K=>by simp
 |p::ps,K=>by
  rw[YZ,vv (picks:=ps),pf];constructor
  · rintro ((h|h)|⟨q,hq,h⟩)
    · exact .inl h
    · exact .inr ⟨p,by simp,h⟩
    · exact .inr ⟨q,by simp[hq],h⟩
  · rintro (h|⟨q,hq,h⟩)
    · exact .inl (.inl h)
    · rcases Xx.mp hq with rfl|hq
      · exact .inl (.inr h)
      · exact .inr ⟨q,hq,h⟩
theorem p8 {s:aae}:∀{picks K:aad},K.Nodup->(picks.foldl (cS s) K).Nodup
 |[],_,h=>h
 |p::ps,K,h=>by
  rw[YZ];exact p8 (picks:=ps) (mC h)
theorem snoc_ind {α:Type}{P:List α->Prop}(h0:P [])(h1:∀l a,P l->P (l++[a]))(l:List α):P l:=by
 have:∀m:List α,P m.reverse:=λm=>by
  induction m with
  |nil=>exact h0
  |cons a m ih=>rw[List.reverse_cons];exact h1 _ a ih
 have h:=this l.reverse
 rwa [List.reverse_reverse] at h
theorem d8 {row s:aae}{t:aad}:fillsSets row (s::t)=true↔∃x∈row,x∈s/\fillsSets (row.erase x) t=true:=by
 show (row.any λ(x:Nat)=>s.contains x&&fillsSets (row.erase x) t)=true↔_;rw[Y7];constructor
 · rintro⟨x,hx,h⟩;rw[XA] at h;exact⟨x,hx,by simpa using h.1,h.2⟩
 · rintro⟨x,hx,h1,h2⟩;exact⟨x,hx,by rw[XA];exact⟨by simpa using h1,h2⟩⟩
theorem m8 {row:aae}:fillsSets row []=true↔row=[]:=by
 show row.isEmpty=true↔_;exact Y6
theorem jK {x y:Nat}{l:aae}(hy:y∈l)(hx:x∈l.erase y):x∈l/\y∈l.erase x:=by
 refine⟨List.mem_of_mem_erase hx,?_⟩;by_cases e:y=x
 · subst e;exact hx
 · exact (ZZ e).mpr hy
theorem lA {s:aae}:∀{ss:aad} {row:aae},fillsSets row (ss++[s])=true↔∃x∈row,x∈s/\fillsSets (row.erase x) ss=true
 |[],row=>by rw[Yp,d8]
 |t::ss,row=>by
  rw[ZC,d8];constructor
  · rintro⟨y,hy,MY,h⟩;obtain⟨x,hx,MA,h⟩:=lA.mp h;obtain⟨a,b⟩:=jK hy hx;exact⟨x,a,MA,d8.mpr ⟨y,b,MY,by rw[List.erase_comm];exact h⟩⟩
  · rintro⟨x,hx,MA,h⟩;obtain⟨y,hy,MY,h⟩:=d8.mp h;obtain⟨a,b⟩:=jK hx hy;exact⟨y,a,MY,lA.mpr ⟨x,b,MA,by rw[List.erase_comm];exact h⟩⟩
theorem cq.erase {l:aae}(n:Nat)(h:cq l):cq (l.erase n):=List.Pairwise.sublist List.erase_sublist h
theorem og {n:Nat}{l:aae}(h:l.Nodup):¬n∈l.erase n:=λm=>by
 have:=(h.mem_erase_iff).mp m;exact this.1 rfl
theorem iV (ss:aad)(s:aae):bx (ss++[s])=fe (bx ss) s:=by
 unfold bx;rw[List.foldl_append];rfl
theorem j7 (ss:aad):∀r,r∈bx ss↔cq r/\fillsSets r ss=true:=by
 refine snoc_ind (P:=λss=>∀r,r∈bx ss↔cq r/\fillsSets r ss=true) ?_ ?_ ss
 · intro r;show r∈([[]]:aad)↔_;rw[m8,XI];constructor
   · rintro rfl;exact⟨List.Pairwise.nil,rfl⟩
   · exact λh=>h.2
 · intro ss s ih r;rw[iV];unfold fe;rw[vv,lA];constructor
   · rintro (h|⟨p,hp,n,hn,h1,rfl⟩)
     · simp at h
     · obtain⟨rp,fp⟩:=(ih p).mp hp;exact⟨ly rp h1,n,mK.mpr (.inl rfl),hn,by rw[oO h1];exact fp⟩
   · rintro⟨hr,n,hn,hs,h⟩;exact .inr ⟨r.erase n,(ih _).mpr ⟨hr.erase n,h⟩,n,hs,og hr.nodup,(pP hr hn).symm⟩
theorem vK (ss:aad):(bx ss).Nodup:=by
 refine snoc_ind (P:=λss=>(bx ss).Nodup) ?_ ?_ ss
 · show ([[]]:aad).Nodup;simp
 · intro ss s _;rw[iV];exact p8 List.nodup_nil
theorem jW:∀{ss:aad} {row:aae},fillsSets row ss=true->row.length=ss.length/\∀x∈row,∃s∈ss,x∈s
 |[],row,h=>by
  have:=m8.mp h;subst this;exact⟨rfl,λx hx=>by simp at hx⟩
 |t::ss,row,h=>by
  obtain⟨y,hy,MY,h⟩:=d8.mp h;obtain⟨h1,h2⟩:=jW h;have e:=Zb hy;have:0 < row.length:=ZN hy;refine⟨by rw[XE];omega,λx hx=>?_⟩;by_cases c:x=y
  · subst c;exact⟨t,by simp,MY⟩
  · obtain⟨s,hs,MA⟩:=h2 x ((ZZ c).mpr hx);exact⟨s,by simp[hs],MA⟩
theorem jf:∀{k:Nat} {l r:aae},r.Sublist l->r.length=k->r∈risingRows k l
 |0,l,r,_,h=>by
  have:r=[]:=Zj.mp h;subst this;simp[risingRows]
 |k+1,_,_,.slnil,h=>by simp at h
 |k+1,x::l,r,.cons _ h',h=>by
  rw[risingRows,Yj];exact .inr (jf h' h)
 |k+1,x::l,_::r,.cons_cons _ h',h=>by
  rw[risingRows,Yj];exact .inl (X3.mpr ⟨r,jf h' (by simpa using h),rfl⟩)
theorem kY:∀(k:Nat) (l r:aae),r∈risingRows k l->r.length=k
 |0,_,r,h=>by
  have:r=[]:=by simpa [risingRows] using h
  subst this;rfl
 |k+1,[],r,h=>by simp[risingRows] at h
 |k+1,x::l,r,h=>by
  rw[risingRows,Yj] at h;rcases h with h|h
  · obtain⟨q,hq,rfl⟩:=X3.mp h;rw[XE,kY k l q hq]
  · exact kY (k+1) l r h
theorem iI:∀(k:Nat) (l:aae),l.Nodup->(risingRows k l).Nodup
 |0,_,_=>by simp[risingRows]
 |k+1,[],_=>by simp[risingRows]
 |k+1,x::l,nd=>by
  obtain⟨h1,h2⟩:=YF.mp nd;rw[risingRows];refine Y_.mpr ⟨?_,iI (k+1) l h2,?_⟩
  · exact List.Pairwise.map _ (λa b (h:a≠b) e=>h (by injection e)) (iI k l h2)
  · intro a ha b hb e;obtain⟨q,_,rfl⟩:=X3.mp ha;subst e;exact h1 ((i8 _ _ _ hb).subset (by simp))
theorem f9:∀{u r:aae},cq u->cq r->(∀x∈r,x∈u)->r.Sublist u
 |_,[],_,_,_=>List.nil_sublist _
 |[],x::r,_,_,h=>by simpa using h x (by simp)
 |y::u,x::r,hu,hr,h=>by
  obtain⟨u1,u2⟩:=YM.mp hu;obtain⟨r1,r2⟩:=YM.mp hr;by_cases e:x=y
  · subst e;refine (f9 u2 r2 λz hz=>?_).cons_cons x;rcases Xx.mp (h z (by simp[hz])) with q|q
    · have:=r1 z hz;omega
    · exact q
  · have hx:x∈u:=by
     rcases Xx.mp (h x (by simp)) with q|q
     · exact absurd q e
     · exact q
    refine (f9 u2 hr λz hz=>?_).cons y;have lt:=u1 x hx;rcases Xx.mp (h z hz) with q|q
    · subst q;rcases Xx.mp hz with q|q
      · exact absurd q.symm e
      · have:=r1 z q;omega
    · exact q
theorem f_ {l:aad}{x:Nat}:x∈together l↔x < 32/\∃s∈l,x∈s:=by
 unfold together;rw[YD,Zh,Y7];constructor
 · rintro⟨h,s,hs,hx⟩;exact⟨h,s,hs,by simpa using hx⟩
 · rintro⟨h,s,hs,hx⟩;exact⟨h,s,hs,by simpa using hx⟩
theorem dv (l:aad):cq (together l):=List.Pairwise.filter _ List.pairwise_lt_range
structure bH (heads s:aae):Prop where
 rise:cq s
 sub:∀x∈s,x∈heads
structure cP (heads:aae):Prop where
 rise:cq heads
 lo:∀x∈heads,1<=x
 hi:∀x∈heads,x<=24
def lC (z:Nat):Bool:=decide (1<=z)&&decide (z<=24)
def fits:aae->aad->Prop
 |[],[]=>True
 |x::r,s::g=>x∈s/\fits r g
 |_,_=>False
theorem uP:∀{r:aae} {g:aad},fits r g->r.length=g.length
 |[],[],_=>rfl
 |_::_,_::_,h=>by simp[uP h.2]
 |[],_::_,h=>h.elim
 |_::_,[],h=>h.elim
theorem fc:∀{g:aad} {had r:aae},r∈apartRows g had↔fits r g/\r.Nodup/\∀x∈r,¬x∈had
 |[],_,[]=>by simp[apartRows,fits]
 |[],_,_::_=>by simp[apartRows,fits]
 |s::g,_,[]=>by simp[apartRows,fits]
 |s::g,had,x::r=>by
  simp only[apartRows,Zz,YD,X3,List.cons.injEq,fits,YF,Z0];constructor
  · rintro⟨y,⟨h1,h2⟩,q,hq,rfl,rfl⟩;obtain⟨a,b,c⟩:=fc.mp hq;exact⟨⟨h1,a⟩,⟨λm=>c y m (by simp),b⟩,by simpa using h2,λz hz m=>c z hz (by simp[m])⟩
  · rintro⟨⟨h1,a⟩,⟨n,b⟩,h2,c⟩;refine⟨x,⟨h1,by simpa using h2⟩,r,fc.mpr ⟨a,b,λz hz m=>?_⟩,rfl,rfl⟩;rcases Xx.mp m with rfl|m
    · exact n hz
    · exact c z hz m
theorem pb {x:Nat}{l:aad}(h:l.Nodup):(l.map λr=>x::r).Nodup:=List.pairwise_map.mpr (List.Pairwise.imp (λn e=>n (List.cons.inj e).2) h)
theorem ve {f:Nat->aad}{s:aae}(hs:s.Nodup)(h:∀x∈s,(f x).Nodup):(s.flatMap λx=>(f x).map λr=>x::r).Nodup:=by
 refine List.pairwise_flatMap.mpr ⟨λx hx=>pb (h x hx),List.Pairwise.imp (λn a ha b hb e=>?_) hs⟩;obtain⟨p,_,rfl⟩:=X3.mp ha;obtain⟨q,_,rfl⟩:=X3.mp hb;exact n (List.cons.inj e).1
theorem jF:∀{g:aad} {had:aae},(∀s∈g,s.Nodup)->(apartRows g had).Nodup
 |[],_,_=>by simp[apartRows]
 |s::g,had,h=>ve ((h s (by simp)).filter _) λ_ _=>jF λt ht=>h t (by simp[ht])
theorem uR:∀{r:aae} {g:aad},fits r g->(∀x∈r,∃s∈g,x∈s)/\∀s∈g,∃x∈r,x∈s
 |[],[],_=>by simp
 |x::r,s::g,h=>by
  obtain⟨a,b⟩:=uR h.2;refine⟨λy hy=>?_,λt ht=>?_⟩
  · rcases Xx.mp hy with rfl|hy
    · exact⟨s,by simp,h.1⟩
    · obtain⟨t,ht,MY⟩:=a y hy;exact⟨t,by simp[ht],MY⟩
  · rcases Xx.mp ht with rfl|ht
    · exact⟨x,by simp,h.1⟩
    · obtain⟨y,hy,MY⟩:=b t ht;exact⟨y,by simp[hy],MY⟩
 |[],_::_,h=>h.elim
 |_::_,[],h=>h.elim
theorem uF {B:aae}:∀{k:Nat} {r:aae},fits r (List.replicate k B)↔r.length=k/\∀x∈r,x∈B
 |0,[]=>by simp[fits]
 |0,_::_=>by simp[fits]
 |k+1,[]=>by simp[fits,Z2]
 |k+1,x::r=>by
  rw[Z2];show x∈B/\fits r _↔_;rw[uF];simp only[XE,Z0,Nat.add_right_cancel_iff];exact⟨λ⟨a,b,c⟩=>⟨b,a,c⟩,λ⟨b,a,c⟩=>⟨a,b,c⟩⟩
def jq (a:Nat)(B:aae):aad->List (aad)
 |[]=>[]
 |s::g=>(if s==B then [[a]::g] else [])++(jq a B g).map λr=>s::r
def bE (B:aae)(A:aae)(gs:List (aad)):List (aad):=A.foldl (λgs a=>gs.flatMap (jq a B)) gs
theorem tF {x:Nat}{B:aae}(h:¬x∈B):[x]≠B:=λe=>h (e ▸ XI.mpr rfl)
theorem uu {a:Nat}{B s:aae}{g t:aad}:t∈jq a B (s::g)↔(s=B/\t=[a]::g)∨∃r∈jq a B g,t=s::r:=by
 show t∈(if s==B then [[a]::g] else [])++(jq a B g).map (λr=>s::r)↔_;rw[Yj,X3];have z:(∃r,r∈jq a B g/\s::r=t)↔∃r∈jq a B g,t=s::r:=⟨λ⟨r,h,e⟩=>⟨r,h,e.symm⟩,λ⟨r,h,e⟩=>⟨r,h,e.symm⟩⟩;rw[z];by_cases e:s=B <;> simp[e]
structure Good (B had:aae)(k:Nat)(g:aad):Prop where
 len:g.length=k
 are:∀s∈g,s=B∨∃a∈had,s=[a]
 all:∀a∈had,[a]∈g
theorem oA {a:Nat}{B:aae}:∀{g t:aad},t∈jq a B g->t.length=g.length/\(∀s∈t,s=[a]∨s∈g)/\[a]∈t/\∀s∈g,s=B∨s∈t
 |[],t,h=>by cases h
 |s::g,t,h=>by
  rcases uu.mp h with ⟨rfl,rfl⟩|⟨r,hr,rfl⟩
  · refine⟨rfl,λu hu=>?_,by simp,λu hu=>?_⟩
    · rcases Xx.mp hu with e|hu
      · exact .inl e
      · exact .inr (by simp[hu])
    · rcases Xx.mp hu with e|hu
      · exact .inl e
      · exact .inr (by simp[hu])
  · obtain⟨a1,a2,a3,a4⟩:=oA hr;refine⟨by simp[a1],λu hu=>?_,by simp[a3],λu hu=>?_⟩
    · rcases Xx.mp hu with e|hu
      · exact .inr (by simp[e])
      · exact (a2 u hu).imp id λm=>by simp[m]
    · rcases Xx.mp hu with e|hu
      · exact .inr (by simp[e])
      · exact (a4 u hu).imp id λm=>by simp[m]
theorem AF {a k:Nat}{B had:aae}{g t:aad}(hB:∀x∈had,¬x∈B)(G:Good B had k g)(h:t∈jq a B g):Good B (had++[a]) k t:=by
 obtain⟨a1,a2,a3,a4⟩:=oA h;refine⟨a1.trans G.len,λs hs=>?_,λx hx=>?_⟩
 · rcases a2 s hs with e|m
   · exact .inr ⟨a,by simp,e⟩
   · exact (G.are s m).imp id λ⟨x,hx,e⟩=>⟨x,by simp[hx],e⟩
 · rcases Yj.mp hx with hx|hx
   · exact (a4 _ (G.all x hx)).resolve_left (tF (hB x hx))
   · rw[XI] at hx;exact hx ▸ a3
def uK (a:Nat)(B:aae)(g:aad):aad:=g.map λs=>if s=[a] then B else s
theorem wW {a:Nat}{B:aae}{g:aad}(h:¬[a]∈g):uK a B g=g:=by
 unfold uK
 conv=>rhs;rw[←List.map_id g]
 refine Yn λs hs=>?_;rw[Xu λe=>h (by rw[←e];exact hs)];rfl
theorem oQ {a:Nat}{B:aae}:∀{g t:aad},¬[a]∈g->t∈jq a B g->uK a B t=g
 |[],t,_,h=>by cases h
 |s::g,t,n,h=>by
  have n2:¬[a]∈g:=λm=>n (by simp[m]);rcases uu.mp h with ⟨rfl,rfl⟩|⟨r,hr,rfl⟩
  · show (if [a]=[a] then s else [a])::uK a s g=_;rw[Xv rfl,wW n2]
  · show (if s=[a] then B else s)::uK a B r=_;rw[Xu λe=>n (by simp[e]),oQ n2 hr]
theorem rD {a:Nat}{B:aae}(hB:¬a∈B):∀g:aad,(jq a B g).Nodup
 |[]=>by simp[jq]
 |s::g=>by
  have m:((jq a B g).map λr=>s::r).Nodup:=List.pairwise_map.mpr (List.Pairwise.imp (λn e=>n (List.cons.inj e).2) (rD hB g));unfold jq;by_cases e:s=B
  · rw[Xv (by simp[e])];refine YF.mpr ⟨λh=>?_,m⟩;obtain⟨r,_,hr⟩:=X3.mp h;exact tF hB ((List.cons.inj hr).1 ▸ e)
  · rw[Xu (by simp[e])];exact m
theorem i5 {B:aae}{k:Nat}:∀{A had:aae} {gs:List (aad)},(∀x∈had++A,¬x∈B)->(had++A).Nodup->gs.Nodup->(∀g∈gs,Good B had k g)->(bE B A gs).Nodup/\∀g∈bE B A gs,Good B (had++A) k g
 |[],had,gs,_,_,h2,h3=>by
  rw[Yw];exact⟨h2,h3⟩
 |a::A,had,gs,hB,nd,h2,h3=>by
  have e:had++a::A=(had++[a])++A:=by simp
  rw[e] at hB nd ⊢;have n1:=Y_.mp (Y_.mp nd).1;have ha:¬a∈had:=λm=>n1.2.2 a m a (by simp) rfl;have hb:∀x∈had,¬x∈B:=λx hx=>hB x (by simp[hx]);have no:∀g∈gs,¬[a]∈g:=λg hg m=>by
   rcases (h3 g hg).are _ m with e|⟨x,hx,e⟩
   · exact tF (hB a (by simp)) e
   · have:a=x:=by simpa using e
     exact ha (this ▸ hx)
  refine i5 hB nd ?_ λg hg=>?_
  · refine List.pairwise_flatMap.mpr ⟨λg _=>rD (hB a (by simp)) g,Y9.mpr λ{g g'} hs x hx y hy e=>?_⟩;have m1:=hs.subset (show g∈[g,g'] by simp);have m2:=hs.subset (show g'∈[g,g'] by simp);have:=Y9.mp h2 hs;exact this (by rw[←oQ (no g m1) hx,e,oQ (no g' m2) hy])
  · obtain⟨g0,h0,hr⟩:=Zz.mp hg;exact AF hb (h3 g0 h0) hr
def gG (A B:aae)(r:aae):aad:=r.map λx=>if x∈A then [x] else B
theorem va {a:Nat}{B had:aae}(ha:¬a∈had):∀{r:aae},r.Nodup->a∈r->gG (had++[a]) B r∈jq a B (gG had B r)
 |[],_,h=>by cases h
 |y::r,nd,h=>by
  obtain⟨n1,n2⟩:=YF.mp nd;have step:∀z,z≠a->(if z∈had++[a] then [z] else B)=if z∈had then [z] else B:=λz hz=>by simp[hz]
  refine uu.mpr ?_;by_cases e:y=a
  · subst e;refine .inl ⟨Xu ha,?_⟩;show (if y∈had++[y] then [y] else B)::gG (had++[y]) B r=_;rw[Xv (by simp)];congr 1;exact Yn λz hz=>step z λe=>n1 (e ▸ hz)
  · refine .inr ⟨_,va ha n2 ((Xx.mp h).resolve_left λz=>e z.symm),?_⟩;show (if y∈had++[a] then [y] else B)::_=_;rw[step y e];rfl
theorem px {B r:aae}(nr:r.Nodup):∀{A had:aae} {gs:List (aad)},(had++A).Nodup->(∀a∈A,a∈r)->gG had B r∈gs->gG (had++A) B r∈bE B A gs
 |[],had,gs,_,_,h=>by rwa [Yw]
 |a::A,had,gs,nd,h1,h=>by
  have e:had++a::A=(had++[a])++A:=by simp
  rw[e] at nd ⊢;have n1:=Y_.mp (Y_.mp nd).1;exact px nr nd (λx hx=>h1 x (by simp[hx])) (Zz.mpr ⟨_,h,va (λm=>n1.2.2 a m a (by simp) rfl) nr (h1 a (by simp))⟩)
theorem CT {B r:aae}:gG [] B r=List.replicate r.length B:=by
 unfold gG;rw[←List.map_const'];exact Yn λx _=>by simp
theorem rZ {A B:aae}:∀{r:aae},(∀x∈r,x∈A∨x∈B)->fits r (gG A B r)
 |[],_=>trivial
 |x::r,h=>by
  refine⟨?_,rZ λy hy=>h y (by simp[hy])⟩;by_cases e:x∈A
  · simp[e]
  · simpa [e] using (h x (by simp)).resolve_left e
theorem nc {A B:aae}(hB:∀x∈A,¬x∈B):∀{r:aae} {g:aad},(∀s∈g,s=B∨∃a∈A,s=[a])->fits r g->g=gG A B r
 |[],[],_,_=>rfl
 |x::r,s::g,h,f=>by
  show s::g=(if x∈A then [x] else B)::gG A B r;rw[←nc hB (λt ht=>h t (by simp[ht])) f.2];congr 1;rcases h s (by simp) with rfl|⟨a,ha,rfl⟩
  · rw[Xu λm=>hB x m f.1]
  · have:x=a:=by simpa using f.1
    rw[this,Xv ha]
 |[],_::_,_,f=>f.elim
 |_::_,[],_,f=>f.elim
theorem xh {A B:aae}{k:Nat}(nA:A.Nodup)(nB:B.Nodup)(L9:∀x∈A,¬x∈B) :
  ((bE B A [List.replicate k B]).flatMap λg=>apartRows g []).Nodup /\
  ∀r,r∈(bE B A [List.replicate k B]).flatMap (λg=>apartRows g [])↔r.length=k/\r.Nodup/\(∀a∈A,a∈r)/\∀x∈r,x∈A∨x∈B:=by
 obtain⟨h1,h2⟩:=i5 (B:=B) (k:=k) (A:=A) (had:=[]) (gs:=[List.replicate k B]) (by simpa using L9) (by simpa using nA) (by simp) (λg hg=>by
  rw[XI] at hg;subst hg;exact⟨by simp,λs hs=>.inl (Yv hs),by simp⟩)
 rw[Yp] at h2;refine⟨List.pairwise_flatMap.mpr ⟨λg hg=>jF λs hs=>?_,Y9.mpr λ{g g'} hs x hx y hy e=>?_⟩,λr=>?_⟩
 · rcases (h2 g hg).are s hs with rfl|⟨a,_,rfl⟩
   · exact nB
   · simp
 · have m1:=hs.subset (show g∈[g,g'] by simp);have m2:=hs.subset (show g'∈[g,g'] by simp);refine Y9.mp h1 hs ?_;rw[nc L9 (h2 g m1).are (fc.mp hx).1,e,←nc L9 (h2 g' m2).are (fc.mp hy).1]
 · rw[Zz];constructor
   · rintro⟨g,hg,hr⟩;obtain⟨f,nr,_⟩:=fc.mp hr;have G:=h2 g hg;obtain⟨f1,f2⟩:=uR f;refine⟨(uP f).trans G.len,nr,λa ha=>?_,λx hx=>?_⟩
     · obtain⟨x,hx,e⟩:=f2 _ (G.all a ha);have:x=a:=by simpa using e
       exact this ▸ hx
     · obtain⟨s,hs,MA⟩:=f1 x hx;rcases G.are s hs with rfl|⟨a,ha,rfl⟩
       · exact .inr MA
       · have:x=a:=by simpa using MA
         exact .inl (this ▸ ha)
   · rintro⟨hl,nr,ha,hx⟩;refine⟨gG A B r,?_,fc.mpr ⟨rZ hx,nr,by simp⟩⟩;have:=px (B:=B) nr (A:=A) (had:=[]) (gs:=[List.replicate k B]) (by simpa using nA) ha (by rw[CT,hl];simp);simpa using this
theorem k9 {B:aae}:∀{A P:aae} {j:Nat} {rest:List (aad)},(∀x∈P++A,¬x∈B)->A.length<=j->∃q,bE B A ((P.map (λa=>[a])++List.replicate j B)::rest)=((P++A).map (λa=>[a])++List.replicate (j - A.length) B)::q
 |[],P,j,rest,_,_=>⟨rest,by simp[bE]⟩
 |a::A,P,j,rest,h,hj=>by
  obtain⟨j,rfl⟩:∃i,j=i+1:=⟨j - 1,by rw[XE] at hj;omega⟩;have first:∀P:aae,(∀x∈P,¬x∈B)->∃q,jq a B (P.map (λa=>[a])++List.replicate (j+1) B)=(P.map (λa=>[a])++[a]::List.replicate j B)::q:=by
   intro P
   induction P with
   |nil=>intro _;exact⟨_,by rw[YT,Yp,Yp,Z2];unfold jq;rw[Xv (by simp)];rfl⟩
   |cons x P ih =>
    intro hP;obtain⟨q,e⟩:=ih λy hy=>hP y (by simp[hy]);refine⟨q.map λr=>[x]::r,?_⟩;rw[XM,ZC];unfold jq;rw[e,Xu (by simpa using tF (hP x (by simp)))];rfl
  obtain⟨q,e⟩:=first P λx hx=>h x (by simp[hx])
  obtain⟨q',e'⟩:=k9 (B:=B) (A:=A) (P:=P++[a]) (j:=j) (rest:=q++rest.flatMap (jq a B)) (by simpa using h) (by rw[XE] at hj;omega);refine⟨q',?_⟩;show bE B A (((P.map (λa=>[a])++List.replicate (j+1) B)::rest).flatMap (jq a B))=_;rw[ZP,e,ZC];have e1:P.map (λa=>[a])++[a]::List.replicate j B=(P++[a]).map (λa=>[a])++List.replicate j B:=by simp
  rw[e1,e'];simp
theorem lF {B:aae}:∀{j:Nat} {r:aae},fillsSets r (List.replicate j B)=true↔r.length=j/\∀x∈r,x∈B
 |0,r=>by
  rw[List.replicate_zero,m8];exact⟨λh=>by subst h;simp,λh=>Zj.mp h.1⟩
 |j+1,r=>by
  rw[Z2,d8];constructor
  · rintro⟨x,hx,hb,h⟩;obtain⟨h1,h2⟩:=lF.mp h;have:=Zb hx;have:=ZN hx;refine⟨by omega,λy hy=>?_⟩;by_cases e:y=x
    · exact e ▸ hb
    · exact h2 y ((ZZ e).mpr hy)
  · rintro⟨hl,h⟩
    match r,hl,h with
    |x::r,hl,h=>exact⟨x,by simp,h x (by simp),lF.mpr ⟨by simpa using hl,λy hy=>h y (by simp only[List.erase_cons_head] at hy;simp[hy])⟩⟩
theorem la {B:aae}{j:Nat}:∀{A r:aae},A.Nodup->(∀x∈B,¬x∈A)->r.Nodup ->
  (fillsSets r (A.map (λa=>[a])++List.replicate j B)=true↔(∀a∈A,a∈r)/\r.length=A.length+j/\∀x∈r,x∈A∨x∈B)
 |[],r,_,_,_=>by
  rw[YT,Yp,lF];simp
 |a::A,r,nA,L9,nr=>by
  obtain⟨n1,n2⟩:=YF.mp nA;rw[XM,ZC,d8];have ih:=la (B:=B) (j:=j) n2 (λx hx m=>L9 x hx (XN _ m)) (nr.erase a);have me:∀x,x∈r.erase a↔x≠a/\x∈r:=λx=>nr.mem_erase_iff;constructor
  · rintro⟨x,hx,ha,h⟩;have:x=a:=by simpa using ha
    subst this;obtain⟨h1,h2,h3⟩:=ih.mp h;have:=Zb hx;have:=ZN hx;refine⟨λy hy=>?_,by rw[XE];omega,λy hy=>?_⟩
    · rcases Xx.mp hy with rfl|hy
      · exact hx
      · exact ((me y).mp (h1 y hy)).2
    · by_cases e:y=x
      · exact .inl (by simp[e])
      · exact (h3 y ((me y).mpr ⟨e,hy⟩)).imp (XN _) id
  · rintro⟨h1,h2,h3⟩;have ha:=h1 a (by simp);have:=Zb ha;rw[XE] at h2;refine⟨a,ha,by simp,ih.mpr ⟨λy hy=>(me y).mpr ⟨λe=>n1 (e ▸ hy),h1 y (XN _ hy)⟩,by omega,λy hy=>?_⟩⟩;obtain⟨e,hy⟩:=(me y).mp hy;rcases h3 y hy with m|m
    · exact .inl ((Xx.mp m).resolve_left e)
    · exact .inr m
def jP (kind:Kind)(how:How)(k:Nat)(sets:aad):List (aad):=match how with
 |.on=>[sets]
 |.box=>[List.replicate k (sets.headD [])]
 |.key=>if kind=.any then (bE (sets.getD 1 []) (sets.headD []) [List.replicate k (sets.getD 1 [])]).take 1 else bE (sets.getD 1 []) (sets.headD []) [List.replicate k (sets.getD 1 [])]
def rA (kind:Kind)(gs:List (aad)):aad:=match kind with
 |.order=>gs.flatMap λg=>apartRows g []
 |.any=>bx (gs.headD [])
 |_=>gs.flatMap rowsOf
def B8 (kind:Kind)(how:How)(k:Nat)(sets:aad):aad:=rA kind (jP kind how k sets)
def countM (kind:Kind)(how:How)(k:Nat)(sets:aad):Nat:=(B8 kind how k sets).length
section
variable {C:Card}{b:Bet}{p:Pool}
theorem uI (hl:p.kind≠.legs):(C.sets p).headD []=C.headsOf p.race:=by
 unfold Card.sets Pool.legs;rw[Xu hl];rfl
theorem vx {row:aae}(hk:p.kind=.order):C.isCombo p row=(row.length==p.k&&(decide row.Nodup&&row.all λx=>(C.headsOf p.race).contains x)):=by
 unfold Card.isCombo;rw[hk];simp only[uI (C:=C) (p:=p) (by rw[hk];decide)]
theorem sy {row:aae}(hk:p.kind=.any):C.isCombo p row=(row.length==p.k&&(risesN row&&row.all λx=>(C.headsOf p.race).contains x)):=by
 unfold Card.isCombo;rw[hk];simp only[uI (C:=C) (p:=p) (by rw[hk];decide)]
structure ye (C:Card)(b:Bet)(p:Pool):Prop where
 pool:C.pool b.pool=p
 heads:p.kind≠.legs->cP (C.headsOf p.race)
 k:p.kind≠.legs->p.kind≠.place->2<=p.k/\p.k<=mostK p.kind
 good:p.kind≠.legs->∀s∈b.sets,bH (C.headsOf p.race) s
 place:p.kind=.place->b.how=.on/\b.sets.length=1
 legs:p.kind=.legs->b.how=.on
 on:p.kind≠.legs->p.kind≠.place->b.how=.on->b.sets.length=p.k
 box:b.how=.box->∃s,b.sets=[s]/\p.k<=s.length
 key:b.how=.key->∃s t,b.sets=[s,t]/\s.length < p.k/\(∀x∈t,¬x∈s)/\p.k<=s.length+t.length
theorem iM {l:aad}{heads:aae}(h:∀s∈l,bH heads s):∀x∈together l,x∈heads:=λx hx=>by
 obtain⟨_,s,hs,MA⟩:=f_.mp hx;exact (h s hs).sub x MA
theorem i7 {l:aad}{heads s:aae}(gh:cP heads)(h:∀s∈l,bH heads s)(hs:s∈l):∀x∈s,x∈together l:=λx hx =>
 f_.mpr ⟨Nat.lt_of_le_of_lt (gh.hi x ((h s hs).sub x hx)) (by decide),s,hs,hx⟩
theorem zV (hk:p.kind=.order)(gh:cP (C.headsOf p.race))(hp:C.pool b.pool=p){A B:aae}(good:∀s∈b.sets,bH (C.headsOf p.race) s)(hu:∀x,(∃s∈b.sets,x∈s)↔x∈A∨x∈B)(hf:∀r,(∀x∈r,x∈A∨x∈B)->(C.has b r=(C.isCombo p r&&A.all λx=>r.contains x)))(r:aae) :
  r∈(apartRows (List.replicate p.k (together b.sets)) []).filter (C.has b)↔r.length=p.k/\r.Nodup/\(∀a∈A,a∈r)/\∀x∈r,x∈A∨x∈B:=by
 have NC:∀x,x∈together b.sets↔x∈A∨x∈B:=λx=>by
  rw[←hu];exact⟨λh=>(f_.mp h).2,λ⟨s,hs,hx⟩=>i7 gh good hs x hx⟩
 rw[YD,fc,uF];constructor
 · rintro⟨⟨⟨h1,h2⟩,h3,_⟩,h4⟩;have sub:∀x∈r,x∈A∨x∈B:=λx hx=>(NC x).mp (h2 x hx);rw[hf r sub] at h4;simp only[XA,X0] at h4;exact⟨h1,h3,λa ha=>by simpa using h4.2 a ha,sub⟩
 · rintro⟨h1,h2,h3,h4⟩;refine⟨⟨⟨h1,λx hx=>(NC x).mpr (h4 x hx)⟩,h2,by simp⟩,?_⟩;rw[hf r h4,vx hk];simp only[XA,X0,XB];exact⟨⟨by simpa using h1,h2,λx hx=>by simpa using iM good x ((NC x).mpr (h4 x hx))⟩,λa ha=>by simpa using h3 a ha⟩
theorem De (hk:p.kind=.any)(gh:cP (C.headsOf p.race))(hp:C.pool b.pool=p){A B:aae}(good:∀s∈b.sets,bH (C.headsOf p.race) s)(hu:∀x,(∃s∈b.sets,x∈s)↔x∈A∨x∈B)(hf:∀r,(∀x∈r,x∈A∨x∈B)->(C.has b r=(C.isCombo p r&&A.all λx=>r.contains x)))(r:aae) :
  r∈(risingRows p.k (together b.sets)).filter (C.has b)↔cq r/\(∀a∈A,a∈r)/\r.length=p.k/\∀x∈r,x∈A∨x∈B:=by
 have NC:∀x,x∈together b.sets↔x∈A∨x∈B:=λx=>by
  rw[←hu];exact⟨λh=>(f_.mp h).2,λ⟨s,hs,hx⟩=>i7 gh good hs x hx⟩
 rw[YD];constructor
 · rintro⟨h1,h4⟩;have hs:=i8 _ _ _ h1;have sub:∀x∈r,x∈A∨x∈B:=λx hx=>(NC x).mp (hs.subset hx);rw[hf r sub] at h4;simp only[XA,X0] at h4;exact⟨List.Pairwise.sublist hs (dv _),λa ha=>by simpa using h4.2 a ha,kY _ _ _ h1,sub⟩
 · rintro⟨h1,h2,h3,h4⟩;refine⟨jf (f9 (dv _) h1 λx hx=>(NC x).mpr (h4 x hx)) h3,?_⟩;rw[hf r h4,sy hk];simp only[XA,X0,XB];exact⟨⟨by simpa using h3,(kj r).mpr h1,λx hx=>by simpa using iM good x ((NC x).mpr (h4 x hx))⟩,λa ha=>by simpa using h2 a ha⟩
theorem y_ (v:ye C b p)(nl:p.kind≠.legs)(hn:b.how≠.on):∃A B,jP p.kind b.how p.k b.sets=(if p.kind=.any then (bE B A [List.replicate p.k B]).take 1 else bE B A [List.replicate p.k B])/\A.Nodup/\B.Nodup/\(∀x∈B,¬x∈A)/\A.length<=p.k /\
  (∀x,(∃s∈b.sets,x∈s)↔x∈A∨x∈B)/\∀r,(∀x∈r,x∈A∨x∈B)->(C.has b r=(C.isCombo p r&&A.all λx=>r.contains x)):=by
 cases hh:b.how with
 |on=>exact absurd hh hn
 |box =>
  obtain⟨s,hs,hl⟩:=v.box hh;have g:bH (C.headsOf p.race) s:=v.good nl s (by rw[hs];simp);refine⟨[],s,?_,by simp,g.rise.nodup,by simp,by simp,λx=>by rw[hs];simp,λr hr=>?_⟩
  · rw[hs];unfold jP bE;by_cases e:p.kind=.any <;> simp[e]
  · unfold Card.has;rw[v.pool,hh,hs];have:(r.all λx=>([s].headD []).contains x)=true:=by
     rw[X0];intro x hx;simpa using hr x hx
    simp only[this,List.all_nil]
 |key =>
  obtain⟨s,t,hs,hl,L9,Nd⟩:=v.key hh;have gs:bH (C.headsOf p.race) s:=v.good nl s (by rw[hs];simp);have gt:bH (C.headsOf p.race) t:=v.good nl t (by rw[hs];simp);refine⟨s,t,by rw[hs];rfl,gs.rise.nodup,gt.rise.nodup,L9,by omega,λx=>by rw[hs];simp,λr hr=>?_⟩;unfold Card.has;rw[v.pool,hh,hs];have:(r.all λx=>s.contains x||t.contains x)=true:=by
   rw[X0];intro x hx;simpa using hr x hx
  show (C.isCombo p r&&((s.all λx=>r.contains x)&&r.all λx=>s.contains x||t.contains x))=_;rw[this,Bool.and_true]
theorem xT (hp:C.pool b.pool=p)(hk:p.kind=.order)(hh:b.how≠.on):C.rows b=(apartRows (List.replicate p.k (together b.sets)) []).filter (C.has b):=by
 unfold Card.rows;rw[hp];dsimp only;rw[hk];cases hb:b.how with
 |on=>exact absurd hb hh
 |box=>rfl
 |key=>rfl
theorem zx (v:ye C b p):(B8 p.kind b.how p.k b.sets).Perm (C.rows b):=by
 have hp:=v.pool;unfold B8 Card.rows;rw[hp];dsimp only;cases hk:p.kind with
 |legs =>
  rw[v.legs hk];show ([b.sets].flatMap rowsOf).Perm _;simp
 |place =>
  obtain⟨h1,h2⟩:=v.place hk;rw[h1]
  match hs:b.sets,h2 with
  |[s],_ =>
   show ([[s]].flatMap rowsOf).Perm (s.map λx=>[x]);simp[rowsOf,←List.map_eq_flatMap]
 |order =>
  have nl:p.kind≠.legs:=by rw[hk];decide
  have gh:=v.heads nl;by_cases hh:b.how=.on
  · rw[hh];show ([b.sets].flatMap λg=>apartRows g []).Perm (apartRows b.sets []);simp
  · have e:=xT hp hk hh;unfold Card.rows at e;rw[hp] at e;dsimp only at e;rw[hk] at e;rw[e];obtain⟨A,B,e1,nA,nB,L9,_,hu,hf⟩:=y_ v nl hh;rw[hk,Xu (by decide)] at e1;rw[e1];obtain⟨r1,r2⟩:=xh (k:=p.k) nA nB λx hx m=>L9 x m hx;refine (Z_ r1 ((jF λs hs=>?_).filter _)).mpr λr=>(r2 r).trans (zV hk gh hp (v.good nl) hu hf r).symm;rw[Yv hs];exact (dv _).nodup
 |any =>
  have nl:p.kind≠.legs:=by rw[hk];decide
  have np:p.kind≠.place:=by rw[hk];decide
  have gh:=v.heads nl;show (bx ((jP .any b.how p.k b.sets).headD [])).Perm ((risingRows p.k (together b.sets)).filter (C.has b));refine (Z_ (vK _) ((iI _ _ (dv _).nodup).filter _)).mpr λr=>?_;by_cases hh:b.how=.on
  · rw[hh];show r∈bx b.sets↔_;rw[YD,j7];have hlen:=v.on nl np hh;have ND:C.has b r=(C.isCombo p r&&fillsSets r b.sets):=by
     unfold Card.has;rw[hp,hh];show (C.isCombo p r&&if p.kind=.any then _ else _)=_;rw[Xv hk]
    rw[ND,sy hk];constructor
    · rintro⟨h1,h2⟩;obtain⟨l1,l2⟩:=jW h2;have Sg:∀x∈r,x∈together b.sets:=λx hx=>by
       obtain⟨s,hs,MA⟩:=l2 x hx;exact i7 gh (v.good nl) hs x MA
      refine⟨jf (f9 (dv _) h1 Sg) (by rw[l1,hlen]),?_⟩;simp only[XA];refine⟨⟨by simp[l1,hlen],(kj r).mpr h1,?_⟩,h2⟩;rw[X0];intro x hx;simpa using iM (v.good nl) x (Sg x hx)
    · rintro⟨h1,h2⟩;simp only[XA] at h2;exact⟨(kj r).mp h2.1.2.1,h2.2⟩
  · obtain⟨A,B,e1,nA,nB,L9,hA,hu,hf⟩:=y_ v nl hh;rw[hk,Xv rfl] at e1;obtain⟨q,e2⟩:=k9 (B:=B) (A:=A) (P:=[]) (j:=p.k) (rest:=[]) (λx hx m=>L9 x m (by simpa using hx)) hA;rw[YT,Yp,Yp] at e2;rw[e1,e2];show r∈bx (A.map (λa=>[a])++List.replicate (p.k - A.length) B)↔_;rw[j7,De hk gh hp (v.good nl) hu hf r];constructor
    · rintro⟨h1,h2⟩;obtain⟨a1,a2,a3⟩:=(la nA L9 h1.nodup).mp h2;exact⟨h1,a1,by omega,a3⟩
    · rintro⟨h1,a1,a2,a3⟩;exact⟨h1,(la nA L9 h1.nodup).mpr ⟨a1,by omega,a3⟩⟩
theorem jR:∀(g:aad),(rowsOf g).length=product (g.map List.length)
 |[]=>rfl
 |s::g=>by
  have fold:∀(l:aae) (a:Nat),l.foldl (λa b=>a*b) a=a*product l:=by
   intro l
   induction l with
   |nil=>intro a;simp[product]
   |cons x l ih=>intro a;unfold product;rw[YZ,YZ,ih,ih (1*x)];simp[Nat.mul_assoc]
  unfold rowsOf;rw[fH,XM];show _=(g.map List.length).foldl (λa b=>a*b) (1*s.length);rw[fold,Nat.one_mul,←jR g];simp only[Xs];rw[sum_map_const]
theorem tN (v:ye C b p):C.manyOf b=countM p.kind b.how p.k b.sets:=by
 unfold countM;rw[(zx v).length_eq];unfold Card.manyOf;rw[v.pool];by_cases h:p.kind=.legs
 · rw[Xv h,←jR];unfold Card.rows;rw[v.pool];dsimp only;rw[h]
 · rw[Xu h]
end
abbrev W:=aae
def isLet (c:Nat):Bool:=decide (97<=c)&&decide (c<=122)
def bX (c:Nat):Bool:=decide (48<=c)&&decide (c<=57)
def ux (c:Nat):Bool:=isLet c||bX c||c==32||c==10||c==44||c==47
def sg (c:Nat):Nat:=if ux c=true then c else 63
def tx (w:Bytes):W:=w.map λc=>sg c.toNat
def cd (s:String):W:=s.toList.map Char.toNat
theorem vb {c d:Nat}(h:ux d=true):sg c=d↔c=d:=by
 unfold sg;by_cases e:ux c=true
 · rw[Xv e]
 · rw[Xu e];constructor
   · intro q;subst q;exact absurd h (by decide)
   · rintro rfl;exact absurd h e
theorem qH (c:Nat):isLet (sg c)=isLet c:=by
 unfold sg;by_cases e:ux c=true
 · rw[Xv e]
 · rw[Xu e];have:isLet c=false:=by
    cases h:isLet c with
    |false=>rfl
    |true=>exact absurd (by unfold ux;rw[h];simp) e
   rw[this];decide
theorem qc (c:Nat):bX (sg c)=bX c:=by
 unfold sg;by_cases e:ux c=true
 · rw[Xv e]
 · rw[Xu e];have:bX c=false:=by
    cases h:bX c with
    |false=>rfl
    |true=>exact absurd (by unfold ux;rw[h];simp) e
   rw[this];decide
theorem zt {c:Nat}(h:bX c=true):sg c=c:=by
 unfold sg ux;rw[h];simp
theorem ic (w:Bytes):(tx w).length=w.length:=by unfold tx;rw[Xs]
theorem rX (v w:Bytes):tx (v++w)=tx v++tx w:=by unfold tx;rw[XO]
theorem AX:tx []=[]:=rfl
theorem sP (c:UInt8)(w:Bytes):tx (c::w)=sg c.toNat::tx w:=rfl
theorem jU {a b:UInt8}(h:a.toNat=b.toNat):a=b:=UInt8.toNat_inj.mp h
theorem qZ {v:Bytes}:∀{w:Bytes},(∀c∈v,ux c.toNat=true)->(tx w=v.map UInt8.toNat↔w=v):=by
 induction v with
 |nil =>
  intro w _;cases w with
  |nil=>simp[tx]
  |cons=>simp[tx]
 |cons d v ih =>
  intro w h;cases w with
  |nil=>simp[tx]
  |cons c w =>
   have h1:=h d (by simp);have h2:=ih (w:=w) λc hc=>h c (by simp[hc]);rw[sP,XM,List.cons.injEq,List.cons.injEq,vb h1,h2];exact and_congr_left' ⟨jU,λe=>e ▸ rfl⟩
def plainT (s:String):Bool:=s.toList.all λc=>ux c.toNat&&decide (c.toNat < 256)
theorem uY {s:String}(h:plainT s=true):(ascii s).map UInt8.toNat=cd s:=by
 unfold ascii cd;rw[XX];refine Yn λc hc=>?_;have:=(X0.mp h) c hc;rw[XA] at this;have lt:c.toNat < 256:=XQ this.2;show (UInt8.ofNat c.toNat).toNat=c.toNat;rw[UInt8.toNat_ofNat'];exact Nat.mod_eq_of_lt lt
theorem bg {s:String}(w:Bytes)(h:plainT s=true):tx w=cd s↔w=ascii s:=by
 rw[←uY h];refine qZ λc hc=>?_;unfold ascii at hc;obtain⟨d,hd,rfl⟩:=X3.mp hc;have:=(X0.mp h) d hd;rw[XA] at this;have lt:d.toNat < 256:=XQ this.2;rw[UInt8.toNat_ofNat',Nat.mod_eq_of_lt lt];exact this.1
def d_ (w:W):Bool:=decide (1<=w.length)&&decide (w.length<=12)&&isLet (w.headD 0)&&w.all λc=>isLet c||bX c
theorem jX (w:Bytes):d_ (tx w)=isName w:=by
 unfold d_ isName;rw[ic];have e1:((tx w).all λc=>isLet c||bX c)=w.all λc=>isSmall c||isDigit c:=by
  unfold tx;rw[ZD];congr 1;funext c;show (isLet (sg c.toNat)||bX (sg c.toNat))=_;rw[qH,qc];rfl
 rw[e1];cases w with
 |nil=>rfl
 |cons c r =>
  have e2:isLet ((tx (c::r)).headD 0)=(((c::r).head?.map isSmall).getD false):=by
   show isLet (sg c.toNat)=isSmall c;rw[qH];rfl
  rw[e2];unfold NAME;generalize decide (1<=(c::r).length)=a;generalize decide ((c::r).length<=12)=b;generalize ((c::r).head?.map isSmall).getD false=d;generalize ((c::r).all λc=>isSmall c||isDigit c)=f;cases a <;> cases b <;> cases d <;> cases f <;> rfl
def xJ (w:W):Nat:=w.foldl (λn c=>10*n+(c - 48)) 0
def ay (w:W):Int :=
 if 7 < w.length∨w=[]∨w.all bX=false then -1 else if w.headD 0=48/\w≠[48] then -1 else (xJ w:Int)
theorem yK:∀(w:Bytes) (n m:Nat),m<=n->m*10 ^ w.length<=w.foldl (λ(n:Nat) (c:UInt8)=>10*n+(c.toNat - 48)) n
 |[],n,m,h=>by simpa using h
 |c::w,n,m,h=>by
  have:=yK w (10*n+(c.toNat - 48)) (10*m) (by omega);rw[YZ,XE,Zy];have e:m*(10 ^ w.length*10)=10*m*10 ^ w.length:=by
   rw[ZL (10 ^ w.length) 10,←Nat.mul_assoc,ZL m 10]
  omega
theorem lQ {w:Bytes}{n:Nat}(h:numberOf w=some n)(hl:7 < w.length):10000000<=n:=by
 unfold numberOf at h;split at h
 · cases h
 · rename_i hc;have Ow:¬(w.isEmpty=true)/\¬(w.all isDigit=false)/\¬(w.head?=some 48/\w≠[48]):=⟨λz=>hc (.inl z),λz=>hc (.inr (.inl z)),λz=>hc (.inr (.inr z))⟩;injection h with h;subst h
   match w,hl with
   |c::r,hl =>
    have hd:isDigit c=true:=by
     have:(c::r).all isDigit=true:=by simpa using Ow.2.1
     rw[ZH,XA] at this;exact this.1
    have c0:c≠48:=λe=>Ow.2.2 ⟨by rw[e];rfl,λq=>by rw[q] at hl;simp at hl⟩;unfold isDigit at hd;rw[XA,Y0,Y0] at hd;have h1:48<=c.toNat:=hd.1;have h2:c.toNat≠48:=λe=>c0 (jU e);have:=yK r (10*0+(c.toNat - 48)) 1 (by omega);rw[YZ];have p:10 ^ 7<=10 ^ r.length:=Zw (by decide) (by simp at hl;omega);have p7:(10:Nat) ^ 7=10000000:=by decide
    omega
theorem yN:∀(w:Bytes) (n:Nat),w.all isDigit=true->(tx w).foldl (λn c=>10*n+(c - 48)) n=w.foldl (λ(n:Nat) (c:UInt8)=>10*n+(c.toNat - 48)) n
 |[],_,_=>rfl
 |c::w,n,h=>by
  rw[ZH,XA] at h;have:sg c.toNat=c.toNat:=zt h.1;rw[sP,YZ,YZ,this];exact yN w _ h.2
theorem w_ (w:Bytes):(tx w).all bX=w.all isDigit:=by
 unfold tx;rw[ZD];congr 1;funext c;exact qc c.toNat
theorem Bg (w:Bytes):ay (tx w)=if 7 < w.length then -1 else match numberOf w with
  |none=>-1
  |some n=>(n:Int):=by
 unfold ay numberOf;rw[ic,w_];by_cases h7:7 < w.length
 · rw[Xv h7,Xv (.inl h7)]
 · rw[Xu h7];by_cases c1:w=[]
   · subst c1;rfl
   · have e1:¬tx w=[]:=λz=>c1 (by
      have:=YA List.length z;rw[ic] at this;exact Zj.mp this)
     have Pw:¬w.isEmpty=true:=λz=>c1 (Y6.mp z);by_cases c2:w.all isDigit=false
     · rw[Xv (.inr (.inr c2)),Xv (.inr (.inl c2))]
     · rw[Xu (λz=>z.elim h7 λz=>z.elim e1 c2)];have N5:w.all isDigit=true:=by simpa using c2
       have k:((tx w).headD 0=48/\tx w≠[48])↔(w.head?=some 48/\w≠[48]):=by
        have a:tx w=[48]↔w=[48]:=qZ (v:=[48]) (w:=w) (by decide)
        match w,c1 with
        |c::r,_ =>
         have b:(tx (c::r)).headD 0=48↔(c::r).head?=some 48:=by
          show sg c.toNat=48↔some c=some 48;rw[vb (by decide)];constructor
          · intro e;rw[jU (show c.toNat=(48:UInt8).toNat from e)]
          · intro e;injection e with e;rw[e];rfl
         rw[b];exact and_congr_right λ_=>not_congr a
       by_cases c3:w.head?=some 48/\w≠[48]
       · rw[Xv (k.mpr c3),Xv (.inr (.inr c3))]
       · rw[Xu (λz=>c3 (k.mp z)),Xu (λz=>z.elim Pw λz=>z.elim c2 c3)];show ((xJ (tx w):Nat):Int)=_;unfold xJ;rw[yN w 0 N5]
theorem fj {w:Bytes}{lo hi:Nat}(hh:hi < 10000000):((lo:Int)<=ay (tx w)/\ay (tx w)<=(hi:Int))↔∃n,numberOf w=some n/\lo<=n/\n<=hi/\ay (tx w)=(n:Int):=by
 rw[Bg];by_cases h7:7 < w.length
 · rw[Xv h7];constructor
   · rintro⟨a,_⟩;omega
   · rintro⟨n,e,_,b,_⟩;have:=lQ e h7;omega
 · rw[Xu h7];cases e:numberOf w with
   |none =>
    constructor
    · rintro⟨a,_⟩;have a':(lo:Int)<=-1:=a;omega
    · rintro⟨n,e,_⟩;cases e
   |some n =>
    constructor
    · rintro⟨a,b⟩;have a':(lo:Int)<=n:=a;have b':(n:Int)<=hi:=b;exact⟨n,rfl,by omega,by omega,rfl⟩
    · rintro⟨m,e,a,b,_⟩;injection e with e;subst e;show (lo:Int)<=n/\(n:Int)<=hi;omega
theorem dY {w:Bytes}{m:Nat}(hm:m < 10000000):ay (tx w)=(m:Int)↔numberOf w=some m:=by
 constructor
 · intro e;obtain⟨n,h1,h2,h3,_⟩:=(fj (w:=w) (lo:=m) (hi:=m) hm).mp ⟨by omega,by omega⟩;have:n=m:=by omega
   subst this;exact h1
 · intro e;obtain⟨a,b⟩:=(fj (w:=w) (lo:=m) (hi:=m) hm).mpr ⟨m,e,XC _,XC _,by
    rw[Bg];by_cases h7:7 < w.length
    · have:=lQ e h7;omega
    · rw[Xu h7,e]⟩
   omega
def aX (c:Nat):W->W->List W
 |w,[]=>[w]
 |w,x::r=>if x=c then w::aX c [] r else aX c (w++[x]) r
theorem iw {c:UInt8}(hc:ux c.toNat=true):∀(l w:Bytes),aX c.toNat (tx w) (tx l)=(splitOn c w l).map tx
 |[],w=>rfl
 |x::r,w=>by
  rw[sP];unfold aX splitOn;by_cases e:x=c
  · rw[Xv ((vb hc).mpr (by rw[e])),Xv e,XM];have:=iw hc r [];rw[AX] at this;rw[this]
  · rw[Xu (λz=>e (jU ((vb hc).mp z))),Xu e];have:=iw hc r (w++[x]);rw[rX] at this;exact this
def Placed:Nat->List Word->Prop
 |_,[]=>True
 |p,w::r=>w.at_=p/\Placed (p+w.w.length+1) r
theorem words_of:∀(l w:Bytes) (p q:Nat),w.length<=p->badByte w.isEmpty q l=none->(wordsFrom p w l).map (·.w)=splitOn 32 w l/\Placed (p - w.length) (wordsFrom p w l)
 |[],w,p,q,hl,h=>by
  unfold badByte at h;by_cases e:w.isEmpty=true
  · rw[Xv e] at h;cases h
  · unfold wordsFrom;rw[Xu e];exact⟨rfl,rfl,trivial⟩
 |c::r,w,p,q,hl,h=>by
  unfold badByte at h;by_cases c1:c < 32∨126 < c
  · rw[Xv c1] at h;cases h
  · rw[Xu c1] at h;unfold wordsFrom splitOn;by_cases c2:c=32
    · rw[Xv c2] at h;by_cases e:w.isEmpty=true
      · rw[Xv e] at h;cases h
      · rw[Xu e] at h;by_cases e2:r.isEmpty=true
        · rw[Xv e2] at h;cases h
        · rw[Xu e2] at h;obtain⟨a,b⟩:=words_of r [] (p+1) (q+1) (X1 _) h;rw[Xv c2,Xv c2,XM,a];refine⟨rfl,rfl,?_⟩;have:p - w.length+w.length+1=p+1 - ([]:Bytes).length:=by simp;omega
          show Placed (p - w.length+w.length+1) _;rw[this];exact b
    · rw[Xu c2] at h;have e:(w++[c]).isEmpty=false:=by simp
      rw[←e] at h;obtain⟨a,b⟩:=words_of r (w++[c]) (p+1) (q+1) (by simp;omega) h;rw[Xu c2,Xu c2,a];refine⟨rfl,?_⟩;have:p - w.length=p+1 - (w++[c]).length:=by rw[XS,YH];omega
      rw[this];exact b
def CI (w:Bytes):Prop:=w≠[]/\∀c∈w,32 < c/\c<=126
theorem x_:∀(l w:Bytes) (q:Nat),(∀v∈splitOn 32 w l,CI v)->(∀c∈w,32 < c/\c<=126)->badByte w.isEmpty q l=none
 |[],w,q,h,_=>by
  have:=h w (by simp[splitOn]);unfold badByte;rw[Xu (λz=>this.1 (Y6.mp z))]
 |c::r,w,q,h,hw=>by
  unfold splitOn at h;unfold badByte;by_cases c2:c=32
  · rw[Xv c2] at h;have pw:=h w (by simp);have e:¬w.isEmpty=true:=λz=>pw.1 (Y6.mp z);rw[Xu (by rw[c2];decide),Xv c2,Xu e];have hr:¬r.isEmpty=true:=λz=>by
     have:r=[]:=Y6.mp z;subst this;have:=h [] (by simp[splitOn]);exact this.1 rfl
    rw[Xu hr];exact x_ r [] (q+1) (λv hv=>h v (by simp[hv])) (by simp)
  · rw[Xu c2] at h;have hc:32 < c/\c<=126:=by
     have first:∀(l w:Bytes),∃v∈splitOn 32 w l,∃t,v=w++t:=λl=>by
      induction l with
      |nil=>exact λw=>⟨w,by simp[splitOn],[],by simp⟩
      |cons d l ih =>
       intro w;unfold splitOn;by_cases e:d=32
       · rw[Xv e];exact⟨w,by simp,[],by simp⟩
       · rw[Xu e];obtain⟨v,hv,t,rfl⟩:=ih (w++[d]);exact⟨_,hv,d::t,by simp⟩
     obtain⟨v,hv,t,e⟩:=first r (w++[c])
     exact (h v hv).2 c (by rw[e];simp)
    have n1:¬(c < 32∨126 < c):=by
     rintro (z|z)
     · exact absurd (Nat.lt_trans (show c.toNat < 32 from z) (show 32 < c.toNat from hc.1)) (YO _)
     · exact absurd (X_ (show 126 < c.toNat from z) (show c.toNat<=126 from hc.2)) (YO _)
    rw[Xu n1,Xu c2];have e:(w++[c]).isEmpty=false:=by simp
    rw[←e];exact x_ r (w++[c]) (q+1) h λd hd=>by
     rcases Yj.mp hd with z|z
     · exact hw d z
     · have:d=c:=by simpa using z
       exact this ▸ hc
theorem aE {ε α β:Type}{x:Except ε α}{f:α->Except ε β}{y:β}:(x >>= f)=.ok y↔∃a,x=.ok a/\f a=.ok y:=by
 cases x with
 |error e=>exact⟨λh=>(nomatch h),λ⟨_,h,_⟩=>(nomatch h)⟩
 |ok a=>exact⟨λh=>⟨a,rfl,h⟩,λ⟨_,h,k⟩=>by cases h;exact k⟩
theorem oJ {e:Nat}{l:List Word}{x:Word×List Word}:next e l=.ok x↔l=x.1::x.2:=by
 cases l with
 |nil=>exact⟨λh=>(nomatch h),λh=>(nomatch h)⟩
 |cons w r =>
  constructor
  · intro h;injection h with h;rw[←h]
  · intro h;injection h with h1 h2;subst h1;subst h2;rfl
theorem cV {e:Nat}{s:String}{l r:List Word}:must e s l=.ok r↔∃w,l=w::r/\w.w=ascii s:=by
 unfold must;rw[aE];constructor
 · rintro⟨x,h,k⟩;have h:=oJ.mp h;split at k
   · rename_i c;injection k with k;exact⟨x.1,by rw[h,k],c⟩
   · cases k
 · rintro⟨w,rfl,c⟩;exact⟨(w,r),rfl,by rw[Xv c];rfl⟩
theorem bw {e lo hi:Nat}{l:List Word}{x:(Nat×Nat)×List Word}:number e lo hi l=.ok x↔∃w,l=w::x.2/\numberOf w.w=some x.1.1/\lo<=x.1.1/\x.1.1<=hi/\x.1.2=w.at_:=by
 unfold number;rw[aE];constructor
 · rintro⟨y,h,k⟩;have h:=oJ.mp h;cases c:numberOf y.1.w with
   |none=>rw[c] at k;cases k
   |some n =>
    rw[c] at k;dsimp only at k;split at k
    · cases k
    · rename_i b;injection k with k;subst k;exact⟨y.1,h,c,by dsimp only;omega,by dsimp only;omega,rfl⟩
 · rintro⟨w,rfl,c,h1,h2,h3⟩;refine⟨(w,x.2),rfl,?_⟩;dsimp only;rw[c];dsimp only;rw[Xu (by omega)];show Except.ok ((x.1.1,w.at_),x.2)=Except.ok x;rw[←h3]
theorem dO {b:Bool}{k p:Nat}{u:Unit}:holds b k p=.ok u↔b=true:=by
 unfold holds;by_cases c:b=true
 · rw[Xv c];exact⟨λ_=>c,λ_=>rfl⟩
 · rw[Xu c];exact⟨λh=>(nomatch h),λh=>absurd h c⟩
theorem kq {l:List Word}{u:Unit}:closed l=.ok u↔l=[]:=by
 cases l with
 |nil=>exact⟨λ_=>rfl,λ_=>rfl⟩
 |cons=>exact⟨λh=>(nomatch h),λh=>(nomatch h)⟩
theorem iJ {e:Nat}{had:List Bytes}{l:List Word}{x:Bytes×List Word}:newName e had l=.ok x↔∃w,l=w::x.2/\isName w.w=true/\had.contains w.w=false/\x.1=w.w:=by
 unfold newName;rw[aE];constructor
 · rintro⟨y,h,k⟩;have h:=oJ.mp h;split at k
   · cases k
   · rename_i c1;split at k
     · cases k
     · rename_i c2;injection k with k;subst k;exact⟨y.1,h,by simpa using c1,by simpa using c2,rfl⟩
 · rintro⟨w,rfl,c1,c2,c3⟩;refine⟨(w,x.2),rfl,?_⟩;dsimp only;rw[Xu (by rw[c1];decide),Xu (by rw[c2];decide),←c3];rfl
theorem md {α:Type}{e:Nat}{t:List (α×String)}{l:List Word}{x:(α×Nat)×List Word} :
  oneOf e t l=.ok x↔∃w y,l=w::x.2/\(t.find? λ(y:α×String)=>ascii y.2==w.w)=some y/\x.1=(y.1,w.at_):=by
 unfold oneOf;rw[aE];constructor
 · rintro⟨y,h,k⟩;have h:=oJ.mp h;cases c:(t.find? λ(z:α×String)=>ascii z.2==y.1.w) with
   |none=>rw[c] at k;cases k
   |some z =>
    rw[c] at k;injection k with k;subst k;exact⟨y.1,z,h,c,rfl⟩
 · rintro⟨w,y,rfl,c,h3⟩;refine⟨(w,x.2),rfl,?_⟩;dsimp only;rw[c];show Except.ok ((y.1,w.at_),x.2)=Except.ok x;rw[←h3]
def dg (runners:Nat):List W->aae->aae->Option (aae)
 |[],_,ss=>some ss
 |c::a::b::r,fs,ss =>
  if c=cd "couple"/\1<=ay a/\ay a < ay b/\ay b<=(runners:Int)/\¬(ay a).toNat∈ss/\¬(ay b).toNat∈fs/\¬(ay b).toNat∈ss
  then dg runners r (fs++[(ay a).toNat]) (ss++[(ay b).toNat]) else none
 |_,_,_=>none
def dD (runners:Nat)(ss:aae):aae:=((List.range runners).map λi=>i+1).filter λn=>!ss.contains n
def bB (ws:List W):Option (aae) :=
 match ws with
 |_::n::r=>if r.length % 3=0/\r.length<=24/\2<=ay n/\ay n<=24 then (dg (ay n).toNat r [] []).map (dD (ay n).toNat) else none
 |_=>none
structure Ce (had:List (Nat×Nat))(fs ss:aae):Prop where
 f:∀x,(∃y,(x,y)∈had)↔x∈fs
 s:∀y,(∃x,(x,y)∈had)↔y∈ss
 lt:∀x y,(x,y)∈had->x < y
theorem fz {c x:Nat×Nat}:∀{l:List (Nat×Nat)},x∈putB c l↔x=c∨x∈l
 |[]=>by simp[putB]
 |y::l=>by
  unfold putB;by_cases h:c.2 < y.2
  · rw[Xv h];simp
  · rw[Xu h,Xx,fz (l:=l),Xx];constructor
    · rintro (h|h|h) <;> simp[h]
    · rintro (h|h|h) <;> simp[h]
theorem Ce.put {had:List (Nat×Nat)}{fs ss:aae}(h:Ce had fs ss){a b:Nat}(lt:a < b):Ce (putB (a,b) had) (fs++[a]) (ss++[b]) where
 f:=λx=>by
  rw[Yj,←h.f x];constructor
  · rintro⟨y,hy⟩;rcases fz.mp hy with e|e
    · injection e with e1 e2;subst e1;exact .inr (by simp)
    · exact .inl ⟨y,e⟩
  · rintro (⟨y,hy⟩|e)
    · exact⟨y,fz.mpr (.inr hy)⟩
    · have:x=a:=by simpa using e
      subst this;exact⟨b,fz.mpr (.inl rfl)⟩
 s:=λy=>by
  rw[Yj,←h.s y];constructor
  · rintro⟨x,hx⟩;rcases fz.mp hx with e|e
    · injection e with e1 e2;subst e2;exact .inr (by simp)
    · exact .inl ⟨x,e⟩
  · rintro (⟨x,hx⟩|e)
    · exact⟨x,fz.mpr (.inr hx)⟩
    · have:y=b:=by simpa using e
      subst this;exact⟨a,fz.mpr (.inl rfl)⟩
 lt:=λx y Ub=>by
  rcases fz.mp Ub with e|e
  · injection e with e1 e2;subst e1;subst e2;exact lt
  · exact h.lt x y e
theorem Ce.JT {had:List (Nat×Nat)}{fs ss:aae}(h:Ce had fs ss)(a:Nat):(had.any λx=>x.2==a)=true↔a∈ss:=by
 rw[Y7,←h.s a];constructor
 · rintro⟨⟨x,y⟩,hx,e⟩;have:y=a:=by simpa using e
   subst this;exact⟨x,hx⟩
 · rintro⟨x,hx⟩;exact⟨(x,a),hx,by simp⟩
theorem Ce.Iu {had:List (Nat×Nat)}{fs ss:aae}(h:Ce had fs ss)(b:Nat):(had.any λx=>x.1==b||x.2==b)=true↔b∈fs∨b∈ss:=by
 rw[Y7,←h.s b,←h.f b];constructor
 · rintro⟨⟨x,y⟩,hx,e⟩;have:x=b∨y=b:=by simpa using e
   rcases this with rfl|rfl
   · exact .inl ⟨y,hx⟩
   · exact .inr ⟨x,hx⟩
 · rintro (⟨y,hx⟩|⟨x,hx⟩)
   · exact⟨(b,y),hx,by simp⟩
   · exact⟨(x,b),hx,by simp⟩
def mY (l:List Word):List W:=l.map λw=>tx w.w
theorem nW {e runners k:Nat}{had LO:List (Nat×Nat)}{l:List Word}:l≠[]->(couplesIn e runners (k+1) had l=.ok LO ↔
  ∃c a b r na nb,l=c::a::b::r/\c.w=ascii "couple"/\numberOf a.w=some na/\1<=na/\na<=runners/\(had.any λx=>x.2==na)=false /\
   numberOf b.w=some nb/\1<=nb/\nb<=runners/\na < nb/\(had.any λx=>x.1==nb||x.2==nb)=false/\couplesIn e runners k (putB (na,nb) had) r=.ok LO):=by
 intro hl;have he:¬l.isEmpty=true:=λz=>hl (Y6.mp z);have step:couplesIn e runners (k+1) had l=(do
  let m ←must e "couple" l
  let a ←number e 1 runners m
  let _ ←holds (!(had.any λ(x:Nat×Nat)=>x.2==a.1.1)) 4 a.1.2
  let b ←number e 1 runners a.2
  let _ ←holds (decide (a.1.1 < b.1.1)&&!(had.any λ(x:Nat×Nat)=>x.1==b.1.1||x.2==b.1.1)) 4 b.1.2
  couplesIn e runners k (putB (a.1.1,b.1.1) had) b.2):=Xu he
 rw[step,aE];constructor
 · rintro⟨m,hm,h0⟩;obtain⟨c,Uc,hc⟩:=cV.mp hm;obtain⟨a,ha,h1⟩:=aE.mp h0;obtain⟨wa,L_,a1,a2,a3,a4⟩:=bw.mp ha;obtain⟨_,g1,h2⟩:=aE.mp h1;have g1:=dO.mp g1;obtain⟨b,hb,h3⟩:=aE.mp h2;obtain⟨wb,Ox,b1,b2,b3,b4⟩:=bw.mp hb;obtain⟨_,g2,h4⟩:=aE.mp h3;have g2:=dO.mp g2;rw[XA,Y0] at g2;exact⟨c,wa,wb,b.2,a.1.1,b.1.1,by rw[Uc,L_,Ox],hc,a1,a2,a3,by simpa using g1,b1,b2,b3,g2.1,by simpa using g2.2,h4⟩
 · rintro⟨c,a,b,r,na,nb,rfl,hc,a1,a2,a3,a4,b1,b2,b3,b4,b5,h⟩;refine⟨_,cV.mpr ⟨c,rfl,hc⟩,?_⟩;refine aE.mpr ⟨((na,a.at_),b::r),bw.mpr ⟨a,rfl,a1,a2,a3,rfl⟩,?_⟩;refine aE.mpr ⟨(),dO.mpr (by rw[a4];rfl),?_⟩;refine aE.mpr ⟨((nb,b.at_),r),bw.mpr ⟨b,rfl,b1,b2,b3,rfl⟩,?_⟩;exact aE.mpr ⟨(),dO.mpr (by rw[b5,X9 b4];rfl),h⟩
theorem fB {e runners:Nat}(hr:runners<=24):∀(k:Nat) (had:List (Nat×Nat)) (fs ss:aae) (l:List Word),Ce had fs ss ->
  (∀LO,couplesIn e runners k had l=.ok LO->l.length<=3*k/\∃Ma Mb,dg runners (mY l) fs ss=some Mb/\Ce LO Ma Mb) /\
  (∀Mb,l.length<=3*k->dg runners (mY l) fs ss=some Mb->∃LO,couplesIn e runners k had l=.ok LO)
 |0,had,fs,ss,l,hd=>by
  cases l with
  |nil=>exact⟨λLO h=>by injection h with h;subst h;exact⟨XC _,fs,ss,rfl,hd⟩,λ_ _ _=>⟨had,rfl⟩⟩
  |cons w r =>
   constructor
   · intro LO h;have h:(if w.w=ascii "couple" then Except.error ⟨6,w.at_⟩ else Except.error ⟨3,w.at_⟩:Except Fault (List (Nat×Nat)))=.ok LO:=h;by_cases c:w.w=ascii "couple"
     · rw[Xv c] at h;cases h
     · rw[Xu c] at h;cases h
   · intro _ h;simp at h
 |k+1,had,fs,ss,[],hd=>⟨λLO h=>by
   have h:Except.ok had=Except.ok LO:=h;injection h with h;subst h;exact⟨X1 _,fs,ss,rfl,hd⟩,λ_ _ _=>⟨had,rfl⟩⟩
 |k+1,had,fs,ss,w::l,hd=>by
  constructor
  · intro LO h;obtain⟨c,a,b,r,na,nb,el,hc,a1,a2,a3,a4,b1,b2,b3,b4,b5,h⟩:=(nW (by simp)).mp h;have hd2:=hd.put b4;obtain⟨hl,Ma,Mb,h1,h2⟩:=(fB hr k _ _ _ r hd2).1 LO h;rw[el];refine⟨by simp only[XE];omega,Ma,Mb,?_,h2⟩;show dg runners (tx c.w::tx a.w::tx b.w::mY r) fs ss=_;have ea:ay (tx a.w)=(na:Int):=(dY (by omega)).mpr a1;have eb:ay (tx b.w)=(nb:Int):=(dY (by omega)).mpr b1;unfold dg;rw[ea,eb,Ye,Ye];have n1:¬na∈ss:=λz=>by rw[(hd.JT na).mpr z] at a4;cases a4
    have n2:¬(nb∈fs∨nb∈ss):=λz=>by rw[(hd.Iu nb).mpr z] at b5;cases b5
    rw[Xv ⟨(bg _ (by decide)).mpr hc,by omega,by omega,by omega,n1,λz=>n2 (.inl z),λz=>n2 (.inr z)⟩];exact h1
  · intro Mb hl h
    match l,hl,h with
    |[],_,h=>cases h
    |[_],_,h=>cases h
    |a::b::r,hl,h =>
     have h:dg runners (tx w.w::tx a.w::tx b.w::mY r) fs ss=some Mb:=h;unfold dg at h;split at h
     · rename_i q;obtain⟨q1,q2,q3,q4,q5,q6,q7⟩:=q;obtain⟨na,a1,a2,a3,a4⟩:=(fj (w:=a.w) (lo:=1) (hi:=24) (by decide)).mp ⟨q2,by omega⟩;obtain⟨nb,b1,b2,b3,b4⟩:=(fj (w:=b.w) (lo:=1) (hi:=24) (by decide)).mp ⟨by omega,by omega⟩;rw[a4,b4,Ye,Ye] at h;rw[a4,Ye] at q5;rw[b4,Ye] at q6 q7;have lt:na < nb:=by omega
       obtain⟨LO,h'⟩:=(fB hr k _ _ _ r (hd.put lt)).2 Mb (by simp only[XE] at hl;omega) h;refine⟨LO,(nW (by simp)).mpr ⟨w,a,b,r,na,nb,rfl,(bg _ (by decide)).mp q1,a1,a2,by omega,?_,b1,b2,by omega,lt,?_,h'⟩⟩
       · cases c:(had.any λx=>x.2==na) with
         |false=>rfl
         |true=>exact absurd ((hd.JT na).mp c) q5
       · cases c:(had.any λx=>x.1==nb||x.2==nb) with
         |false=>rfl
         |true=>exact absurd ((hd.Iu nb).mp c) λz=>z.elim q6 q7
     · cases h
theorem vp:∀{runners:Nat} (l:List W) (fs ss Mb:aae),dg runners l fs ss=some Mb->l.length % 3=0
 |_,[],_,_,_,_=>rfl
 |_,[_],_,_,_,h=>by cases h
 |_,[_,_],_,_,_,h=>by cases h
 |runners,c::a::b::r,fs,ss,Mb,h=>by
  unfold dg at h;split at h
  · have:=vp r _ _ _ h;simp only[XE];omega
  · cases h
theorem uS {n:Nat}{had:List (Nat×Nat)}{fs ss:aae}(hd:Ce had fs ss):Race.heads ⟨n,had⟩=dD n ss:=by
 unfold Race.heads dD;refine List.filter_congr λx _=>?_;unfold Race.head;cases c:had.find? (λc=>c.2==x) with
 |none =>
  have:¬x∈ss:=λz=>by
   obtain⟨y,hy⟩:=(hd.s x).mpr z;have:=List.find?_eq_none.mp c (y,x) hy;simp at this
  simp[this]
 |some z =>
  obtain⟨a,b⟩:=z;have h1:=List.mem_of_find?_eq_some c;have h2:=List.find?_some c;have h2:b=x:=by simpa using h2
  subst h2;have:=hd.lt a b h1;have hb:b∈ss:=(hd.s b).mp ⟨a,h1⟩;have e1:(a==b)=false:=by
   rw[X2];omega
  simp[hb,e1]
theorem vM {e:Nat}{w:Word}{l:List Word}:(∀r,raceIn e l=.ok r->bB (mY (w::l))=some r.heads)/\(∀hs,bB (mY (w::l))=some hs->∃r,raceIn e l=.ok r/\r.heads=hs):=by
 have nil:Ce [] [] []:=⟨by simp,by simp,by simp⟩;constructor
 · intro r h;unfold raceIn at h;obtain⟨n,hn,h0⟩:=aE.mp h;obtain⟨wn,Ud,a1,a2,a3,a4⟩:=bw.mp hn;obtain⟨c,hc,h1⟩:=aE.mp h0;injection h1 with h1;subst h1;rw[Ud];have a3:n.1.1<=24:=a3;obtain⟨hl,Ma,Mb,h1,h2⟩:=(fB a3 8 [] [] [] n.2 nil).1 c hc;have en:ay (tx wn.w)=(n.1.1:Int):=(dY (by omega)).mpr a1;show bB (tx w.w::tx wn.w::mY n.2)=_;unfold bB;dsimp only;rw[en,Ye,h1];have:=vp _ _ _ _ h1;have len:(mY n.2).length=n.2.length:=Xs ..;rw[Xv ⟨this,by omega,by omega,by omega⟩,uS h2];rfl
 · intro hs h
   match l,h with
   |wn::l,h =>
    have h:bB (tx w.w::tx wn.w::mY l)=some hs:=h;unfold bB at h;dsimp only at h;split at h
    · rename_i q;obtain⟨q1,q2,q3,q4⟩:=q;obtain⟨n,a1,a2,a3,a4⟩:=(fj (w:=wn.w) (lo:=2) (hi:=24) (by decide)).mp ⟨q3,q4⟩;rw[a4,Ye] at h;cases c:dg n (mY l) [] [] with
      |none=>rw[c] at h;cases h
      |some ss =>
       rw[c] at h;injection h with h;have len:(mY l).length=l.length:=Xs ..;obtain⟨had,hh⟩:=(fB (e:=e) (runners:=n) a3 8 [] [] [] l nil).2 ss (by omega) c;obtain⟨_,Ma,Mb,h1,h2⟩:=(fB (e:=e) (runners:=n) a3 8 [] [] [] l nil).1 had hh;rw[c] at h1;injection h1 with h1;subst h1;refine⟨⟨n,had⟩,?_,by rw[uS h2];exact h⟩;unfold raceIn;refine aE.mpr ⟨((n,wn.at_),l),bw.mpr ⟨wn,rfl,a1,a2,a3,rfl⟩,?_⟩;exact aE.mpr ⟨had,hh,rfl⟩
    · cases h
theorem qd {n:Nat}(hn:n<=24)(ss:aae):cP (dD n ss) where
 rise:=by
  refine List.Pairwise.filter _ (List.Pairwise.map _ (λa b (h:a < b)=>?_) List.pairwise_lt_range);show a+1 < b+1;omega
 lo:=λx hx=>by
  obtain⟨h,_⟩:=YD.mp hx;obtain⟨i,_,rfl⟩:=X3.mp h;omega
 hi:=λx hx=>by
  obtain⟨h,_⟩:=YD.mp hx;obtain⟨i,hi,rfl⟩:=X3.mp h;have:=Zh.mp hi;omega
theorem zZ {ws:List W}{hs:aae}(h:bB ws=some hs):cP hs:=by
 unfold bB at h;split at h
 · rename_i w0 n r;split at h
   · rename_i q;cases c:dg (ay n).toNat r [] [] with
     |none=>rw[c] at h;cases h
     |some ss =>
      rw[c] at h;injection h with h;subst h;exact qd (by omega) _
   · cases h
 · cases h
structure aK where
 name:W
 kind:Kind
 fields:aad
 unit:Nat
def kindS:Kind->String
 |.place=>"place"
 |.order=>"order"
 |.any=>"any"
 |.legs=>"legs"
def dG (w:W):Option Kind :=
 if w=cd "place" then some .place else if w=cd "order" then some .order else if w=cd "any" then some .any else if w=cd "legs" then some .legs else none
def fm (kind:Kind)(k rc:Nat)(races:aad):aad :=
 match kind with
 |.legs=>(races.drop (rc - 1)).take k
 |.place=>[races.getD (rc - 1) []]
 |_=>List.replicate k (races.getD (rc - 1) [])
def dB (races:aad)(kind:Kind)(p nm k fr rc tk t br b le m un u no z:W):Prop :=
 p=cd "pool"/\fr=cd "from"/\tk=cd "take"/\br=cd "break"/\le=cd "least"/\un=cd "unit"/\no=cd "none"/\d_ nm=true /\
 (0<=ay t/\ay t<=400)/\(1<=ay b/\ay b<=1000)/\(1<=ay u/\ay u<=10000)/\(ay m=0∨(ay u<=ay m/\ay m<=2*ay u)) /\
 ((z=cd "fewer"/\kind≠.place)∨z=cd "refund"∨z=cd "carry")/\((leastK kind:Int)<=ay k/\ay k<=(mostK kind:Int))/\(1<=ay rc/\ay rc<=(races.length:Int)) /\
 ((kind=.legs/\ay rc+ay k - 1<=(races.length:Int))∨(kind≠.legs/\ay k<=((races.getD (ay rc - 1).toNat []).length:Int)))
instance (races:aad)(kind:Kind)(p nm k fr rc tk t br b le m un u no z:W):Decidable (dB races kind p nm k fr rc tk t br b le m un u no z):=by
 unfold dB;infer_instance
def eX (ws:List W)(races:aad):Option aK :=
 match ws with
 |[p,nm,kd,k,fr,rc,tk,t,br,b,le,m,un,u,no,z] =>
  match dG kd with
  |none=>none
  |some kind=>if dB races kind p nm k fr rc tk t br b le m un u no z then some ⟨nm,kind,fm kind (ay k).toNat (ay rc).toNat races,(ay u).toNat⟩ else none
 |_=>none
def fieldsOf (C:Card)(p:Pool):aad:=if p.kind=.legs then C.sets p else List.replicate p.places (C.headsOf p.race)
def aA (C:Card)(p:Pool):aK:=⟨tx p.name,p.kind,fieldsOf C p,p.unit⟩
def rh (C:Card):aad:=C.races.map Race.heads
structure dX (C:Card)(p:Pool):Prop where
 name:isName p.name=true
 Iq:leastK p.kind<=p.k
 GJ:p.k<=mostK p.kind
 Df:1<=p.race
 K5:p.race<=C.races.length
 legs:p.kind=.legs->p.race+p.k<=C.races.length+1
 v9:p.kind≠.legs->p.k<=(C.headsOf p.race).length
 unit:1<=p.unit
 Lm:p.unit<=10000
theorem qG {w:Bytes}{y:Kind×String}:(KINDS.find? λ(x:Kind×String)=>ascii x.2==w)=some y↔dG (tx w)=some y.1/\y.2=kindS y.1:=by
 have a1:=bg (s:="place") w (by decide);have a2:=bg (s:="order") w (by decide);have a3:=bg (s:="any") w (by decide);have a4:=bg (s:="legs") w (by decide);unfold dG KINDS;obtain⟨yk,ys⟩:=y;simp only[Y8,List.find?_nil];by_cases c1:w=ascii "place"
 · have:(ascii "place"==w)=true:=by rw[c1];simp
   rw[this,Xv (a1.mpr c1)];constructor
   · intro h;injection h with h;injection h with h1 h2;subst h1;subst h2;exact⟨rfl,rfl⟩
   · rintro⟨h1,h2⟩;injection h1 with h1;have h1:Kind.place=yk:=h1;subst h1;have h2:ys="place":=h2;subst h2;rfl
 · have e1:(ascii "place"==w)=false:=by rw[X2];exact λz=>c1 z.symm
   rw[e1,Xu (λz=>c1 (a1.mp z))];by_cases c2:w=ascii "order"
   · have:(ascii "order"==w)=true:=by rw[c2];simp
     rw[this,Xv (a2.mpr c2)];constructor
     · intro h;injection h with h;injection h with h1 h2;subst h1;subst h2;exact⟨rfl,rfl⟩
     · rintro⟨h1,h2⟩;injection h1 with h1;have h1:Kind.order=yk:=h1;subst h1;have h2:ys="order":=h2;subst h2;rfl
   · have e2:(ascii "order"==w)=false:=by rw[X2];exact λz=>c2 z.symm
     rw[e2,Xu (λz=>c2 (a2.mp z))];by_cases c3:w=ascii "any"
     · have:(ascii "any"==w)=true:=by rw[c3];simp
       rw[this,Xv (a3.mpr c3)];constructor
       · intro h;injection h with h;injection h with h1 h2;subst h1;subst h2;exact⟨rfl,rfl⟩
       · rintro⟨h1,h2⟩;injection h1 with h1;have h1:Kind.any=yk:=h1;subst h1;have h2:ys="any":=h2;subst h2;rfl
     · have e3:(ascii "any"==w)=false:=by rw[X2];exact λz=>c3 z.symm
       rw[e3,Xu (λz=>c3 (a3.mp z))];by_cases c4:w=ascii "legs"
       · have:(ascii "legs"==w)=true:=by rw[c4];simp
         rw[this,Xv (a4.mpr c4)];constructor
         · intro h;injection h with h;injection h with h1 h2;subst h1;subst h2;exact⟨rfl,rfl⟩
         · rintro⟨h1,h2⟩;injection h1 with h1;have h1:Kind.legs=yk:=h1;subst h1;have h2:ys="legs":=h2;subst h2;rfl
       · have e4:(ascii "legs"==w)=false:=by rw[X2];exact λz=>c4 z.symm
         rw[e4,Xu (λz=>c4 (a4.mp z))];exact⟨λh=>(nomatch h),λh=>(nomatch h.1)⟩
theorem pL {w:Bytes}{kind:Kind}:(∃y,((if kind=.place then NONES.take 2 else NONES).find? λ(x:None_×String)=>ascii x.2==w)=some y) ↔
  ((tx w=cd "fewer"/\kind≠.place)∨tx w=cd "refund"∨tx w=cd "carry"):=by
 have a1:=bg (s:="fewer") w (by decide);have a2:=bg (s:="refund") w (by decide);have a3:=bg (s:="carry") w (by decide);rw[a1,a2,a3,←ZG,List.find?_isSome];constructor
 · rintro⟨x,hx,e⟩;have e:ascii x.2=w:=by simpa using e
   by_cases c:kind=.place
   · rw[Xv c] at hx;have hx:x=(.refund,"refund")∨x=(.carry,"carry"):=by simpa [NONES] using hx
     rcases hx with rfl|rfl
     · exact .inr (.inl e.symm)
     · exact .inr (.inr e.symm)
   · rw[Xu c] at hx;have hx:x=(.refund,"refund")∨x=(.carry,"carry")∨x=(.fewer,"fewer"):=by simpa [NONES] using hx
     rcases hx with rfl|rfl|rfl
     · exact .inr (.inl e.symm)
     · exact .inr (.inr e.symm)
     · exact .inl ⟨e.symm,c⟩
 · rintro (⟨e,c⟩|e|e)
   · exact⟨(.fewer,"fewer"),by rw[Xu c];simp[NONES],by simp[e]⟩
   · refine⟨(.refund,"refund"),?_,by simp[e]⟩;split <;> simp[NONES]
   · refine⟨(.carry,"carry"),?_,by simp[e]⟩;split <;> simp[NONES]
theorem jw (C:Card)(r:Nat)(_:1<=r):C.headsOf r=(rh C).getD (r - 1) []:=by
 unfold Card.headsOf rh;rw[Yc,Xy]
theorem qW (C:Card)(p:Pool)(hk:p.kind=.legs)(h1:1<=p.race)(h2:p.race+p.k<=C.races.length+1):C.sets p=((rh C).drop (p.race - 1)).take p.k:=by
 unfold Card.sets Pool.legs;rw[Xv hk];have len:(rh C).length=C.races.length:=Xs ..
 apply ZQ
 intro i;rw[Xy,List.getElem?_take,List.getElem?_drop];by_cases c:i < p.k
 · rw[Zd c,Xv c];show some (C.headsOf (p.race+i))=_;rw[jw C _ (by omega),Yc];have e:p.race+i - 1=p.race - 1+i:=by omega
   rw[e];have lt:p.race - 1+i < (rh C).length:=by omega
   rw[XD lt];rfl
 · rw[Xu c,Yx (by simp;omega)];rfl
theorem zG {C:Card}{p:Pool}(h:dX C p):fieldsOf C p=fm p.kind p.k p.race (rh C):=by
 unfold fieldsOf fm;cases hk:p.kind with
 |legs=>rw[Xv rfl];exact qW C p hk h.Df (h.legs hk)
 |place =>
  rw[Xu (by decide)];unfold Pool.places;rw[Xv hk,jw C _ h.Df];rfl
 |order =>
  rw[Xu (by decide)];unfold Pool.places;rw[Xu (by rw[hk];decide),jw C _ h.Df]
 |any =>
  rw[Xu (by decide)];unfold Pool.places;rw[Xu (by rw[hk];decide),jw C _ h.Df]
theorem Bv {e:Nat}{C:Card}{w:Word}{l:List Word}{p:Pool}(hC:C.races.length<=16)(hw:w.w=ascii "pool")(h:poolIn e C l=.ok p) :
  dX C p/\(C.pools.map λ(p:Pool)=>p.name).contains p.name=false/\eX (mY (w::l)) (rh C)=some (aA C p):=by
 unfold poolIn at h;obtain⟨n,x1,h1⟩:=aE.mp h;obtain⟨wn,e1,Sh,Ue,Qt⟩:=iJ.mp x1;obtain⟨kd,x2,h2⟩:=aE.mp h1;obtain⟨wk,yk,e2,kf,kx⟩:=md.mp x2;obtain⟨k,x3,h3⟩:=aE.mp h2;obtain⟨N6,e3,k1,k2,k3,k4⟩:=bw.mp x3;obtain⟨l4,x4,h4⟩:=aE.mp h3;obtain⟨Qu,e4,f1⟩:=cV.mp x4;obtain⟨r,x5,h5⟩:=aE.mp h4;obtain⟨wr,e5,r1,r2,r3,r4⟩:=bw.mp x5;obtain⟨_,x6,h6⟩:=aE.mp h5;have y6:=dO.mp x6;obtain⟨_,x7,h7⟩:=aE.mp h6;have y7:=dO.mp x7;obtain⟨l8,x8,h8⟩:=aE.mp h7;obtain⟨Qv,e8,f8⟩:=cV.mp x8;obtain⟨t,x9,h9⟩:=aE.mp h8;obtain⟨wt,e9,t1,t2,t3,t4⟩:=bw.mp x9;obtain⟨Ug,Uh,Qw⟩:=aE.mp h9;obtain⟨Qx,Ui,Uj⟩:=cV.mp Uh;obtain⟨b,Uk,Qy⟩:=aE.mp Qw;obtain⟨wb,Ul,b1,b2,b3,b4⟩:=bw.mp Uk;obtain⟨Um,Uo,Up⟩:=aE.mp Qy;obtain⟨Qz,MR,Uq⟩:=cV.mp Uo;obtain⟨m,Ur,Us⟩:=aE.mp Up;obtain⟨wm,Oy,m1,m2,m3,m4⟩:=bw.mp Ur;obtain⟨Ut,Uu,Uv⟩:=aE.mp Us;obtain⟨QA,Uw,Ux⟩:=cV.mp Uu;obtain⟨u,Uy,Uz⟩:=aE.mp Uv;obtain⟨wu,UA,u1,u2,u3,u4⟩:=bw.mp Uy;obtain⟨_,UB,Nf⟩:=aE.mp Uz;have Si:=dO.mp UB;obtain⟨l17,UC,UD⟩:=aE.mp Nf;obtain⟨QB,UE,UG⟩:=cV.mp UC;obtain⟨z,UH,UI⟩:=aE.mp UD;obtain⟨wz,yz,UJ,z1,z2⟩:=md.mp UH;obtain⟨_,UK,Oz⟩:=aE.mp UI;have UL:=kq.mp UK;injection Oz with Oz;have kk:kd.1.1=yk.1:=by rw[kx]
 obtain⟨km,_⟩:=qG.mp kf;rw[←kk] at km;have UM:mostK kd.1.1<=6:=by cases kd.1.1 <;> decide
 have ek:ay (tx N6.w)=(k.1.1:Int):=(dY (by omega)).mpr k1;have er:ay (tx wr.w)=(r.1.1:Int):=(dY (by omega)).mpr r1;have et:ay (tx wt.w)=(t.1.1:Int):=(dY (by omega)).mpr t1;have eb:ay (tx wb.w)=(b.1.1:Int):=(dY (by omega)).mpr b1;have em:ay (tx wm.w)=(m.1.1:Int):=(dY (by omega)).mpr m1;have eu:ay (tx wu.w)=(u.1.1:Int):=(dY (by omega)).mpr u1;have Mh:(rh C).length=C.races.length:=Xs ..;have d6:kd.1.1=.legs->r.1.1+k.1.1<=C.races.length+1:=λq=>by
  rw[q] at y6;simpa using y6
 have d7:kd.1.1≠.legs->k.1.1<=(C.headsOf r.1.1).length:=λq=>by
  have q':(kd.1.1==Kind.legs)=false:=by rw[X2];exact q
  rw[q',Bool.false_or] at y7;unfold Card.headsOf;cases c:C.races[r.1.1 - 1]? with
  |none=>rw[c] at y7;cases y7
  |some x =>
   rw[c] at y7;simpa using y7
 have ok:dX C p:=by
  subst Oz;exact⟨by rw[Qt];exact Sh,k2,k3,r2,r3,d6,d7,u2,u3⟩
 refine⟨ok,by subst Oz;show List.contains _ n.1=false;rw[Qt];exact Ue,?_⟩;have hl:mY (w::l)=[tx w.w,tx wn.w,tx wk.w,tx N6.w,tx Qu.w,tx wr.w,tx Qv.w,tx wt.w,tx Qx.w,tx wb.w,tx Qz.w,tx wm.w,tx QA.w,tx wu.w,tx QB.w,tx wz.w]:=by
  rw[e1,e2,e3,e4,e5,e8,e9,Ui,Ul,MR,Oy,Uw,UA,UE,UJ,UL];rfl
 have hf:=zG ok;rw[hl];show (match dG (tx wk.w) with
  |none=>none
  |some kind=>_)=_
 rw[km];dsimp only;rw[Xv ?_,ek,er,eu,Ye,Ye,Ye]
 · unfold aA;rw[hf];subst Oz;dsimp only;rw[Qt]
 · refine⟨(bg _ (by decide)).mpr hw,(bg _ (by decide)).mpr f1,(bg _ (by decide)).mpr f8,(bg _ (by decide)).mpr Uj,(bg _ (by decide)).mpr Uq,(bg _ (by decide)).mpr Ux,(bg _ (by decide)).mpr UG,
    by rw[jX];exact Sh,by rw[et];omega,by rw[eb];omega,by rw[eu];omega,?_,?_,by rw[ek];omega,by rw[er,Mh];omega,?_⟩
   · rw[em,eu];rw[Yu] at Si;rcases Si with q|q
     · left;have:m.1.1=0:=by simpa using q
       omega
     · right;unfold inside at q;rw[XA,Y0,Y0] at q;omega
   · exact pL.mp ⟨yz,z1⟩
   · rw[er,ek,Mh];by_cases q:kd.1.1=.legs
     · left;exact⟨q,by have:=d6 q;omega⟩
     · right;refine⟨q,?_⟩;have:=d7 q;rw[jw C _ r2] at this;have e:((r.1.1:Int) - 1).toNat=r.1.1 - 1:=by omega
       rw[e];omega
theorem bW {l:List Word}{a:W}{r:List W}(h:mY l=a::r):∃w m,l=w::m/\a=tx w.w/\mY m=r:=by
 cases l with
 |nil=>cases h
 |cons w m=>exact⟨w,m,rfl,(List.cons.inj h).1.symm,(List.cons.inj h).2⟩
theorem EN {l:List Word}(h:mY l=[]):l=[]:=by
 cases l with
 |nil=>rfl
 |cons w m=>cases h
theorem AI {e:Nat}{C:Card}{w:Word}{l:List Word}{q:aK}(hC:C.races.length<=16)(h:eX (mY (w::l)) (rh C)=some q)(hn:(C.pools.map λ(p:Pool)=>tx p.name).contains q.name=false)
  (ok:∀p∈C.pools,isName p.name=true) :
  ∃p,poolIn e C l=.ok p:=by
 unfold eX at h;split at h
 · rename_i p nm kd k fr rc tk t br b le m un u no z hl;have hl:tx w.w::mY l=_:=hl;injection hl with hw0 hl;obtain⟨wn,l1,rfl,rfl,g1⟩:=bW hl;obtain⟨wk,l2,rfl,rfl,g2⟩:=bW g1;obtain⟨N6,l3,rfl,rfl,g3⟩:=bW g2;obtain⟨Qu,l4,rfl,rfl,g4⟩:=bW g3;obtain⟨wr,l5,rfl,rfl,g5⟩:=bW g4;obtain⟨Qv,l6,rfl,rfl,g6⟩:=bW g5;obtain⟨wt,l7,rfl,rfl,g7⟩:=bW g6;obtain⟨Qx,l8,rfl,rfl,g8⟩:=bW g7;obtain⟨wb,l9,rfl,rfl,g9⟩:=bW g8;obtain⟨Qz,Ug,rfl,rfl,UN⟩:=bW g9;obtain⟨wm,l11,rfl,rfl,UO⟩:=bW UN;obtain⟨QA,Um,rfl,rfl,UP⟩:=bW UO;obtain⟨wu,l13,rfl,rfl,UQ⟩:=bW UP;obtain⟨QB,Ut,rfl,rfl,UR⟩:=bW UQ;obtain⟨wz,US,rfl,rfl,UT⟩:=bW UR;have UU:US=[]:=EN UT;subst UU;cases km:dG (tx wk.w) with
   |none=>rw[km] at h;cases h
   |some kind =>
    rw[km] at h;dsimp only at h;split at h
    · rename_i cs;injection h with h;obtain⟨c1,c2,c3,c4,c5,c6,c7,c8,c9,Px,Py,NF,N7,Ng,NG,MF⟩:=cs;have UM:mostK kind<=6:=by cases kind <;> decide
      have Mh:(rh C).length=C.races.length:=Xs ..;obtain⟨nt,t1,t2,t3,t4⟩:=(fj (w:=wt.w) (lo:=0) (hi:=400) (by decide)).mp c9;obtain⟨nb,b1,b2,b3,b4⟩:=(fj (w:=wb.w) (lo:=1) (hi:=1000) (by decide)).mp Px;obtain⟨nu,u1,u2,u3,u4⟩:=(fj (w:=wu.w) (lo:=1) (hi:=10000) (by decide)).mp Py;obtain⟨nk,k1,k2,k3,k4⟩:=(fj (w:=N6.w) (lo:=leastK kind) (hi:=mostK kind) (by omega)).mp Ng;obtain⟨nr,r1,r2,r3,r4⟩:=(fj (w:=wr.w) (lo:=1) (hi:=(rh C).length) (by omega)).mp NG;rw[u4] at NF;obtain⟨OA,m1,m2,m3,m4⟩:=(fj (w:=wm.w) (lo:=0) (hi:=20000) (by decide)).mp (by
       rcases NF with z|⟨z1,z2⟩
       · rw[z];omega
       · omega)
      rw[m4] at NF;rw[r4,k4,Mh] at MF;obtain⟨yz,hz⟩:=pL.mpr N7;have UW:(KINDS.find? λ(x:Kind×String)=>ascii x.2==wk.w)=some (kind,kindS kind):=qG.mpr ⟨km,rfl⟩;have UX:(C.pools.map λ(p:Pool)=>p.name).contains wn.w=false:=by
       subst h;cases c:(C.pools.map λ(p:Pool)=>p.name).contains wn.w with
       |false=>rfl
       |true =>
        exfalso;have c:wn.w∈C.pools.map λ(p:Pool)=>p.name:=by simpa using c
        obtain⟨p0,OB,ep⟩:=X3.mp c;have:tx wn.w∈C.pools.map λ(p:Pool)=>tx p.name:=X3.mpr ⟨p0,OB,by rw[ep]⟩;have MQ:¬tx wn.w∈C.pools.map λ(p:Pool)=>tx p.name:=by simpa using hn
        exact MQ this
      refine⟨⟨wn.w,kind,nk,nr,yz.1,nt,nb,OA,nu⟩,?_⟩;unfold poolIn;refine aE.mpr ⟨(wn.w,_),iJ.mpr ⟨wn,rfl,by rw[←jX];exact c8,UX,rfl⟩,?_⟩;refine aE.mpr ⟨((kind,wk.at_),_),md.mpr ⟨wk,_,rfl,UW,rfl⟩,?_⟩;refine aE.mpr ⟨((nk,N6.at_),_),bw.mpr ⟨N6,rfl,k1,k2,k3,rfl⟩,?_⟩;refine aE.mpr ⟨_,cV.mpr ⟨Qu,rfl,(bg _ (by decide)).mp c2⟩,?_⟩;refine aE.mpr ⟨((nr,wr.at_),_),bw.mpr ⟨wr,rfl,r1,r2,Mh ▸ r3,rfl⟩,?_⟩;refine aE.mpr ⟨(),dO.mpr ?_,?_⟩
      · show (kind != Kind.legs||decide (nr+nk<=C.races.length+1))=true;rcases MF with ⟨z1,z2⟩|⟨z1,z2⟩
        · rw[Yu];right;exact X9 (by omega)
        · rw[Yu];left;simpa using z1
      refine aE.mpr ⟨(),dO.mpr ?_,?_⟩
      · show (kind==Kind.legs||((C.races[nr - 1]?).map λ(x:Race)=>decide (nk<=x.heads.length)).getD false)=true;rw[Yu];rcases MF with ⟨z1,z2⟩|⟨z1,z2⟩
        · left;rw[z1];rfl
        · right;have lt:nr - 1 < C.races.length:=by omega
          rw[XD lt];show decide _=true;refine X9 ?_;have e:((nr:Int) - 1).toNat=nr - 1:=by omega
          rw[e] at z2;unfold rh at z2;rw[Yc,Xy,XD lt] at z2;have z2:(nk:Int)<=((C.races[nr - 1]).heads.length:Int):=z2;omega
      refine aE.mpr ⟨_,cV.mpr ⟨Qv,rfl,(bg _ (by decide)).mp c3⟩,?_⟩;refine aE.mpr ⟨((nt,wt.at_),_),bw.mpr ⟨wt,rfl,t1,t2,t3,rfl⟩,?_⟩;refine aE.mpr ⟨_,cV.mpr ⟨Qx,rfl,(bg _ (by decide)).mp c4⟩,?_⟩;refine aE.mpr ⟨((nb,wb.at_),_),bw.mpr ⟨wb,rfl,b1,b2,b3,rfl⟩,?_⟩;refine aE.mpr ⟨_,cV.mpr ⟨Qz,rfl,(bg _ (by decide)).mp c5⟩,?_⟩;refine aE.mpr ⟨((OA,wm.at_),_),bw.mpr ⟨wm,rfl,m1,m2,m3,rfl⟩,?_⟩;refine aE.mpr ⟨_,cV.mpr ⟨QA,rfl,(bg _ (by decide)).mp c6⟩,?_⟩;refine aE.mpr ⟨((nu,wu.at_),_),bw.mpr ⟨wu,rfl,u1,u2,u3,rfl⟩,?_⟩;refine aE.mpr ⟨(),dO.mpr ?_,?_⟩
      · show (OA==0||inside nu (2*nu) OA)=true;rw[Yu];rcases NF with z|⟨z1,z2⟩
        · left;have:OA=0:=by omega
          rw[this];rfl
        · right;unfold inside;rw[XA,Y0,Y0];omega
      refine aE.mpr ⟨_,cV.mpr ⟨QB,rfl,(bg _ (by decide)).mp c7⟩,?_⟩;refine aE.mpr ⟨((yz.1,wz.at_),[]),md.mpr ⟨wz,yz,rfl,hz,rfl⟩,?_⟩;exact aE.mpr ⟨(),kq.mpr rfl,rfl⟩
    · cases h
 · cases h
def ie (ws:List W):Bool:=ws.length==2&&ws.getD 0 []==cd "day"&&d_ (ws.getD 1 [])
def b6 (races:aad):List aK->List (List W)->Option (List aK)
 |acc,[]=>some acc
 |acc,ws::ls=>match eX ws races with
  |none=>none
  |some p=>if (acc.map (·.name)).contains p.name=true then none else b6 races (acc++[p]) ls
def iW (lines:List (List W))(races:aad):Option (List aK):=if 64 < lines.length then none else b6 races [] lines
def aQ (ws:List W):Bool:=ws.headD []==cd "race"
def eK:aad->List (List W)->Option (List aK)
 |acc,[]=>if acc=[] then none else some []
 |acc,ws::ls=>if aQ ws=true then (if 16<=acc.length then none else match bB ws with
  |none=>none
  |some h=>eK (acc++[h]) ls) else if acc=[] then none else iW (ws::ls) acc
def pj (t:W):List (List W):=(aX 10 [] t.dropLast).map (aX 32 [])
def dF (t:W):Option (List aK) :=
 if t.getLast?=some 10 then match pj t with
  |[]=>none
  |d::ls=>if ie d=true then eK [] ls else none
 else none
theorem pT:∀(ls:List (List W)) (acc:aad),acc.length<=16 ->
  eK acc ls=if 1<=acc.length+(ls.takeWhile aQ).length/\acc.length+(ls.takeWhile aQ).length<=16/\¬none∈(ls.takeWhile aQ).map bB then iW (ls.dropWhile aQ) (acc++((ls.takeWhile aQ).map bB).filterMap id) else none
 |[],acc,h=>by
  show (if acc=[] then none else some [])=_;by_cases c:acc=[]
  · subst c;rfl
  · rw[Xu c,Xv]
    · rfl
    · have:0 < acc.length:=Yy.mpr c;exact⟨by simp;omega,by simpa using h,by simp⟩
 |ws::ls,acc,h=>by
  show (if aQ ws=true then _ else _)=_;by_cases c:aQ ws=true
  · rw[Xv c,ZE,Z5,Xv c,Xv c];by_cases c2:16<=acc.length
    · rw[Xv c2,Xu];rintro⟨_,z,_⟩;rw[XE] at z;omega
    · rw[Xu c2];cases hr:bB ws with
      |none =>
       dsimp only;rw[Xu];rintro⟨_,_,z⟩;exact z (by rw[XM,hr];simp)
      |some hs =>
       dsimp only;rw[pT ls (acc++[hs]) (by rw[XS,YH];omega)];have e1:(acc++[hs]).length=acc.length+1:=by simp
       rw[e1,XM,hr,Z4,XE,YX];have k:(1<=acc.length+1+(ls.takeWhile aQ).length/\acc.length+1+(ls.takeWhile aQ).length<=16/\¬none∈(ls.takeWhile aQ).map bB) ↔
         (1<=acc.length+((ls.takeWhile aQ).length+1)/\acc.length+((ls.takeWhile aQ).length+1)<=16/\¬none∈some hs::(ls.takeWhile aQ).map bB):=by
        have:(¬none∈some hs::(ls.takeWhile aQ).map bB)↔¬none∈(ls.takeWhile aQ).map bB:=by simp
        rw[this];constructor
        · rintro⟨a,b,d⟩;exact⟨by omega,by omega,d⟩
        · rintro⟨a,b,d⟩;exact⟨by omega,by omega,d⟩
       by_cases q:(1<=acc.length+1+(ls.takeWhile aQ).length/\acc.length+1+(ls.takeWhile aQ).length<=16/\¬none∈(ls.takeWhile aQ).map bB)
       · rw[Xv q,Xv (k.mp q)];rfl
       · rw[Xu q,Xu (λz=>q (k.mpr z))]
  · rw[Xu c,ZE,Z5,Xu c,Xu c];by_cases d:acc=[]
    · subst d;rfl
    · rw[Xu d,Xv]
      · simp
      · have:0 < acc.length:=Yy.mpr d;exact⟨by simp;omega,by simpa using h,by simp⟩
def jl (w:W):Prop:=w≠[]/\∀c∈w,(isLet c||bX c)=true
theorem xo {v:Bytes}(h:jl (tx v)):CI v:=by
 refine⟨λe=>h.1 (by rw[e];rfl),λc hc=>?_⟩;have:=h.2 (sg c.toNat) (X3.mpr ⟨c,hc,rfl⟩);rw[qH,qc] at this;unfold isLet bX at this;simp only[Yu,XA,XB] at this;constructor
 · show 32 < c.toNat;omega
 · show c.toNat<=126;omega
theorem kr {w:W}(h:d_ w=true):jl w:=by
 unfold d_ at h;simp only[XA,XB] at h;refine⟨λe=>?_,λc hc=>(X0.mp h.2) c hc⟩;rw[e] at h;simp at h
theorem eT {w:W}(h:0<=ay w):jl w:=by
 unfold ay at h;split at h
 · omega
 · rename_i q;have q1:¬w=[]:=λz=>q (.inr (.inl z));have q2:¬w.all bX=false:=λz=>q (.inr (.inr z));refine⟨q1,λc hc=>?_⟩;have q2:w.all bX=true:=by simpa using q2
   rw[(X0.mp q2) c hc,Bool.or_true]
def Cr (w:W):Bool:=!w.isEmpty&&w.all λc=>isLet c||bX c
theorem EX {w:W}(h:Cr w=true):jl w:=by
 unfold Cr at h;rw[XA] at h;exact⟨λe=>by rw[e] at h;simp at h,λc hc=>(X0.mp h.2) c hc⟩
theorem bN {w:W}{s:String}(e:w=cd s)(h:Cr (cd s)=true):jl w:=e ▸ EX h
theorem AA {ws:List W}(h:ie ws=true):∀w∈ws,jl w:=by
 unfold ie at h;simp only[XA,Yk] at h
 match ws,h with
 |[a,b],h =>
  intro w hw;rcases Xx.mp hw with rfl|hw
  · exact bN h.1.2 (by decide)
  · have:w=b:=by simpa using hw
    subst this;exact kr h.2
theorem sf:∀{n:Nat} (l:List W) (fs ss Mb:aae),dg n l fs ss=some Mb->∀w∈l,jl w
 |_,[],_,_,_,_=>by simp
 |_,[_],_,_,_,h=>by cases h
 |_,[_,_],_,_,_,h=>by cases h
 |n,c::a::b::r,fs,ss,Mb,h=>by
  unfold dg at h;split at h
  · rename_i q;intro w hw;rcases Xx.mp hw with rfl|hw
    · exact bN q.1 (by decide)
    · rcases Xx.mp hw with rfl|hw
      · exact eT (by omega)
      · rcases Xx.mp hw with rfl|hw
        · exact eT (by omega)
        · exact sf r _ _ _ h w hw
  · cases h
theorem zL {ws:List W}{hs:aae}(h0:aQ ws=true)(h:bB ws=some hs):∀w∈ws,jl w:=by
 unfold bB at h;split at h
 · rename_i w0 n r;split at h
   · rename_i q;cases c:dg (ay n).toNat r [] [] with
     |none=>rw[c] at h;cases h
     |some ss =>
      intro w hw;rcases Xx.mp hw with rfl|hw
      · unfold aQ at h0;exact bN (Yk.mp h0) (by decide)
      · rcases Xx.mp hw with rfl|hw
        · exact eT (by omega)
        · exact sf r _ _ _ c w hw
   · cases h
 · cases h
theorem zr {w:W}{k:Kind}(h:dG w=some k):jl w:=by
 unfold dG at h;split at h
 · rename_i e;exact bN e (by decide)
 · split at h
   · rename_i e;exact bN e (by decide)
   · split at h
     · rename_i e;exact bN e (by decide)
     · split at h
       · rename_i e;exact bN e (by decide)
       · cases h
theorem rJ {ws:List W}{races:aad}{q:aK}(h:eX ws races=some q):(∀w∈ws,jl w)/\ws.headD []=cd "pool":=by
 unfold eX at h;split at h
 · rename_i p nm kd k fr rc tk t br b le m un u no z;cases km:dG kd with
   |none=>rw[km] at h;cases h
   |some kind =>
    rw[km] at h;dsimp only at h;split at h
    · rename_i cs;obtain⟨c1,c2,c3,c4,c5,c6,c7,c8,c9,Px,Py,NF,N7,Ng,NG,MF⟩:=cs;have hm:0<=ay m:=by omega
      have gz:jl z:=by
       rcases N7 with ⟨e,_⟩|e|e
       · exact bN e (by decide)
       · exact bN e (by decide)
       · exact bN e (by decide)
      refine⟨λw hw=>?_,c1⟩;simp only[Xx,Zg,or_false] at hw;rcases hw with rfl|rfl|rfl|rfl|rfl|rfl|rfl|rfl|rfl|rfl|rfl|rfl|rfl|rfl|rfl|rfl
      · exact bN c1 (by decide)
      · exact kr c8
      · exact zr km
      · exact eT (by omega)
      · exact bN c2 (by decide)
      · exact eT (by omega)
      · exact bN c3 (by decide)
      · exact eT (by omega)
      · exact bN c4 (by decide)
      · exact eT (by omega)
      · exact bN c5 (by decide)
      · exact eT hm
      · exact bN c6 (by decide)
      · exact eT (by omega)
      · exact bN c7 (by decide)
      · exact gz
    · cases h
 · cases h
def lw (l:Bytes):List W:=aX 32 [] (tx l)
theorem Bu (l:Bytes):lw l=(splitOn 32 [] l).map tx:=iw (c:=32) (by decide) l []
theorem lB {l:Bytes}(h:∀w∈lw l,jl w):badByte true 0 l=none:=by
 refine x_ l [] 0 (λv hv=>xo (h (tx v) ?_)) (by simp);rw[Bu];exact X3.mpr ⟨v,hv,rfl⟩
theorem o_ {l:Bytes}(p:Nat)(h:badByte true 0 l=none):mY (wordsFrom p [] l)=lw l:=by
 obtain⟨a,_⟩:=words_of l [] p 0 (X1 _) h;rw[Bu,←a,XX];rfl
def bP:Nat->Option Card->List Bytes->Except Fault (Option Card)
 |_,h,[]=>.ok h
 |p,h,l::ls=>match badByte true 0 l with
  |some i=>.error ⟨2,p+i⟩
  |none=>match lineIn h ⟨wordsFrom p [] l,p+l.length⟩ with
   |.error e=>.error e
   |.ok t=>bP (p+l.length+1) t ls
def dM (ls:List Bytes):Bytes:=ls.flatMap λl=>l++[10]
theorem oN {r:Bytes}:∀{l:Bytes},¬10∈l->upTo (l++10::r)=some (l,r)
 |[],_=>by simp[upTo]
 |c::l,h=>by
  have hc:¬c=10:=λe=>h (by simp[e]);show (if c=10 then some ([],l++10::r) else (upTo (l++10::r)).map λ(x:Bytes×Bytes)=>(c::x.1,x.2))=_;rw[Xu hc,oN λm=>h (by simp[m])];rfl
theorem jV:∀{b l r:Bytes},upTo b=some (l,r)->b=l++10::r/\¬10∈l
 |[],_,_,h=>by cases h
 |c::b,l,r,h=>by
  have h:(if c=10 then some ([],b) else (upTo b).map λ(x:Bytes×Bytes)=>(c::x.1,x.2))=some (l,r):=h;by_cases e:c=10
  · rw[Xv e] at h;injection h with h;injection h with h1 h2;subst h1;subst h2;subst e;exact⟨rfl,by simp⟩
  · rw[Xu e] at h;cases q:upTo b with
    |none=>rw[q] at h;cases h
    |some x =>
     rw[q] at h;injection h with h;injection h with h1 h2;obtain⟨a1,a2⟩:=jV (b:=b) (l:=x.1) (r:=x.2) q;subst h1;subst h2;exact⟨by rw[ZC,←a1],λm=>by
      rcases Xx.mp m with z|z
      · exact e z.symm
      · exact a2 z⟩
theorem sr:∀{b:Bytes},upTo b=none->¬10∈b
 |[],_=>by simp
 |c::b,h=>by
  have h:(if c=10 then some ([],b) else (upTo b).map λ(x:Bytes×Bytes)=>(c::x.1,x.2))=none:=h;by_cases e:c=10
  · rw[Xv e] at h;cases h
  · rw[Xu e] at h;cases q:upTo b with
    |none =>
     have:=sr q;intro m;rcases Xx.mp m with z|z
     · exact e z.symm
     · exact this z
    |some x=>rw[q] at h;cases h
theorem qw:∀(ls:List Bytes) (k p:Nat) (h:Option Card),(∀l∈ls,¬10∈l)->(dM ls).length < k->linesIn lineIn k p h (dM ls)=bP p h ls
 |[],0,_,_,_,hk=>by simp at hk
 |[],k+1,p,h,_,_=>rfl
 |l::ls,0,_,_,_,hk=>by simp at hk
 |l::ls,k+1,p,h,hn,hk=>by
  have e:dM (l::ls)=l++10::dM ls:=by
   unfold dM;rw[ZP,YX];rfl
  rw[e] at hk ⊢;have ne:¬(l++10::dM ls).isEmpty=true:=by simp
  show (if (l++10::dM ls).isEmpty=true then Except.ok h else match upTo (l++10::dM ls) with
   |none=>_
   |some (l,r)=>_)=_
  rw[Xu ne,oN (hn l (by simp))];dsimp only;unfold bP;cases hb:badByte true 0 l with
  |some i=>rfl
  |none =>
   dsimp only;cases hl:lineIn h ⟨wordsFrom p [] l,p+l.length⟩ with
   |error e=>rfl
   |ok t =>
    dsimp only;exact qw ls k (p+l.length+1) t (λm hm=>hn m (by simp[hm])) (by simp only[XS,XE] at hk;omega)
theorem oT:∀(k p:Nat) (h h':Option Card) (b:Bytes),b.length < k->linesIn lineIn k p h b=.ok h'->b=[]∨b.getLast?=some 10
 |0,_,_,_,_,hk,_=>by omega
 |k+1,p,h,h',b,hk,q=>by
  by_cases e:b=[]
  · exact .inl e
  · right;have ne:¬b.isEmpty=true:=λz=>e (Y6.mp z);rw[linesIn,Xu ne] at q;cases hu:upTo b with
    |none=>rw[hu] at q;cases q
    |some x =>
     obtain⟨l,r⟩:=x;rw[hu] at q;dsimp only at q;obtain⟨hb,_⟩:=jV hu;cases OC:badByte true 0 l with
     |some i=>rw[OC] at q;cases q
     |none =>
      rw[OC] at q;dsimp only at q;cases hl:lineIn h ⟨wordsFrom p [] l,p+l.length⟩ with
      |error e=>rw[hl] at q;cases q
      |ok t =>
       rw[hl] at q;dsimp only at q;have:=oT k _ t h' r (by rw[hb] at hk;simp only[XS,XE] at hk;omega) q;rw[hb];rcases this with z|z
       · subst z;simp
       · rw[List.getLast?_append];cases r with
         |nil=>simp at z
         |cons c r =>
          rw[List.getLast?_cons_cons,z];rfl
theorem join_split:∀(b w:Bytes),dM (splitOn 10 w b)=w++b++[10]
 |[],w=>by
  show dM [w]=_;unfold dM;simp
 |c::b,w=>by
  show dM (if c=10 then w::splitOn 10 [] b else splitOn 10 (w++[c]) b)=_;by_cases e:c=10
  · rw[Xv e];have:=join_split b [];unfold dM at this ⊢;rw[ZP,this,e];simp
  · rw[Xu e,join_split b (w++[c])];simp
theorem lu:∀(b w:Bytes),¬10∈w->∀l∈splitOn 10 w b,¬10∈l
 |[],w,hw,l,hl=>by
  have:l=w:=by simpa [splitOn] using hl
  exact this ▸ hw
 |c::b,w,hw,l,hl=>by
  have hl:l∈(if c=10 then w::splitOn 10 [] b else splitOn 10 (w++[c]) b):=hl;by_cases e:c=10
  · rw[Xv e] at hl;rcases Xx.mp hl with rfl|hl
    · exact hw
    · exact lu b [] (by simp) l hl
  · rw[Xu e] at hl;refine lu b (w++[c]) (λm=>?_) l hl;rcases Yj.mp m with z|z
    · exact hw z
    · exact e (by simpa using (XI.mp z).symm)
structure cn (C:Card):Prop where
 v9:C.races.length<=16
 heads:∀r∈C.races,cP r.heads
 pools:∀p∈C.pools,dX C p
 np:C.pools.length<=64
theorem k6 (c:UInt8):∀(l w:Bytes),splitOn c w l≠[]
 |[],_=>by simp[splitOn]
 |x::l,w=>by
  unfold splitOn;by_cases e:x=c
  · rw[Xv e];simp
  · rw[Xu e];exact k6 c l _
theorem iU {l:Bytes}(p:Nat)(h:badByte true 0 l=none):∃w r,wordsFrom p [] l=w::r/\lw l=tx w.w::mY r:=by
 have e:=o_ p h;cases hw:wordsFrom p [] l with
 |nil =>
  exfalso;rw[hw] at e;have e:[]=lw l:=e;rw[Bu] at e;exact k6 32 l [] (Z3.mp e.symm)
 |cons w r=>exact⟨w,r,rfl,by rw[←e,hw];rfl⟩
theorem rH {C D:Card}{p:Pool}(h:dX C p)(e:D.races=C.races):dX D p:=by
 have hh:D.headsOf=C.headsOf:=by
  funext r;unfold Card.headsOf;rw[e]
 exact⟨h.name,h.Iq,h.GJ,h.Df,by rw[e];exact h.K5,by rw[e];exact h.legs,by rw[hh];exact h.v9,h.unit,h.Lm⟩
theorem p9:∀(ls:List Bytes) (p:Nat) (C:Card),cn C->C.races≠[]->(C.pools=[]->∀l∈ls.head?,aQ (lw l)=false) ->
  (∀C',bP p (some C) ls=.ok C'->∃D,C'=some D/\cn D/\D.races=C.races/\C.pools.length+ls.length<=64/\b6 (rh C) (C.pools.map (aA C)) (ls.map lw)=some (D.pools.map (aA D))) /\
  (∀e,bP p (some C) ls=.error e->64 < C.pools.length+ls.length∨b6 (rh C) (C.pools.map (aA C)) (ls.map lw)=none)
 |[],p,C,ok,_,_=>⟨λC' h=>by
   have h:Except.ok (some C)=Except.ok C':=h;injection h with h;subst h;exact⟨C,rfl,ok,rfl,ok.np,rfl⟩,λe h=>nomatch h⟩
 |l::ls,p,C,ok,hr,hf=>by
  have none_of:eX (lw l) (rh C)=none->b6 (rh C) (C.pools.map (aA C)) ((l::ls).map lw)=none:=λq=>by
   rw[XM];unfold b6;rw[q]
  cases hb:badByte true 0 l with
  |some i =>
   have q:eX (lw l) (rh C)=none:=by
    cases c:eX (lw l) (rh C) with
    |none=>rfl
    |some z =>
     have:=lB (rJ c).1;rw[hb] at this;cases this
   have e0:bP p (some C) (l::ls)=.error ⟨2,p+i⟩:=by
    unfold bP;rw[hb]
   rw[e0];exact⟨λ_ h=>(nomatch h),λ_ _=>.inr (none_of q)⟩
  |none =>
   obtain⟨w,r,hw,Mn⟩:=iU p hb;have e0:bP p (some C) (l::ls)=match lineIn (some C) ⟨w::r,p+l.length⟩ with
     |.error e=>.error e
     |.ok t=>bP (p+l.length+1) t ls:=by
    conv=>lhs;unfold bP
    rw[hb,hw]
    all_goals rfl
   have nr:¬(w.w=ascii "race"/\C.pools=[]):=λ⟨z1,z2⟩=>by
    have:=hf z2 l (by simp);unfold aQ at this;rw[Mn] at this;have:(tx w.w==cd "race")=false:=this;rw[X2] at this;exact this ((bg _ (by decide)).mpr z1)
   have e1:lineIn (some C) ⟨w::r,p+l.length⟩=if w.w=ascii "pool"/\C.races≠[] then (if POOLS<=C.pools.length then .error ⟨6,w.at_⟩ else withPool (p+l.length) C r) else .error ⟨3,w.at_⟩:=by
    show (if w.w=ascii "race"/\C.pools=[] then _ else _)=_;rw[Xu nr]
   rw[e1] at e0;by_cases hp:w.w=ascii "pool"
   · rw[Xv ⟨hp,hr⟩] at e0;by_cases MZ:POOLS<=C.pools.length
     · rw[Xv MZ] at e0;rw[e0];have MZ:64<=C.pools.length:=MZ;exact⟨λ_ h=>(nomatch h),λ_ _=>.inl (by rw[XE];omega)⟩
     · rw[Xu MZ] at e0;have MZ:¬64<=C.pools.length:=MZ;unfold withPool at e0;cases hi:poolIn (p+l.length) C r with
       |error e =>
        rw[hi] at e0;have e0:bP p (some C) (l::ls)=.error e:=e0;rw[e0];refine⟨λ_ h=>(nomatch h),λ_ _=>.inr ?_⟩;cases c:eX (lw l) (rh C) with
        |none=>exact none_of c
        |some q =>
         rw[XM];unfold b6;rw[c];dsimp only;cases d:((C.pools.map (aA C)).map (·.name)).contains q.name with
         |true=>rfl
         |false =>
          exfalso;rw[Mn] at c;have d':(C.pools.map λ(p:Pool)=>tx p.name).contains q.name=false:=by
           rw[XX] at d;exact d
          obtain⟨z,hz⟩:=AI (e:=p+l.length) ok.v9 c d' (λp hp=>(ok.pools p hp).name);rw[hi] at hz;cases hz
       |ok q =>
        rw[hi] at e0;have e0:bP p (some C) (l::ls)=bP (p+l.length+1) (some {C with pools:=C.pools++[q]}) ls:=e0;obtain⟨UY,hn,hm⟩:=Bv (w:=w) ok.v9 hp hi;rw[e0];have QC:cn {C with pools:=C.pools++[q]}:=⟨ok.v9,ok.heads,λx hx=>by
          have hx:x∈C.pools++[q]:=hx;rcases Yj.mp hx with z|z
          · exact rH (ok.pools x z) rfl
          · have:x=q:=by simpa using z
            subst this;exact rH UY rfl,by show (C.pools++[q]).length<=64;rw[XS,YH];omega⟩
        have ih:=p9 ls (p+l.length+1) {C with pools:=C.pools++[q]} QC hr (λz=>by
         have z:C.pools++[q]=[]:=z;simp at z)
        have step:b6 (rh C) (C.pools.map (aA C)) ((l::ls).map lw)=b6 (rh C) ((C.pools++[q]).map (aA C)) (ls.map lw):=by
         rw[XM]
         conv=>lhs;unfold b6
         have Pz:eX (lw l) (rh C)=some (aA C q):=by rw[Mn];exact hm
         rw[Pz];dsimp only;have:((C.pools.map (aA C)).map (·.name)).contains (aA C q).name=false:=by
          rw[XX];cases d:(C.pools.map ((λ(x:aK)=>x.name) ∘ aA C)).contains (aA C q).name with
          |false=>rfl
          |true =>
           exfalso;have d:(aA C q).name∈C.pools.map ((λ(x:aK)=>x.name) ∘ aA C):=by simpa using d
           obtain⟨x,hx,ex⟩:=X3.mp d;have ex:tx x.name=tx q.name:=ex;have nx:=(ok.pools x hx).name;have:q.name=x.name:=by
            have key:∀c∈x.name,ux c.toNat=true:=λc hc=>by
             have gx:=kr (by rw[jX];exact nx);have:=gx.2 (sg c.toNat) (X3.mpr ⟨c,hc,rfl⟩);rw[qH,qc] at this;unfold ux;rw[this];rfl
            have own:tx x.name=x.name.map UInt8.toNat:=(qZ key).mpr rfl;exact (qZ key).mp (by rw[←ex,own])
           have MQ:¬q.name∈C.pools.map λ(p:Pool)=>p.name:=by simpa using hn
           exact MQ (X3.mpr ⟨x,hx,this.symm⟩)
         rw[Xu (by rw[this];decide),XO];rfl
        have len:(C.pools++[q]).length=C.pools.length+1:=by simp
        rw[step];constructor
        · intro C' h;obtain⟨D,h1,h2,h3,h4,h5⟩:=ih.1 C' h;refine⟨D,h1,h2,h3,?_,h5⟩;have h4:(C.pools++[q]).length+ls.length<=64:=h4;rw[XE];omega
        · intro e h;rcases ih.2 e h with z|z
          · left;have z:64 < (C.pools++[q]).length+ls.length:=z;rw[XE];omega
          · exact .inr z
   · rw[Xu (λz=>hp z.1)] at e0;rw[e0];refine⟨λ_ h=>(nomatch h),λ_ _=>.inr (none_of ?_)⟩;cases c:eX (lw l) (rh C) with
     |none=>rfl
     |some q =>
      exfalso;have:=(rJ c).2;rw[Mn] at this;exact hp ((bg _ (by decide)).mp this)
theorem qA:∀(ls:List Bytes) (p:Nat) (C:Card),cn C->C.pools=[] ->
  (∀C',bP p (some C) ls=.ok C'->∃D,C'=some D/\((D.races=[]/\eK (rh C) (ls.map lw)=none)∨(D.races≠[]/\cn D/\eK (rh C) (ls.map lw)=some (D.pools.map (aA D))))) /\
  (∀e,bP p (some C) ls=.error e->eK (rh C) (ls.map lw)=none)
 |[],p,C,ok,hp=>⟨λC' h=>by
   have h:Except.ok (some C)=Except.ok C':=h;injection h with h;subst h;refine⟨C,rfl,?_⟩;by_cases c:C.races=[]
   · left;refine⟨c,?_⟩;show (if rh C=[] then none else some [])=none;rw[Xv (by unfold rh;rw[c];rfl)]
   · right;refine⟨c,ok,?_⟩;show (if rh C=[] then none else some [])=_;rw[Xu (λ(z:rh C=[])=>c (Z3.mp z)),hp];rfl,λe h=>nomatch h⟩
 |l::ls,p,C,ok,hp=>by
  have Mh:(rh C).length=C.races.length:=Xs ..;by_cases Nh:aQ (lw l)=true
  · have step:eK (rh C) ((l::ls).map lw)=if 16<=C.races.length then none else match bB (lw l) with
      |none=>none
      |some h=>eK (rh C++[h]) (ls.map lw):=by
     rw[XM];show (if aQ (lw l)=true then (if 16<=(rh C).length then none else _) else _)=_;rw[Xv Nh,Mh]
     all_goals rfl
    rw[step];cases hb:badByte true 0 l with
    |some i =>
     have q:bB (lw l)=none:=by
      cases c:bB (lw l) with
      |none=>rfl
      |some z =>
       have:=lB (zL Nh c);rw[hb] at this;cases this
     have e0:bP p (some C) (l::ls)=.error ⟨2,p+i⟩:=by
      unfold bP;rw[hb]
     rw[e0,q];refine⟨λ_ h=>(nomatch h),λ_ _=>?_⟩;split <;> rfl
    |none =>
     obtain⟨w,r,hw,Mn⟩:=iU p hb;have wr:w.w=ascii "race":=by
      unfold aQ at Nh;rw[Mn] at Nh;exact (bg _ (by decide)).mp (Yk.mp Nh)
     have e0:bP p (some C) (l::ls)=match lineIn (some C) ⟨w::r,p+l.length⟩ with
       |.error e=>.error e
       |.ok t=>bP (p+l.length+1) t ls:=by
      conv=>lhs;unfold bP
      rw[hb,hw]
      all_goals rfl
     have e1:lineIn (some C) ⟨w::r,p+l.length⟩=if RACES<=C.races.length then .error ⟨6,w.at_⟩ else withRace (p+l.length) C r:=by
      show (if w.w=ascii "race"/\C.pools=[] then _ else _)=_;rw[Xv ⟨wr,hp⟩]
     rw[e1] at e0;by_cases Nf:RACES<=C.races.length
     · rw[Xv Nf] at e0;rw[e0,Xv (show 16<=C.races.length from Nf)];exact⟨λ_ h=>(nomatch h),λ_ _=>rfl⟩
     · rw[Xu Nf] at e0;have Nf:¬16<=C.races.length:=Nf;rw[Xu Nf];unfold withRace at e0;cases hi:raceIn (p+l.length) r with
       |error e =>
        rw[hi] at e0;have e0:bP p (some C) (l::ls)=.error e:=e0;rw[e0];refine⟨λ_ h=>(nomatch h),λ_ _=>?_⟩;cases c:bB (lw l) with
        |none=>rfl
        |some hs =>
         exfalso;rw[Mn] at c;obtain⟨q,hq,_⟩:=(vM (e:=p+l.length) (w:=w) (l:=r)).2 hs c;rw[hi] at hq;cases hq
       |ok q =>
        rw[hi] at e0;have e0:bP p (some C) (l::ls)=bP (p+l.length+1) (some {C with races:=C.races++[q]}) ls:=e0;have hm:=(vM (e:=p+l.length) (w:=w) (l:=r)).1 q hi;have Pz:bB (lw l)=some q.heads:=by rw[Mn];exact hm
        rw[e0,Pz];dsimp only;have QC:cn {C with races:=C.races++[q]}:=⟨by show (C.races++[q]).length<=16;rw[XS,YH];omega,λx hx=>by
          have hx:x∈C.races++[q]:=hx;rcases Yj.mp hx with z|z
          · exact ok.heads x z
          · have:x=q:=by simpa using z
            subst this;exact zZ Pz,λx hx=>by
          have hx:x∈C.pools:=hx;rw[hp] at hx;simp at hx,ok.np⟩
        have ih:=qA ls (p+l.length+1) {C with races:=C.races++[q]} QC hp;have e2:rh {C with races:=C.races++[q]}=rh C++[q.heads]:=by
         unfold rh;rw[XO];rfl
        rw[e2] at ih;exact ih
  · have QD:aQ (lw l)=false:=by simpa using Nh
    have step:eK (rh C) ((l::ls).map lw)=if rh C=[] then none else iW ((l::ls).map lw) (rh C):=by
     rw[XM];show (if aQ (lw l)=true then _ else _)=_;rw[Xu Nh]
    rw[step];by_cases hr:C.races=[]
    · rw[Xv (by unfold rh;rw[hr];rfl)];have e0:∃e,bP p (some C) (l::ls)=.error e:=by
       unfold bP;cases hb:badByte true 0 l with
       |some i=>exact⟨_,rfl⟩
       |none =>
        obtain⟨w,r,hw,Mn⟩:=iU p hb;dsimp only;rw[hw];have wr:¬w.w=ascii "race":=λz=>by
         apply Nh
         unfold aQ;rw[Mn];exact Yk.mpr ((bg _ (by decide)).mpr z)
        have e1:lineIn (some C) ⟨w::r,p+l.length⟩=.error ⟨3,w.at_⟩:=by
         show (if w.w=ascii "race"/\C.pools=[] then _ else if w.w=ascii "pool"/\C.races≠[] then _ else _)=_;rw[Xu (λz=>wr z.1),Xu (λz=>z.2 hr)]
        rw[e1];exact⟨_,rfl⟩
      obtain⟨e,e0⟩:=e0;rw[e0];exact⟨λ_ h=>(nomatch h),λ_ _=>rfl⟩
    · rw[Xu (λ(z:rh C=[])=>hr (Z3.mp z))];have ih:=p9 (l::ls) p C ok hr (λ_ l' OD=>by
       have:l'=l:=by simpa using OD.symm
       subst this;exact QD)
      rw[hp] at ih;have len:((l::ls).map lw).length=(l::ls).length:=Xs ..;unfold iW;rw[len];constructor
      · intro C' h;obtain⟨D,h1,h2,h3,h4,h5⟩:=ih.1 C' h;refine⟨D,h1,.inr ⟨by rw[h3];exact hr,h2,?_⟩⟩;rw[Xu (by simp only[Y4] at h4;omega)];exact h5
      · intro e h;by_cases c:64 < (l::ls).length
        · rw[Xv c]
        · rw[Xu c];rcases ih.2 e h with z|z
          · simp only[Y4] at z;omega
          · exact z
theorem yX:∀(b:Bytes),(tx b).getLast?=some 10↔b.getLast?=some 10:=λb=>by
 unfold tx;rw[List.getLast?_map];cases b.getLast? with
 |none=>simp
 |some c =>
  show some (sg c.toNat)=some 10↔some c=some 10;constructor
  · intro h;injection h with h;rw[jU (show c.toNat=(10:UInt8).toNat from (vb (by decide)).mp h)]
  · intro h;injection h with h;rw[h];rfl
theorem my (b:Bytes):(∀C,readCard b=.ok C->cn C/\C.races≠[]/\dF (tx b)=some (C.pools.map (aA C)))/\(∀e,readCard b=.error e->dF (tx b)=none):=by
 by_cases hl:b.getLast?=some 10
 · obtain⟨b',rfl⟩:∃b',b=b'++[10]:=by
    have ne:b≠[]:=λe=>by rw[e] at hl;simp at hl
    refine⟨b.dropLast,?_⟩;have:=List.dropLast_concat_getLast ne;rw[List.getLast?_eq_some_getLast ne] at hl;injection hl with hl;rw[hl] at this;exact this.symm
   have hj:dM (splitOn 10 [] b')=b'++[10]:=by rw[join_split];simp
   have OE:linesIn lineIn ((b'++[10]).length+1) 0 none (b'++[10])=bP 0 none (splitOn 10 [] b'):=by
    rw[←hj];exact qw _ _ _ _ (lu b' [] (by simp)) (ZW _)
   have UZ:pj (tx (b'++[10]))=(splitOn 10 [] b').map lw:=by
    unfold pj;have e:(tx (b'++[10])).dropLast=tx b':=by
     rw[rX];show (tx b'++[sg 10]).dropLast=_;rw[List.dropLast_concat]
    have:=iw (c:=10) (by decide) b' [];rw[AX] at this;rw[e];show (aX (10:UInt8).toNat [] (tx b')).map _=_;rw[this,XX];rfl
   have hc:dF (tx (b'++[10]))=match (splitOn 10 [] b').map lw with
     |[]=>none
     |d::ls=>if ie d=true then eK [] ls else none:=by
    unfold dF;rw[Xv ((yX _).mpr hl),UZ]
    all_goals rfl
   rw[hc];unfold readCard;rw[OE];cases hs:splitOn 10 [] b' with
   |nil=>exact absurd hs (k6 10 b' [])
   |cons l ls =>
    rw[XM];dsimp only;have day:(ie (lw l)=false/\∃e,bP 0 none (l::ls)=.error e)∨(ie (lw l)=true/\∃n,bP 0 none (l::ls)=bP (0+l.length+1) (some {noCard with name:=n}) ls):=by
     cases hb:badByte true 0 l with
     |some i =>
      left;refine⟨?_,⟨2,0+i⟩,by unfold bP;rw[hb]⟩;cases c:ie (lw l) with
      |false=>rfl
      |true =>
       have:=lB (AA c);rw[hb] at this;cases this
     |none =>
      obtain⟨w,r,hw,Mn⟩:=iU 0 hb;have e0:bP 0 none (l::ls)=match lineIn none ⟨w::r,0+l.length⟩ with
        |.error e=>.error e
        |.ok t=>bP (0+l.length+1) t ls:=by
       conv=>lhs;unfold bP
       rw[hb,hw]
       all_goals rfl
      have e1:lineIn none ⟨w::r,0+l.length⟩=if w.w=ascii "day" then dayIn (0+l.length) r else .error ⟨3,w.at_⟩:=rfl;rw[e1] at e0;by_cases hd:w.w=ascii "day"
      · rw[Xv hd] at e0;cases hi:dayIn (0+l.length) r with
        |error e =>
         left;rw[hi] at e0;refine⟨?_,e,e0⟩;cases c:ie (lw l) with
         |false=>rfl
         |true =>
          exfalso;unfold ie at c;rw[Mn] at c;simp only[XA,Yk] at c
          match r,c,hi with
          |[wn],c,hi =>
           have nm:isName wn.w=true:=by rw[←jX];exact c.2
           have:dayIn (0+l.length) [wn]=.ok (some {noCard with name:=wn.w}):=by
            unfold dayIn;refine aE.mpr ⟨(wn.w,[]),iJ.mpr ⟨wn,rfl,nm,rfl,rfl⟩,?_⟩;exact aE.mpr ⟨(),kq.mpr rfl,rfl⟩
           rw[this] at hi;cases hi
          |[],c,_=>have:=c.1.1;simp[mY] at this
          |_::_::_,c,_=>have:=c.1.1;simp[mY] at this
        |ok t =>
         right;rw[hi] at e0;unfold dayIn at hi;obtain⟨n,x1,h1⟩:=aE.mp hi;obtain⟨wn,er,n1,n2,n3⟩:=iJ.mp x1;obtain⟨_,x2,h2⟩:=aE.mp h1;have y2:=kq.mp x2;injection h2 with h2;subst h2;refine⟨?_,n.1,e0⟩;unfold ie;rw[Mn,er,y2];have a1:(tx w.w==cd "day")=true:=Yk.mpr ((bg _ (by decide)).mpr hd);show ((2==2)&&(tx w.w==cd "day")&&d_ (tx wn.w))=true;rw[a1,jX,n1];rfl
      · rw[Xu hd] at e0;left;refine⟨?_,_,e0⟩;cases c:ie (lw l) with
        |false=>rfl
        |true =>
         exfalso;unfold ie at c;rw[Mn] at c;simp only[XA,Yk] at c;exact hd ((bg _ (by decide)).mp c.1.2)
    rcases day with ⟨d,e,h⟩|⟨d,n,h⟩
    · rw[d,h];exact⟨λ_ q=>(nomatch q),λ_ _=>rfl⟩
    · rw[Xv d,h];have KL:cn {noCard with name:=n}:=⟨X1 _,λr hr=>by
        have hr:r∈([]:List Race):=hr;simp at hr,λp hp=>by
        have hp:p∈([]:List Pool):=hp;simp at hp,X1 _⟩
      have ih:=qA ls (0+l.length+1) {noCard with name:=n} KL rfl;have e2:rh {noCard with name:=n}=[]:=rfl;rw[e2] at ih;cases hf:bP (0+l.length+1) (some {noCard with name:=n}) ls with
      |error e =>
       dsimp only;exact⟨λ_ q=>(nomatch q),λ_ _=>ih.2 e hf⟩
      |ok C' =>
       obtain⟨D,rfl,q⟩:=ih.1 C' hf;dsimp only;rcases q with ⟨q1,q2⟩|⟨q1,q2,q3⟩
       · rw[Xv q1];exact⟨λ_ q=>(nomatch q),λ_ _=>q2⟩
       · rw[Xu q1];exact⟨λC q=>by injection q with q;subst q;exact⟨q2,q1,q3⟩,λ_ q=>nomatch q⟩
 · have hn:dF (tx b)=none:=by
    unfold dF;rw[Xu (λz=>hl ((yX b).mp z))]
   rw[hn];refine⟨λC h=>?_,λ_ _=>rfl⟩;exfalso;unfold readCard at h;cases q:linesIn lineIn (b.length+1) 0 none b with
   |error e=>rw[q] at h;cases h
   |ok h' =>
    rcases oT _ _ _ _ _ (ZW _) q with z|z
    · subst z;have q':linesIn lineIn 1 0 none []=.ok h':=q;have q':(Except.ok none:Except Fault (Option Card))=.ok h':=q';injection q' with q';subst q';rw[q] at h;cases h
    · exact hl z
def Fits (fd acc:aae)(p:W):Prop:=∃n:Nat,ay p=(n:Int)/\n∈fd/\∀x,acc.getLast?=some x->x < n
theorem A4 {fd acc:aae}{p:W}:Fits fd acc p↔0<=ay p/\(ay p).toNat∈fd/\∀x∈acc.getLast?,x < (ay p).toNat:=by
 constructor
 · rintro⟨n,e,h1,h2⟩;have en:(ay p).toNat=n:=by omega
   rw[en];exact⟨by omega,h1,λx hx=>h2 x hx⟩
 · rintro⟨h0,h1,h2⟩;exact⟨_,by omega,h1,λx hx=>h2 x hx⟩
instance {fd acc:aae}{p:W}:Decidable (Fits fd acc p):=decidable_of_iff _ A4.symm
def jk (fd:aae):List W->aae->Option (aae)
 |[],acc=>some acc
 |p::r,acc=>if Fits fd acc p then jk fd r (acc++[(ay p).toNat]) else none
def setM (fd:aae)(w:W):Option (aae):=jk fd (aX 44 [] w) []
theorem lJ {x:Nat}{l:aae}:risesN (x::l)=true↔(∀y,l.head?=some y->x < y)/\risesN l=true:=by
 cases l with
 |nil=>exact⟨λ_=>⟨λ_ z=>(by cases z),rfl⟩,λ_=>rfl⟩
 |cons y r =>
  show (decide (x < y)&&risesN (y::r))=true↔_;rw[XA,XB];exact⟨λ⟨a,b⟩=>⟨λz e=>by injection e with e;omega,b⟩,λ⟨a,b⟩=>⟨a y rfl,b⟩⟩
theorem mapM_some {α β:Type}{f:α->Option β}{x:α}{r:List α}{t:List β}:(x::r).mapM f=some t↔∃b s,f x=some b/\r.mapM f=some s/\t=b::s:=by
 rw[List.mapM_cons];cases h:f x with
 |none =>
  constructor
  · intro z;cases z
  · rintro⟨b,s,e,_⟩;cases e
 |some b =>
  cases h2:r.mapM f with
  |none =>
   constructor
   · intro z;rw[show ((some b:Option β) >>= λb=>(none:Option (List β)) >>= λs=>pure (b::s))=none from rfl] at z;cases z
   · rintro⟨b,s,_,e,_⟩;cases e
  |some s =>
   constructor
   · intro z;have z:some (b::s)=some t:=z;injection z with z;exact⟨b,s,rfl,rfl,z.symm⟩
   · rintro⟨b',s',e1,e2,rfl⟩;injection e1 with e1;injection e2 with e2;subst e1 e2;rfl
theorem iE {fd:aae}(hf:∀x∈fd,x<=24):∀(ps:List Bytes) (acc s:aae),jk fd (ps.map tx) acc=some s↔∃t,ps.mapM numberOf=some t/\s=acc++t/\(∀x y,acc.getLast?=some x->t.head?=some y->x < y)/\risesN t=true/\∀x∈t,x∈fd
 |[],acc,s=>by
  show some acc=some s↔_;constructor
  · intro e;injection e with e;exact⟨[],rfl,by simp[e],λ_ _ _ z=>(by cases z),rfl,λ_ z=>(by cases z)⟩
  · rintro⟨t,e,rfl,_⟩;have e:some []=some t:=e;injection e with e;subst e;simp
 |p::r,acc,s=>by
  show (if Fits fd acc (tx p) then jk fd (r.map tx) (acc++[(ay (tx p)).toNat]) else none)=some s↔_;constructor
  · intro h;split at h
    · rename_i hn;obtain⟨n,e1,e2,e3⟩:=hn;have QE:=hf n e2;have e4:=(dY (w:=p) (m:=n) (by omega)).mp e1;obtain⟨t,a1,a2,a3,a4,a5⟩:=(iE hf r _ s).mp h;have en:(ay (tx p)).toNat=n:=by omega
      rw[en] at a2 a3;refine⟨n::t,mapM_some.mpr ⟨n,t,e4,a1,rfl⟩,by rw[a2,YX];rfl,λx y hx hy=>?_,lJ.mpr ⟨λy hy=>a3 n y (by rw[List.getLast?_append];rfl) hy,a4⟩,λx hx=>?_⟩
      · injection hy with hy;subst hy;exact e3 x hx
      · rcases Xx.mp hx with rfl|hx
        · exact e2
        · exact a5 x hx
    · cases h
  · rintro⟨t,a1,a2,a3,a4,a5⟩;obtain⟨n,t',e4,U0,rfl⟩:=mapM_some.mp a1;have e2:=a5 n (by simp);have QE:=hf n e2;have e1:=(dY (w:=p) (m:=n) (by omega)).mpr e4;rw[Xv ⟨n,e1,e2,λx hx=>a3 x n hx rfl⟩];have en:(ay (tx p)).toNat=n:=by omega
    rw[en];obtain⟨r1,r2⟩:=lJ.mp a4;refine (iE hf r _ s).mpr ⟨t',U0,by rw[a2,YX];rfl,λx y hx hy=>?_,r2,λx hx=>a5 x (by simp[hx])⟩;rw[List.getLast?_append] at hx;have hx:some n=some x:=hx;injection hx with hx;subst hx;exact r1 y hy
theorem Km {fd t:aae}(h:∀x∈t,x∈fd):t.all fd.contains=true:=by
 rw[X0];intro x hx;rw[YB];exact X9 (h x hx)
theorem Lw {fd t:aae}(h:t.all fd.contains=true):∀x∈t,x∈fd:=λx hx=>by
 have:=(X0.mp h) x hx;rw[YB] at this;exact XQ this
theorem zP {e:Nat}{fd:aae}:setIn e fd []=.error ⟨3,e⟩:=rfl
theorem o4 {e:Nat}{fd:aae}(hf:∀x∈fd,x<=24){w:Word}{r:List Word}:setIn e fd (w::r)=match setM fd (tx w.w) with
  |none=>.error ⟨4,w.at_⟩
  |some s=>.ok ((s,w.at_),r):=by
 have sp:aX 44 [] (tx w.w)=(splitOn 44 [] w.w).map tx:=iw (c:=44) (by decide) w.w [];show (match (splitOn 44 [] w.w).mapM numberOf with
 |none=>(Except.error ⟨4,w.at_⟩:Except Fault ((aae×Nat)×List Word))
 |some s=>if risesN s=true/\s.all fd.contains=true then (pure ((s,w.at_),r):Except Fault _) else .error ⟨4,w.at_⟩)=_
 unfold setM;rw[sp];generalize splitOn 44 [] w.w=ps;cases h:jk fd (ps.map tx) [] with
 |some s =>
  obtain⟨t,a1,a2,_,a4,a5⟩:=(iE hf ps [] s).mp h;rw[Yp] at a2;subst a2;rw[a1];show (if risesN s=true/\s.all fd.contains=true then (pure ((s,w.at_),r):Except Fault _) else .error ⟨4,w.at_⟩)=_;rw[Xv ⟨a4,Km a5⟩];rfl
 |none =>
  cases h1:ps.mapM numberOf with
  |none=>rfl
  |some t =>
   show (if risesN t=true/\t.all fd.contains=true then (pure ((t,w.at_),r):Except Fault _) else .error ⟨4,w.at_⟩)=_;rw[Xu];rintro⟨b1,b2⟩;have:=(iE hf ps [] t).mpr ⟨t,h1,by simp,λ_ _ z=>(by cases z),b1,Lw b2⟩;rw[this] at h;cases h
theorem qz {fd:aae}:∀(ps:List W) (acc s:aae),jk fd ps acc=some s->ps≠[]∨acc≠[]->s≠[]
 |[],acc,s,h,hn=>by
  have h:some acc=some s:=h;injection h with h;subst h;simpa using hn
 |p::r,acc,s,h,_=>by
  have h:(if Fits fd acc p then jk fd r (acc++[(ay p).toNat]) else none)=some s:=h;split at h
  · exact qz r _ s h (.inr (by simp))
  · cases h
theorem uG {c:Nat}:∀(l w:W),aX c w l≠[]
 |[],w=>by show [w]≠[];simp
 |x::r,w=>by
  unfold aX;split
  · simp
  · exact uG r _
theorem Bq {l:aae}(h:risesN l=true):cq l:=by
 induction l with
 |nil=>exact List.Pairwise.nil
 |cons x r ih =>
  obtain⟨h1,h2⟩:=lJ.mp h;have ih:=ih h2;refine List.Pairwise.cons (λy hy=>?_) ih;cases r with
  |nil=>cases hy
  |cons z r =>
   have h1:=h1 z rfl;rcases Xx.mp hy with rfl|hy
   · exact h1
   · have:=(YM.mp ih).1 y hy;omega
theorem de {e:Nat}{fd:aae}(hf:∀x∈fd,x<=24){l:List Word}{x:(aae×Nat)×List Word}(h:setIn e fd l=.ok x):bH fd x.1.1/\x.1.1≠[]/\∃w,l=w::x.2/\x.1.2=w.at_/\setM fd (tx w.w)=some x.1.1:=by
 cases l with
 |nil=>cases h
 |cons w r =>
  rw[o4 hf] at h;cases hs:setM fd (tx w.w) with
  |none=>rw[hs] at h;cases h
  |some s =>
   rw[hs] at h;injection h with h;subst h;have sp:aX 44 [] (tx w.w)=(splitOn 44 [] w.w).map tx:=iw (c:=44) (by decide) w.w [];have PB:=hs;unfold setM at PB;have ne:s≠[]:=qz _ _ _ PB (.inl (uG _ _));rw[sp] at PB;obtain⟨t,_,a2,_,a4,a5⟩:=(iE hf _ _ s).mp PB;rw[Yp] at a2;subst a2;exact⟨⟨Bq a4,a5⟩,ne,w,rfl,rfl,hs⟩
theorem CU {e:Nat}{s:String}:must e s []=.error ⟨3,e⟩:=rfl
theorem rQ {e:Nat}{s:String}{w:Word}{r:List Word}:must e s (w::r)=if w.w=ascii s then .ok r else .error ⟨3,w.at_⟩:=rfl
abbrev Got:=Except Fault (aad×List Word)
def jo (e:Nat):aad->aad->List Word->Got
 |[],acc,l=>.ok (acc,l)
 |h::t,acc,l=>match (if 0 < acc.length then must e "/" l else .ok l) with
  |.error x=>.error x
  |.ok m=>match setIn e h m with
   |.error x=>.error x
   |.ok s=>jo e t (acc++[s.1.1]) s.2
def yc (e k:Nat)(heads:aae)(l:List Word):Got:=match setIn e heads l with
 |.error x=>.error x
 |.ok s=>if k<=s.1.1.length then .ok ([s.1.1],s.2) else .error ⟨4,s.1.2⟩
def sA (e k:Nat)(heads sa:aae)(m:List Word):Got:=match setIn e heads m with
 |.error x=>.error x
 |.ok b=>if (∀x∈b.1.1,¬x∈sa)/\k<=sa.length+b.1.1.length then .ok ([sa,b.1.1],b.2) else .error ⟨4,b.1.2⟩
def r_ (e k:Nat)(heads sa:aae)(p:Nat)(r:List Word):Got:=if sa.length < k then (match must e "with" r with
  |.error x=>.error x
  |.ok m=>sA e k heads sa m) else .error ⟨4,p⟩
def xG (e k:Nat)(heads:aae)(l:List Word):Got:=match setIn e heads l with
 |.error x=>.error x
 |.ok a=>r_ e k heads a.1.1 a.1.2 a.2
def jb (x:Got):Except Fault (aad):=match x with
 |.error t=>.error t
 |.ok y=>match y.2 with
  |[]=>.ok y.1
  |w::_=>.error ⟨3,w.at_⟩
theorem H_ {e:Nat}{p:Pool}{heads:aae}{l:List Word}:boxIn e p heads l=jb (yc e p.k heads l):=by
 unfold boxIn yc;cases h:setIn e heads l with
 |error x=>rfl
 |ok s =>
  by_cases hk:p.k<=s.1.1.length
  · show (holds (decide (p.k<=s.1.1.length)) 4 s.1.2 >>= λ_=>closed s.2 >>= λ_=>pure [s.1.1])=jb (if p.k<=s.1.1.length then .ok ([s.1.1],s.2) else .error ⟨4,s.1.2⟩);rw[Xv hk];unfold holds;rw[Xv (X9 hk)];show (closed s.2 >>= λ_=>pure [s.1.1])=jb (.ok ([s.1.1],s.2));unfold jb;show _=(match s.2 with
     |[]=>(Except.ok [s.1.1]:Except Fault _)
     |w::_=>.error ⟨3,w.at_⟩)
    cases s.2 <;> rfl
  · show (holds (decide (p.k<=s.1.1.length)) 4 s.1.2 >>= λ_=>closed s.2 >>= λ_=>pure [s.1.1])=jb (if p.k<=s.1.1.length then .ok ([s.1.1],s.2) else .error ⟨4,s.1.2⟩);rw[Xu hk];unfold holds;rw[Xu (by simpa using hk)];rfl
theorem DK {a b:aae}{k:Nat}:(!(b.any λ(x:Nat)=>a.contains x)&&decide (k<=a.length+b.length))=decide ((∀x∈b,¬x∈a)/\k<=a.length+b.length):=by
 rw[X8];simp
theorem Gb {e:Nat}{p:Pool}{heads:aae}{l:List Word}:keyIn e p heads l=jb (xG e p.k heads l):=by
 unfold keyIn xG;cases h:setIn e heads l with
 |error x=>rfl
 |ok a =>
  show (holds (decide (a.1.1.length < p.k)) 4 a.1.2 >>= λ_=>must e "with" a.2 >>= λm=>setIn e heads m >>= λb=>holds (!(b.1.1.any λ(x:Nat)=>a.1.1.contains x)&&decide (p.k<=a.1.1.length+b.1.1.length)) 4 b.1.2 >>= λ_=>closed b.2 >>= λ_=>pure [a.1.1,b.1.1])
   = jb (if a.1.1.length < p.k then (match must e "with" a.2 with
    |.error x=>.error x
    |.ok m=>match setIn e heads m with
     |.error x=>.error x
     |.ok b=>if (∀x∈b.1.1,¬x∈a.1.1)/\p.k<=a.1.1.length+b.1.1.length then .ok ([a.1.1,b.1.1],b.2) else .error ⟨4,b.1.2⟩) else .error ⟨4,a.1.2⟩)
  by_cases hk:a.1.1.length < p.k
  · rw[Xv hk];unfold holds;rw[Xv (X9 hk)];cases hm:must e "with" a.2 with
    |error x=>rfl
    |ok m =>
     show (setIn e heads m >>= λb=>(if (!(b.1.1.any λ(x:Nat)=>a.1.1.contains x)&&decide (p.k<=a.1.1.length+b.1.1.length))=true then Except.ok () else .error ⟨4,b.1.2⟩) >>= λ_=>closed b.2 >>= λ_=>pure [a.1.1,b.1.1])=jb (match setIn e heads m with
      |.error x=>.error x
      |.ok b=>if (∀x∈b.1.1,¬x∈a.1.1)/\p.k<=a.1.1.length+b.1.1.length then .ok ([a.1.1,b.1.1],b.2) else .error ⟨4,b.1.2⟩)
     cases hb:setIn e heads m with
     |error x=>rfl
     |ok b =>
      show ((if (!(b.1.1.any λ(x:Nat)=>a.1.1.contains x)&&decide (p.k<=a.1.1.length+b.1.1.length))=true then Except.ok () else .error ⟨4,b.1.2⟩) >>= λ_=>closed b.2 >>= λ_=>pure [a.1.1,b.1.1])=jb (if (∀x∈b.1.1,¬x∈a.1.1)/\p.k<=a.1.1.length+b.1.1.length then .ok ([a.1.1,b.1.1],b.2) else .error ⟨4,b.1.2⟩);rw[DK];by_cases hq:(∀x∈b.1.1,¬x∈a.1.1)/\p.k<=a.1.1.length+b.1.1.length
      · rw[Xv hq,Xv (X9 hq)];show (closed b.2 >>= λ_=>pure [a.1.1,b.1.1])=(match b.2 with
         |[]=>Except.ok [a.1.1,b.1.1]
         |w::_=>.error ⟨3,w.at_⟩)
        cases b.2 <;> rfl
      · rw[Xu hq,Xu (by rw[XB];exact hq)];rfl
  · rw[Xu hk];unfold holds;rw[Xu (by simpa using hk)];rfl
def mx (acc:aad)(x:Except Fault (aad)):Except Fault (aad):=match x with
 |.error t=>.error t
 |.ok y=>.ok (acc++y)
theorem BA {e:Nat}:∀(fs acc:aad) (l:List Word),acc≠[]->fs≠[]->jb (jo e fs acc l)=mx acc (must e "/" l >>= λm=>setsIn e fs m)
 |[],_,_,_,h=>absurd rfl h
 |h::t,acc,l,ha,_=>by
  have hl:0 < acc.length:=Yy.mpr ha;unfold jo;rw[Xv hl];cases hm:must e "/" l with
  |error x=>rfl
  |ok m =>
   show jb (match setIn e h m with
    |.error x=>.error x
    |.ok s=>jo e t (acc++[s.1.1]) s.2)=mx acc (setsIn e (h::t) m)
   cases t with
   |nil =>
    show _=mx acc (setIn e h m >>= λs=>closed s.2 >>= λ_=>pure [s.1.1]);cases hs:setIn e h m with
    |error x=>rfl
    |ok s =>
     show jb (.ok (acc++[s.1.1],s.2))=mx acc (closed s.2 >>= λ_=>pure [s.1.1]);unfold jb;show (match s.2 with
      |[]=>(Except.ok (acc++[s.1.1]):Except Fault _)
      |w::_=>.error ⟨3,w.at_⟩)=_
     cases s.2 <;> rfl
   |cons h2 t2 =>
    show _=mx acc (setIn e h m >>= λs=>must e "/" s.2 >>= λm=>setsIn e (h2::t2) m >>= λr=>pure (s.1.1::r));cases hs:setIn e h m with
    |error x=>rfl
    |ok s =>
     show jb (jo e (h2::t2) (acc++[s.1.1]) s.2)=mx acc (must e "/" s.2 >>= λm=>setsIn e (h2::t2) m >>= λr=>pure (s.1.1::r));rw[BA (h2::t2) (acc++[s.1.1]) s.2 (by simp) (by simp)];cases must e "/" s.2 with
     |error x=>rfl
     |ok m2 =>
      show mx _ (setsIn e (h2::t2) m2)=mx acc (setsIn e (h2::t2) m2 >>= λr=>pure (s.1.1::r));cases setsIn e (h2::t2) m2 with
      |error x=>rfl
      |ok r =>
       show Except.ok (acc++[s.1.1]++r)=Except.ok (acc++(s.1.1::r));rw[YX];rfl
theorem JP {e:Nat}{fs:aad}{l:List Word}:setsIn e fs l=jb (jo e fs [] l):=by
 cases fs with
 |nil =>
  show (closed l).map (λ(_:Unit)=>[])=(match l with
   |[]=>Except.ok []
   |w::_=>.error ⟨3,w.at_⟩)
  cases l <;> rfl
 |cons h t =>
  show _=jb (match setIn e h l with
   |.error x=>.error x
   |.ok s=>jo e t ([]++[s.1.1]) s.2)
  cases t with
  |nil =>
   show (setIn e h l >>= λs=>closed s.2 >>= λ_=>pure [s.1.1])=_;cases hs:setIn e h l with
   |error x=>rfl
   |ok s =>
    show (closed s.2 >>= λ_=>pure [s.1.1])=(match s.2 with
     |[]=>Except.ok ([]++[s.1.1])
     |w::_=>.error ⟨3,w.at_⟩)
    cases s.2 <;> rfl
  |cons h2 t2 =>
   show (setIn e h l >>= λs=>must e "/" s.2 >>= λm=>setsIn e (h2::t2) m >>= λr=>pure (s.1.1::r))=_;cases hs:setIn e h l with
   |error x=>rfl
   |ok s =>
    show (must e "/" s.2 >>= λm=>setsIn e (h2::t2) m >>= λr=>pure (s.1.1::r))=jb (jo e (h2::t2) ([]++[s.1.1]) s.2);rw[BA (h2::t2) ([]++[s.1.1]) s.2 (by simp) (by simp)];cases must e "/" s.2 with
    |error x=>rfl
    |ok m2 =>
     show (setsIn e (h2::t2) m2 >>= λr=>pure (s.1.1::r))=mx _ (setsIn e (h2::t2) m2);cases setsIn e (h2::t2) m2 with
     |error x=>rfl
     |ok r=>rfl
structure Fg (p:aK):Prop where
 ne:p.fields≠[]
 len:p.fields.length<=24
 hi:∀fd∈p.fields,∀x∈fd,x<=24
 unit:1<=p.unit
 six:p.fields.length<=6
 EM:p.kind=.any->p.fields.length<=3
 lo:∀fd∈p.fields,∀x∈fd,1<=x
 KY:p.kind=.order->p.fields.length<=4
 Ku:p.kind≠.legs->∀fd∈p.fields,fd≠[]
 rise:∀fd∈p.fields,cq fd
def fD (e:Nat)(p:aK)(how:Nat)(l:List Word):Got:=if how=0 then jo e p.fields [] l else if how=1 then yc e p.fields.length (p.fields.getD 0 []) l else xG e p.fields.length (p.fields.getD 0 []) l
def cT (p:aK):Bool:=p.kind==.order||p.kind==.any
def ji (p:aK)(w:Bytes):Option Nat:=if w=ascii "on" then some 0 else if w=ascii "box"/\cT p=true then some 1 else if w=ascii "key"/\cT p=true then some 2 else none
def dP (ps:List aK)(w:W):Option Nat:=ps.findIdx? λp=>p.name==w
def ck (n:Nat):How:=if n=0 then .on else if n=1 then .box else .key
structure bO where
 pool:Nat
 how:Nat
 stake:Nat
 sets:aad
structure uC (p:aK)(how:Nat)(sets:aad):Prop where
 ok:Fg p
 way:how=0∨cT p=true
 read:∃e l r,fD e p how l=.ok (sets,r)
def eD (u:Nat)(w:W):Prop:=1<=ay w/\ay w<=1000000/\ay w % (u:Int)=0
instance {u:Nat}{w:W}:Decidable (eD u w):=by unfold eD;exact inferInstance
def Gf (i how stake hp sp:Nat)(p:aK)(sets:aad):Except Fault bO :=
 if countM p.kind (ck how) p.fields.length sets=0 then .error ⟨6,hp⟩ else if 2147483647 < stake*countM p.kind (ck how) p.fields.length sets then .error ⟨7,sp⟩ else .ok ⟨i,how,stake,sets⟩
def xX (e i how stake hp sp:Nat)(p:aK)(x:Got):Except Fault bO:=match jb x with
 |.error t=>.error t
 |.ok sets=>Gf i how stake hp sp p sets
def Jb (e i:Nat)(p:aK)(stake sp:Nat):List Word->Except Fault bO
 |[]=>.error ⟨3,e⟩
 |hw::r=>match ji p hw.w with
  |none=>.error ⟨3,hw.at_⟩
  |some how=>xX e i how stake hw.at_ sp p (fD e p how r)
def Jm (e i:Nat)(p:aK):List Word->Except Fault bO
 |[]=>.error ⟨3,e⟩
 |sw::r=>if eD p.unit (tx sw.w) then Jb e i p (ay (tx sw.w)).toNat sw.at_ r else .error ⟨4,sw.at_⟩
def A8 (e i:Nat)(p:aK)(l:List Word):Except Fault bO:=match must e "for" l with
 |.error t=>.error t
 |.ok m=>Jm e i p m
def Jv (e:Nat)(ps:List aK):List Word->Except Fault bO
 |[]=>.error ⟨3,e⟩
 |n::r=>match dP ps (tx n.w) with
  |none=>.error ⟨5,n.at_⟩
  |some i=>match ps[i]? with
   |none=>.error ⟨5,n.at_⟩
   |some p=>A8 e i p r
def Cq (e:Nat)(ps:List aK)(l:List Word):Except Fault bO:=match must e "bet" l with
 |.error t=>.error t
 |.ok m=>Jv e ps m
theorem we {ps:List aK}{w:W}{i:Nat}(h:dP ps w=some i):i < ps.length:=by
 unfold dP at h;rw[ZK] at h;exact h.1
theorem uM {v:Bytes}(h:isName v=true):∀c∈v,ux c.toNat=true:=λc hc=>by
 rw[←jX] at h;have h2:=kr h;have:sg c.toNat∈tx v:=X3.mpr ⟨c,hc,rfl⟩;have h3:=h2.2 _ this;rw[qH,qc] at h3;unfold ux;rw[h3];rfl
theorem Dk {C:Card}(o:cn C)(v:Bytes):dP (C.pools.map (aA C)) (tx v)=C.pools.findIdx? λp=>p.name==v:=by
 unfold dP;rw[List.findIdx?_map];have:∀(l:List Pool),(∀p∈l,isName p.name=true)->List.findIdx? ((λp=>p.name==tx v) ∘ aA C) l=l.findIdx? λp=>p.name==v:=λl=>by
  induction l with
  |nil=>intro _;rfl
  |cons p r ih =>
   intro hn;rw[List.findIdx?_cons,List.findIdx?_cons,ih λq hq=>hn q (by simp[hq])];have e:((λp=>p.name==tx v) ∘ aA C) p=(p.name==v):=by
    show (tx p.name==tx v)=_;rw[X8,Yk,Yk];constructor
    · intro z;have:=(qZ (v:=p.name) (w:=v) (uM (hn p (by simp)))).mp;have e2:tx p.name=p.name.map UInt8.toNat:=(qZ (v:=p.name) (w:=p.name) (uM (hn p (by simp)))).mpr rfl;exact (this (by rw[←z,e2])).symm
    · intro z;rw[z]
   rw[e]
 exact this C.pools λp hp=>(o.pools p hp).name
theorem qb {C:Card}(o:cn C){r:Nat}(h1:1<=r)(h2:r<=C.races.length):cP (C.headsOf r):=by
 unfold Card.headsOf;rw[XD (by omega)];exact o.heads _ (Zk _)
theorem iD {p:Pool}(h:p.kind=.order∨p.kind=.any):p.places=p.k:=by
 unfold Pool.places;rw[Xu];rcases h with h|h <;> rw[h] <;> decide
theorem gP {C:Card}{p:Pool}(h:dX C p)(hk:p.kind≠.legs):fieldsOf C p=List.replicate p.places (C.headsOf p.race):=by
 unfold fieldsOf;rw[Xu hk]
theorem sR {k:Kind}:mostK k<=6:=by cases k <;> decide
theorem lz {C:Card}{p:Pool}(h:dX C p):1<=p.places:=by
 unfold Pool.places;split
 · exact XC _
 · have:=h.Iq;have:1<=leastK p.kind:=by cases p.kind <;> decide
   omega
theorem zF {C:Card}{p:Pool}(h:dX C p):p.places<=6:=by
 unfold Pool.places;split
 · decide
 · have:=h.GJ;have:=sR (k:=p.kind);omega
theorem Lj {C:Card}(o:cn C){p:Pool}(h:dX C p):Fg (aA C p):=by
 have hu:=h.unit;by_cases hk:p.kind=.legs
 · have e:(aA C p).fields=((rh C).drop (p.race - 1)).take p.k:=by
    show fieldsOf C p=_;unfold fieldsOf;rw[Xv hk];exact qW C p hk h.Df (h.legs hk)
   have hl:=h.legs hk;have hr:=h.Df;have QF:=h.Iq;have hm:2<=p.k:=by rw[hk] at QF;exact QF
   have hn:(rh C).length=C.races.length:=by unfold rh;rw[Xs]
   have hlen:(aA C p).fields.length=p.k:=by
    rw[e,XT,Ym];omega
   have of:∀fd∈(aA C p).fields,cP fd:=λfd hf=>by
    rw[e] at hf;have:fd∈rh C:=Y3 (Za hf);unfold rh at this;obtain⟨r,hr,rfl⟩:=X3.mp this;exact o.heads r hr
   refine⟨λz=>by rw[z] at hlen;simp at hlen;omega,by have:=h.GJ;have:=sR (k:=p.kind);omega,λfd hf x hx=>?_,hu,by have:=h.GJ;have:=sR (k:=p.kind);omega,λz=>(by have z:p.kind=.any:=z;rw[hk] at z;cases z),λfd hf x hx=>(of fd hf).lo x hx,λz=>(by have z:p.kind=.order:=z;rw[hk] at z;cases z),λz=>absurd hk z,λfd hf=>(of fd hf).rise⟩;exact (of fd hf).hi x hx
 · have e:(aA C p).fields=List.replicate p.places (C.headsOf p.race):=gP h hk;have p1:=lz h;have p2:=zF h;have of:∀fd∈(aA C p).fields,cP fd:=λfd hf=>by
    rw[e] at hf;rw[Yv hf];exact qb o h.Df h.K5
   refine⟨λz=>by rw[z] at e;have:=YA List.length e;simp at this;omega,by rw[e,X4];omega,λfd hf x hx=>?_,hu,by rw[e,X4];omega,λz=>by
    have z:p.kind=.any:=z;rw[e,X4,iD (.inr z)];have:=h.GJ;rw[z] at this;exact this,λfd hf x hx=>(of fd hf).lo x hx,λz=>by
    have z:p.kind=.order:=z;rw[e,X4,iD (.inl z)];have:=h.GJ;rw[z] at this;exact this,λ_ fd hf z=>by
    rw[e] at hf;rw[Yv hf] at z;have f:=h.v9 hk;rw[z] at f;have l:=h.Iq;have:1<=leastK p.kind:=by cases p.kind <;> decide
    have f:p.k<=0:=f;omega,λfd hf=>(of fd hf).rise⟩
   exact (of fd hf).hi x hx
theorem qg {e:Nat}:∀(fs acc:aad) (l:List Word) (s:aad) (r:List Word),(∀fd∈fs,∀x∈fd,x<=24)->jo e fs acc l=.ok (s,r)->s.length=acc.length+fs.length/\(∀x∈s,x∈acc∨∃fd∈fs,bH fd x/\x≠[])/\(∀x∈acc,x∈s)/\∀fd∈fs,∃x∈s,bH fd x/\x≠[]
 |[],acc,l,s,r,_,h=>by
  have h:(Except.ok (acc,l):Got)=.ok (s,r):=h;injection h with h;injection h with h1 h2;subst h1;exact⟨rfl,λx hx=>.inl hx,λx hx=>hx,λfd hf=>by cases hf⟩
 |f::fs,acc,l,s,r,hf,h=>by
  have h:(match (if 0 < acc.length then must e "/" l else .ok l) with
   |.error x=>(Except.error x:Got)
   |.ok m=>match setIn e f m with
    |.error x=>.error x
    |.ok s=>jo e fs (acc++[s.1.1]) s.2)=.ok (s,r):=h
  cases hm:(if 0 < acc.length then must e "/" l else .ok l) with
  |error x=>rw[hm] at h;cases h
  |ok m =>
   rw[hm] at h;have h:(match setIn e f m with
    |.error x=>(Except.error x:Got)
    |.ok s=>jo e fs (acc++[s.1.1]) s.2)=.ok (s,r):=h
   have ef:=hf f (by simp);cases hs:setIn e f m with
   |error x=>rw[hs] at h;cases h
   |ok y =>
    rw[hs] at h;obtain⟨g,ne,_⟩:=de ef hs;obtain⟨i1,i2,i3,i4⟩:=qg fs (acc++[y.1.1]) y.2 s r (λfd MG=>hf fd (by simp[MG])) h;refine⟨by rw[i1];simp;omega,λx hx=>?_,λx hx=>i3 x (by simp[hx]),λfd MG=>?_⟩
    · rcases i2 x hx with z|⟨fd,MG,z⟩
      · rcases Yj.mp z with z|z
        · exact .inl z
        · rw[XI] at z;subst z;exact .inr ⟨f,by simp,g,ne⟩
      · exact .inr ⟨fd,by simp[MG],z⟩
    · rcases Xx.mp MG with rfl|MG
      · exact⟨y.1.1,i3 _ (by simp),g,ne⟩
      · exact i4 fd MG
theorem Ej {e:Nat}{heads:aae}(M0:∀x∈heads,x<=24)(fs acc:aad)(l:List Word)(s:aad)(r:List Word)(hf:∀fd∈fs,fd=heads)(h:jo e fs acc l=.ok (s,r)):s.length=acc.length+fs.length/\∀x∈s,x∈acc∨bH heads x:=by
 obtain⟨h1,h2,_⟩:=qg fs acc l s r (λfd MG=>by rw[hf fd MG];exact M0) h;exact⟨h1,λx hx=>(h2 x hx).imp id λ⟨fd,MG,g,_⟩=>by rwa [hf fd MG] at g⟩
theorem yy {e k:Nat}{heads:aae}(M0:∀x∈heads,x<=24){l r:List Word}{s:aad}(h:yc e k heads l=.ok (s,r)):∃t,s=[t]/\k<=t.length/\bH heads t:=by
 unfold yc at h;cases hs:setIn e heads l with
 |error x=>rw[hs] at h;cases h
 |ok y =>
  rw[hs] at h;have h:(if k<=y.1.1.length then (Except.ok ([y.1.1],y.2):Got) else .error ⟨4,y.1.2⟩)=.ok (s,r):=h;split at h
  · rename_i hk;injection h with h;injection h with h1 h2;exact⟨_,h1.symm,hk,(de M0 hs).1⟩
  · cases h
theorem ym {e k:Nat}{heads:aae}(M0:∀x∈heads,x<=24){l r:List Word}{s:aad}(h:xG e k heads l=.ok (s,r)):∃a b,s=[a,b]/\a.length < k/\(∀x∈b,¬x∈a)/\k<=a.length+b.length/\bH heads a/\bH heads b/\a≠[]:=by
 unfold xG at h;cases hs:setIn e heads l with
 |error x=>rw[hs] at h;cases h
 |ok y =>
  rw[hs] at h;have h:r_ e k heads y.1.1 y.1.2 y.2=.ok (s,r):=h;unfold r_ at h;split at h
  · rename_i hk;cases hm:must e "with" y.2 with
    |error x=>rw[hm] at h;cases h
    |ok m =>
     rw[hm] at h;have h:sA e k heads y.1.1 m=.ok (s,r):=h;unfold sA at h;cases hb:setIn e heads m with
     |error x=>rw[hb] at h;cases h
     |ok z =>
      rw[hb] at h;have h:(if (∀x∈z.1.1,¬x∈y.1.1)/\k<=y.1.1.length+z.1.1.length then (Except.ok ([y.1.1,z.1.1],z.2):Got) else .error ⟨4,z.1.2⟩)=.ok (s,r):=h;split at h
      · rename_i hq;injection h with h;injection h with h1 h2;exact⟨_,_,h1.symm,hk,hq.1,hq.2,(de M0 hs).1,(de M0 hb).1,(de M0 hs).2.1⟩
      · cases h
  · cases h
theorem mD {s:aae}(h:cq s)(M0:∀x∈s,x<=24):s.length<=25:=by
 have:=h_ (m:=List.range 25) h.nodup λx hx=>Zh.mpr (by have:=M0 x hx;omega);simpa using this
structure C4 (ss:aad):Prop where
 len:ss.length<=6
 good:∀s∈ss,cq s/\∀x∈s,x<=24
 lo:∀s∈ss,∀x∈s,1<=x
structure uD (kd:Kind)(gs:List (aad)):Prop where
 ne:gs≠[]
 v9:gs.length<=4096
 ok:∀g∈gs,C4 g
 any:kd=.any->∀g∈gs,g.length<=3
theorem uz {p:aK}(o:Fg p):p.fields.getD 0 []∈p.fields:=by
 have hl:0 < p.fields.length:=Yy.mpr o.ne;have eg:p.fields.getD 0 []=p.fields[0]:=by rw[Yc,XD hl];rfl
 rw[eg];exact Zk hl
theorem uC.all {p:aK}{how:Nat}{sets:aad}(m:uC p how sets):(∀s∈sets,s≠[]/\∃fd∈p.fields,bH fd s)/\(how=0->sets.length=p.fields.length/\∀fd∈p.fields,fd≠[])/\(how=1->∃t,sets=[t]/\p.fields.length<=t.length)/\(how≠0->how≠1->∃a b,sets=[a,b]/\a.length < p.fields.length/\(∀x∈b,¬x∈a)/\p.fields.length<=a.length+b.length):=by
 obtain⟨e,l,r,hr⟩:=m.read;unfold fD at hr;by_cases h0:how=0
 · rw[Xv h0] at hr;obtain⟨h1,h2,_,h4⟩:=qg _ [] l sets r m.ok.hi hr;refine⟨λs hs=>?_,λ_=>⟨by simpa using h1,λfd hf z=>?_⟩,λz=>by omega,λz=>absurd h0 z⟩
   · obtain⟨fd,hf,g,ne⟩:=(h2 s hs).resolve_left (by simp);exact⟨ne,fd,hf,g⟩
   · obtain⟨s,_,g,ne⟩:=h4 fd hf;obtain⟨x,hx⟩:=List.exists_mem_of_ne_nil s ne;have:=g.sub x hx;rw[z] at this;cases this
 · rw[Xu h0] at hr;have f:=m.ok.hi _ (uz m.ok);by_cases h1:how=1
   · rw[Xv h1] at hr;obtain⟨t,rfl,h2,g⟩:=yy f hr;have pos:0 < p.fields.length:=Yy.mpr m.ok.ne;exact⟨λs hs=>by rw[XI.mp hs];exact⟨λz=>by rw[z] at h2;have h2:p.fields.length<=0:=h2;omega,_,uz m.ok,g⟩,λz=>absurd z h0,λ_=>⟨t,rfl,h2⟩,λ_ z=>absurd h1 z⟩
   · rw[Xu h1] at hr;obtain⟨a,b,rfl,z2,z3,z4,g1,g2,g3⟩:=ym f hr;refine⟨λs hs=>?_,λz=>absurd z h0,λz=>absurd z h1,λ_ _=>⟨a,b,rfl,z2,z3,z4⟩⟩;rcases Xx.mp hs with e|e
     · rw[e];exact⟨g3,_,uz m.ok,g1⟩
     · rw[XI.mp e];exact⟨λz=>by rw[z] at z4;simp at z4;omega,_,uz m.ok,g2⟩
theorem uC.good {p:aK}{how:Nat}{sets:aad}(m:uC p how sets):∀s∈sets,cq s/\(∀x∈s,x<=24)/\∀x∈s,1<=x:=λs hs=>by
 obtain⟨_,fd,hf,g⟩:=m.all.1 s hs;exact⟨g.rise,λx hx=>m.ok.hi fd hf x (g.sub x hx),λx hx=>m.ok.lo fd hf x (g.sub x hx)⟩
theorem tS {a:Nat}{B:aae}:∀g:aad,(jq a B g).length<=g.length
 |[]=>XC _
 |s::g=>by
  have:=tS (a:=a) (B:=B) g;show ((if s==B then [[a]::g] else [])++(jq a B g).map λr=>s::r).length<=_;rw[XS,Xs,XE];split
  · show 1+_<=_;omega
  · show 0+_<=_;omega
theorem oV {α β:Type}{f:α->List β}{c:Nat}:∀{l:List α},(∀x∈l,(f x).length<=c)->(l.flatMap f).length<=l.length*c
 |[],_=>X1 _
 |x::l,h=>by
  rw[ZP,XS,XE,Nat.succ_mul];have:=h x (by simp);have:=oV (l:=l) λy hy=>h y (by simp[hy]);omega
theorem mU {B:aae}{k:Nat}:∀{A:aae} {gs:List (aad)},(∀g∈gs,g.length=k)->(bE B A gs).length<=gs.length*k ^ A.length
 |[],gs,_=>by simp[bE]
 |a::A,gs,h=>by
  have ih:=mU (B:=B) (A:=A) (gs:=gs.flatMap (jq a B)) (k:=k) λg hg=>by
   obtain⟨g0,h0,hr⟩:=Zz.mp hg;rw[(oA hr).1,h g0 h0]
  have l1:(gs.flatMap (jq a B)).length<=gs.length*k:=oV λg hg=>by rw[←h g hg];exact tS g
  show (bE B A (gs.flatMap (jq a B))).length<=_;rw[XE,Zy,ZL (k ^ A.length) k,←Nat.mul_assoc];exact Yh ih (Nat.mul_le_mul_right _ l1)
theorem Ef {t:aae}{k:Nat}(h6:k<=6)(g:cq t/\(∀x∈t,x<=24)/\∀x∈t,1<=x):C4 (List.replicate k t) :=
 ⟨by rw[X4];exact h6,λs hs=>by rw[Yv hs];exact⟨g.1,g.2.1⟩,λs hs=>by rw[Yv hs];exact g.2.2⟩
theorem uD.bE {kd:Kind}{A B:aae}{k:Nat}(gA:cq A/\(∀x∈A,x<=24)/\∀x∈A,1<=x)(gB:cq B/\(∀x∈B,x<=24)/\∀x∈B,1<=x)(L9:∀x∈B,¬x∈A)(hA:A.length < k)(h4:k<=4)(h3:kd=.any->k<=3):uD kd (bE B A [List.replicate k B]):=by
 obtain⟨h1,h2⟩:=i5 (B:=B) (k:=k) (A:=A) (had:=[]) (gs:=[List.replicate k B]) (λx hx m=>L9 x m (by simpa using hx)) (by simpa using gA.1.nodup) (by simp) (λg hg=>by
  rw[XI] at hg;subst hg;exact⟨by simp,λs hs=>.inl (Yv hs),by simp⟩)
 obtain⟨q,e⟩:=k9 (B:=B) (A:=A) (P:=[]) (j:=k) (rest:=[]) (λx hx m=>L9 x m (by simpa using hx)) (by omega);rw[YT,Yp,Yp] at e;rw[Yp] at h2;have len:=mU (B:=B) (A:=A) (k:=k) (gs:=[List.replicate k B]) (λg hg=>by rw[XI.mp hg,X4]);have pw:k ^ A.length<=4 ^ 3:=Yh (Nat.pow_le_pow_left h4 _) (Zw (by decide) (by omega));have is:∀g∈Bw.bE B A [List.replicate k B],∀s∈g,cq s/\(∀x∈s,x<=24)/\∀x∈s,1<=x:=λg hg s hs=>by
  rcases (h2 g hg).are s hs with rfl|⟨a,ha,rfl⟩
  · exact gB
  · exact⟨by simp,λx hx=>by rw[XI.mp hx];exact gA.2.1 a ha,λx hx=>by rw[XI.mp hx];exact gA.2.2 a ha⟩
 refine⟨by rw[e];simp,by rw[YH,Nat.one_mul] at len;omega,λg hg=>⟨by rw[(h2 g hg).len];omega,λs hs=>⟨(is g hg s hs).1,(is g hg s hs).2.1⟩,λs hs=>(is g hg s hs).2.2⟩,λz g hg=>by rw[(h2 g hg).len];exact h3 z⟩
theorem uC.k4 {p:aK}{how:Nat}{sets:aad}(m:uC p how sets)(h0:how≠0):p.fields.length<=4:=by
 have w:=m.way.resolve_left h0;unfold cT at w;rw[Yu] at w;rcases w with w|w
 · exact m.ok.KY (YY w)
 · exact Nat.le_succ_of_le (m.ok.EM (YY w))
theorem uD.cut {kd:Kind}{gs:List (aad)}(o:uD kd gs):uD kd (gs.take 1) :=
 ⟨λz=>o.ne (by simpa using z),by have:=o.v9;rw[XT];omega,λg hg=>o.ok g (Za hg),λz g hg=>o.any z g (Za hg)⟩
theorem uC.Iy {p:aK}{how:Nat}{sets:aad}(m:uC p how sets):uD p.kind (jP p.kind (ck how) p.fields.length sets):=by
 obtain⟨_,h0,h1,h2⟩:=m.all;have good:=m.good;have one:∀{ss:aad},C4 ss->(p.kind=.any->ss.length<=3)->uD p.kind [ss]:=λo h=>⟨by simp,by show 1<=4096;decide,λg hg=>by rw[XI.mp hg];exact o,λz g hg=>by rw[XI.mp hg];exact h z⟩;unfold ck;by_cases z0:how=0
 · rw[Xv z0];have hl:=(h0 z0).1;exact one ⟨by rw[hl];exact m.ok.six,λs hs=>⟨(good s hs).1,(good s hs).2.1⟩,λs hs=>(good s hs).2.2⟩ λz=>by rw[hl];exact m.ok.EM z
 · rw[Xu z0];have k4:=m.k4 z0;by_cases z1:how=1
   · rw[Xv z1];obtain⟨t,rfl,_⟩:=h1 z1;exact one (Ef m.ok.six (good t (by simp))) λz=>by rw[X4];exact m.ok.EM z
   · rw[Xu z1];obtain⟨a,b,rfl,q1,q2,q3⟩:=h2 z0 z1;have G:uD p.kind (Bw.bE b a [List.replicate p.fields.length b]):=uD.bE (good a (by simp)) (good b (by simp)) q2 q1 k4 m.ok.EM;show uD p.kind (if p.kind=.any then (Bw.bE b a [List.replicate p.fields.length b]).take 1 else Bw.bE b a [List.replicate p.fields.length b]);split
     · exact G.cut
     · exact G
theorem uC.Ku {p:aK}{how:Nat}{sets:aad}(m:uC p how sets):∀fd∈p.fields,fd≠[]:=by
 by_cases hk:p.kind=.legs
 · refine (m.all.2.1 (m.way.resolve_right λw=>?_)).2;unfold cT at w;rw[hk] at w;cases w
 · exact m.ok.Ku hk
theorem uC.Lf {p:aK}{how:Nat}{sets:aad}(m:uC p how sets):∀g∈jP p.kind (ck how) p.fields.length sets,g≠[]/\∀s∈g,s≠[]:=by
 obtain⟨ha,h0,h1,h2⟩:=m.all;have pos:0 < p.fields.length:=Yy.mpr m.ok.ne;unfold ck;intro g hg;by_cases z0:how=0
 · rw[Xv z0] at hg;have e:g=sets:=XI.mp hg;subst e;exact⟨λz=>by have:=(h0 z0).1;rw[z] at this;simp at this;omega,λs hs=>(ha s hs).1⟩
 · rw[Xu z0] at hg;by_cases z1:how=1
   · rw[Xv z1] at hg;obtain⟨t,rfl,_⟩:=h1 z1;have e:g=List.replicate p.fields.length t:=XI.mp hg;subst e;exact⟨λz=>by have:=YA List.length z;rw[X4] at this;have:p.fields.length=0:=this;omega,λs hs=>by rw[Yv hs];exact (ha t (by simp)).1⟩
   · rw[Xu z1] at hg;obtain⟨a,b,rfl,q1,q2,q3⟩:=h2 z0 z1;have hg:g∈Bw.bE b a [List.replicate p.fields.length b]:=by
      have hg:g∈(if p.kind=.any then (Bw.bE b a [List.replicate p.fields.length b]).take 1 else Bw.bE b a [List.replicate p.fields.length b]):=hg;split at hg
      · exact Za hg
      · exact hg
     have G:=(i5 (B:=b) (k:=p.fields.length) (A:=a) (had:=[]) (gs:=[List.replicate p.fields.length b]) (λx hx m=>q2 x m (by simpa using hx)) (by simpa using (m.good a (by simp)).1.nodup) (by simp) (λg hg=>by
      rw[XI] at hg;subst hg;exact⟨by simp,λs hs=>.inl (Yv hs),by simp⟩)).2 g hg
     refine⟨λz=>by have:=G.len;rw[z] at this;simp at this;omega,λs hs=>?_⟩;rcases G.are s hs with rfl|⟨x,_,rfl⟩
     · exact (ha s (by simp)).1
     · simp
theorem BC {h:Nat}:ck h=.box↔h=1:=by
 unfold ck;by_cases h0:h=0
 · rw[Xv h0];constructor
   · intro z;cases z
   · intro z;omega
 · rw[Xu h0];by_cases h1:h=1
   · rw[Xv h1];simp[h1]
   · rw[Xu h1];constructor
     · intro z;cases z
     · intro z;exact absurd z h1
theorem vk {h:Nat}:ck h=.on↔h=0:=by
 unfold ck;by_cases h0:h=0
 · rw[Xv h0];simp[h0]
 · rw[Xu h0];by_cases h1:h=1
   · rw[Xv h1];constructor
     · intro z;cases z
     · intro z;omega
   · rw[Xu h1];constructor
     · intro z;cases z
     · intro z;exact absurd z h0
theorem CV {h:Nat}:ck h=.key↔h≠0/\h≠1:=by
 unfold ck;by_cases h0:h=0
 · rw[Xv h0];constructor
   · intro z;cases z
   · intro z;exact absurd h0 z.1
 · rw[Xu h0];by_cases h1:h=1
   · rw[Xv h1];constructor
     · intro z;cases z
     · intro z;exact absurd h1 z.2
   · rw[Xu h1];simp[h0,h1]
theorem ke {C:Card}{p:Pool}:cT (aA C p)=true↔p.kind=.order∨p.kind=.any:=by
 show (p.kind==.order||p.kind==.any)=true↔_;cases p.kind <;> decide
theorem vc {α:Type}{n:Nat}{x d:α}(h:1<=n):(List.replicate n x).getD 0 d=x:=by
 cases n with
 |zero=>omega
 |succ n=>rfl
theorem CC {C:Card}(o:cn C){i:Nat}{p:Pool}(hi:C.pool i=p)(hP:dX C p){how stake e:Nat}{l r:List Word}{sets:aad}(way:how=0∨cT (aA C p)=true)(h:fD e (aA C p) how l=.ok (sets,r)):ye C ⟨i,ck how,sets,stake⟩ p:=by
 have nm:p.kind≠.legs->fieldsOf C p=List.replicate p.places (C.headsOf p.race):=gP hP;have gh:=qb o hP.Df hP.K5;unfold fD at h;have OF:p.kind=.place∨p.kind=.legs->how=0:=λz=>by
  rcases way with w|w
  · exact w
  · rw[ke] at w;rcases z with z|z <;> rcases w with w|w <;> rw[z] at w <;> cases w
 have OG:how≠0->(aA C p).fields.getD 0 []=C.headsOf p.race/\(aA C p).fields.length=p.k:=λhn=>by
  have w:p.kind=.order∨p.kind=.any:=by
   rcases way with w|w
   · exact absurd w hn
   · exact ke.mp w
  have hl:p.kind≠.legs:=by rcases w with w|w <;> rw[w] <;> decide
  have e:(aA C p).fields=List.replicate p.places (C.headsOf p.race):=nm hl;rw[e,X4];exact⟨vc (lz hP),iD w⟩
 have NH:how=0->p.kind≠.legs->sets.length=p.places/\∀s∈sets,bH (C.headsOf p.race) s:=λhz hl=>by
  rw[Xv hz] at h;have e:(aA C p).fields=List.replicate p.places (C.headsOf p.race):=nm hl;rw[e] at h;obtain⟨h1,h2⟩:=Ej gh.hi _ [] l sets r (λfd hf=>Yv hf) h;rw[X4] at h1;exact⟨by simpa using h1,λs hs=>(h2 s hs).resolve_left (by simp)⟩
 have Ni:how=1->∃t,sets=[t]/\p.k<=t.length/\bH (C.headsOf p.race) t:=λhz=>by
  obtain⟨f1,f2⟩:=OG (by omega);rw[Xu (by omega),Xv hz,f1,f2] at h;exact yy gh.hi h
 have keyOk:how≠0->how≠1->∃a b,sets=[a,b]/\a.length < p.k/\(∀x∈b,¬x∈a)/\p.k<=a.length+b.length/\bH (C.headsOf p.race) a/\bH (C.headsOf p.race) b:=λh0 h1=>by
  obtain⟨f1,f2⟩:=OG h0;rw[Xu h0,Xu h1,f1,f2] at h;obtain⟨a,b,z1,z2,z3,z4,z5,z6,_⟩:=ym gh.hi h;exact⟨a,b,z1,z2,z3,z4,z5,z6⟩
 refine⟨hi,λ_=>gh,λh1 h2=>?_,λh1 s hs=>?_,λh1=>?_,λh1=>vk.mpr (OF (.inr h1)),λh1 h2 h3=>?_,λh1=>?_,λh1=>?_⟩
 · refine⟨?_,hP.GJ⟩;have:=hP.Iq;have e2:leastK p.kind=2:=by
    cases hk:p.kind with
    |place=>exact absurd hk h2
    |order=>rfl
    |any=>rfl
    |legs=>exact absurd hk h1
   omega
 · by_cases z0:how=0
   · exact (NH z0 h1).2 s hs
   · by_cases z1:how=1
     · obtain⟨t,e,_,g⟩:=Ni z1;have hs:s∈sets:=hs;rw[e,XI] at hs;subst hs;exact g
     · obtain⟨a,b,e,_,_,_,g1,g2⟩:=keyOk z0 z1;have hs:s∈sets:=hs;rw[e] at hs;rcases Xx.mp hs with rfl|hs
       · exact g1
       · rw[XI] at hs;subst hs;exact g2
 · have z0:=OF (.inl h1);refine⟨vk.mpr z0,?_⟩;have:=(NH z0 (by rw[h1];decide)).1;rw[show p.places=1 by unfold Pool.places;rw[Xv h1]] at this;exact this
 · have z0:=vk.mp h3;have:=(NH z0 h1).1;rw[show p.places=p.k by unfold Pool.places;rw[Xu h2]] at this;exact this
 · obtain⟨t,e,hk,_⟩:=Ni (BC.mp h1);exact⟨t,e,hk⟩
 · obtain⟨z0,z1⟩:=CV.mp h1;obtain⟨a,b,e,h2,h3,h4,_⟩:=keyOk z0 z1;exact⟨a,b,e,h2,h3,h4⟩
theorem zc {C:Card}(o:cn C){i:Nat}{p:Pool}(hi:C.pool i=p)(hP:dX C p){how stake e:Nat}{l r:List Word}{sets:aad}(way:how=0∨cT (aA C p)=true)(h:fD e (aA C p) how l=.ok (sets,r)) :
  countM p.kind (ck how) (aA C p).fields.length sets=C.manyOf ⟨i,ck how,sets,stake⟩:=by
 rw[tN (CC o hi hP way h)];show _=countM p.kind (ck how) p.k sets;by_cases h0:how=0
 · rw[vk.mpr h0];rfl
 · have w:p.kind=.order∨p.kind=.any:=by
    rcases way with w|w
    · exact absurd w h0
    · exact ke.mp w
   have hl:p.kind≠.legs:=by rcases w with w|w <;> rw[w] <;> decide
   have e:(aA C p).fields=List.replicate p.places (C.headsOf p.race):=gP hP hl;rw[e,X4,iD w]
def qS (h:How):Nat:=match h with
 |.on=>0
 |.box=>1
 |.key=>2
theorem Fc {h:Nat}(h2:h<=2):qS (ck h)=h:=by
 have:h=0∨h=1∨h=2:=by omega
 rcases this with rfl|rfl|rfl <;> rfl
def sJ (x:Except Fault Bet):Except Fault bO:=match x with
 |.error t=>.error t
 |.ok b=>.ok ⟨b.pool,qS b.how,b.stake,b.sets⟩
def jm (C:Card)(hp sp:Nat)(b:Bet):Except Fault Bet:=holds (decide (0 < C.manyOf b)) 6 hp >>= λ_=>holds (decide (b.stake*C.manyOf b<=COST)) 7 sp >>= λ_=>pure b
theorem Eg {C:Card}{i how stake hp sp:Nat}{p:Pool}{sets:aad}(h2:how<=2)(hm:countM p.kind (ck how) (aA C p).fields.length sets=C.manyOf ⟨i,ck how,sets,stake⟩) :
  Gf i how stake hp sp (aA C p) sets=sJ (jm C hp sp ⟨i,ck how,sets,stake⟩):=by
 have hm:countM (aA C p).kind (ck how) (aA C p).fields.length sets=C.manyOf ⟨i,ck how,sets,stake⟩:=hm;unfold Gf jm;rw[hm];generalize C.manyOf ⟨i,ck how,sets,stake⟩=m;by_cases h0:m=0
 · rw[Xv h0];unfold holds;rw[Xu (by simp[h0])];rfl
 · rw[Xu h0];unfold holds;rw[Xv (show decide (0 < m)=true from X9 (by omega))];by_cases h1:2147483647 < stake*m
   · rw[Xv h1];show _=sJ ((if decide (stake*m<=COST)=true then Except.ok () else .error ⟨7,sp⟩) >>= λ_=>pure _);rw[Xu (by rw[XB];unfold COST;omega)];rfl
   · rw[Xu h1];show _=sJ ((if decide (stake*m<=COST)=true then Except.ok () else .error ⟨7,sp⟩) >>= λ_=>pure _);rw[Xv (by rw[XB];unfold COST;omega)];show _=Except.ok (⟨i,qS (ck how),stake,sets⟩:bO);rw[Fc h2]
def qY (C:Card)(e i:Nat)(p:Pool)(stake sp:Nat)(l:List Word):Except Fault Bet:=next e l >>= λw =>
 if w.1.w=ascii "on" then (setsIn e (if p.kind=.legs then C.sets p else List.replicate p.places (C.headsOf p.race)) w.2).map (λ(q:aad)=>(⟨i,.on,q,stake⟩:Bet)) >>= λb=>jm C w.1.at_ sp b
 else if w.1.w=ascii "box"/\(p.kind==.order||p.kind==.any)=true then (boxIn e p (C.headsOf p.race) w.2).map (λ(q:aad)=>(⟨i,.box,q,stake⟩:Bet)) >>= λb=>jm C w.1.at_ sp b
 else if w.1.w=ascii "key"/\(p.kind==.order||p.kind==.any)=true then (keyIn e p (C.headsOf p.race) w.2).map (λ(q:aad)=>(⟨i,.key,q,stake⟩:Bet)) >>= λb=>jm C w.1.at_ sp b
 else (.error ⟨3,w.1.at_⟩:Except Fault Bet) >>= λb=>jm C w.1.at_ sp b
theorem pd {C:Card}(o:cn C){i:Nat}{p:Pool}(hi:C.pool i=p)(hP:dX C p){e how stake hp sp:Nat}(h2:how<=2)(way:how=0∨cT (aA C p)=true){r:List Word}{x:Except Fault (aad)}(hx:x=jb (fD e (aA C p) how r)) :
  xX e i how stake hp sp (aA C p) (fD e (aA C p) how r)=sJ ((x.map λ(q:aad)=>(⟨i,ck how,q,stake⟩:Bet)) >>= λb=>jm C hp sp b):=by
 subst hx;unfold xX;cases hs:fD e (aA C p) how r with
 |error t=>rfl
 |ok y =>
  obtain⟨sets,r'⟩:=y;cases r' with
  |nil =>
   show Gf i how stake hp sp (aA C p) sets=sJ (jm C hp sp ⟨i,ck how,sets,stake⟩);exact Eg h2 (zc o hi hP way hs)
  |cons w r'=>rfl
theorem AW {C:Card}(o:cn C){i:Nat}{p:Pool}(hi:C.pool i=p)(hP:dX C p){e stake sp:Nat}{l:List Word}:Jb e i (aA C p) stake sp l=sJ (qY C e i p stake sp l):=by
 cases l with
 |nil=>rfl
 |cons w r =>
  show (match ji (aA C p) w.w with
   |none=>(Except.error ⟨3,w.at_⟩:Except Fault bO)
   |some how=>xX e i how stake w.at_ sp (aA C p) (fD e (aA C p) how r))=sJ (if w.w=ascii "on" then (setsIn e (if p.kind=.legs then C.sets p else List.replicate p.places (C.headsOf p.race)) r).map (λ(q:aad)=>(⟨i,.on,q,stake⟩:Bet)) >>= λb=>jm C w.at_ sp b
   else if w.w=ascii "box"/\cT (aA C p)=true then (boxIn e p (C.headsOf p.race) r).map (λ(q:aad)=>(⟨i,.box,q,stake⟩:Bet)) >>= λb=>jm C w.at_ sp b
   else if w.w=ascii "key"/\cT (aA C p)=true then (keyIn e p (C.headsOf p.race) r).map (λ(q:aad)=>(⟨i,.key,q,stake⟩:Bet)) >>= λb=>jm C w.at_ sp b
   else (.error ⟨3,w.at_⟩:Except Fault Bet) >>= λb=>jm C w.at_ sp b)
  have fld:cT (aA C p)=true->(aA C p).fields.getD 0 []=C.headsOf p.race/\(aA C p).fields.length=p.k:=λhw=>by
   have w:=ke.mp hw;have hl:p.kind≠.legs:=by rcases w with w|w <;> rw[w] <;> decide
   have e:(aA C p).fields=List.replicate p.places (C.headsOf p.race):=gP hP hl;rw[e,X4];exact⟨vc (lz hP),iD w⟩
  unfold ji;by_cases c0:w.w=ascii "on"
  · rw[Xv c0,Xv c0];refine pd o hi hP (by decide) (.inl rfl) ?_;rw[JP];rfl
  · rw[Xu c0,Xu c0];by_cases c1:w.w=ascii "box"/\cT (aA C p)=true
    · rw[Xv c1,Xv c1];refine pd (how:=1) o hi hP (by decide) (.inr c1.2) ?_;obtain⟨f1,f2⟩:=fld c1.2;rw[H_];unfold fD;rw[Xu (by decide),Xv rfl,f1,f2]
    · rw[Xu c1,Xu c1];by_cases c2:w.w=ascii "key"/\cT (aA C p)=true
      · rw[Xv c2,Xv c2];refine pd (how:=2) o hi hP (by decide) (.inr c2.2) ?_;obtain⟨f1,f2⟩:=fld c2.2;rw[Gb];unfold fD;rw[Xu (by decide),Xu (by decide),f1,f2]
      · rw[Xu c2,Xu c2];rfl
def tail3 (C:Card)(e i:Nat)(p:Pool)(l:List Word):Except Fault Bet:=must e "for" l >>= λm=>number e 1 STAKE m >>= λs=>holds (s.1.1 % p.unit==0) 4 s.1.2 >>= λ_=>qY C e i p s.1.1 s.1.2 s.2
theorem Ae {u:Nat}(hu:1<=u){v:Bytes}:eD u (tx v)↔∃n,numberOf v=some n/\1<=n/\n<=1000000/\n % u=0/\(ay (tx v)).toNat=n:=by
 unfold eD;constructor
 · rintro⟨h1,h2,h3⟩;obtain⟨n,e,a,b,c⟩:=(fj (w:=v) (lo:=1) (hi:=1000000) (by decide)).mp ⟨h1,h2⟩;refine⟨n,e,a,b,?_,by omega⟩;rw[c] at h3;have:((n % u:Nat):Int)=0:=by rw[Int.natCast_emod];exact h3
   omega
 · rintro⟨n,e,a,b,c,d⟩;obtain⟨h1,h2⟩:=(fj (w:=v) (lo:=1) (hi:=1000000) (by decide)).mpr ⟨n,e,a,b,by rw[(dY (w:=v) (m:=n) (by omega)).mpr e]⟩;refine⟨h1,h2,?_⟩;rw[(dY (w:=v) (m:=n) (by omega)).mpr e,←Int.natCast_emod,c];rfl
theorem Bo {C:Card}(o:cn C){i:Nat}{p:Pool}(hi:C.pool i=p)(hP:dX C p){e:Nat}{l:List Word}:A8 e i (aA C p) l=sJ (tail3 C e i p l):=by
 unfold A8 tail3;cases hm:must e "for" l with
 |error t=>rfl
 |ok m =>
  show Jm e i (aA C p) m=sJ (number e 1 STAKE m >>= λs=>holds (s.1.1 % p.unit==0) 4 s.1.2 >>= λ_=>qY C e i p s.1.1 s.1.2 s.2);cases m with
  |nil=>rfl
  |cons w r =>
   show (if eD p.unit (tx w.w) then Jb e i (aA C p) (ay (tx w.w)).toNat w.at_ r else .error ⟨4,w.at_⟩)=sJ ((match numberOf w.w with
    |none=>.error ⟨4,w.at_⟩
    |some n=>if n < 1∨STAKE < n then .error ⟨4,w.at_⟩ else pure ((n,w.at_),r)) >>= λs=>holds (s.1.1 % p.unit==0) 4 s.1.2 >>= λ_=>qY C e i p s.1.1 s.1.2 s.2)
   have key:=Ae hP.unit (v:=w.w);cases hn:numberOf w.w with
   |none =>
    rw[Xu (λz=>by obtain⟨n,e,_⟩:=key.mp z;rw[hn] at e;cases e)];rfl
   |some n =>
    show _=sJ ((if n < 1∨STAKE < n then .error ⟨4,w.at_⟩ else pure ((n,w.at_),r)) >>= λs=>holds (s.1.1 % p.unit==0) 4 s.1.2 >>= λ_=>qY C e i p s.1.1 s.1.2 s.2);by_cases c:n < 1∨STAKE < n
    · rw[Xv c,Xu (λz=>by
       obtain⟨n',e,a,b,_⟩:=key.mp z;rw[hn] at e;injection e with e;unfold STAKE at c;omega)]
      rfl
    · rw[Xu c];show _=sJ (holds (n % p.unit==0) 4 w.at_ >>= λ_=>qY C e i p n w.at_ r);unfold holds;by_cases d:n % p.unit=0
      · have hs:eD p.unit (tx w.w):=key.mpr ⟨n,hn,by omega,by unfold STAKE at c;omega,d,by
         rw[(dY (w:=w.w) (m:=n) (by unfold STAKE at c;omega)).mpr hn];rfl⟩
        rw[Xv hs,Xv (by rw[d];rfl)];have en:(ay (tx w.w)).toNat=n:=by rw[(dY (w:=w.w) (m:=n) (by unfold STAKE at c;omega)).mpr hn];rfl
        rw[en];exact AW o hi hP
      · rw[Xu (λz=>by
         obtain⟨n',e,_,_,h,_⟩:=key.mp z;rw[hn] at e;injection e with e;subst e;exact d h),Xu (by simpa using d)]
        rfl
theorem B7 {C:Card}(o:cn C){e:Nat}{l:List Word}:Cq e (C.pools.map (aA C)) l=sJ (C.betIn ⟨l,e⟩):=by
 have eb:C.betIn ⟨l,e⟩=(must e "bet" l >>= λm=>next e m >>= λn=>match C.pools.findIdx? λ(p:Pool)=>p.name==n.1.w with
  |none=>.error ⟨5,n.1.at_⟩
  |some i=>tail3 C e i (C.pool i) n.2):=rfl
 rw[eb];unfold Cq;cases hm:must e "bet" l with
 |error t=>rfl
 |ok m =>
  show Jv e (C.pools.map (aA C)) m=sJ (next e m >>= λn=>match C.pools.findIdx? λ(p:Pool)=>p.name==n.1.w with
   |none=>.error ⟨5,n.1.at_⟩
   |some i=>tail3 C e i (C.pool i) n.2)
  cases m with
  |nil=>rfl
  |cons n r =>
   show (match dP (C.pools.map (aA C)) (tx n.w) with
    |none=>(Except.error ⟨5,n.at_⟩:Except Fault bO)
    |some i=>match (C.pools.map (aA C))[i]? with
     |none=>.error ⟨5,n.at_⟩
     |some p=>A8 e i p r)=sJ (match C.pools.findIdx? λ(p:Pool)=>p.name==n.w with
    |none=>.error ⟨5,n.at_⟩
    |some i=>tail3 C e i (C.pool i) r)
   rw[Dk o];cases hf:C.pools.findIdx? λ(p:Pool)=>p.name==n.w with
   |none=>rfl
   |some i =>
    have LM:i < C.pools.length:=by
     rw[ZK] at hf;exact hf.1
    have hg:(C.pools.map (aA C))[i]?=some (aA C C.pools[i]):=by rw[Xy,XD LM];rfl
    have hp:C.pool i=C.pools[i]:=by unfold Card.pool;rw[XD LM];rfl
    show (match (C.pools.map (aA C))[i]? with
     |none=>(Except.error ⟨5,n.at_⟩:Except Fault bO)
     |some p=>A8 e i p r)=sJ (tail3 C e i (C.pool i) r)
    rw[hg];show A8 e i (aA C C.pools[i]) r=_;rw[Bo o hp (o.pools _ (Zk LM)),hp]
def cZ (ps:List aK)(b:Bytes):Except Fault bO:=match upTo b with
 |none=>.error ⟨1,b.length⟩
 |some (l,r)=>match badByte true 0 l with
  |some i=>.error ⟨2,i⟩
  |none=>match Cq l.length ps (wordsFrom 0 [] l) with
   |.error t=>.error t
   |.ok x=>if r=[] then .ok x else .error ⟨8,l.length+1⟩
def FY (ps:List aK)(l r:Bytes):Except Fault bO:=match badByte true 0 l with
  |some i=>.error ⟨2,i⟩
  |none=>match Cq l.length ps (wordsFrom 0 [] l) with
   |.error t=>.error t
   |.ok x=>if r=[] then .ok x else .error ⟨8,l.length+1⟩
theorem wI {ps:List aK}{b:Bytes}(h:upTo b=none):cZ ps b=.error ⟨1,b.length⟩:=by
 unfold cZ;rw[h]
theorem xR {ps:List aK}{b l r:Bytes}(h:upTo b=some (l,r)):cZ ps b=FY ps l r:=by
 unfold cZ;rw[h];rfl
def fN (t b:Bytes):Except (List Int) bO:=if 65536 < t.length∨4096 < b.length then .error [-2] else match dF (tx t) with
 |none=>.error [-8]
 |some ps=>match cZ ps b with
  |.error f=>.error [-6,(f.kind:Nat),(f.place:Nat)]
  |.ok y=>.ok y
theorem ES {C:Card}(o:cn C)(b:Bytes):cZ (C.pools.map (aA C)) b=sJ (C.readBet b):=by
 unfold cZ Card.readBet;cases upTo b with
 |none=>rfl
 |some x =>
  obtain⟨l,r⟩:=x;show (match badByte true 0 l with
   |some i=>(Except.error ⟨2,i⟩:Except Fault bO)
   |none=>match Cq l.length (C.pools.map (aA C)) (wordsFrom 0 [] l) with
    |.error t=>.error t
    |.ok x=>if r=[] then .ok x else .error ⟨8,l.length+1⟩)=sJ (match badByte true 0 l with
   |some i=>.error ⟨2,i⟩
   |none=>match C.betIn ⟨wordsFrom 0 [] l,l.length⟩ with
    |.error e=>.error e
    |.ok x=>if r.isEmpty=true then .ok x else .error ⟨8,l.length+1⟩)
  cases badByte true 0 l with
  |some i=>rfl
  |none =>
   show (match Cq l.length (C.pools.map (aA C)) (wordsFrom 0 [] l) with
    |.error t=>(Except.error t:Except Fault bO)
    |.ok x=>if r=[] then .ok x else .error ⟨8,l.length+1⟩)=sJ (match C.betIn ⟨wordsFrom 0 [] l,l.length⟩ with
    |.error e=>.error e
    |.ok x=>if r.isEmpty=true then .ok x else .error ⟨8,l.length+1⟩)
   rw[B7 o];cases C.betIn ⟨wordsFrom 0 [] l,l.length⟩ with
   |error t=>rfl
   |ok x =>
    cases r with
    |nil=>rfl
    |cons c r=>rfl
theorem BF (t:Bytes)(ps:List aK)(h:dF (tx t)=some ps):∀p∈ps,Fg p:=by
 cases hc:readCard t with
 |error e=>rw[(my t).2 e hc] at h;cases h
 |ok C =>
  obtain⟨o,_,h2⟩:=(my t).1 C hc;rw[h2] at h;injection h with h;subst h;intro p hp;obtain⟨q,hq,rfl⟩:=X3.mp hp;exact Lj o (o.pools q hq)
def GL (a:Ans):List Int:=a.code::a.nums
theorem E1 (h:How):ck (qS h)=h:=by cases h <;> rfl
theorem DD (t b:Bytes):(∃z:Int,fN t b=.error [z]/\∀G,ToteBetCalls.ofBet t b G=says z)∨(∃k p:Int,fN t b=.error [-6,k,p]/\∀G,ToteBetCalls.ofBet t b G=says (-6)) ∨
  ∃(C:Card) (x:Bet),cn C/\dF (tx t)=some (C.pools.map (aA C))/\fN t b=.ok ⟨x.pool,qS x.how,x.stake,x.sets⟩/\∀G,ToteBetCalls.ofBet t b G=G C x:=by
 by_cases hb:4096 < b.length
 · left;refine⟨-2,?_,λG=>Xv (show ToteBetCalls.LOOKED < b.length from hb)⟩;unfold fN;exact Xv (.inr hb)
 have eO:∀G,ToteBetCalls.ofBet t b G=ofCard t λC=>match C.readBet b with
  |.error _=>says (-6)
  |.ok x=>G C x:=λG=>Xu (show ¬ToteBetCalls.LOOKED < b.length from hb)
 by_cases ht:65536 < t.length
 · left;refine⟨-2,?_,λG=>(eO G).trans (Xv (show TEXT < t.length from ht))⟩;unfold fN;exact Xv (.inl ht)
 have eL:fN t b=match dF (tx t) with
  |none=>.error [-8]
  |some ps=>match cZ ps b with
   |.error f=>.error [-6,(f.kind:Nat),(f.place:Nat)]
   |.ok y=>.ok y:=by
  unfold fN;exact Xu (by omega)
 have eC:∀G,ToteBetCalls.ofBet t b G=match readCard t with
  |.error _=>says (-8)
  |.ok C=>match C.readBet b with
   |.error _=>says (-6)
   |.ok x=>G C x:=λG=>(eO G).trans (Xu (show ¬TEXT < t.length from ht))
 cases hc:readCard t with
 |error e =>
  left;refine⟨-8,?_,λG=>?_⟩
  · rw[eL,(my t).2 e hc]
  · rw[eC,hc]
 |ok C =>
  right;obtain⟨o,_,h2⟩:=(my t).1 C hc;have eR:fN t b=match cZ (C.pools.map (aA C)) b with
   |.error f=>.error [-6,(f.kind:Nat),(f.place:Nat)]
   |.ok y=>.ok y:=by rw[eL,h2]
  rw[ES o] at eR;cases hr:C.readBet b with
  |error e =>
   left;rw[hr] at eR;exact⟨(e.kind:Nat),(e.place:Nat),eR,λG=>by rw[eC,hc];show (match C.readBet b with|.error _=>_|.ok x=>_)=_;rw[hr]⟩
  |ok x =>
   right;rw[hr] at eR;exact⟨C,x,o,h2,eR,λG=>by rw[eC,hc];show (match C.readBet b with|.error _=>_|.ok x=>_)=_;rw[hr]⟩
def Rs (t b:Bytes)(g:bO->aK->List Int)(zs:List Int):Prop :=
 (∃xs,fN t b=.error xs/\zs=xs.take 1)∨∃y ps p,fN t b=.ok y/\dF (tx t)=some ps/\ps[y.pool]?=some p/\uC p y.how y.sets/\zs=g y p
theorem AY {t b:Bytes}{g:bO->aK->List Int}{G:Card->Bet->Ans}{zs:List Int}(h:Rs t b g zs)
  (hg:∀(C:Card) (x:Bet),cn C->∀p∈C.pools,C.pool x.pool=p->uC (aA C p) (qS x.how) x.sets->g ⟨x.pool,qS x.how,x.stake,x.sets⟩ (aA C p)=GL (G C x)):zs=GL (ToteBetCalls.ofBet t b G):=by
 rcases DD t b with ⟨z,h1,h2⟩|⟨k,p,h1,h2⟩|⟨C,x,o,h0,h1,h2⟩
 · rw[h2];rcases h with ⟨xs,e,rfl⟩|⟨y,ps,p,e,_⟩
   · rw[h1] at e;cases e;rfl
   · rw[h1] at e;cases e
 · rw[h2];rcases h with ⟨xs,e,rfl⟩|⟨y,ps,p,e,_⟩
   · rw[h1] at e;cases e;rfl
   · rw[h1] at e;cases e
 · rw[h2];rcases h with ⟨xs,e,rfl⟩|⟨y,ps,p,e,e1,e2,m,rfl⟩
   · rw[h1] at e;cases e
   · rw[h1] at e;cases e;rw[h0] at e1;cases e1;rw[Xy] at e2;obtain⟨q,hq,rfl⟩:=X5.mp e2;exact hg C x o q (XZ hq) (by unfold Card.pool;rw[hq];rfl) m
def CQ (y:bO)(p:aK):List Int:=[0,(countM p.kind (ck y.how) p.fields.length y.sets:Nat)]
theorem D3 {C:Card}{x:Bet}(o:cn C){p:Pool}(hp:p∈C.pools)(hi:C.pool x.pool=p)(m:uC (aA C p) (qS x.how) x.sets):countM (aA C p).kind (ck (qS x.how)) (aA C p).fields.length x.sets=C.manyOf x:=by
 obtain⟨e,l,r,hr⟩:=m.read;have z:=zc (stake:=x.stake) o hi (o.pools p hp) m.way hr;refine z.trans ?_;rw[E1]
theorem AR {t b:Bytes}{zs:List Int}(h:Rs t b CQ zs):zs=GL (ToteBetCalls.answer (.many t b)):=by
 refine AY h λC x o p hp hi m=>?_;show [0,((countM (aA C p).kind (ck (qS x.how)) (aA C p).fields.length x.sets:Nat):Int)]=_;rw[D3 o hp hi m];rfl
theorem rF (x:Nat):∀(ss:aad) (b:Nat) (s:aae),bitsOf x b (ss++[s])=bitsOf x b ss++(if s.contains x=true then [b*2 ^ ss.length] else [])
 |[],b,s=>by
  show (if s.contains x=true then [b] else [])++[]=[]++(if s.contains x=true then [b*2 ^ 0] else []);simp
 |t::ss,b,s=>by
  show (if t.contains x=true then [b] else [])++bitsOf x (2*b) (ss++[s])=((if t.contains x=true then [b] else [])++bitsOf x (2*b) ss)++_;rw[rF x ss (2*b) s,YX];have e:2*b*2 ^ ss.length=b*2 ^ (t::ss).length:=by
   rw[XE,Zy,ZL 2 b,Nat.mul_assoc,ZL 2]
  rw[e]
theorem vI (x:Nat):∀(ss:aad) (b:Nat),∀c∈bitsOf x b ss,∃p,p < ss.length/\c=b*2 ^ p
 |[],b,c,h=>by cases h
 |t::ss,b,c,h=>by
  have h:c∈(if t.contains x=true then [b] else [])++bitsOf x (2*b) ss:=h;rcases Yj.mp h with h|h
  · split at h
    · rw[XI] at h;exact⟨0,by simp,by simp[h]⟩
    · cases h
  · obtain⟨p,h1,h2⟩:=vI x ss (2*b) c h;exact⟨p+1,by simp;omega,by rw[h2,Zy,ZL 2 b,Nat.mul_assoc,ZL 2]⟩
theorem o5 (x:Nat):∀(ss:aad) (b:Nat),(bitsOf x b ss).length<=ss.length
 |[],b=>XC _
 |t::ss,b=>by
  show ((if t.contains x=true then [b] else [])++bitsOf x (2*b) ss).length<=_;rw[XS,XE];have:=o5 x ss (2*b);split
  · simp;omega
  · simp;omega
theorem Ek {m p:Nat}:(m &&& 2 ^ p≠0)↔bF m (2 ^ p)=true:=by
 unfold bF;have e:(m / 2 ^ p % 2==1)=m.testBit p:=by
  rw[Nat.testBit_eq_decide_div_mod_eq,X8,Yk,XB]
 rw[e];constructor
 · intro h;cases ht:m.testBit p with
   |true=>rfl
   |false =>
    refine absurd (Nat.eq_of_testBit_eq λi=>?_) h;rw[Nat.testBit_and,Nat.testBit_two_pow,Nat.zero_testBit];by_cases c:p=i
    · subst c;rw[ht];rfl
    · rw[Yi c,Bool.and_false]
 · intro h z;have:=YA (λn=>Nat.testBit n p) z;simp only[Nat.testBit_and,Nat.testBit_two_pow,Nat.zero_testBit,h] at this;simp at this
theorem GU {m b:Nat}(h:bF m b=true)(hb:0 < b):b<=m:=by
 unfold bF at h;rw[Yk] at h;by_cases z:b<=m
 · exact z
 · rw[Nat.div_eq_of_lt (by omega)] at h;cases h
theorem A9:∀(ss:aad) (m:Nat),1<=m->m < 2 ^ ss.length->sel m ss≠[]
 |[],m,h1,h2=>by simp at h2;omega
 |s::ss,m,h1,h2=>by
  rw[pV];by_cases h:m % 2=1
  · rw[Xv h];simp
  · rw[Xu h];have:=A9 ss (m / 2) (by omega) (by rw[XE,Zy] at h2;omega);simpa using this
def pB (x:Nat)(z:Nat):Bool:=decide (1<=z)&&decide (z < x)
theorem D4 {x:Nat}(hx:1<=x):(λz=>pB x z||z==x)=pB (x+1):=by
 funext z;unfold pB;rw[X8];simp;omega
theorem Ir (x:Nat):pB x x=false:=by unfold pB;simp
theorem Gs:pB 1=λ_=>false:=by
 funext z;unfold pB;rw[Bool.eq_false_iff];simp;omega
theorem Hd:pB 25=lC:=by
 funext z;unfold pB lC;rw[X8];simp;omega
def cA (ss:aad)(x m:Nat):Nat:=dm (sel m ss) (pB x)
theorem pY (ss:aad)(x:Nat):cA ss x 0=1:=by
 unfold cA;rw[u_];rfl
theorem DP {ss:aad}{m:Nat}(h1:1<=m)(h2:m < 2 ^ ss.length):cA ss 1 m=0:=by
 unfold cA;rw[Gs];have:=A9 ss m h1 h2;cases hs:sel m ss with
 |nil=>exact absurd hs this
 |cons s r =>
  unfold dm;have e:s.filter (λ_=>false)=[]:=by
   rw[List.filter_eq_nil_iff];intro _ _ z;cases z
  rw[e];rfl
theorem B0 {ss:aad}(nd:∀s∈ss,s.Nodup){x m:Nat}(hx:1<=x):cA ss (x+1) m=cA ss x m+(((bitsOf x 1 ss).filter (bF m)).map λb=>cA ss x (m - b)).sum:=by
 unfold cA;rw[←D4 hx];exact As x m ss (pB x) nd (Ir x)
theorem Cy {ss:aad}:cA ss 25 (2 ^ ss.length - 1)=dm ss lC:=by
 unfold cA;rw[uE,Hd]
def jA (ss:aad)(x f i:Nat):aae:=(List.range (f+1)).map λm=>if f - i < m then cA ss (x+1) m else cA ss x m
def tab (ss:aad)(x f:Nat):aae:=(List.range (f+1)).map λm=>cA ss x m
theorem C0 (ss:aad)(x f:Nat):jA ss x f 0=tab ss x f:=by
 unfold jA tab;refine Yn λm hm=>?_;have:=Zh.mp hm;rw[Xu (by omega)]
theorem CL (ss:aad)(x f:Nat):jA ss x f f=tab ss (x+1) f:=by
 unfold jA tab;refine Yn λm hm=>?_;by_cases h:m=0
 · subst h;rw[Xu (by omega),pY,pY]
 · rw[Xv (by omega)]
theorem tj {ss:aad}{x f i m:Nat}(h:m<=f):(jA ss x f i)[m]?=some (if f - i < m then cA ss (x+1) m else cA ss x m):=by
 unfold jA;rw[Xy,Zd (by omega)];rfl
theorem B3 {ss:aad}{x f m:Nat}(h:m<=f):(tab ss x f)[m]?=some (cA ss x m):=by
 unfold tab;rw[Xy,Zd (by omega)];rfl
theorem BP {ss:aad}{x f i:Nat}(hi:i < f):(jA ss x f i).set (f - i) (cA ss (x+1) (f - i))=jA ss x f (i+1):=by
 refine ZQ λm=>?_;rw[List.getElem?_set];have hl:(jA ss x f i).length=f+1:=by unfold jA;rw[Xs,ZM]
 by_cases hm:m<=f
 · rw[tj (i:=i+1) hm];by_cases e:f - i=m
   · rw[Xv e,Xv (by omega),Xv (by omega),e]
   · rw[Xu e,tj hm];congr 1;by_cases h2:f - i < m
     · rw[Xv h2,Xv (by omega)]
     · rw[Xu h2,Xu (by omega)]
 · have U1:(jA ss x f (i+1)).length=f+1:=by unfold jA;rw[Xs,ZM]
   rw[Xu (by omega),Yx (by omega),Yx (by omega)]
theorem zo {ss:aad}:[1]++List.replicate (2 ^ ss.length - 1) 0=tab ss 1 (2 ^ ss.length - 1):=by
 have hp:0 < 2 ^ ss.length:=Nat.pow_pos (by decide);refine ZQ λm=>?_;by_cases hm:m<=2 ^ ss.length - 1
 · rw[B3 hm];cases m with
   |zero=>rw[pY];rfl
   |succ m =>
    rw[DP (by omega) (by omega)];show (List.replicate (2 ^ ss.length - 1) 0)[m]?=some 0;rw[List.getElem?_replicate,Xv (by omega)]
 · unfold tab;rw[Yx (by simp;omega),Yx (by simp;omega)]
def iG (g:aad)(s:aae):Bool:=(s.zip g).all λz=>z.2.contains z.1
def kM (g:aad)(s:aae):Nat:=if iG g s=true then product ((g.drop s.length).map List.length) else 0
def gF (s t:aae):aae:=t.filter λx=>!s.contains x
def tO (g:aad)(s:aae):Nat:=if iG g s=true/\s.Nodup then dm ((g.drop s.length).map (gF s)) lC else 0
def pre (R:aad)(s:aae):Nat:=R.countP λr=>s.isPrefixOf r
theorem kl {α:Type}{p q:Prop} [Decidable p] [Decidable q] {a b:α}(h:p↔q):(if p then a else b)=if q then a else b:=by
 by_cases z:p
 · rw[Xv z,Xv (h.mp z)]
 · rw[Xu z,Xu λy=>z (h.mpr y)]
theorem mm (R:aad):pre R []=R.length:=by
 unfold pre;rw[List.countP_eq_length];intro r _;simp
theorem CO {x y:Nat}{s:aae}(R:aad):pre (R.map λr=>y::r) (x::s)=if (y==x)=true then pre R s else 0:=by
 unfold pre;rw[List.countP_map];by_cases e:y=x
 · rw[Xv (by simpa using e)];congr 1;funext r;simp[e]
 · rw[Xu (by simpa using e),List.countP_eq_zero];intro r _;have:¬x=y:=λz=>e z.symm;simp[this]
theorem vU {x:Nat}{s t:aae}(nd:t.Nodup)(f:Nat->aad):pre (t.flatMap λy=>(f y).map λr=>y::r) (x::s)=if t.contains x=true then pre (f x) s else 0:=by
 have e:pre (t.flatMap λy=>(f y).map λr=>y::r) (x::s)=(t.map λy=>if (y==x)=true then pre (f x) s else 0).sum:=by
  unfold pre;rw[List.countP_flatMap];refine YA List.sum (Yn λy _=>?_);show pre ((f y).map λr=>y::r) (x::s)=_;rw[CO];by_cases z:y=x
  · subst z;rfl
  · rw[Xu (by simpa using z),Xu (by simpa using z)]
 rw[e,nS,lH nd];split <;> simp
theorem uZ:∀(g:aad) (s:aae),(∀t∈g,t.Nodup)->s.length<=g.length->kM g s=pre (rowsOf g) s
 |g,[],_,_=>by
  rw[mm,jR];unfold kM iG;simp
 |[],x::s,_,h=>by simp at h
 |t::g,x::s,nd,h=>by
  have ih:=uZ g s (λu hu=>nd u (by simp[hu])) (by simpa using h);unfold rowsOf;rw[vU (nd t (by simp)) λ_=>rowsOf g,←ih];unfold kM iG;simp only[List.zip_cons_cons,ZH,XE,List.drop_succ_cons,XA];by_cases c:t.contains x=true
  · rw[Xv c];by_cases d:((s.zip g).all λz=>z.2.contains z.1)=true
    · rw[Xv d,Xv ⟨c,d⟩]
    · rw[Xu d,Xu λz=>d z.2]
  · rw[Xu c,Xu λz=>c z.1]
theorem uT:∀(g:aad) (s had:aae),(∀t∈g,t.Nodup)->s.length<=g.length->pre (apartRows g had) s=if iG g s=true/\s.Nodup/\∀x∈s,¬x∈had then dm (g.drop s.length) (λz=>!had.contains z&&!s.contains z) else 0
 |g,[],had,_,_=>by
  rw[mm,r9,Xv ⟨by simp[iG],by simp,by simp⟩];simp
 |[],x::s,_,_,h=>by simp at h
 |t::g,x::s,had,nd,h=>by
  have ih:=uT g s (x::had) (λu hu=>nd u (by simp[hu])) (by simpa using h);unfold apartRows;rw[vU ((nd t (by simp)).filter _) λy=>apartRows g (y::had),ih];have ep:(λz=>!(x::had).contains z&&!s.contains z)=λz=>!had.contains z&&!(x::s).contains z:=by
   funext z;simp only[List.contains_cons];cases (z==x) <;> cases had.contains z <;> cases s.contains z <;> rfl
  rw[ep];have eC:(iG (t::g) (x::s)=true/\(x::s).Nodup/\∀y∈x::s,¬y∈had)↔(t.filter λy=>!had.contains y).contains x=true/\(iG g s=true/\s.Nodup/\∀y∈s,¬y∈x::had):=by
   have ei:iG (t::g) (x::s)=true↔x∈t/\iG g s=true:=by unfold iG;simp
   rw[ei,YF,Z0,YB,XB,YD];simp only[Xx,not_or,Yl,YB,Yb];constructor
   · rintro⟨⟨a,b⟩,⟨n,c⟩,d,e⟩;exact⟨⟨a,d⟩,b,c,λy hy=>⟨λz=>n (z ▸ hy),e y hy⟩⟩
   · rintro⟨⟨a,d⟩,b,c,e⟩;exact⟨⟨a,b⟩,⟨λm=>(e x m).1 rfl,c⟩,d,λy hy=>(e y hy).2⟩
  rw[kl eC];by_cases c:(t.filter λy=>!had.contains y).contains x=true
  · rw[Xv c];exact kl ⟨λz=>⟨c,z⟩,λz=>z.2⟩
  · rw[Xu c,Xu λz=>c z.1]
theorem vC {s:aae}:∀(ss:aad) (p:Nat->Bool),dm (ss.map (gF s)) p=dm ss λz=>p z&&!s.contains z
 |[],_=>rfl
 |t::ss,p=>by
  rw[XM];unfold dm gF;rw[List.filter_filter];refine YA List.sum (Yn λy _=>?_);have:=vC (s:=s) ss λz=>p z&&z != y;unfold gF at this;rw[this];congr 1;funext z;dsimp only;cases p z <;> cases s.contains z <;> cases (z != y) <;> rfl
theorem C6 {g:aad}{s:aae}(o:C4 g)(h:s.length<=g.length):tO g s=pre (apartRows g []) s:=by
 rw[uT g s [] (λt ht=>(o.good t ht).1.nodup) h];unfold tO;rw[kl (p:=iG g s=true/\s.Nodup) (q:=iG g s=true/\s.Nodup/\∀x∈s,¬x∈[]) ⟨λ⟨a,b⟩=>⟨a,b,by simp⟩,λ⟨a,b,_⟩=>⟨a,b⟩⟩,vC];congr 1;refine gD _ λt ht y hy=>?_;have m:=Y3 ht;have:=(o.good t m).2 y hy;have:=o.lo t m y hy;unfold lC;simp[*]
theorem zR {gs:List (aad)}{s:aae}(o:uD .order gs)(h:∀g∈gs,s.length<=g.length):(gs.map λg=>tO g s).sum=pre (rA .order gs) s:=by
 show _=pre (gs.flatMap λg=>apartRows g []) s;unfold pre;rw[List.countP_flatMap];exact YA List.sum (Yn λg hg=>C6 (o.ok g hg) (h g hg))
theorem BZ {kd:Kind}{gs:List (aad)}{s:aae}(h1:kd≠.order)(h2:kd≠.any)(o:uD kd gs)(h:∀g∈gs,s.length<=g.length):(gs.map λg=>kM g s).sum=pre (rA kd gs) s:=by
 have e:rA kd gs=gs.flatMap rowsOf:=by
  cases kd with
  |order=>exact absurd rfl h1
  |any=>exact absurd rfl h2
  |place=>rfl
  |legs=>rfl
 rw[e];unfold pre;rw[List.countP_flatMap];exact YA List.sum (Yn λg hg=>uZ g s (λt ht=>((o.ok g hg).good t ht).1.nodup) (h g hg))
def kU (a:Nat)(B:aae)(g:aad)(j:Nat):List (aad):=((List.range j).filter λi=>g.getD i []==B).map λi=>g.take i++[[a]]++g.drop (i+1)
theorem xH (a:Nat)(B:aae)(g:aad)(j:Nat):kU a B g (j+1)=kU a B g j++if (g.getD j []==B)=true then [g.take j++[[a]]++g.drop (j+1)] else []:=by
 unfold kU;rw[List.range_succ,Zn,XO];congr 1;by_cases h:(g.getD j []==B)=true
 · rw[Xv h,YG,Xv h];rfl
 · rw[Xu h,YG,Xu h];rfl
theorem rM (a:Nat)(B:aae):∀g:aad,kU a B g g.length=jq a B g
 |[]=>rfl
 |s::g=>by
  have ih:=rM a B g;unfold kU at ih ⊢;unfold jq;rw[XE,List.range_succ_eq_map,←ih,XX];have e:((List.range g.length).map Nat.succ).filter (λi=>(s::g).getD i []==B)=((List.range g.length).filter λi=>g.getD i []==B).map Nat.succ:=by
   rw[List.filter_map];rfl
  by_cases h:(s==B)=true
  · rw[List.filter_cons_of_pos (by simpa using h),Xv h,e,XM,XX];rfl
  · rw[List.filter_cons_of_neg (by simpa using h),Xu h,e,XX];rfl
theorem wZ {B A:aae}{a:Nat}{gs:List (aad)}:bE B (A++[a]) gs=(bE B A gs).flatMap (jq a B):=by
 unfold bE;rw[List.foldl_append];rfl
theorem yp {B:aae}{k:Nat}:∀{A:aae} {gs:List (aad)},(∀g∈gs,g.length=k)->∀g∈bE B A gs,g.length=k
 |[],_,h=>h
 |a::A,gs,h=>yp (A:=A) (gs:=gs.flatMap (jq a B)) λg hg=>by
  obtain⟨g0,h0,hr⟩:=Zz.mp hg;rw[(oA hr).1,h g0 h0]
theorem zO {a:Nat}{B:aae}{g:aad}{j:Nat}:(kU a B g j).length<=j:=by
 unfold kU;rw[Xs];exact Yh (ZU ..) (by rw[ZM];exact XC _)
end Bw
end
section
set_option Elab.async false
set_option linter.all false
set_option maxRecDepth 100000
namespace L2
open PySem PySem.Spec PyProof.Rows
abbrev Key:=Sum Int Str
def oR:Key->Value->Bool
 |.inl k,v=>Value.isInt k v
 |.inr x,v=>Value.isStrOf x v
def IP (w:World):Key->Int
 |.inl k=>hashInt k
 |.inr x=>hashStr w x
theorem cg:∀{k:Key} {v:Value},oR k v=true->(∃i t,k=Sum.inl i/\v=Value.int i t)∨(∃x t,k=Sum.inr x/\v=Value.str x t)
 |.inl i,v,h=>by
  obtain⟨t,e⟩:=Value.isInt_shape (k:=i) (v:=v) h;exact .inl ⟨i,t,rfl,e⟩
 |.inr x,v,h=>by
  obtain⟨t,e⟩:=Value.isStrOf_shape (x:=x) (v:=v) h;exact .inr ⟨x,t,rfl,e⟩
theorem zq (i:Int)(t:Tok):oR (.inl i) (.int i t)=true:=by simp[oR,Value.isInt]
theorem sG (x:Str)(t:Tok):oR (.inr x) (.str x t)=true:=by simp[oR,Value.isStrOf]
theorem HC (a b:Int):decide ((Sum.inl a:Key)=Sum.inl b)=(a==b):=by
 by_cases e:a=b
 · subst e;simp
 · have h:¬(Sum.inl a:Key)=Sum.inl b:=λq=>e (Sum.inl.inj q);rw[Yi h];exact (X2.mpr e).symm
theorem Hk (a b:Str):decide ((Sum.inr a:Key)=Sum.inr b)=decide (a=b):=by
 by_cases e:a=b
 · subst e;simp
 · have h:¬(Sum.inr a:Key)=Sum.inr b:=λq=>e (Sum.inr.inj q);rw[Yi h,Yi e]
theorem Gd (a:Int)(b:Str):decide ((Sum.inl a:Key)=Sum.inr b)=false:=Yi (λq=>nomatch q)
theorem G9 (a:Str)(b:Int):decide ((Sum.inr a:Key)=Sum.inl b)=false:=Yi (λq=>nomatch q)
def cy (prog:Program)(w:World):PySem.KeyKind prog w Key where
 is:=oR
 hash:=IP w
 inj:=λv a b ha hb=>by
  rcases cg ha with ⟨i,t,rfl,rfl⟩|⟨x,t,rfl,rfl⟩
  · rcases cg hb with ⟨j,u,rfl,e⟩|⟨y,u,rfl,e⟩
    · injection e with e1 _;rw[e1]
    · exact nomatch e
  · rcases cg hb with ⟨j,u,rfl,e⟩|⟨y,u,rfl,e⟩
    · exact nomatch e
    · injection e with e1 _;rw[e1]
 byValue:=λk v h=>by
  rcases cg h with ⟨i,t,rfl,rfl⟩|⟨x,t,rfl,rfl⟩ <;> rfl
 pyHash:=λhv h=>by
  rcases cg hv with ⟨i,t,rfl,rfl⟩|⟨x,t,rfl,rfl⟩
  · exact wpAny_pyHash_int h
  · exact wpAny_pyHash_str h
 eqBool:=λhu hv h=>by
  rcases cg hu with ⟨i,t,rfl,rfl⟩|⟨x,t,rfl,rfl⟩
  · rcases cg hv with ⟨j,u,rfl,rfl⟩|⟨y,u,rfl,rfl⟩
    · rw[HC] at h;exact wpAny_eqBool_int h
    · rw[Gd] at h;exact SeqAt.EqAt.int_str i t y u _ _ _ _ h
  · rcases cg hv with ⟨j,u,rfl,rfl⟩|⟨y,u,rfl,rfl⟩
    · rw[G9] at h;exact SeqAt.EqAt.str_int x t j u _ _ _ _ h
    · rw[Hk] at h;exact wpAny_eqBool_str h
 «strs»:=λk x t v h=>by
  rcases cg h with ⟨i,u,rfl,e⟩|⟨y,u,rfl,e⟩
  · exact nomatch e
  · injection e with e1 _;subst e1;cases v <;> rfl
theorem u5 (prog:Program)(w:World)(i:Int)(t:Tok):(cy prog w).is (.inl i) (.int i t)=true:=zq i t
theorem uU (prog:Program)(w:World)(x:Str)(t:Tok):(cy prog w).is (.inr x) (.str x t)=true:=sG x t
inductive V where
 |cb|bl (b:Bool)|int (i:Int)|str (x:Str)|v8 (b:Array UInt8)|flt (b:UInt64)|ref (a:Addr)|ty (n:String)
 deriving DecidableEq
def RelV:V->Value->Prop
 |.cb,u=>u=Value.none
 |.bl b,u=>u=Value.bool b
 |.int i,u=>∃t,u=Value.int i t
 |.str x,u=>∃t,u=Value.str x t
 |.v8 b,u=>∃t,u=Value.bytes b t
 |.flt b,u=>∃t,u=Value.float b t
 |.ref a,u=>u=Value.ref a
 |.ty n,u=>u=Value.type n
abbrev Vals:List V->aaj->Prop:=Paired RelV
theorem Vals.length {xs:List V}{us:aaj}(r:Vals xs us):xs.length=us.length:=Paired.length r
theorem Vals.get:∀{xs:List V} {us:aaj} {i:Nat} {x:V},Vals xs us->xs[i]?=some x->∃u,us[i]?=some u/\RelV x u
 |_,_,_,_,.nil,e=>by simp at e
 |_,_,0,_,.cons r _,e=>by simp at e;subst e;exact⟨_,rfl,r⟩
 |_,_,i+1,x,.cons _ t,e=>by
  obtain⟨u,h1,h2⟩:=Vals.get (i:=i) (x:=x) t (by simpa using e);exact⟨u,by simpa using h1,h2⟩
theorem Vals.set {x:V}{u:Value}(r:RelV x u):∀{xs:List V} {us:aaj} (i:Nat),Vals xs us->Vals (xs.set i x) (us.set i u)
 |_,_,_,.nil=>.nil
 |_,_,0,.cons _ t=>.cons r t
 |_,_,i+1,.cons q t=>.cons q (Vals.set r i t)
theorem Vals.append:∀{xs ys:List V} {us ws:aaj},Vals xs us->Vals ys ws->Vals (xs++ys) (us++ws)
 |_,_,_,_,.nil,s=>s
 |_,_,_,_,.cons r t,s=>.cons r (Vals.append t s)
theorem Vals.take:∀{xs:List V} {us:aaj} (n:Nat),Vals xs us->Vals (xs.take n) (us.take n)
 |_,_,0,_=>.nil
 |_,_,_+1,.nil=>.nil
 |_,_,n+1,.cons r t=>.cons r (Vals.take n t)
theorem Vals.drop:∀{xs:List V} {us:aaj} (n:Nat),Vals xs us->Vals (xs.drop n) (us.drop n)
 |_,_,0,r=>r
 |_,_,_+1,.nil=>.nil
 |_,_,n+1,.cons _ t=>Vals.drop n t
def jc:Option V->Option Value->Prop
 |some v,some u=>RelV v u
 |none,none=>True
 |_,_=>False
def KV {κ:Type}:List (κ×V)->List (κ×Value)->Prop:=Paired λ(p:κ×V) (q:κ×Value)=>p.1=q.1/\RelV p.2 q.2
def kV:Key->V
 |.inl i=>.int i
 |.inr x=>.str x
inductive HO where
 |lst (xs:List V)
 |tup (xs:List V)
 |dK (LC:List (Key×V))|dT (LC:List (List Key×V))
 |set (S:Int->Bool) (n:Nat)
 |ins (C dx:Addr) (fs:List (Str×V))
 |own (x:Addr)
 |xd (fs:List (Str×V))
 |met (f x:Addr)
 |rng (lo hi:Int)
 |frz (o:Obj) (u:HO)
 |tbl (ps:Array Value)
 |ext (φ:Heap->Prop)
abbrev Hp:=Addr->Option HO
def upd (H:Hp)(a:Addr)(o:HO):Hp:=λb=>if b=a then some o else H b
theorem ae {H:Hp}{a:Addr}{o:HO}:upd H a o a=some o:=by unfold upd;rw[Xv rfl]
theorem aq {H:Hp}{a b:Addr}{o:HO}(h:b≠a):upd H a o b=H b:=by unfold upd;rw[Xu h]
theorem cJ {H:Hp}{a:Addr}{o u:HO}:upd (upd H a o) a u=upd H a u:=by
 funext b;unfold upd;split <;> rfl
theorem dE {H:Hp}{a b:Addr}{o u:HO}(h:H a=some o)(h':H b=some u)(d:o≠u):a≠b:=by
 intro e;subst e;rw[h] at h';exact d (X7 h')
theorem ao {H:Hp}{a b:Addr}{o:HO}(h:H a=some o)(h':H b=none):a≠b:=by
 intro e;subst e;rw[h] at h';cases h'
section
variable (P:Program)(w:World)
def bK (H:Hp) (h:Heap) (a:Addr):HO->Prop
 |.lst xs=>xs.length<=sizeLine/\∃(LD:aaj) (n:Nat),Vals xs LD/\h.get? a=some {cls:=.type "list",data:=.seq LD.toArray n}
 |.tup xs=>xs.length<=sizeLine/\∃LD:aaj,Vals xs LD/\IsTup h a LD.toArray
 |.dK LC=>LC.length<=sizeLine/\(a==sysModules)=false/\∃vs,KV LC vs/\h.DictOf (cy P w) a vs
 |.dT LC=>LC.length<=sizeLine/\(a==sysModules)=false/\∃xs:List (List Key×Addr×Value),
   Paired (λ(p:List Key×V) (q:List Key×Addr×Value)=>p.1=q.1/\H q.2.1=some (.tup (p.1.map kV))/\RelV p.2 q.2.2) LC xs /\
   ∃o es ep,h.get? a=some o/\o.ExactDict/\o.data=.dict es ep/\es.toList=xs.map (entryOfKey (tupleKind (cy P w)))/\(xs.map (·.1)).Nodup
 |.set S n=>h.SetOf (intKind P w) a S n
 |.ins C dx fs=>H dx=some (.own a)/\fs.length<=1000/\dx≠a/\h.get? a=some (PySem.W.instObj C dx) /\
   ∃mA,h.Ns1 dx mA/\(∀f,jc (fs.lookup f) (mA f))/\PySem.Within mA (fs.map (·.1))
 |.own _=>∃o,h.get? a=some o
 |.xd fs=>∃mA,h.Ns1 a mA/\∀f,jc (fs.lookup f) (mA f)
 |.rng lo hi=>∃t u v,h.get? a=some {cls:=.type "range",data:=.fields #[.int lo t,.int hi u,.int 1 v]}
 |.frz o u=>h.get? a=some o/\bK H h a u
 |.tbl ps=>h.get? a=some {cls:=.none,data:=.fields ps}
 |.met f x=>h.get? a=some (PySem.W.methodObj (.ref f) (.ref x))
 |.ext φ=>φ h/\(∃o,h.get? a=some o)/\∀h1 h2:Heap,φ h1->(∀o,h1.get? a=some o->h2.get? a=some o)->φ h2
def iu (H:Hp)(h:Heap):Prop:=∀a o,H a=some o->bK P w H h a o
end
section
variable {P:Program}{w:World}{H H':Hp}{h h':Heap}{a:Addr}{o:HO}
theorem bK.lt (x:bK P w H h a o):a < h.objs.size:=by
 cases o with
 |lst xs=>obtain⟨_,_,_,_,e⟩:=x;exact XG e
 |tup xs=>obtain⟨_,_,_,p⟩:=x;exact p.lt
 |dK LC=>obtain⟨_,_,_,_,o,_,_,e,_⟩:=x;exact XG e
 |dT LC=>obtain⟨_,_,_,_,o,_,_,e,_⟩:=x;exact XG e
 |set S n=>obtain⟨o,_,_,_,e,_⟩:=x;exact XG e
 |ins C dx fs=>obtain⟨_,_,_,e,_⟩:=x;exact XG e
 |own y=>obtain⟨_,e⟩:=x;exact XG e
 |xd fs=>obtain⟨_,⟨_,_,_,e,_⟩,_⟩:=x;exact XG e
 |rng lo hi=>obtain⟨_,_,_,e⟩:=x;exact XG e
 |frz ob u=>obtain⟨e,_⟩:=x;exact XG e
 |tbl ps=>exact XG (show h.get? a=some _ from x)
 |met f y=>exact XG (show h.get? a=some _ from x)
 |ext φ=>obtain⟨_,⟨_,e⟩,_⟩:=x;exact XG e
theorem Paired.d9 {α β:Type}{F G:α->β->Prop}:∀{l₁:List α} {l₂:List β},Paired F l₁ l₂->(∀a b,F a b->G a b)->Paired G l₁ l₂
 |_,_,.nil,_=>.nil
 |_,_,.cons r t,f=>.cons (f _ _ r) (Paired.d9 t f)
theorem bK.kI (x:bK P w H h a o)(k:∀b u,(b=a∨H b=some (.own a))->h.get? b=some u->h'.get? b=some u)
  (ho:∀b,H b=some (.own a)->H' b=some (.own a))(ht:∀b xs,H b=some (.tup xs)->H' b=some (.tup xs)):bK P w H' h' a o:=by
 induction o with
 |lst xs=>obtain⟨z,LD,n,r,e⟩:=x;exact⟨z,LD,n,r,k _ _ (.inl rfl) e⟩
 |tup xs=>obtain⟨z,LD,r,ob,e,c⟩:=x;exact⟨z,LD,r,ob,k _ _ (.inl rfl) e,c⟩
 |dK LC=>obtain⟨z,y,vs,r,ob,es,ep,e,c⟩:=x;exact⟨z,y,vs,r,ob,es,ep,k _ _ (.inl rfl) e,c⟩
 |dT LC =>
  obtain⟨z,y,xs,r,ob,es,ep,e,c⟩:=x;exact⟨z,y,xs,Paired.d9 r λp q z=>⟨z.1,ht _ _ z.2.1,z.2.2⟩,ob,es,ep,k _ _ (.inl rfl) e,c⟩
 |set S n=>obtain⟨ob,es,ep,t,e,c⟩:=x;exact⟨ob,es,ep,t,k _ _ (.inl rfl) e,c⟩
 |ins C dx fs =>
  obtain⟨d,z,ne,e,mA,⟨od,es,ep,e2,c⟩,r⟩:=x;exact⟨ho _ d,z,ne,k _ _ (.inl rfl) e,mA,⟨od,es,ep,k _ _ (.inr d) e2,c⟩,r⟩
 |own y=>obtain⟨ob,e⟩:=x;exact⟨ob,k _ _ (.inl rfl) e⟩
 |xd fs=>obtain⟨mA,⟨od,es,ep,e,c⟩,r⟩:=x;exact⟨mA,⟨od,es,ep,k _ _ (.inl rfl) e,c⟩,r⟩
 |rng lo hi=>obtain⟨t,u,v,e⟩:=x;exact⟨t,u,v,k _ _ (.inl rfl) e⟩
 |frz ob u ih=>obtain⟨e,q⟩:=x;exact⟨k _ _ (.inl rfl) e,ih q⟩
 |tbl ps =>
  have e:h.get? a=some {cls:=.none,data:=.fields ps}:=x;show h'.get? a=some {cls:=.none,data:=.fields ps};exact k a _ (.inl rfl) e
 |met f y =>
  have e:h.get? a=some (PySem.W.methodObj (.ref f) (.ref y)):=x;show h'.get? a=some (PySem.W.methodObj (.ref f) (.ref y));exact k a _ (.inl rfl) e
 |ext φ=>obtain⟨p,⟨o,e⟩,st⟩:=x;exact⟨st _ _ p λo q=>k _ _ (.inl rfl) q,⟨o,k _ _ (.inl rfl) e⟩,st⟩
theorem iu.lt (x:iu P w H h)(e:H a=some o):a < h.objs.size:=(x a o e).lt
theorem iu.fresh (x:iu P w H h)(e:h.objs.size<=a):H a=none:=by
 cases q:H a with
 |none=>rfl
 |some u=>exact absurd (X_ (x.lt q) e) (YO _)
theorem iu.kept (x:iu P w H h)(k:∀b u,h.get? b=some u->h'.get? b=some u):iu P w H h':=λa o e =>
 (x a o e).kI (λb u _ q=>k b u q) (λ_ q=>q) λ_ _ q=>q
theorem iu.laid (x:iu P w H h)(k:∀b u,h.get? b=some u->h'.get? b=some u)(hp:h.objs.size<=a)(new:bK P w (upd H a o) h' a o):iu P w (upd H a o) h':=λb u e=>by
 have hn:=x.fresh hp;by_cases hb:b=a
 · subst hb;rw[ae] at e;cases e;exact new
 · rw[aq hb] at e;exact (x b u e).kI (λc v _ q=>k c v q) (λc q=>by rw[aq (ao q hn)];exact q) λc xs q=>by rw[aq (ao q hn)];exact q
end
def Rd (H:Hp)(a:Addr)(u:HO):Prop:=H a=some u∨∃o,H a=some (.frz o u)
theorem Rd.ok {P:Program}{w:World}{H:Hp}{h:Heap}{a:Addr}{u:HO}(r:Rd H a u)(x:iu P w H h):bK P w H h a u:=by
 rcases r with r|⟨o,r⟩
 · exact x a u r
 · obtain⟨_,q⟩:=x a _ r;exact q
def JE:Option HO->Prop
 |some (.lst _)=>True
 |some (.dK _)=>True
 |some (.dT _)=>True
 |some (.set _ _)=>True
 |some (.ins _ _ _)=>True
 |some (.ext _)=>True
 |_=>False
section
variable {P:Program}{w:World}{H:Hp}{h h':Heap}{x e:Addr}{o':HO}
theorem iu.write (ok:iu P w H h) (mu:JE (H x)) (he:e=x∨H e=some (.own x)) (k:∀b u,b≠e->h.get? b=some u->h'.get? b=some u) (N8:∃u,h'.get? e=some u)
  (new:bK P w (upd H x o') h' x o'):iu P w (upd H x o') h':=λb u q=>by
 have OH:∀c y,H c=some (.own y)->c≠x:=λc y r z=>by subst z;rw[r] at mu;exact mu
 have QG:∀c xs,H c=some (.tup xs)->c≠x:=λc xs r z=>by subst z;rw[r] at mu;exact mu
 by_cases hb:b=x
 · subst hb;rw[ae] at q;cases q;exact new
 · rw[aq hb] at q;by_cases NI:b=e
   · have q':H b=some (.own x):=by
      rcases he with z|z
      · exact absurd (NI.trans z) hb
      · rw[NI];exact z
     rw[q] at q';cases q';obtain⟨v,hv⟩:=N8;exact⟨v,by rw[NI];exact hv⟩
   · refine (ok b u q).kI (λc v hc r=>k c v ?_ r) (λc r=>by rw[aq (OH c b r)];exact r) λc xs r=>by rw[aq (QG c xs r)];exact r
     rcases hc with rfl|hc
     · exact NI
     · rintro rfl;rcases he with z|z
       · exact OH c b hc z
       · rw[hc] at z;cases z;exact hb rfl
end
structure Un (fs ex:List Addr)(H H':Hp)(h h':Heap):Prop where
 keep:∀b o,h.get? b=some o->H b=none->b∉fs->b∉ex->h'.get? b=some o
 slot:∀b o,h.get? b=some o->H b=none->b∈fs->b∉ex->∃sl,h'.get? b=some {o with slots:=sl}
 free:∀b o,h.get? b=some o->H b=none->b∉ex->H' b=none
 there:∀b o,h.get? b=some o->b∉ex->∃o',h'.get? b=some o'
 oj:∀b xs,H b=some (.tup xs)->H' b=some (.tup xs)
 m_:∀b o u,H b=some (.frz o u)->H' b=some (.frz o u)
 oo:∀b ps,H b=some (.tbl ps)->∃more,H' b=some (.tbl (ps++more))
section
variable {fs Ma ex ex':List Addr}{H H1 H2:Hp}{h h1 h2 h':Heap}{a x e:Addr}{o:HO}
theorem Un.any (u:Un fs ex H H1 h h1) {b:Addr} {ob:Obj} (q:h.get? b=some ob) (n:H b=none) (hx:b∉ex):∃sl,h1.get? b=some {ob with slots:=sl}:=by
 by_cases hb:b∈fs
 · exact u.slot b ob q n hb hx
 · exact⟨ob.slots,u.keep b ob q n hb hx⟩
theorem Un.kept (k:∀b u,h.get? b=some u->h'.get? b=some u):Un fs ex H H h h' :=
 ⟨λb ob q _ _ _=>k b ob q,λb ob q _ _ _=>⟨ob.slots,k b ob q⟩,λ_ _ _ n _=>n,λb ob q _=>⟨ob,k b ob q⟩,λ_ _ q=>q,λ_ _ _ q=>q,λ_ ps q=>⟨#[],by rw[q];simp⟩⟩
theorem Un.refl:Un fs ex H H h h:=Un.kept λ_ _ q=>q
theorem Un.laid (k:∀b u,h.get? b=some u->h'.get? b=some u)(hp:h.objs.size<=a)(hn:H a=none):Un fs ex H (upd H a o) h h' where
 keep:=λb u q _ _ _=>k b u q
 slot:=λb u q _ _ _=>⟨u.slots,k b u q⟩
 free:=λb u q n _=>by rw[aq (X6 (X_ (XG q) hp))];exact n
 there:=λb u q _=>⟨u,k b u q⟩
 oj:=λb xs q=>by rw[aq (ao q hn)];exact q
 m_:=λb u xs q=>by rw[aq (ao q hn)];exact q
 oo:=λb ps q=>⟨#[],by rw[aq (ao q hn),q];simp⟩
theorem Un.write (mu:JE (H x))(he:e=x∨H e=some (.own x))(k:∀b u,b≠e->h.get? b=some u->h'.get? b=some u)(N8:∃u,h'.get? e=some u):Un fs ex H (upd H x o) h h':=by
 have hx:∀b,H b=none->b≠x:=λb n z=>by subst z;rw[n] at mu;exact mu
 have hb:∀b,H b=none->b≠e:=λb n z=>by
  subst z;rcases he with r|r
  · exact hx b n r
  · rw[n] at r;cases r
 have hm:∀b u,H b=some u->¬JE (some u)->b≠x:=λb u q nm z=>by subst z;rw[q] at mu;exact nm mu
 refine⟨λb u q n _ _=>k b u (hb b n) q,λb u q n _ _=>⟨u.slots,k b u (hb b n) q⟩,λb u q n _=>by rw[aq (hx b n)];exact n,λb u q _=>?_,
  λb xs q=>by rw[aq (hm b _ q λz=>z)];exact q,λb u xs q=>by rw[aq (hm b _ q λz=>z)];exact q,λb ps q=>⟨#[],by rw[aq (hm b _ q λz=>z),q];simp⟩⟩
 by_cases NI:b=e
 · subst NI;exact N8
 · exact⟨u,k b u NI q⟩
end
def J1 (h:Heap)(H:Hp):List Addr:=(List.range h.objs.size).filter λa=>(H a).isSome
def tw (h:Heap)(H:Hp):Heap:=PySem.W.hideAll h (J1 h H)
theorem zN (h:Heap)(H:Hp):(tw h H).objs.size=h.objs.size:=PySem.W.hideAll_size _ _
theorem Cn {h:Heap}{H:Hp}{b:Addr}{o:Obj}(e:h.get? b=some o)(n:H b=none):(tw h H).get? b=some o :=
 PySem.W.hideAll_get _ e λhm=>by
  have q:(H b).isSome=true:=(YD.mp hm).2;rw[n] at q;simp at q
theorem Dc {h:Heap}{H:Hp}{b:Addr}{o:Obj}(e:(tw h H).get? b=some o):h.get? b=some o/\H b=none:=by
 have e':h.get? b=some o:=PySem.W.of_hideAll (J1 h H) e;refine⟨e',?_⟩;cases q:H b with
 |none=>rfl
 |some x =>
  have hm:b∈J1 h H:=YD.mpr ⟨Zh.mpr (XG e'),by simp[q]⟩;have z:(tw h H).get? b=none:=PySem.W.hideAll_none (J1 h H) hm;rw[z] at e;cases e
structure Mod (K:aaf)(mg:aah)(base:Heap):Prop where
 Fj:K.In base
 glob:base.Ns mainGlobals mg
 blt:∃mb,base.Ns builtinsNs mb/\∀x:Str,x≠"__name__"->mb x=bootBuiltins x
 nolimit:base.NoLimit
structure Cx where
 prog:Program
 w:World
 K:aaf
 mg:Str->Option Value
 base:Heap
 A:Around
 N:List Str
 kJ:Shared
 Ig:Hp
 env:Env
 outer:List Env
 stack:List Env
 ex:List Addr
 fn:Str->Bool
 calm:Bool
 pn:aai
 xe:Value->Shared->Prop
def v_ (l:List Env):List Addr:=l.filterMap (·.frame)
abbrev Cx.fs (X:Cx):List Addr:=v_ X.outer
def Ic (sc:Scope)(x:Str):Prop:=sc.names.lookup x=some .local∨sc.names.lookup x=some .cell∨sc.names.lookup x=some .free
def Loc (sc:Scope)(x:Str):Prop:=sc.names.lookup x=some .local∨sc.names.lookup x=some .cell
def Look (env:Env)(h:Heap)(m:aah)(x:Str)(u:Value):Prop :=
 (env.kindOf x=some .local/\m x=some u)∨((env.kindOf x=some .cell∨env.kindOf x=some .free)/\∃c,env.cells.lookup x=some c/\h.IsCell c (some u))
structure Cx.Ok (X:Cx):Prop where
 mod:Mod X.K X.mg X.base
 kind:X.env.scope.kind=.function
 glob:X.env.globals=mainGlobals
 blt:X.env.builtins=builtinsNs
 above:X.kJ.heap.objs.size<=X.env.locals
 inj:∀x y c,X.env.cells.lookup x=some c->X.env.cells.lookup y=some c->x=y
 has:∀x,(X.env.kindOf x=some .cell∨X.env.kindOf x=some .free)->∃c,X.env.cells.lookup x=some c
 Ii:∀x c,X.fn x=true->X.env.cells.lookup x=some c->X.kJ.heap.objs.size<=c
 hd:X.calm=true->X.A.handled=none
 frames:X.A.frames=some X.stack
 Fs:X.stack=X.outer∨(X.stack=X.env::X.outer/\X.env.frame=some X.env.locals)
 Io:∀b∈X.ex,b≠X.env.locals/\∀x c,X.env.cells.lookup x=some c->c≠b
 bs:∀b o,X.base.get? b=some o->X.kJ.heap.get? b=some o/\X.Ig b=none
 C2:X.base.objs.size<=X.kJ.heap.objs.size
 zT:∀b o,X.base.get? b=some o->b∉X.ex
 zY:∀b∈X.ex,b∉X.fs
 mw:X.kJ.heap.FunFrames X.base X.outer
 FE:∀b∈X.fs,X.Ig b=none
structure Inv (X:Cx)(pins:aai)(σ:List (Option V))(H:Hp)(s:Shared):Prop where
 ok:X.Ok
 os:s.os=X.kJ.os
 bare:AllBare s.gens
 base:Un X.fs X.ex X.Ig H X.kJ.heap s.heap
 loc:∃m,s.heap.Ns X.env.locals m/\∀(i:Nat) (x:Str) (v:V),X.N[i]?=some x->σ[i]?=some (some v)->Ic X.env.scope x->∃u,RelV v u/\Look X.env s.heap m x u
 cell:∀x c,X.env.cells.lookup x=some c->∃v,s.heap.IsCell c v
 free:H X.env.locals=none
 gC:∀x c,X.env.cells.lookup x=some c->H c=none
 pin:∀p∈X.pn++pins,s.heap.get? p.1=some p.2/\H p.1=none/\p.1≠X.env.locals/\p.1∉X.fs/\∀v,p.2.data≠.cell v
 bu:iu X.prog X.w H s.heap
 len:σ.length=X.N.length
section
variable {X:Cx}{pins:aai}{σ:List (Option V)}{H H':Hp}{s:Shared}{h':Heap}
theorem Cx.Ok.Kg (ok:X.Ok) {b:Addr} {o:Obj} (e:X.base.get? b=some o):b∉X.fs:=λhb=>by
 have:=(ok.mw.mem hb).1;rw[e] at this;cases this
theorem Inv.bs (I:Inv X pins σ H s):∀b o,X.base.get? b=some o->s.heap.get? b=some o/\H b=none:=λb o e =>
 ⟨I.base.keep b o (I.ok.bs b o e).1 (I.ok.bs b o e).2 (I.ok.Kg e) (I.ok.zT b o e),I.base.free b o (I.ok.bs b o e).1 (I.ok.bs b o e).2 (I.ok.zT b o e)⟩
theorem Inv.bk (I:Inv X pins σ H s):∀b o,X.base.get? b=some o->s.heap.get? b=some o:=λb o e=>(I.bs b o e).1
theorem Inv.mod (I:Inv X pins σ H s):Mod X.K X.mg X.base:=I.ok.mod
theorem Inv.mW (I:Inv X pins σ H s):X.K.In s.heap:=I.ok.mod.Fj.keeps I.bk
theorem Inv.lt (I:Inv X pins σ H s):X.env.locals < s.heap.objs.size:=let ⟨_,hn,_⟩:=I.loc;hn.lt
theorem Inv.sz (I:Inv X pins σ H s):X.kJ.heap.objs.size<=s.heap.objs.size:=Yh I.ok.above (Nat.le_of_lt I.lt)
theorem Inv.K0 (I:Inv X pins σ H s){a:Addr}(h:s.heap.objs.size<=a):a∉X.fs:=λhb=>by
 obtain⟨_,o,ho,_⟩:=I.ok.mw.mem hb;exact absurd (X_ (XG ho) (Yh I.sz h)) (YO _)
theorem Inv.Ft (I:Inv X pins σ H s):∀x c,X.env.cells.lookup x=some c->c≠X.env.locals:=λx c e z=>by
 obtain⟨v,o,ho,hd⟩:=I.cell x c e;obtain⟨m,⟨o',es,ep,L0,Mc,_⟩,_⟩:=I.loc;rw[z,L0] at ho;cases ho;rw[Mc] at hd;cases hd
theorem Inv.mw (I:Inv X pins σ H s):s.heap.FunFrames X.base X.outer:=by
 have all:∀(l:List Env),(∀b∈v_ l,b∈X.fs)->X.kJ.heap.FunFrames X.base l->s.heap.FunFrames X.base l:=by
  intro l
  induction l with
  |nil=>intro _ _;trivial
  |cons env r ih =>
   intro hs hl;obtain⟨hk,⟨L,o,hf,hn,ho,hd⟩,hr⟩:=hl;have hL:L∈X.fs:=hs L (by unfold v_;rw[Z4,hf];exact Yg);obtain⟨sl,e⟩:=I.base.slot L o ho (I.ok.FE L hL) hL λz=>I.ok.zY L z hL;exact⟨hk,⟨L,_,hf,hn,e,hd⟩,ih (λb hb=>hs b (by unfold v_;rw[Z4,hf];exact XN _ hb)) hr⟩
 exact all X.outer (λ_ hb=>hb) I.ok.mw
theorem Inv.stack (I:Inv X pins σ H s):s.heap.FunFrames X.base X.stack:=by
 rcases I.ok.Fs with e|⟨e,hf⟩
 · rw[e];exact I.mw
 · rw[e];obtain⟨m,hn,_⟩:=I.loc;refine .cons (by rw[I.ok.kind];decide) hf hn ?_ I.mw;exact Heap.get?_none_of_le (Yh I.ok.C2 I.ok.above)
theorem Inv.xr (I:Inv X pins σ H s):∀b∈v_ X.stack,b∈X.env.locals::X.fs:=λb hb=>by
 rcases I.ok.Fs with e|⟨e,hf⟩
 · rw[e] at hb;exact XN _ hb
 · rw[e] at hb;unfold v_ at hb;rw[Z4,hf] at hb;exact hb
theorem Inv.uB (I:Inv X pins σ H s):∀b∈v_ X.stack,H b=none:=λb hb=>by
 rcases Xx.mp (I.xr b hb) with e|hb
 · rw[e];exact I.free
 · obtain⟨_,o,ho,_⟩:=I.ok.mw.mem hb;exact I.base.free b o ho (I.ok.FE b hb) λz=>I.ok.zY b z hb
theorem wL {h:Heap}{b:Addr}(z:h.objs.size<=b):h.get? b=none:=by
 cases e:h.get? b with
 |none=>rfl
 |some o=>exact absurd (X_ (XG e) z) (YO _)
theorem Inv.Fz {g':Array GenState}{t':Nat}{d':Drawn}{ch:List Addr}(I:Inv X pins σ H s)
  (L1:∀b∈ch,(b∈X.ex∨X.kJ.heap.get? b=none)/\b≠X.env.locals/\(∀x c,X.env.cells.lookup x=some c->c≠b)/\∀p∈X.pn++pins,p.1≠b)
  (keep:∀b o,b≠X.env.locals->b∉X.fs->b∉ch->s.heap.get? b=some o->H b=none->h'.get? b=some o)
  (slot:∀b o,b≠X.env.locals->b∈X.fs->b∉ch->s.heap.get? b=some o->H b=none->∃sl,h'.get? b=some {o with slots:=sl})(free:∀b o,b∉ch->s.heap.get? b=some o->H b=none->H' b=none)
  (there:∀b o,b∉ch->s.heap.get? b=some o->∃o',h'.get? b=some o')
  (oj:∀b xs,H b=some (.tup xs)->H' b=some (.tup xs))(m_:∀b o u,H b=some (.frz o u)->H' b=some (.frz o u))(oo:∀b ps,H b=some (.tbl ps)->∃more,H' b=some (.tbl (ps++more)))
  (ns:∀m,s.heap.Ns X.env.locals m->h'.Ns X.env.locals m)(bu:iu X.prog X.w H' h')(hg:AllBare g') :
  Inv X pins σ H' {s with heap:=h',gens:=g',drawn:=d',toks:=t'}:=by
 have Sj:∀b o,X.kJ.heap.get? b=some o->b≠X.env.locals:=λb o e=>X6 (X_ (XG e) I.ok.above);have PD:∀b o,X.kJ.heap.get? b=some o->b∉X.ex->b∉ch:=λb o e hx hb=>by
  rcases (L1 b hb).1 with z|z
  · exact hx z
  · rw[z] at e;cases e
 have cellK:∀x c,X.env.cells.lookup x=some c->∀v,s.heap.IsCell c v->h'.IsCell c v:=λx c e v ⟨o,ho,hd⟩=>by
  have OI:c∉ch:=λz=>(L1 c z).2.2.1 x c e rfl;by_cases hc:c∈X.fs
  · obtain⟨sl,q⟩:=slot c o (I.Ft x c e) hc OI ho (I.gC x c e);exact⟨_,q,hd⟩
  · exact⟨o,keep c o (I.Ft x c e) hc OI ho (I.gC x c e),hd⟩
 refine⟨I.ok,I.os,hg,⟨λb o e n hb hx=>?_,λb o e n hb hx=>?_,λb o e n hx=>?_,λb o e hx=>?_,λb xs e=>oj b xs (I.base.oj b xs e),λb o xs e=>m_ b o xs (I.base.m_ b o xs e),λb ps e=>?_⟩,?_,λx c e=>?_,?_,λx c e=>?_,λp hp=>?_,bu,I.len⟩
 · exact keep b o (Sj b o e) hb (PD b o e hx) (I.base.keep b o e n hb hx) (I.base.free b o e n hx)
 · obtain⟨sl,e1⟩:=I.base.slot b o e n hb hx;obtain⟨U2,e2⟩:=slot b _ (Sj b o e) hb (PD b o e hx) e1 (I.base.free b o e n hx);exact⟨U2,e2⟩
 · obtain⟨o',e1⟩:=I.base.there b o e hx;exact free b o' (PD b o e hx) e1 (I.base.free b o e n hx)
 · obtain⟨o',e1⟩:=I.base.there b o e hx;exact there b o' (PD b o e hx) e1
 · obtain⟨m1,e1⟩:=I.base.oo b ps e;obtain⟨m2,e2⟩:=oo b _ e1;exact⟨m1++m2,by rw[e2,Array.append_assoc]⟩
 · obtain⟨m,hn,hl⟩:=I.loc;refine⟨m,ns m hn,λi x v e1 e2 e3=>?_⟩;obtain⟨u,r,l⟩:=hl i x v e1 e2 e3;refine⟨u,r,?_⟩;rcases l with l|⟨k,c,e,z⟩
   · exact .inl l
   · exact .inr ⟨k,c,e,cellK x c e _ z⟩
 · obtain⟨v,z⟩:=I.cell x c e;exact⟨v,cellK x c e v z⟩
 · obtain⟨m,⟨o,_,_,ho,_⟩,_⟩:=I.loc;exact free _ o (λz=>(L1 _ z).2.1 rfl) ho I.free
 · obtain⟨v,o,ho,hd⟩:=I.cell x c e;exact free c o (λz=>(L1 c z).2.2.1 x c e rfl) ho (I.gC x c e)
 · obtain⟨e,n,ne,nf,d⟩:=I.pin p hp;have OI:p.1∉ch:=λz=>(L1 p.1 z).2.2.2 p hp rfl;exact⟨keep p.1 p.2 ne nf OI e n,free p.1 p.2 OI e n,ne,nf,d⟩
theorem Inv.step {g':Array GenState}{t':Nat}{d':Drawn}{ch:List Addr}(I:Inv X pins σ H s)
  (L1:∀b∈ch,(b∈X.ex∨X.kJ.heap.objs.size<=b)/\b≠X.env.locals/\(∀x c,X.env.cells.lookup x=some c->c≠b)/\∀p∈X.pn++pins,p.1≠b)
  (keep:∀b o,b≠X.env.locals->b∉X.fs->b∉ch->s.heap.get? b=some o->H b=none->h'.get? b=some o)
  (slot:∀b o,b≠X.env.locals->b∈X.fs->b∉ch->s.heap.get? b=some o->H b=none->∃sl,h'.get? b=some {o with slots:=sl})(free:∀b o,b∉ch->s.heap.get? b=some o->H b=none->H' b=none)
  (there:∀b o,b∉ch->s.heap.get? b=some o->∃o',h'.get? b=some o')
  (oj:∀b xs,H b=some (.tup xs)->H' b=some (.tup xs))(m_:∀b o u,H b=some (.frz o u)->H' b=some (.frz o u))(oo:∀b ps,H b=some (.tbl ps)->∃more,H' b=some (.tbl (ps++more)))
  (ns:∀m,s.heap.Ns X.env.locals m->h'.Ns X.env.locals m)(bu:iu X.prog X.w H' h')(hg:AllBare g') :
  Inv X pins σ H' {s with heap:=h',gens:=g',drawn:=d',toks:=t'}:=I.Fz (λb hb=>⟨(L1 b hb).1.imp id λz=>wL z,(L1 b hb).2⟩) keep slot free there oj m_ oo ns bu hg
theorem Inv.un {t':Nat}(I:Inv X pins σ H s)(u:Un X.fs [] H H' s.heap h')(bu:iu X.prog X.w H' h'):Inv X pins σ H' {s with heap:=h',toks:=t'}:=by
 obtain⟨m,⟨o,es,ep,ho,r⟩,_⟩:=id I.loc;obtain⟨sl,hL⟩:=u.any ho I.free (by simp);exact I.step (g':=s.gens) (d':=s.drawn) (ch:=[]) (λ_ z=>nomatch z) (λb o _ hb _ e n=>u.keep b o e n hb (by simp)) (λb o _ hb _ e n=>u.slot b o e n hb (by simp)) (λb o _ e n=>u.free b o e n (by simp)) (λb o _ e=>u.there b o e (by simp)) u.oj u.m_ u.oo (λm' hm=>by
  obtain⟨o',QH,QI,L0,r'⟩:=hm;rw[ho] at L0;cases L0;exact⟨_,QH,QI,hL,r'⟩) bu I.bare
theorem Inv.Fy {g':Array GenState}{t':Nat}{d':Drawn}{ch:List Addr}(I:Inv X pins σ H s)(u:Un (v_ X.stack) ch H H' s.heap h')(bu:iu X.prog X.w H' h')(hg:AllBare g')
  (L1:∀b∈ch,(b∈X.ex∨X.kJ.heap.get? b=none)/\b≠X.env.locals/\(∀x c,X.env.cells.lookup x=some c->c≠b)/\∀p∈X.pn++pins,p.1≠b) :
  Inv X pins σ H' {s with heap:=h',gens:=g',drawn:=d',toks:=t'}:=by
 obtain⟨m,⟨o,es,ep,ho,r⟩,_⟩:=id I.loc;obtain⟨sl,hL⟩:=u.any ho I.free λz=>(L1 _ z).2.1 rfl;exact I.Fz (ch:=ch) L1 (λb o hL hb hc e n=>u.keep b o e n (λz=>(Xx.mp (I.xr b z)).elim hL hb) hc) (λb o _ _ hc e n=>u.any e n hc) (λb o hc e n=>u.free b o e n hc) (λb o hc e=>u.there b o e hc) u.oj u.m_ u.oo (λm' hm=>by
  obtain⟨o',QH,QI,L0,r'⟩:=hm;rw[ho] at L0;cases L0;exact⟨_,QH,QI,hL,r'⟩) bu hg
theorem Inv.call {g':Array GenState}{t':Nat}{d':Drawn}{ch:List Addr}(I:Inv X pins σ H s)(u:Un (v_ X.stack) ch H H' s.heap h')(bu:iu X.prog X.w H' h')(hg:AllBare g')
  (L1:∀b∈ch,(b∈X.ex∨X.kJ.heap.objs.size<=b)/\b≠X.env.locals/\(∀x c,X.env.cells.lookup x=some c->c≠b)/\∀p∈X.pn++pins,p.1≠b) :
  Inv X pins σ H' {s with heap:=h',gens:=g',drawn:=d',toks:=t'}:=I.Fy u bu hg (λb hb=>⟨(L1 b hb).1.imp id λz=>wL z,(L1 b hb).2⟩)
theorem Inv.turned {t':Nat}{it:Addr}(I:Inv X pins σ H s)(k:∀b o,b≠it->s.heap.get? b=some o->h'.get? b=some o)(hn:H it=none)(hL:it≠X.env.locals)
  (h1:it∈X.ex∨X.kJ.heap.objs.size<=it)(h2:∀x c,X.env.cells.lookup x=some c->c≠it)(h3:∀p∈X.pn++pins,p.1≠it):Inv X pins σ H {s with heap:=h',toks:=t'}:=by
 have Nj:∀b u,H b=some u->b≠it:=λb u e z=>by rw[z,hn] at e;cases e
 refine I.step (g':=s.gens) (d':=s.drawn) (ch:=[it]) (λb hb=>?_) (λb o _ _ hc e _=>k b o (λz=>hc (by simp[z])) e) (λb o _ _ hc e _=>⟨o.slots,k b o (λz=>hc (by simp[z])) e⟩) (λ_ _ _ _ n=>n)
  (λb o hc e=>⟨o,k b o (λz=>hc (by simp[z])) e⟩) (λ_ _ e=>e) (λ_ _ _ e=>e) (λb ps e=>⟨#[],by rw[e];simp⟩) (λm hm=>?_) (λb u e=>?_) I.bare
 · have e:b=it:=by simpa using hb
   subst e;exact⟨h1,hL,h2,h3⟩
 · obtain⟨o,es,ep,ho,r⟩:=hm;exact⟨o,es,ep,k _ o (Z7 hL) ho,r⟩
 · refine (I.bu b u e).kI (λc v hc q=>k c v ?_ q) (λ_ q=>q) λ_ _ q=>q;rcases hc with z|z
   · rw[z];exact Nj b u e
   · exact Nj c _ z
theorem Inv.tok (I:Inv X pins σ H s)(t:Nat):Inv X pins σ H {s with toks:=t}:=I.un (h':=s.heap) (t':=t) Un.refl I.bu
theorem Inv.kept {t':Nat}(I:Inv X pins σ H s)(k:∀b u,s.heap.get? b=some u->h'.get? b=some u):Inv X pins σ H {s with heap:=h',toks:=t'}:=I.un (Un.kept k) (I.bu.kept k)
theorem Inv.laid {a:Addr}{o:HO}{t':Nat}(I:Inv X pins σ H s)(k:∀b u,s.heap.get? b=some u->h'.get? b=some u)(hp:s.heap.objs.size<=a)(new:bK X.prog X.w (upd H a o) h' a o) :
  Inv X pins σ (upd H a o) {s with heap:=h',toks:=t'}:=I.un (Un.laid k hp (I.bu.fresh hp)) (I.bu.laid k hp new)
theorem Inv.write {x e:Addr}{o:HO}{t':Nat}(I:Inv X pins σ H s)(mu:JE (H x))(he:e=x∨H e=some (.own x))(k:∀b u,b≠e->s.heap.get? b=some u->h'.get? b=some u)(N8:∃u,h'.get? e=some u)
  (new:bK X.prog X.w (upd H x o) h' x o):Inv X pins σ (upd H x o) {s with heap:=h',toks:=t'}:=I.un (Un.write mu he k N8) (I.bu.write mu he k N8 new)
theorem Inv.weak {σ':List (Option V)}(I:Inv X pins σ H s)(hl:σ'.length=σ.length)(w:∀(i:Nat) v,σ'[i]?=some (some v)->σ[i]?=some (some v)):Inv X pins σ' H s :=
 ⟨I.ok,I.os,I.bare,I.base,let ⟨m,hn,OD⟩:=I.loc;⟨m,hn,λi x v e1 e2 e3=>OD i x v e1 (w i v e2) e3⟩,I.cell,I.free,I.gC,I.pin,I.bu,hl.trans I.len⟩
theorem Inv.ml {pins':aai}(I:Inv X pins σ H s)(h:∀p∈pins',s.heap.get? p.1=some p.2/\H p.1=none/\p.1≠X.env.locals/\p.1∉X.fs/\∀v,p.2.data≠.cell v):Inv X pins' σ H s :=
 ⟨I.ok,I.os,I.bare,I.base,I.loc,I.cell,I.free,I.gC,λp hp=>(Yj.mp hp).elim (λz=>I.pin p (List.mem_append_left _ z)) (h p),I.bu,I.len⟩
theorem pF {N:List Str}(hN:N.Nodup){i j:Nat}{x:Str}(a:N[i]?=some x)(b:N[j]?=some x):i=j:=by
 obtain⟨h1,e1⟩:=XH.mp a;obtain⟨h2,e2⟩:=XH.mp b;exact (List.getElem_inj hN).mp (e1.trans e2.symm)
theorem sF {M:Model}{A:Around}{E:aag}{i:Nat}{x:Str}{v:V}{u:Value}{Q:Unit->Shared->Prop}(I:Inv X pins σ H s)(hN:X.N.Nodup)(hi:X.N[i]?=some x)(hx:Loc X.env.scope x)(r:RelV v u)
  (h:∀s',Inv X pins (σ.set i (some v)) H s'->(∃a,Heap.SameBut a s.heap s'.heap/\(a=X.env.locals∨X.env.cells.lookup x=some a))->Q () s')(hf:X.fn x=true∨X.env.scope.names.lookup x=some .local:=by first|exact .inl rfl|exact .inr rfl|assumption):wpAny M A (storeName X.env x u) Q E s:=by
 obtain⟨m,hn,hl⟩:=id I.loc;have QJ:(X.env.scope.kind==.class||(X.env.scope.kind==.module&&X.env.locals != X.env.globals))=false:=by rw[I.ok.kind];rfl
 have hiσ:i < σ.length:=by rw[I.len];exact (XH.mp hi).1
 have Ft:=I.Ft;have tracked:∀{a:Addr} {h':Heap},(∃o,s.heap.get? a=some o/\H a=none)->Heap.SameBut a s.heap h'->iu X.prog X.w H h':=λ{a h'} ha hs b ob e=>by
  obtain⟨_,_,L3⟩:=ha;refine (I.bu b ob e).kI (λc w' hc q=>(hs.2 c ?_).trans q) (λ_ q=>q) λ_ _ q=>q;rintro rfl;rcases hc with rfl|hc
  · rw[L3] at e;cases e
  · rw[L3] at hc;cases hc
 rcases hx with hk|hk
 · refine wpAny_storeName_local hk hn (λh' MQ hs=>?_) QJ;obtain⟨oL,_,_,U3,_⟩:=id hn;refine h _ ⟨I.ok,I.os,I.bare,⟨λb o e n hb hx=>?_,λb o e n hb hx=>?_,I.base.free,λb o e hx=>?_,I.base.oj,I.base.m_,I.base.oo⟩,⟨_,MQ,λj y v' e1 e2 e3=>?_⟩,λy c e=>?_,I.free,I.gC,λp hp=>?_,tracked ⟨oL,U3,I.free⟩ hs,by simpa using I.len⟩ ⟨_,hs,.inl rfl⟩
   · exact (hs.2 b (X6 (X_ (XG e) I.ok.above))).trans (I.base.keep b o e n hb hx)
   · obtain⟨sl,e1⟩:=I.base.slot b o e n hb hx;exact⟨sl,(hs.2 b (X6 (X_ (XG e) I.ok.above))).trans e1⟩
   · obtain⟨o',e1⟩:=I.base.there b o e hx;exact⟨o',(hs.2 b (X6 (X_ (XG e) I.ok.above))).trans e1⟩
   · by_cases hj:j=i
     · subst hj;rw[hi] at e1;cases e1;rw[ZO hiσ] at e2;cases e2;exact⟨u,r,.inl ⟨hk,by simp⟩⟩
     · rw[List.getElem?_set_ne (Z7 hj)] at e2;obtain⟨u',r',q⟩:=hl j y v' e1 e2 e3;refine⟨u',r',?_⟩;rcases q with ⟨k,e⟩|⟨k,c,e,z⟩
       · refine .inl ⟨k,?_⟩;have:y≠x:=λe=>hj (pF hN e1 (e ▸ hi));simp[this,e]
       · exact .inr ⟨k,c,e,z.sameBut hs (Ft y c e)⟩
   · obtain⟨w',z⟩:=I.cell y c e;exact⟨w',z.sameBut hs (Ft y c e)⟩
   · obtain⟨e,n,ne,nf,d⟩:=I.pin p hp;exact⟨(hs.2 p.1 ne).trans e,n,ne,nf,d⟩
 · have QK:X.fn x=true:=by
    rcases hf with z|z
    · exact z
    · rw[z] at hk;cases hk
   obtain⟨c,hc⟩:=I.ok.has x (.inl hk);obtain⟨w',z⟩:=I.cell x c hc;refine wpAny_storeName_cell I.ok.kind hk hc z (λh' Ow hs=>?_);obtain⟨oc,Sk,QL⟩:=id z;refine h {s with heap:=h'} ⟨I.ok,I.os,I.bare,⟨λb o e n hb hx=>?_,λb o e n hb hx=>?_,I.base.free,λb o e hx=>?_,I.base.oj,I.base.m_,I.base.oo⟩,⟨m,hn.sameBut hs (Z7 (Ft x c hc)),λj y v' e1 e2 e3=>?_⟩,λy c' e=>?_,I.free,I.gC,λp hp=>?_,tracked ⟨oc,Sk,I.gC x c hc⟩ hs,by simpa using I.len⟩ ⟨c,hs,.inr hc⟩
   · exact (hs.2 b (X6 (X_ (XG e) (I.ok.Ii x c QK hc)))).trans (I.base.keep b o e n hb hx)
   · obtain⟨sl,e1⟩:=I.base.slot b o e n hb hx;exact⟨sl,(hs.2 b (X6 (X_ (XG e) (I.ok.Ii x c QK hc)))).trans e1⟩
   · obtain⟨o',e1⟩:=I.base.there b o e hx;exact⟨o',(hs.2 b (X6 (X_ (XG e) (I.ok.Ii x c QK hc)))).trans e1⟩
   · by_cases hj:j=i
     · subst hj;rw[hi] at e1;cases e1;rw[ZO hiσ] at e2;cases e2;exact⟨u,r,.inr ⟨.inl hk,c,hc,Ow⟩⟩
     · rw[List.getElem?_set_ne (Z7 hj)] at e2;obtain⟨u',r',q⟩:=hl j y v' e1 e2 e3;refine⟨u',r',?_⟩;rcases q with q|⟨k,c',e,z'⟩
       · exact .inl q
       · refine .inr ⟨k,c',e,z'.sameBut hs ?_⟩;rintro rfl;exact hj (pF hN e1 (I.ok.inj _ _ _ e hc ▸ hi))
   · by_cases QM:c'=c
     · subst QM;exact⟨_,Ow⟩
     · obtain⟨w2,z2⟩:=I.cell y c' e;exact⟨w2,z2.sameBut hs QM⟩
   · obtain⟨e,n,ne,nf,d⟩:=I.pin p hp;refine⟨(hs.2 p.1 ?_).trans e,n,ne,nf,d⟩;intro q;rw[q,Sk] at e;have q':oc=p.2:=X7 e;exact d w' (by rw[←q'];exact QL)
theorem mf {M:Model}{A:Around}{E:aag}{i:Nat}{x:Str}{v:V}{u:Value}{Q:Unit->Shared->Prop}(I:Inv X pins σ H s)(hN:X.N.Nodup)(hi:X.N[i]?=some x)(hx:Loc X.env.scope x)(r:RelV v u)
  (h:∀s',Inv X pins (σ.set i (some v)) H s'->Q () s')(hf:X.fn x=true∨X.env.scope.names.lookup x=some .local:=by first|exact .inl rfl|exact .inr rfl|assumption):wpAny M A (storeName X.env x u) Q E s :=
 sF I hN hi hx r (λs' I' _=>h s' I') hf
theorem Inv.Fw {s':Shared}{ch:List Addr}(I:Inv X pins σ H s)(ho:s'.os=s.os)(u:Un (v_ X.stack) ch H H' s.heap s'.heap)(bu:iu X.prog X.w H' s'.heap)(hg:AllBare s'.gens)
  (L1:∀b∈ch,(b∈X.ex∨X.kJ.heap.get? b=none)/\b≠X.env.locals/\(∀x c,X.env.cells.lookup x=some c->c≠b)/\∀p∈X.pn++pins,p.1≠b):Inv X pins σ H' s':=by
 obtain⟨h',g',d',t',o'⟩:=s';have e:o'=s.os:=ho;subst e;exact I.Fy (g':=g') (t':=t') (d':=d') u bu hg L1
theorem Inv.Fl {s':Shared}{ch:List Addr}(I:Inv X pins σ H s)(ho:s'.os=s.os)(u:Un (v_ X.stack) ch H H' s.heap s'.heap)(bu:iu X.prog X.w H' s'.heap)(hg:AllBare s'.gens)
  (L1:∀b∈ch,(b∈X.ex∨X.kJ.heap.objs.size<=b)/\b≠X.env.locals/\(∀x c,X.env.cells.lookup x=some c->c≠b)/\∀p∈X.pn++pins,p.1≠b):Inv X pins σ H' s':=I.Fw ho u bu hg (λb hb=>⟨(L1 b hb).1.imp id λz=>wL z,(L1 b hb).2⟩)
end
abbrev XK:=Value->Option Addr->Hp->Prop
abbrev St:=List (Option V)
abbrev VK:=V->Hp->Prop
abbrev TE:=St->Hp->VK->Prop
abbrev TT:=St->Hp->(Bool->Hp->Prop)->Prop
abbrev TA:=St->Hp->(List V->Hp->Prop)->Prop
structure Ends where
 nx:St->Hp->Prop
 rt:VK
 bk:St->Hp->Prop:=λ_ _=>False
 ct:St->Hp->Prop:=λ_ _=>False
abbrev TS:=Ends->St->Hp->Prop
def EP (X:Cx)(pins:aai)(σ:St)(Q:VK)(u:Value)(s':Shared):Prop:=∃v H',Inv X pins σ H' s'/\RelV v u/\Q v H'
def TP (X:Cx)(pins:aai)(σ:St)(Q:Bool->Hp->Prop)(b:Bool)(s':Shared):Prop:=∃H',Inv X pins σ H' s'/\Q b H'
def AP (X:Cx)(pins:aai)(σ:St)(Q:List V->Hp->Prop)(us:aaj)(s':Shared):Prop:=∃vs H',Inv X pins σ H' s'/\Vals vs us/\Q vs H'
def SP (X:Cx)(pins:aai)(D:Ends)(f:Flow)(s':Shared):Prop :=
 match f with
 |.next=>∃σ' H',Inv X pins σ' H' s'/\D.nx σ' H'
 |.brk=>∃σ' H',Inv X pins σ' H' s'/\D.bk σ' H'
 |.cont=>∃σ' H',Inv X pins σ' H' s'/\D.ct σ' H'
 |.ret u=>∃v σ' H',Inv X pins σ' H' s'/\RelV v u/\D.rt v H'
def PE (X:Cx)(e:Expr)(t:TE):Prop :=
 ∀(pins:aai) (s:Shared) (σ:St) (H:Hp) (Q:VK),Inv X pins σ H s->t σ H Q->wpAny (model X.prog X.w) X.A (eval e X.env) (EP X pins σ Q) X.xe s
def PT (X:Cx)(e:Expr)(t:TT):Prop :=
 ∀(pins:aai) (s:Shared) (σ:St) (H:Hp) (Q:Bool->Hp->Prop),Inv X pins σ H s->t σ H Q->wpAny (model X.prog X.w) X.A (isTrue e X.env (eval e X.env)) (TP X pins σ Q) X.xe s
def PW (X:Cx)(e:Expr)(t:TT):Prop :=
 ∀(whole:Sem Value) (pins:aai) (s:Shared) (σ:St) (H:Hp) (Q:Bool->Hp->Prop),Inv X pins σ H s->t σ H Q->wpAny (model X.prog X.w) X.A (isTrue e X.env whole) (TP X pins σ Q) X.xe s
theorem PW.pt {X:Cx}{e:Expr}{t:TT}(h:PW X e t):PT X e t:=h _
def PA (X:Cx)(es:List Expr)(t:TA):Prop :=
 ∀(pos:Pos) (pins:aai) (s:Shared) (σ:St) (H:Hp) (Q:List V->Hp->Prop),Inv X pins σ H s->t σ H Q->wpAny (model X.prog X.w) X.A (spliced (backTo pos (starEach es X.env))) (AP X pins σ Q) X.xe s
def PS (X:Cx)(st:Stmt)(t:TS):Prop :=
 ∀(pins:aai) (s:Shared) (σ:St) (H:Hp) (D:Ends),Inv X pins σ H s->t D σ H->wpAny (model X.prog X.w) X.A (exec st X.env) (SP X pins D) X.xe s
def qP (X:Cx)(st:List Stmt)(t:TS):Prop :=
 ∀(pins:aai) (s:Shared) (σ:St) (H:Hp) (D:Ends),Inv X pins σ H s->t D σ H->wpAny (model X.prog X.w) X.A (execs st X.env) (SP X pins D) X.xe s
def KO (X:Cx)(st:Stmt)(t:TS):Prop :=
 ∀(s:Shared) (σ:St) (H:Hp) (D:Ends),Inv X [] σ H s->t D σ H->wpAny (model X.prog X.w) X.A (exec st X.env) (SP X [] D) X.xe s
def Cd (X:Cx)(st:List Stmt)(t:TS):Prop :=
 ∀(s:Shared) (σ:St) (H:Hp) (D:Ends),Inv X [] σ H s->t D σ H->wpAny (model X.prog X.w) X.A (execs st X.env) (SP X [] D) X.xe s
theorem bA {α:Type}{t:Sem α}{Q Q':α->Shared->Prop}{M:Model}{A:Around}{E:aag}{s:Shared}(h:wpAny M A t Q E s)(hQ:∀a s,Q a s->Q' a s):wpAny M A t Q' E s:=YL h hQ λ_ _ x=>x
section
variable {X:Cx}
def cI (i:Nat):TE:=λσ H Q=>∃v,σ[i]?=some (some v)/\Q v H
def tC (v:V):TE:=λ_ H Q=>Q v H
theorem GP {i:Nat}{x:Str}{pos:Pos}(hN:X.N[i]?=some x)(hv:Ic X.env.scope x)(hd:(x==("__debug__":Str))=false:=by decide)(Mf:(x==("__classdict__":Str))=false:=by decide):PE X (.Name x pos) (cI i):=by
 intro pins s σ H Q I h;obtain⟨v,e,h⟩:=h;obtain⟨m,hn,hl⟩:=I.loc;obtain⟨u,r,l⟩:=hl i x v hN e hv;have fin:EP X pins σ Q u s:=⟨v,H,I,r,h⟩;rcases l with ⟨hk,hm⟩|⟨hk,c,hc,Mo⟩
 · exact wpAny_Name (wpAny_loadName_local I.ok.kind hk hn hm fin) hd
 · rcases hk with hk|hk
   · exact wpAny_Name (wpAny_loadName_cell I.ok.kind hk hc Mo fin) hd
   · exact wpAny_Name (wpAny_loadName_free I.ok.kind hk hc Mo fin Mf) hd
theorem ax {i j pos}:PE X (.Constant (.int i) j pos) (tC (.int i)):=λ_ _ _ H _ I h=>wpAny_Constant_int ⟨.int i,H,I.tok _,⟨_,rfl⟩,h⟩
theorem lU {b j pos}:PE X (.Constant (.bool b) j pos) (tC (.bl b)):=λ_ _ _ H _ I h=>Constant_bool ⟨.bl b,H,I,rfl,h⟩
theorem cC {j pos}:PE X (.Constant .none j pos) (tC .cb):=λ_ _ _ H _ I h=>Constant_none ⟨.cb,H,I,rfl,h⟩
theorem bq {x j pos}:PE X (.Constant (.str x) j pos) (tC (.str x)):=λ_ _ _ H _ I h=>Calls.Constant_str ⟨.str x,H,I.tok _,⟨_,rfl⟩,h⟩
def Gl (X:Cx)(x:Str):Prop:=X.env.kindOf x=some .globalImplicit
theorem lN {E:aag}{pins:aai}{s:Shared}{σ:St}{H:Hp}{x:Str}{u:Value}{pos:Pos}{Q:aag}(I:Inv X pins σ H s)(hg:Gl X x)(hm:X.mg x=some u)(h:Q u s)
  (hd:(x==("__debug__":Str))=false:=by decide):wpAny (model X.prog X.w) X.A (eval (.Name x pos) X.env) Q E s :=
 Calls.Name_function_global I.ok.kind hg (Calls.loadGlobal_global (by rw[I.ok.glob];exact I.mod.glob.keeps I.bk) hm h) hd
theorem lh {E:aag}{pins:aai}{s:Shared}{σ:St}{H:Hp}{x:Str}{u:Value}{pos:Pos}{Q:aag}(I:Inv X pins σ H s)(hg:Gl X x)(hm:X.mg x=none)(hv:bootBuiltins x=some u)(h:Q u s)
  (hn:x≠"__name__":=by decide)(hd:(x==("__debug__":Str))=false:=by decide):wpAny (model X.prog X.w) X.A (eval (.Name x pos) X.env) Q E s:=by
 obtain⟨mb,h1,h2⟩:=I.mod.blt;exact Calls.Name_function_global I.ok.kind hg (Calls.loadGlobal_builtin (by rw[I.ok.glob];exact I.mod.glob.keeps I.bk) hm (by rw[I.ok.blt];exact h1.keeps I.bk) ((h2 x hn).trans hv) h) hd
theorem Ey {x:Str}{v:V}{u:Value}{pos:Pos}(hg:Gl X x)(hm:X.mg x=some u)(r:RelV v u)(hd:(x==("__debug__":Str))=false:=by decide):PE X (.Name x pos) (tC v) :=
 λ_ _ _ H _ I h=>lN I hg hm ⟨v,H,I,r,h⟩ hd
variable {a b:Expr}{ta tb:TE}{pos:Pos}
def PC (X:Cx) (op:CmpOp) (a b:Expr) (t:TE):Prop :=
 ∀(pins:aai) (s:Shared) (σ:St) (H:Hp) (Q:VK),Inv X pins σ H s->t σ H Q ->
  wpAny (model X.prog X.w) X.A (eval a X.env) (λv s₁=>wpAny (model X.prog X.w) X.A (eval b X.env) (λu s₂=>wpAny (model X.prog X.w) X.A (compareOp op v u) (EP X pins σ Q) X.xe s₂) X.xe s₁) X.xe s
def tB (t:TE):TT:=λσ H Q=>t σ H λx H1=>∃c,x=.bl c/\Q c H1
theorem Gq {op:CmpOp}{t:TE}(h:PC X op a b t)(h1:behindInMarks op b=false:=by first|exact MH _ (by decide) (by decide)|rfl):PE X (.Compare a [op] [b] pos) t:=λpins s σ H Q I hw=>wpAny_Compare1 (h pins s σ H Q I hw) h1
theorem qv {op:CmpOp}{t:TE}(h:PC X op a b t)(h1:behindInMarks op b=false:=by first|exact MH _ (by decide) (by decide)|rfl):PT X (.Compare a [op] [b] pos) (tB t):=by
 intro pins s σ H Q I hw;refine wpAny_isTrue_Compare1 (bA (h pins s σ H _ I hw) λv s1 h1=>bA h1 λu s2 h2=>bA h2 λc s3 ⟨x,H1,I1,r1,q1⟩=>?_) h1;obtain⟨d,rfl,q⟩:=q1;cases r1;exact YI ⟨H1,I1,q⟩
theorem hU {e:Expr}{t:TE}(h:PE X e t)(he:∀whole,isTrue e X.env whole=(do let v ←whole;standAt e.pos;holding [v] (truthy v)):=by intro _;rfl):PT X e (tB t):=by
 intro pins s σ H Q I hw;refine isTrue_plain (bA (h pins s σ H _ I hw) λv s1 ⟨x,H1,I1,r1,q1⟩=>?_) (he _);obtain⟨d,rfl,q⟩:=q1;cases r1;exact YI ⟨H1,I1,q⟩
variable {tA PF:TT}{rest:List Expr}
def Ju (t u:TT):TT:=λσ H Q=>t σ H λc H1=>if c=true then u σ H1 Q else Q false H1
def K9 (t u:TT):TT:=λσ H Q=>t σ H λc H1=>if c=true then Q true H1 else u σ H1 Q
def IJ (t:TT):TT:=λσ H Q=>t σ H λc H1=>Q (!c) H1
theorem oB (ha:PT X a tA):PW X (.BoolOp .And [a] pos) tA:=by
 intro wh pins s σ H Q I h;refine isTrue_and (bA (ha pins s σ H Q I h) λc s1 e=>?_);cases c with
 |true=>exact isTrue_and_nil e
 |false=>exact e
theorem cQ (ha:PT X a tA):PW X (.BoolOp .Or [a] pos) tA:=by
 intro wh pins s σ H Q I h;refine isTrue_or (bA (ha pins s σ H Q I h) λc s1 e=>?_);cases c with
 |false=>exact isTrue_or_nil e
 |true=>exact e
theorem tm (ha:PT X a tA)(hb:PW X (.BoolOp .And (b::rest) pos) PF):PW X (.BoolOp .And (a::b::rest) pos) (Ju tA PF):=by
 intro wh pins s σ H Q I h;refine isTrue_and (bA (ha pins s σ H _ I h) λc s1 ⟨H1,I1,q1⟩=>?_);cases c with
 |true=>exact hb wh pins s1 σ H1 Q I1 q1
 |false=>exact⟨H1,I1,q1⟩
theorem eG (ha:PT X a tA)(hb:PW X (.BoolOp .Or (b::rest) pos) PF):PW X (.BoolOp .Or (a::b::rest) pos) (K9 tA PF):=by
 intro wh pins s σ H Q I h;refine isTrue_or (bA (ha pins s σ H _ I h) λc s1 ⟨H1,I1,q1⟩=>?_);cases c with
 |true=>exact⟨H1,I1,q1⟩
 |false=>exact hb wh pins s1 σ H1 Q I1 q1
theorem cG (ha:PT X a tA):PT X (.UnaryOp .Not a pos) (IJ tA):=by
 intro pins s σ H Q I h;exact isTrue_not (ha pins s σ H (λc H1=>Q (!c) H1) I h)
def Fm (ta tb:TE):TE:=λσ H Q=>ta σ H λx H1=>∃c,x=.bl c/\if c=true then tb σ H1 Q else Q (.bl false) H1
def II (ta tb:TE):TE:=λσ H Q=>ta σ H λx H1=>∃c,x=.bl c/\if c=true then Q (.bl true) H1 else tb σ H1 Q
theorem xm {op}{t:TE}(h:PE X a t):PE X (.BoolOp op [a] pos) t:=λpins s σ H Q I hw=>BoolOp_one (h pins s σ H Q I hw)
theorem xc (ha:PE X a ta)(hb:PE X (.BoolOp .And (b::rest) pos) tb):PE X (.BoolOp .And (a::b::rest) pos) (Fm ta tb):=by
 intro pins s σ H Q I h;refine BoolOp_and (bA (ha pins s σ H _ I h) λv s1 ⟨x,H1,I1,r1,q1⟩=>?_);obtain⟨c,rfl,q1⟩:=q1;cases r1;refine YI ?_;cases c with
 |true=>exact hb pins s1 σ H1 Q I1 q1
 |false=>exact⟨.bl false,H1,I1,rfl,q1⟩
theorem IZ (ha:PE X a ta)(hb:PE X (.BoolOp .Or (b::rest) pos) tb):PE X (.BoolOp .Or (a::b::rest) pos) (II ta tb):=by
 intro pins s σ H Q I h;refine BoolOp_or (bA (ha pins s σ H _ I h) λv s1 ⟨x,H1,I1,r1,q1⟩=>?_);obtain⟨c,rfl,q1⟩:=q1;cases r1;refine YI ?_;cases c with
 |false=>exact hb pins s1 σ H1 Q I1 q1
 |true=>exact⟨.bl true,H1,I1,rfl,q1⟩
def Lv (t:TT)(ta tb:TE):TE:=λσ H Q=>t σ H λc H1=>if c=true then ta σ H1 Q else tb σ H1 Q
theorem BH {c:Expr}(hc:PT X c tA)(ha:PE X a ta)(hb:PE X b tb):PE X (.IfExp c a b pos) (Lv tA ta tb):=by
 intro pins s σ H Q I h;refine wpAny_IfExp (bA (hc pins s σ H _ I h) λd s1 ⟨H1,I1,q1⟩=>?_);cases d with
 |true=>exact ha pins s1 σ H1 Q I1 q1
 |false=>exact hb pins s1 σ H1 Q I1 q1
end
def aP (K:aaf)(H:Hp)(a:Addr)(xs:List V):Prop :=
 Rd H a (.lst xs) ∨
  ∃(o:Obj) (LD:Array Value) (n:Nat),K.lookup a=some o/\o.cls=.type "list"/\o.dict=none/\o.data=.seq LD n/\LD.size<=sizeLine/\Vals xs LD.toList
def bZ (K:aaf)(H:Hp)(a:Addr)(xs:List V):Prop :=
 Rd H a (.tup xs) ∨
  ∃(o:Obj) (LD:Array Value) (n:Nat),K.lookup a=some o/\o.cls=.type "tuple"/\o.data=.seq LD n/\LD.size<=sizeLine/\Vals xs LD.toList
def A6:Value->Option V
 |.none=>some .cb
 |.bool b=>some (.bl b)
 |.int i _=>some (.int i)
 |.str x _=>some (.str x)
 |.bytes b _=>some (.v8 b)
 |.float b _=>some (.flt b)
 |.ref a=>some (.ref a)
 |.type n=>some (.ty n)
 |_=>none
theorem RelV.abs {x:V}{u:Value}(r:RelV x u):A6 u=some x:=by
 cases x with
 |cb=>cases r;rfl
 |bl _=>cases r;rfl
 |int _=>obtain⟨t,rfl⟩:=r;rfl
 |str _=>obtain⟨t,rfl⟩:=r;rfl
 |v8 _=>obtain⟨t,rfl⟩:=r;rfl
 |flt _=>obtain⟨t,rfl⟩:=r;rfl
 |ref _=>cases r;rfl
 |ty _=>cases r;rfl
theorem RelV.inj {x y:V}{u:Value}(r:RelV x u)(q:RelV y u):x=y:=X7 (r.abs.symm.trans q.abs)
theorem Vals.inj:∀{xs ys:List V} {us:aaj},Vals xs us->Vals ys us->xs=ys
 |_,_,_,.nil,.nil=>rfl
 |_,_,_,.cons r t,.cons r' t'=>by rw[r.inj r',Vals.inj t t']
section
variable {X:Cx}{pins:aai}{σ:St}{H:Hp}{s:Shared}{a:Addr}{xs ys:List V}
theorem aP.of {K:aaf} (h:H a=some (.lst xs)):aP K H a xs:=.inl (.inl h)
theorem bZ.of {K:aaf}(h:H a=some (.tup xs)):bZ K H a xs:=.inl (.inl h)
theorem Inv.list (I:Inv X pins σ H s)(h:aP X.K H a xs):∃LD:aaj,Vals xs LD/\PlainL s.heap a LD.toArray/\xs.length<=sizeLine:=by
 rcases h with h|⟨o,LD,n,hk,hc,hd,hs,hz,r⟩
 · obtain⟨z,LD,n,r,e⟩:=h.ok I.bu;exact⟨LD,r,⟨_,n,e,rfl,rfl,rfl⟩,z⟩
 · refine⟨LD.toList,r,⟨o,n,I.mW a o hk,hc,hd,by simpa using hs⟩,?_⟩;have e:=r.length;simp only[Ze] at e;omega
theorem Inv.tuple (I:Inv X pins σ H s)(h:bZ X.K H a xs):∃LD:aaj,Vals xs LD/\IsTup s.heap a LD.toArray/\xs.length<=sizeLine:=by
 rcases h with h|⟨o,LD,n,hk,hc,hs,hz,r⟩
 · obtain⟨z,LD,r,p⟩:=h.ok I.bu;exact⟨LD,r,p,z⟩
 · refine⟨LD.toList,r,⟨o,I.mW a o hk,hc,n,by simpa using hs⟩,?_⟩;have e:=r.length;simp only[Ze] at e;omega
theorem Inv.qF (I:Inv X pins σ H s)(h:aP X.K H a xs)(h':aP X.K H a ys):xs=ys:=by
 obtain⟨LD,r,⟨o,n,e,_,_,d⟩,_⟩:=I.list h;obtain⟨its',r',⟨o',n',e',_,_,d'⟩,_⟩:=I.list h';rw[e] at e';cases e';rw[d] at d';injection d' with d1 _;have:LD=its':=by simpa using YA Array.toList d1
 subst this;exact r.inj r'
theorem Inv.rR (I:Inv X pins σ H s)(h:bZ X.K H a xs)(h':bZ X.K H a ys):xs=ys:=by
 obtain⟨LD,r,⟨o,e,_,n,d⟩,_⟩:=I.tuple h;obtain⟨its',r',⟨o',e',_,n',d'⟩,_⟩:=I.tuple h';rw[e] at e';cases e';rw[d] at d';injection d' with d1 _;have:LD=its':=by simpa using YA Array.toList d1
 subst this;exact r.inj r'
end
abbrev Cx.iq (X:Cx)(E:aag):Cx:={X with xe:=E}
abbrev Cx.Ib (X:Cx):Cx:=X.iq λ_ _=>False
theorem Cx.Ok.iq {X:Cx}(ok:X.Ok)(E:aag):(X.iq E).Ok :=
 ⟨ok.mod,ok.kind,ok.glob,ok.blt,ok.above,ok.inj,ok.has,ok.Ii,ok.hd,ok.frames,ok.Fs,ok.Io,ok.bs,ok.C2,ok.zT,ok.zY,ok.mw,ok.FE⟩
theorem Cx.Ok.dk {X:Cx}{E:aag}(ok:(X.iq E).Ok):X.Ok :=
 ⟨ok.mod,ok.kind,ok.glob,ok.blt,ok.above,ok.inj,ok.has,ok.Ii,ok.hd,ok.frames,ok.Fs,ok.Io,ok.bs,ok.C2,ok.zT,ok.zY,ok.mw,ok.FE⟩
section
variable {X:Cx}{pins:aai}{σ:St}{H:Hp}{s:Shared}{E:aag}
theorem Inv.iq (I:Inv X pins σ H s) (E:aag):Inv (X.iq E) pins σ H s:=⟨I.ok.iq E,I.os,I.bare,I.base,I.loc,I.cell,I.free,I.gC,I.pin,I.bu,I.len⟩
theorem Inv.dk (I:Inv (X.iq E) pins σ H s):Inv X pins σ H s:=⟨I.ok.dk,I.os,I.bare,I.base,I.loc,I.cell,I.free,I.gC,I.pin,I.bu,I.len⟩
theorem SP.dk {D:Ends}{f:Flow}{s':Shared}(h:SP (X.iq E) pins D f s'):SP X pins D f s':=by
 cases f with
 |next=>obtain⟨σ',H',I,q⟩:=h;exact⟨σ',H',I.dk,q⟩
 |brk=>obtain⟨σ',H',I,q⟩:=h;exact⟨σ',H',I.dk,q⟩
 |cont=>obtain⟨σ',H',I,q⟩:=h;exact⟨σ',H',I.dk,q⟩
 |ret u=>obtain⟨v,σ',H',I,r,q⟩:=h;exact⟨v,σ',H',I.dk,r,q⟩
theorem qP.Ib {st:List Stmt}{t:TS}(h:qP X.Ib st t):qP X st t:=λpins s σ H D I hw =>
 YL (h pins s σ H D (I.iq _) hw) (λ_ _ q=>q.dk) λ_ _ z=>False.elim z
end
section
variable {X:Cx}{st:Stmt}{rest:List Stmt}{t u:TS}{e:Expr}{te:TE}{pos:Pos}
def Ij:TS:=λD σ H=>D.nx σ H
def GZ (t u:TS):TS:=λD σ H=>t {D with nx:=u D} σ H
theorem aB:qP X [] Ij:=λ_ _ σ H _ I h=>Zr ⟨σ,H,I,h⟩
theorem af (h1:PS X st t)(h2:qP X rest u):qP X (st::rest) (GZ t u):=by
 intro pins s σ H D I h;refine wpAny_execs_cons (bA (h1 pins s σ H {D with nx:=u D} I h) λf s1 q=>?_);cases f with
 |next =>
  obtain⟨σ',H',I',q⟩:=q;exact h2 pins s1 σ' H' D I' q
 |ret v=>exact q
 |brk=>exact q
 |cont=>exact q
theorem ak (h1:PS X st t):qP X [st] t:=by
 intro pins s σ H D I h;refine wpAny_execs_cons (bA (h1 pins s σ H D I h) λf s1 q=>?_);cases f with
 |next=>exact Zr q
 |ret v=>exact q
 |brk=>exact q
 |cont=>exact q
theorem Inv.quiet {pins:aai}{σ:St}{H:Hp}{s:Shared}(I:Inv X pins σ H s):interactive X.env=false:=by simp[interactive,I.ok.kind]
def IA (te:TE):TS:=λD σ H=>te σ H λ_ H1=>D.nx σ H1
theorem dR (he:PE X e te)(hs:swapsWith e none pos.line X.env=pure false:=by rfl):PS X (.Expr e pos) (IA te):=by
 intro pins s σ H D I h;exact wpAny_Expr_any (bA (he pins s σ H _ I h) λv s1 ⟨x,H1,I1,r1,q1⟩=>⟨σ,H1,I1,q1⟩) I.quiet hs
def Ff (te:TE):TS:=λD σ H=>te σ H D.rt
theorem az (he:PE X e te):PS X (.Return (some e) pos) (Ff te):=by
 intro pins s σ H D I h;exact wpAny_Return_some (bA (he pins s σ H _ I h) λv s1 ⟨x,H1,I1,r1,q1⟩=>⟨x,σ,H1,I1,r1,q1⟩)
def Ja (c:TT)(t u:TS):TS:=λD σ H=>c σ H λb H1=>if b=true then t D σ H1 else u D σ H1
theorem aO {c:Expr}{a b:List Stmt}{tc:TT}(hc:PT X c tc)(ha:qP X a t)(hb:qP X b u):PS X (.If c a b pos) (Ja tc t u):=by
 intro pins s σ H D I h;refine wpAny_If (bA (hc pins s σ H _ I h) λd s1 ⟨H1,I1,q1⟩=>?_);cases d with
 |true=>exact ha pins s1 σ H1 D I1 q1
 |false=>exact hb pins s1 σ H1 D I1 q1
end
abbrev TG:=V->St->Hp->(St->Hp->Prop)->Prop
abbrev Hj:=List V->St->Hp->(St->Hp->Prop)->Prop
def PG (X:Cx)(target:Expr)(t:TG):Prop :=
 ∀(pins:aai) (s:Shared) (σ:St) (H:Hp) (v:V) (u:Value) (Q:St->Hp->Prop),Inv X pins σ H s->RelV v u->t v σ H Q ->
  wpAny (model X.prog X.w) X.A (assign target X.env u) (λ_ s'=>∃σ' H',Inv X pins σ' H' s'/\Q σ' H') X.xe s
def JY (X:Cx)(ts:List Expr)(t:Hj):Prop :=
 ∀(pins:aai) (s:Shared) (σ:St) (H:Hp) (vs:List V) (us:aaj) (Q:St->Hp->Prop),Inv X pins σ H s->Vals vs us->t vs σ H Q ->
  wpAny (model X.prog X.w) X.A (assignInOrder ((assignEach ts X.env).map (·.2)) us) (λ_ s'=>∃σ' H',Inv X pins σ' H' s'/\Q σ' H') X.xe s
abbrev GK:=V->V->V->Hp->(Hp->Prop)->Prop
def JC (X:Cx)(t:GK):Prop :=
 ∀(pins:aai) (s:Shared) (σ:St) (H:Hp) (o i v:V) (ov iv u:Value) (Q:Hp->Prop),Inv X pins σ H s->RelV o ov->RelV i iv->RelV v u->t o i v H Q ->
  wpAny (model X.prog X.w) X.A (setItem ov iv u) (λ_ s'=>∃H',Inv X pins σ H' s'/\Q H') X.xe s
abbrev Ih:=V->V->Hp->VK->Prop
def J7 (X:Cx)(op:Operator)(t:Ih):Prop :=
 ∀(pins:aai) (s:Shared) (σ:St) (H:Hp) (x y:V) (v u:Value) (Q:VK),Inv X pins σ H s->RelV x v->RelV y u->t x y H Q ->
  wpAny (model X.prog X.w) X.A (inplaceOp op v u) (EP X pins σ Q) X.xe s
section
variable {X:Cx}{pos:Pos}
def fL (i:Nat):TG:=λv σ H Q=>Q (σ.set i (some v)) H
theorem sS {i:Nat}{x:Str}(hN:X.N.Nodup)(hi:X.N[i]?=some x)(hx:Loc X.env.scope x)(hf:X.fn x=true∨X.env.scope.names.lookup x=some .local:=by first|exact .inl rfl|exact .inr rfl|assumption):PG X (.Name x pos) (fL i):=by
 intro pins s σ H v u Q I r h;exact wpAny_assign_Name (mf I hN hi hx r (λs' I'=>⟨_,H,I',h⟩) hf)
def E8:Hj:=λvs σ H Q=>vs=[]/\Q σ H
def oS (t:TG)(u:Hj):Hj:=λvs σ H Q=>∃v r,vs=v::r/\t v σ H λσ' H'=>u r σ' H' Q
theorem i9:JY X [] E8:=by
 intro pins s σ H vs us Q I r h;obtain⟨e,h⟩:=h;subst e;cases r;exact assignInOrder_nil ⟨σ,H,I,h⟩
theorem b9 {e:Expr}{es:List Expr}{t:TG}{u:Hj}(h1:PG X e t)(h2:JY X es u)
  (hs:(assignEach (e::es) X.env).map (·.2)=assign e X.env::(assignEach es X.env).map (·.2):=by rfl):JY X (e::es) (oS t u):=by
 intro pins s σ H vs us Q I r h;obtain⟨v,vr,e1,h⟩:=h;subst e1;cases r with
 |cons r rr =>
  rw[hs];refine assignInOrder_cons (bA (h1 pins s σ H _ _ _ I r h) λ_ s1 ⟨σ1,H1,I1,q1⟩=>?_);exact h2 pins s1 σ1 H1 _ _ Q I1 rr q1
def Em (K:aaf)(n:Nat)(t:Hj):TG:=λv σ H Q=>∃a xs,v=.ref a/\bZ K H a xs/\xs.length=n/\t xs σ H Q
theorem k_ {es:List Expr}{k:Nat}{t:Hj}{n:Nat}(hc:X.calm=true)(h:JY X es t)
  (hn:(assignEach es X.env).length=n:=by rfl)(Mi:(assignEach es X.env).findIdx? (·.1)=none:=by rfl):PG X (.Tuple es k pos) (Em X.K n t):=by
 intro pins s σ H v u Q I r hw;obtain⟨a,xs,e1,hq,hl,hw⟩:=hw;subst e1;cases r;obtain⟨LD,rv,ht,hz⟩:=I.tuple hq;refine assign_Tuple_tuple (I.ok.hd hc) ht (by simp[hn,←hl,rv.length]) Mi λh' hx=>?_;have I1:Inv X pins σ H {s with heap:=h'}:=I.kept (t':=s.toks) λb o e=>hx b o (X6 (XG e)) e;exact h pins _ σ H xs _ Q I1 (by simpa using rv) hw
def zX (te:TE)(g:TG):TS:=λD σ H=>te σ H λx H1=>g x σ H1 D.nx
theorem Cp {tg e:Expr}{te:TE}{g:TG}(he:PE X e te)(hg:PG X tg g)(hs:swapsWithSole [tg] e pos.line X.env=pure false:=by rfl)(hw:swappedStores [tg] e X.env=pure none:=by rfl)
  (h1:(assignEach [tg] X.env).map (·.2)=[assign tg X.env]:=by rfl):PS X (.Assign [tg] e pos) (zX te g):=by
 intro pins s σ H D I h;refine wpAny_Assign_stores (bA (he pins s σ H _ I h) λv s1 ⟨x,H1,I1,r1,q1⟩=>?_) hs hw;rw[h1];exact bA (hg pins s1 σ H1 x v _ I1 r1 q1) λ_ s2 q=>q
theorem qj {i:Nat}{x:Str}{e:Expr}{te:TE}{pos':Pos}(hN:X.N.Nodup)(hi:X.N[i]?=some x)(hx:Loc X.env.scope x)(he:PE X e te)(hs:swapsWith e (some (.Name x pos')) pos.line X.env=pure false:=by rfl)(hf:X.fn x=true∨X.env.scope.names.lookup x=some .local:=by first|exact .inl rfl|exact .inr rfl|assumption) :
  PS X (.Assign [.Name x pos'] e pos) (zX te (fL i)):=by
 intro pins s σ H D I h;refine wpAny_Assign_Name (bA (he pins s σ H _ I h) λv s1 ⟨y,H1,I1,r1,q1⟩=>?_) hs;exact mf I1 hN hi hx r1 (λs2 I2=>⟨_,H1,I2,q1⟩) hf
def Kx (i:Nat)(te:TE)(ti:Ih):TS:=λD σ H=>∃x,σ[i]?=some (some x)/\te σ H λy H1=>ti x y H1 λz H2=>D.nx (σ.set i (some z)) H2
theorem Bs {i:Nat}{x:Str}{e:Expr}{te:TE}{op:Operator}{ti:Ih}{pos':Pos}(hN:X.N.Nodup)(hi:X.N[i]?=some x)(hx:Loc X.env.scope x)(he:PE X e te)(ho:J7 X op ti)(hf:X.fn x=true∨X.env.scope.names.lookup x=some .local:=by first|exact .inl rfl|exact .inr rfl|assumption) :
  PS X (.AugAssign (.Name x pos') op e pos) (Kx i te ti):=by
 intro pins s σ H D I h;obtain⟨v,e1,h⟩:=h;obtain⟨m,hn,hl⟩:=I.loc;have U4:Ic X.env.scope x:=by rcases hx with k|k;exact .inl k;exact .inr (.inl k)
 obtain⟨u,r,l⟩:=hl i x v hi e1 U4;refine wpAny_AugAssign_Name ?_;have go:wpAny (model X.prog X.w) X.A (eval e X.env) (λw s₂=>wpAny (model X.prog X.w) X.A (inplaceOp op u w) (λr s₃=>wpAny (model X.prog X.w) X.A (storeName X.env x r) (λ_=>SP X pins D .next) X.xe s₃) X.xe s₂) X.xe s:=by
  refine bA (he pins s σ H _ I h) λw s1 ⟨y,H1,I1,r1,q1⟩=>?_;refine bA (ho pins s1 σ H1 v y u w _ I1 r r1 q1) λz s2 ⟨zv,H2,I2,r2,q2⟩=>?_;exact mf I2 hN hi hx r2 (λs3 I3=>⟨_,H2,I3,q2⟩) hf
 rcases l with ⟨hk,hm⟩|⟨hk,c,hc,Mo⟩
 · exact wpAny_loadName_local I.ok.kind hk hn hm go
 · rcases hk with hk|hk
   · exact wpAny_loadName_cell I.ok.kind hk hc Mo go
   · rcases hx with k|k
     · have:X.env.scope.names.lookup x=some .free:=hk;rw[k] at this;cases this
     · have:X.env.scope.names.lookup x=some .free:=hk;rw[k] at this;cases this
def JL (to ti te:TE)(M1:V->V->Hp->VK->Prop)(PH:Ih)(M3:GK):TS:=λD σ H=>to σ H λo H1=>ti σ H1 λi H2=>M1 o i H2 λx H3=>te σ H3 λy H4=>PH x y H4 λz H5=>M3 o i z H5 λH6=>D.nx σ H6
def JM (X:Cx)(t:V->V->Hp->VK->Prop):Prop :=
 ∀(pins:aai) (s:Shared) (σ:St) (H:Hp) (o i:V) (ov iv:Value) (Q:VK),Inv X pins σ H s->RelV o ov->RelV i iv->t o i H Q ->
  wpAny (model X.prog X.w) X.A (getItem ov iv) (EP X pins σ Q) X.xe s
theorem DV {o i e:Expr}{to ti te:TE}{M1:V->V->Hp->VK->Prop}{PH:Ih}{M3:GK}{op:Operator}{LV:Pos}(ho:PE X o to)(hi:PE X i ti)(hg:JM X M1)(he:PE X e te)(hp:J7 X op PH)(hs:JC X M3)
  (ha:∀ov iv new,augStore i ov iv new=(do holding [new,ov,iv] (setItem ov iv new);release [new,ov,iv] [];pure .next):=by intros;rfl):PS X (.AugAssign (.Subscript o i LV) op e pos) (JL to ti te M1 PH M3):=by
 intro pins s σ H D I h;refine wpAny_AugAssign_SubscriptAny (bA (ho pins s σ H _ I h) λov s1 ⟨x1,H1,I1,r1,q1⟩=>?_) ha;refine bA (hi pins s1 σ H1 _ I1 q1) λiv s2 ⟨x2,H2,I2,r2,q2⟩=>?_;refine bA (hg pins s2 σ H2 x1 x2 ov iv _ I2 r1 r2 q2) λold s3 ⟨x3,H3,I3,r3,q3⟩=>?_;refine bA (he pins s3 σ H3 _ I3 q3) λv s4 ⟨x4,H4,I4,r4,q4⟩=>?_;refine bA (hp pins s4 σ H4 x3 x4 old v _ I4 r3 r4 q4) λnew s5 ⟨x5,H5,I5,r5,q5⟩=>?_;exact bA (hs pins s5 σ H5 x1 x2 x5 ov iv new _ I5 r1 r2 r5 q5) λ_ s6 ⟨H6,I6,q6⟩=>⟨σ,H6,I6,q6⟩
def Lx (f:Int->Int->Int):Ih:=λx y H Q=>∃i j,x=.int i/\y=.int j/\Q (.int (f i j)) H
theorem Bn:J7 X .Add (Lx λi j=>i+j):=by
 intro pins s σ H x y v u Q I r1 r2 h;obtain⟨i,j,e1,e2,q⟩:=h;subst e1;subst e2;obtain⟨t,rfl⟩:=r1;obtain⟨t',rfl⟩:=r2;exact iadd_int ⟨.int _,H,I.tok _,⟨_,rfl⟩,q⟩
end
section
variable {X:Cx}{pos:Pos}
def xw (c:TT) (tb:TS):TS:=λD σ H=>∃W:Nat->St->Hp->Prop,(∃m,W m σ H)/\∀m σ H,W m σ H ->
 c σ H λb H1=>if b=true then ∃N:St->Hp->Prop,(∀σ' H',N σ' H'->∃m',m' < m/\W m' σ' H')/\tb {D with nx:=N,ct:=N,bk:=D.nx} σ H1 else D.nx σ H1
theorem BQ {c:Expr}{body:List Stmt}{tc:TT}{tb:TS}(hp:PassesOwn (model X.prog X.w) X.A X.env X.xe)(hc:PT X c tc)(hb:qP X body tb):PS X (.While c body [] pos) (xw tc tb):=by
 intro pins s σ H D I h;obtain⟨W,⟨m0,w0⟩,turn⟩:=h;refine wpAny_While (codeAny_whileLoop (λn s'=>∃σ' H',Inv X pins σ' H' s'/\W n σ' H') ?_ m0 ⟨σ,H,I,w0⟩);rintro n s1 ⟨σ1,H1,I1,w1⟩;refine YN hp (bA (hc pins s1 σ1 H1 _ I1 (turn n σ1 H1 w1)) λb s2 ⟨H2,I2,q2⟩=>?_);cases b with
 |true =>
  obtain⟨N,hN,q2⟩:=q2;rw[Xv rfl];refine YN hp (bA (hb pins s2 σ1 H2 _ I2 q2) λf s3 q3=>?_);cases f with
  |next =>
   obtain⟨σ3,H3,I3,n3⟩:=q3;obtain⟨m',hm,w3⟩:=hN σ3 H3 n3;exact⟨m',hm,σ3,H3,I3,w3⟩
  |cont =>
   obtain⟨σ3,H3,I3,n3⟩:=q3;obtain⟨m',hm,w3⟩:=hN σ3 H3 n3;exact⟨m',hm,σ3,H3,I3,w3⟩
  |brk=>exact q3
  |ret v=>exact q3
 |false =>
  rw[Xu XU];exact Zr ⟨σ1,H2,I2,q2⟩
end
structure It where
 go:Nat->Hp->Prop
 vZ:Nat->Hp->V->Hp->Prop
 stop:Nat->Hp->Prop
def nj (X:Cx)(pins:aai)(H:Hp)(b:Addr):Prop :=
 H b=none/\b≠X.env.locals/\b∉X.fs/\(b∈X.ex∨X.kJ.heap.objs.size<=b)/\(∀x c,X.env.cells.lookup x=some c->c≠b)/\∀p∈X.pn++pins,p.1≠b
theorem Inv.xq {X:Cx}{pins:aai}{σ:St}{H H':Hp}{s:Shared}{b:Addr}(I:Inv X pins σ H s)(hb:s.heap.objs.size<=b)(hn:H' b=none):nj X pins H' b:=by
 refine⟨hn,Nat.ne_of_gt (X_ I.lt hb),I.K0 hb,.inr (Yh I.sz hb),λx c e z=>?_,λp hp z=>?_⟩
 · obtain⟨v,q⟩:=I.cell x c e;exact absurd (X_ q.lt (by rw[z];exact hb)) (YO _)
 · exact absurd (X_ (XG (I.pin p hp).1) (by rw[z];exact hb)) (YO _)
structure Turn (P:Program)(w:World)(K:aaf)(tg:Expr)(J:It)(fp:List Addr)(it:Addr)(tn:Nat->Heap->Prop):Prop where
 mem:it∈fp
 obj:∀i h,tn i h->∀b∈fp,∃o,h.get? b=some o/\∀v,o.data≠.cell v
 keep:∀i h h',tn i h->(∀b∈fp,∀o,h.get? b=some o->h'.get? b=some o)->tn i h'
 item:∀(X:Cx),X.prog=P->X.w=w->X.K=K->X.calm=true->∀(i:Nat) (pins:aai) (s:Shared) (σ:St) (H:Hp) (E:aag),Inv X pins σ H s->(∀b∈fp,nj X pins H b)->tn i s.heap->J.go i H ->
  wpAny (model P w) X.A (pyNext (.ref it)) (λr s1=>∃u,r=some u /\
   wpAny (model P w) X.A (letOwnedTupleGo tg (.ref it) u) (λ_ s2=>∃x H',Inv X pins σ H' s2/\RelV x u/\J.vZ i H x H'/\tn (i+1) s2.heap/\∀b∈fp,H' b=none) E s1) E s
 done:∀(X:Cx),X.prog=P->X.w=w->X.K=K->X.calm=true->∀(i:Nat) (pins:aai) (s:Shared) (σ:St) (H:Hp) (E:aag),Inv X pins σ H s->(∀b∈fp,nj X pins H b)->tn i s.heap->J.stop i H ->
  wpAny (model P w) X.A (pyNext (.ref it)) (λr s1=>r=none/\Inv X pins σ H s1) E s
 self:∀(A:Around) (i:Nat) (s:Shared) (Q:aag) (E:aag),tn i s.heap->Q (.ref it) s->wpAny (model P w) A (pyIter (.ref it)) Q E s
abbrev TI:=St->Hp->(It->Hp->Prop)->Prop
def J5 (X:Cx)(pins:aai)(σ:St)(tg:Expr)(R:It->Hp->Prop)(PJ:Value)(s2:Shared):Prop :=
 ∃(it:Addr) (fp:List Addr) (tn:Nat->Heap->Prop) (J:It) (H':Hp),PJ=.ref it/\Inv X pins σ H' s2/\Turn X.prog X.w X.K tg J fp it tn/\tn 0 s2.heap/\(∀b∈fp,nj X pins H' b)/\R J H'
def PI (X:Cx)(tg iter:Expr)(wi:TI):Prop :=
 ∀(pins:aai) (s:Shared) (σ:St) (H:Hp) (R:It->Hp->Prop),Inv X pins σ H s->wi σ H R ->
  wpAny (model X.prog X.w) X.A (eval iter X.env) (λv s1=>wpAny (model X.prog X.w) X.A (pyIter v) (J5 X pins σ tg R) X.xe s1) X.xe s
theorem vE {M:Model}{A:Around}{E:aag}{s:Shared}{tg:Expr}{it:Addr}{u:Value}{o:Obj}{n:String}{vs:Array Value}{Q:Unit->Shared->Prop}(ho:s.heap.get? it=some o)(hc:o.cls=.type n)(hd:o.data=.fields vs)
  (hn:["enumerate","zip","dict_itemiterator","dict_reverseitemiterator","odict_iterator","itertools.zip_longest","itertools.pairwise"].contains n=false)(hQ:Q () s):wpAny M A (letOwnedTupleGo tg (.ref it) u) Q E s:=by
 unfold letOwnedTupleGo;cases tg <;> first
  |exact Xz hQ
  |(cases u <;> first
    |exact Xz hQ
    |(refine Xr (wpAny_load ho ?_)
      rw[hc,hd];show wpAny M A (if (["enumerate","zip","dict_itemiterator","dict_reverseitemiterator","odict_iterator","itertools.zip_longest","itertools.pairwise"].contains n&&vs[0]?==some (rawInt _))=true then _ else _) Q E s;rw[Xu (by intro h;rw[hn,Bool.false_and] at h;cases h)];exact Xz hQ))
def AD (K:aaf)(a:Addr):It :=
 ⟨λi H=>∃xs x,aP K H a xs/\xs[i]?=some x,λi H x H'=>H'=H/\∀xs,aP K H a xs->xs[i]?=some x,λi H=>∃xs,aP K H a xs/\xs.length<=i⟩
def JA (K:aaf)(a:Addr):It :=
 ⟨λi H=>∃xs x,bZ K H a xs/\xs[i]?=some x,λi H x H'=>H'=H/\∀xs,bZ K H a xs->xs[i]?=some x,λi H=>∃xs,bZ K H a xs/\xs.length<=i⟩
def Az (lo:Int)(n:Nat):It:=⟨λi _=>i < n,λi H x H'=>H'=H/\x=.int (lo+i),λi _=>n<=i⟩
theorem zu {P:Program}{w:World}{K:aaf}{tg:Expr}(a it:Addr):Turn P w K tg (AD K a) [it] it (λi h=>h.IsListIter it a i) where
 mem:=by simp
 obj:=λi h st b hb=>by
  have e:b=it:=by simpa using hb
  subst e;obtain⟨o,e,c,d⟩:=st;exact⟨o,e,λv z=>by rw[d] at z;cases z⟩
 keep:=λi h h' st k=>st.at λo e=>k it (by simp) o e
 item:=by
  intro X hP hw hK hc i pins s σ H E I hf st hg;subst hP hw hK;obtain⟨xs,x,hq,hx⟩:=hg;obtain⟨LD,rv,p,hz⟩:=I.list hq;obtain⟨u,hu,ru⟩:=rv.get hx;obtain⟨f0,f1,f2,f3,f4,f5⟩:=hf it (by simp);refine wpAny_pyNext_list_item st p.isList (x:=u) (by simpa using hu) λh' Mp sb=>?_;have I1:Inv X pins σ H {s with heap:=h'}:=I.turned (t':=s.toks) (λb o hb e=>(sb.2 b hb).trans e) f0 f1 f3 f4 f5;obtain⟨o,e,c,d⟩:=id Mp;exact⟨u,rfl,vE (s:={s with heap:=h'}) e c d (by decide) ⟨x,H,I1,ru,⟨rfl,λys hy=>by rw[I.qF hy hq];exact hx⟩,Mp,λb hb=>(hf b hb).1⟩⟩
 done:=by
  intro X hP hw hK hc i pins s σ H E I hf st hg;subst hP hw hK;obtain⟨xs,hq,hx⟩:=hg;obtain⟨LD,rv,p,hz⟩:=I.list hq;obtain⟨f0,f1,f2,f3,f4,f5⟩:=hf it (by simp);have hl:=rv.length;exact wpAny_pyNext_list_end (I.ok.hd hc) st p.isList (by simp;omega) λh' eb=>⟨rfl,I.turned (t':=s.toks) (λb o hb e=>eb b o hb e) f0 f1 f3 f4 f5⟩
 self:=λ_ _ _ _ _ st h=>wpAny_pyIter_listiter st h
theorem xu {P:Program}{w:World}{K:aaf}{tg:Expr}(a it:Addr):Turn P w K tg (JA K a) [it] it (λi h=>h.IsTupleIter it a i) where
 mem:=by simp
 obj:=λi h st b hb=>by
  have e:b=it:=by simpa using hb
  subst e;obtain⟨o,e,c,d⟩:=st;exact⟨o,e,λv z=>by rw[d] at z;cases z⟩
 keep:=λi h h' st k=>st.at λo e=>k it (by simp) o e
 item:=by
  intro X hP hw hK hc i pins s σ H E I hf st hg;subst hP hw hK;obtain⟨xs,x,hq,hx⟩:=hg;obtain⟨LD,rv,p,hz⟩:=I.tuple hq;obtain⟨u,hu,ru⟩:=rv.get hx;obtain⟨f0,f1,f2,f3,f4,f5⟩:=hf it (by simp);refine wpAny_pyNext_tuple_item st (show s.heap.IsTuple a LD.toArray from p) (x:=u) (by simpa using hu) λh' Mp sb=>?_;have I1:Inv X pins σ H {s with heap:=h'}:=I.turned (t':=s.toks) (λb o hb e=>(sb.2 b hb).trans e) f0 f1 f3 f4 f5;obtain⟨o,e,c,d⟩:=id Mp;exact⟨u,rfl,vE (s:={s with heap:=h'}) e c d (by decide) ⟨x,H,I1,ru,⟨rfl,λys hy=>by rw[I.rR hy hq];exact hx⟩,Mp,λb hb=>(hf b hb).1⟩⟩
 done:=by
  intro X hP hw hK hc i pins s σ H E I hf st hg;subst hP hw hK;obtain⟨xs,hq,hx⟩:=hg;obtain⟨LD,rv,p,hz⟩:=I.tuple hq;obtain⟨f0,f1,f2,f3,f4,f5⟩:=hf it (by simp);have hl:=rv.length;exact wpAny_pyNext_tuple_end (I.ok.hd hc) st (show s.heap.IsTuple a LD.toArray from p) (by simp;omega) λh' eb=>⟨rfl,I.turned (t':=s.toks) (λb o hb e=>eb b o hb e) f0 f1 f3 f4 f5⟩
 self:=λ_ _ _ _ _ st h=>wpAny_pyIter_tupleiter st h
theorem wC {P:Program}{w:World}{K:aaf}{tg:Expr}(it:Addr)(lo:Int)(n:Nat):Turn P w K tg (Az lo n) [it] it (λi h=>IsRangeIter h it (lo+(i:Nat)*1) ((n:Int) - (i:Nat)) 1) where
 mem:=by simp
 obj:=λi h st b hb=>by
  have e:b=it:=by simpa using hb
  subst e;exact⟨_,st,λv z=>by
   have z':Data.fields _=Data.cell v:=z;cases z'⟩
 keep:=λi h h' st k=>k it (by simp) _ st
 item:=by
  intro X hP hw hK hc i pins s σ H E I hf st hg;subst hP hw hK;obtain⟨f0,f1,f2,f3,f4,f5⟩:=hf it (by simp);have W:=Walks.range (prog:=X.prog) (w:=X.w) (I.ok.hd hc) it lo 1 n;refine W.item i s _ _ hg st λv h' tk hv Mp kk=>?_;obtain⟨t,rfl⟩:=hv;have I1:Inv X pins σ H {s with heap:=h',toks:=tk}:=I.turned (λb o hb e=>kk b o (by simpa using hb) e) f0 f1 f3 f4 f5;refine⟨_,rfl,vE (s:={s with heap:=h',toks:=tk}) (n:="range_iterator") Mp rfl rfl (by decide) ⟨.int (lo+i),H,I1,⟨t,?_⟩,⟨rfl,rfl⟩,Mp,λb hb=>(hf b hb).1⟩⟩;rw[Int.mul_one]
 done:=by
  intro X hP hw hK hc i pins s σ H E I hf st hg;subst hP hw hK;obtain⟨f0,f1,f2,f3,f4,f5⟩:=hf it (by simp);exact wpAny_pyNext_range_end (I.ok.hd hc) st (by have:n<=i:=hg;omega) λh' eb=>⟨rfl,I.turned (t':=s.toks) (λb o hb e=>eb b o hb e) f0 f1 f3 f4 f5⟩
 self:=λ_ _ _ _ _ st h=>wpAny_pyIter_rangeiter st h
section
variable {X:Cx}{tg:Expr}
def Fi (K:aaf) (tl:TE):TI:=λσ H R=>tl σ H λx H1=>∃a,x=.ref a/\(∃xs,aP K H1 a xs)/\R (AD K a) H1
def KR (K:aaf)(tl:TE):TI:=λσ H R=>tl σ H λx H1=>∃a,x=.ref a/\(∃xs,bZ K H1 a xs)/\R (JA K a) H1
theorem bJ {l:Expr}{tl:TE}(hl:PE X l tl):PI X tg l (Fi X.K tl):=by
 intro pins s σ H R I h;refine bA (hl pins s σ H _ I h) λv s1 ⟨x,H1,I1,r1,q1⟩=>?_;obtain⟨a,e,⟨xs,hq⟩,q⟩:=q1;subst e;cases r1;obtain⟨LD,rv,p,hz⟩:=I1.list hq;refine wpAny_pyIter_list p.isList ?_;refine⟨s1.heap.objs.size,[s1.heap.objs.size],_,_,H1,rfl,I1.kept (t':=s1.toks) λb o e=>Xw _ e,zu a _,⟨_,XJ _ rfl,rfl,rfl⟩,λb hb=>?_,q⟩;have e:b=s1.heap.objs.size:=by simpa using hb
 subst e;exact I1.xq (XC _) (I1.bu.fresh (XC _))
theorem GF {l:Expr}{tl:TE}(hl:PE X l tl):PI X tg l (KR X.K tl):=by
 intro pins s σ H R I h;refine bA (hl pins s σ H _ I h) λv s1 ⟨x,H1,I1,r1,q1⟩=>?_;obtain⟨a,e,⟨xs,hq⟩,q⟩:=q1;subst e;cases r1;obtain⟨LD,rv,p,hz⟩:=I1.tuple hq;refine wpAny_pyIter_tuple (show s1.heap.IsTuple a LD.toArray from p) ?_;refine⟨s1.heap.objs.size,[s1.heap.objs.size],_,_,H1,rfl,I1.kept (t':=s1.toks) λb o e=>Xw _ e,xu a _,⟨_,XJ _ rfl,rfl,rfl⟩,λb hb=>?_,q⟩;have e:b=s1.heap.objs.size:=by simpa using hb
 subst e;exact I1.xq (XC _) (I1.bu.fresh (XC _))
theorem vN {pins:aai}{σ:St}{H:Hp}{s:Shared}{R:It->Hp->Prop}{E:aag}{lo hi:Int}{t u v:Tok}{tk:Nat}(I:Inv X pins σ H s)(h1:-(2 ^ 62)<=lo)(h2:lo < 2 ^ 62)(h3:-(2 ^ 62)<=hi)(h4:hi < 2 ^ 62)
  (q:R (Az lo (hi - lo).toNat) H):wpAny (model X.prog X.w) X.A (pyIter (.ref s.heap.objs.size)) (J5 X pins σ tg R) E {s with heap:=s.heap.push {cls:=.type "range",data:=.fields #[.int lo t,.int hi u,.int 1 v]},toks:=tk}:=by
 refine wpAny_pyIter_range (IsRange.new ..) (small_one h1 h2 h3 h4) ?_;have I1:Inv X pins σ H {s with heap:=s.heap.push {cls:=.type "range",data:=.fields #[.int lo t,.int hi u,.int 1 v]},toks:=tk}:=I.kept λb o e=>Xw _ e;refine⟨(s.heap.push {cls:=.type "range",data:=.fields #[.int lo t,.int hi u,.int 1 v]}).objs.size,[(s.heap.push {cls:=.type "range",data:=.fields #[.int lo t,.int hi u,.int 1 v]}).objs.size],_,_,H,rfl,
  I1.kept (t':=tk) λb o e=>Xw _ e,wC _ lo (hi - lo).toNat,?_,λb hb=>?_,q⟩
 · have e1:lo+((0:Nat):Int)*1=lo:=by simp
   have e2:(((hi - lo).toNat:Nat):Int) - ((0:Nat):Int)=Builtin.Range.rangeSize lo hi 1:=by rw[rangeSize_one];split <;> omega
   show IsRangeIter _ _ (lo+((0:Nat):Int)*1) ((((hi - lo).toNat:Nat):Int) - ((0:Nat):Int)) 1;rw[e1,e2];exact XJ _ rfl
 · have e:b=(s.heap.push {cls:=.type "range",data:=.fields #[.int lo t,.int hi u,.int 1 v]}).objs.size:=by simpa using hb
   subst e;exact I1.xq (XC _) (I1.bu.fresh (XC _))
def A_ (ta:TA):TI:=λσ H R=>ta σ H λvs H1=>∃j:Int,vs=[.int j]/\-(2 ^ 62)<=j/\j < 2 ^ 62/\R (Az 0 j.toNat) H1
def FV (ta:TA):TI:=λσ H R=>ta σ H λvs H1=>∃i j:Int,vs=[.int i,.int j]/\(-(2 ^ 62)<=i/\i < 2 ^ 62/\-(2 ^ 62)<=j/\j < 2 ^ 62)/\R (Az i (j - i).toNat) H1
theorem gf {a:Expr}{ta:TA}{p pos:Pos}(hg:Gl X "range")(hm:X.mg "range"=none)(ha:PA X [a] ta)(hs:starEach [a] X.env=[(false,eval a X.env)]:=by rfl):PI X tg (.Call (.Name "range" p) [a] [] pos) (A_ ta):=by
 intro pins s σ H R I h;refine Call_ (lh I hg hm boot_range (YV (bA (ha pos pins s σ H _ I h) λus s1 ⟨vs,H1,I1,r1,q1⟩=>?_) hs rfl));obtain⟨j,e,q1,q2,q⟩:=q1;subst e;cases r1 with
 |cons r rr =>
  cases rr;obtain⟨t,rfl⟩:=r;exact call_range_1 (vN I1 (by omega) (by omega) q1 q2 (by simpa using q))
theorem rE {a b:Expr}{ta:TA}{p pos:Pos}(hg:Gl X "range")(hm:X.mg "range"=none)(ha:PA X [a,b] ta)(hs:starEach [a,b] X.env=[(false,eval a X.env),(false,eval b X.env)]:=by rfl)(NJ:starEach [b] X.env=[(false,eval b X.env)]:=by rfl) :
  PI X tg (.Call (.Name "range" p) [a,b] [] pos) (FV ta):=by
 intro pins s σ H R I h;refine Call_ (lh I hg hm boot_range (YV (bA (ha pos pins s σ H _ I h) λus s1 ⟨vs,H1,I1,r1,q1⟩=>?_) (by rw[hs,NJ]) (by rw[NJ];rfl)));obtain⟨i,j,e,⟨q1,q2,q3,q4⟩,q⟩:=q1;subst e;cases r1 with
 |cons r rr =>
  cases rr with
  |cons r' rr =>
   cases rr;obtain⟨t,rfl⟩:=r;obtain⟨t',rfl⟩:=r';exact call_range_2 (vN I1 q1 q2 q3 q4 q)
def GH (wi:TI)(g:TG)(tb:TS):TS:=λD σ H=>wi σ H λJ H1=>∃W:Nat->Nat->St->Hp->Prop,(∃m,W 0 m σ H1)/\∀i m σ H,W i m σ H ->
 (J.stop i H/\D.nx σ H)∨(J.go i H/\∃N:St->Hp->Prop,(∀σ' H',N σ' H'->∃m',m' < m/\W (i+1) m' σ' H')/\∀x H',J.vZ i H x H'->g x σ H' λσ2 H2=>tb {D with nx:=N,ct:=N,bk:=D.nx} σ2 H2)
def mN (fp:List Addr)(h:Heap):aai:=fp.filterMap λb=>(h.get? b).map λo=>(b,o)
theorem gE {fp:List Addr}{h:Heap}{b:Addr}{o:Obj}(hb:b∈fp)(e:h.get? b=some o):(b,o)∈mN fp h:=List.mem_filterMap.mpr ⟨b,hb,by rw[e];rfl⟩
theorem zW {fp:List Addr}{h:Heap}{p:Addr×Obj}(hp:p∈mN fp h):p.1∈fp/\h.get? p.1=some p.2:=by
 obtain⟨b,hb,e⟩:=List.mem_filterMap.mp hp;cases q:h.get? b with
 |none=>rw[q] at e;cases e
 |some o =>
  rw[q] at e;have e':(b,o)=p:=X7 e;subst e';exact⟨hb,q⟩
theorem Inv.pinned {pins:aai}{σ:St}{H:Hp}{s:Shared}{fp:List Addr}(I:Inv X pins σ H s)(hf:∀b∈fp,nj X pins H b)(ho:∀b∈fp,∃o,s.heap.get? b=some o/\∀v,o.data≠.cell v):Inv X (pins++mN fp s.heap) σ H s :=
 I.ml λp hp=>(Yj.mp hp).elim (λz=>I.pin p (Ys _ z)) λz=>by
  obtain⟨hb,e⟩:=zW z;obtain⟨f0,f1,f2,_⟩:=hf p.1 hb;obtain⟨o,e',d⟩:=ho p.1 hb;rw[e] at e';cases e';exact⟨e,f0,f1,f2,d⟩
theorem Inv.iF {pins pl:aai}{σ:St}{H:Hp}{s:Shared}(I:Inv X (pins++pl) σ H s):Inv X pins σ H s:=I.ml λp hp=>I.pin p (Ys _ (List.mem_append_left _ hp))
theorem da {iter:Expr}{body:List Stmt}{wi:TI}{g:TG}{tb:TS}{pos:Pos}(hp:PassesOwn (model X.prog X.w) X.A X.env X.xe)(hc:X.calm=true)(hi:PI X tg iter wi)(hg:PG X tg g)(hb:qP X body tb)
  (hs:∀x,foldedSetIterable iter X.env x=pure x:=by intro _;rfl):PS X (.For tg iter body [] pos) (GH wi g tb):=by
 intro pins s σ H D I h;refine wpAny_For (bA (hi pins s σ H _ I h) λv s1 h1=>bA h1 λPJ s2 h2=>?_) hs;obtain⟨it,fp,tn,J,H2,e,I2,T,N9,f2,W,⟨m0,w0⟩,turn⟩:=h2;subst e;have LY:∀{H':Hp},(∀b∈fp,H' b=none)->∀b∈fp,nj X pins H' b:=λhn b hb=>⟨hn b hb,(f2 b hb).2⟩;refine codeAny_forLoop_any (λn s'=>∃i σ' H',Inv X pins σ' H' s'/\tn i s'.heap/\(∀b∈fp,H' b=none)/\W i n σ' H') ?_ m0 ⟨0,σ,H2,I2,N9,λb hb=>(f2 b hb).1,w0⟩;rintro n s3 ⟨i,σ3,H3,I3,NK,OJ,w3⟩;rcases turn i n σ3 H3 w3 with ⟨stop,qn⟩|⟨go,N,hN,step⟩
 · refine YN hp (bA (T.done X rfl rfl rfl hc i pins s3 σ3 H3 X.xe I3 (LY OJ) NK stop) λr s4 ⟨hr,I4⟩=>?_);subst hr;exact Zr ⟨σ3,H3,I4,qn⟩
 · refine YN hp (bA (T.item X rfl rfl rfl hc i pins s3 σ3 H3 X.xe I3 (LY OJ) NK go) λr s4 ⟨u,hr,h4⟩=>?_);subst hr;refine YN hp (bA h4 λ_ s5 ⟨x,H5,I5,r5,y5,MS,QN⟩=>?_);have QO:=I5.pinned (LY QN) (T.obj _ _ MS);refine YN hp (bA (hg _ s5 σ3 H5 x u _ QO r5 (step x H5 y5)) λ_ s6 ⟨σ6,H6,I6,q6⟩=>?_);refine YN hp (bA (hb _ s6 σ6 H6 _ I6 q6) λf s7 q7=>?_);have again:∀{σ7:St} {H7:Hp},Inv X (pins++mN fp s5.heap) σ7 H7 s7->N σ7 H7->∃m,m < n/\∃i σ' H',Inv X pins σ' H' s7/\tn i s7.heap/\(∀b∈fp,H' b=none)/\W i m σ' H':=λ{σ7 H7} I7 n7=>by
    obtain⟨m',hm,w7⟩:=hN σ7 H7 n7;refine⟨m',hm,i+1,σ7,H7,I7.iF,T.keep _ _ _ MS λb hb o e=>(I7.pin (b,o) (Ys _ (Ys _ (gE hb e)))).1,λb hb=>?_,w7⟩;obtain⟨o,e,d⟩:=T.obj _ _ MS b hb;exact (I7.pin (b,o) (Ys _ (Ys _ (gE hb e)))).2.1
   cases f with
   |next=>obtain⟨σ7,H7,I7,n7⟩:=q7;exact again I7 n7
   |cont=>obtain⟨σ7,H7,I7,n7⟩:=q7;exact again I7 n7
   |brk=>obtain⟨σ7,H7,I7,q7⟩:=q7;exact⟨σ7,H7,I7.iF,q7⟩
   |ret v=>obtain⟨x7,σ7,H7,I7,r7,q7⟩:=q7;exact⟨x7,σ7,H7,I7.iF,r7,q7⟩
end
theorem df {K:aaf}{a:Addr}{xs:List V}{g:TG}{tb:TS}{D:Ends}{σ:St}{H:Hp}(Pv:Nat->St->Hp->Prop)(h0:Pv 0 σ H)(hl:∀i σ H,i<=xs.length->Pv i σ H->aP K H a xs)
  (hs:∀i x σ H,xs[i]?=some x->Pv i σ H->g x σ H λσ2 H2=>tb {D with nx:=Pv (i+1),ct:=Pv (i+1),bk:=D.nx} σ2 H2)(hd:∀σ H,Pv xs.length σ H->D.nx σ H) :
  ∃W:Nat->Nat->St->Hp->Prop,(∃m,W 0 m σ H)/\∀i m σ H,W i m σ H ->
   ((AD K a).stop i H/\D.nx σ H)∨((AD K a).go i H/\∃N:St->Hp->Prop,(∀σ' H',N σ' H'->∃m',m' < m/\W (i+1) m' σ' H')/\∀x H',(AD K a).vZ i H x H'->g x σ H' λσ2 H2=>tb {D with nx:=N,ct:=N,bk:=D.nx} σ2 H2):=by
 refine⟨λi m σ H=>m=xs.length - i/\i<=xs.length/\Pv i σ H,⟨xs.length,by simp,X1 _,h0⟩,?_⟩;rintro i m σ H ⟨rfl,hi,p⟩;have q:=hl i σ H hi p;by_cases LI:i < xs.length
 · refine .inr ⟨⟨xs,xs[i],q,by simp[LI]⟩,Pv (i+1),λσ' H' p'=>⟨xs.length - (i+1),by omega,rfl,LI,p'⟩,λx H' y=>?_⟩;obtain⟨e,y⟩:=y;subst e;exact hs i x σ _ (y xs q) p
 · have e:i=xs.length:=by omega
   subst e;exact .inl ⟨⟨xs,q,XC _⟩,hd σ H p⟩
theorem m9 {lo:Int}{n:Nat}{g:TG}{tb:TS}{D:Ends}{σ:St}{H:Hp}(Pv:Nat->St->Hp->Prop)(h0:Pv 0 σ H)
  (hs:∀i σ H,i < n->Pv i σ H->g (.int (lo+i)) σ H λσ2 H2=>tb {D with nx:=Pv (i+1),ct:=Pv (i+1),bk:=D.nx} σ2 H2)(hd:∀σ H,Pv n σ H->D.nx σ H) :
  ∃W:Nat->Nat->St->Hp->Prop,(∃m,W 0 m σ H)/\∀i m σ H,W i m σ H ->
   ((Az lo n).stop i H/\D.nx σ H)∨((Az lo n).go i H/\∃N:St->Hp->Prop,(∀σ' H',N σ' H'->∃m',m' < m/\W (i+1) m' σ' H')/\∀x H',(Az lo n).vZ i H x H'->g x σ H' λσ2 H2=>tb {D with nx:=N,ct:=N,bk:=D.nx} σ2 H2):=by
 refine⟨λi m σ H=>m=n - i/\i<=n/\Pv i σ H,⟨n,by simp,X1 _,h0⟩,?_⟩;rintro i m σ H ⟨rfl,hi,p⟩;by_cases LI:i < n
 · refine .inr ⟨LI,Pv (i+1),λσ' H' p'=>⟨n - (i+1),by omega,rfl,LI,p'⟩,λx H' y=>?_⟩;obtain⟨e,y⟩:=y;subst e y;exact hs i σ _ LI p
 · have e:i=n:=by omega
   subst e;exact .inl ⟨XC _,hd σ H p⟩
abbrev R2:=V->V->Hp->VK->Prop
def jT (X:Cx)(f:Value->Value->Sem Value)(r:R2):Prop :=
 ∀(pins:aai) (s:Shared) (σ:St) (H:Hp) (x y:V) (v u:Value) (Q:VK),Inv X pins σ H s->RelV x v->RelV y u->r x y H Q ->
  wpAny (model X.prog X.w) X.A (f v u) (EP X pins σ Q) X.xe s
def Kf (X:Cx)(f:Value->Sem Value)(r:V->Hp->VK->Prop):Prop :=
 ∀(pins:aai) (s:Shared) (σ:St) (H:Hp) (x:V) (v:Value) (Q:VK),Inv X pins σ H s->RelV x v->r x H Q ->
  wpAny (model X.prog X.w) X.A (f v) (EP X pins σ Q) X.xe s
def ir (X:Cx)(f:Value)(r:List V->Hp->VK->Prop):Prop :=
 ∀(pins:aai) (s:Shared) (σ:St) (H:Hp) (xs:List V) (us:aaj) (Q:VK),Inv X pins σ H s->Vals xs us->r xs H Q ->
  wpAny (model X.prog X.w) X.A (call f us) (EP X pins σ Q) X.xe s
def kK (r:R2)(ta tb:TE):TE:=λσ H Q=>ta σ H λx H1=>tb σ H1 λy H2=>r x y H2 Q
def Lb (r:V->Hp->VK->Prop)(ta:TE):TE:=λσ H Q=>ta σ H λx H1=>r x H1 Q
def rI (C:Int->Int->Prop)(g:Int->Int->V):R2:=λx y H Q=>∃i j,x=.int i/\y=.int j/\C i j/\Q (g i j) H
def qI (g:Int->Int->V):R2:=λx y H Q=>∃i j,x=.int i/\y=.int j/\Q (g i j) H
def rU (g:Int->V):V->Hp->VK->Prop:=λx H Q=>∃i,x=.int i/\Q (g i) H
section
variable {X:Cx}{a b c:Expr}{ta tb tc:TE}{pos:Pos}
theorem G4 (ha:PE X a ta) (hb:PE X b tb) {pins:aai} {s:Shared} {σ:St} {H:Hp} {R:V->V->Hp->Prop} (I:Inv X pins σ H s)
  (h:ta σ H λx H1=>tb σ H1 λy H2=>R x y H2) {Q:aag} {f:Value->Value->Sem Value}
  (hf:∀v u s2 x y H2,Inv X pins σ H2 s2->RelV x v->RelV y u->R x y H2->wpAny (model X.prog X.w) X.A (f v u) Q X.xe s2) :
  wpAny (model X.prog X.w) X.A (eval a X.env) (λv s₁=>wpAny (model X.prog X.w) X.A (eval b X.env) (λu s₂=>wpAny (model X.prog X.w) X.A (f v u) Q X.xe s₂) X.xe s₁) X.xe s:=by
 refine bA (ha pins s σ H _ I h) λv s1 ⟨x,H1,I1,r1,q1⟩=>?_;refine bA (hb pins s1 σ H1 _ I1 q1) λu s2 ⟨y,H2,I2,r2,q2⟩=>?_;exact hf v u s2 x y H2 I2 r1 r2 q2
theorem bG {op:Operator}{r:R2}(ho:jT X (binaryOp op) r)(ha:PE X a ta)(hb:PE X b tb):PE X (.BinOp a op b pos) (kK r ta tb):=by
 intro pins s σ H Q I h;exact wpAny_BinOp (G4 ha hb I h λv u s2 x y H2 I2 rx ry q=>ho pins s2 σ H2 x y v u Q I2 rx ry q)
theorem vX {op:UnaryOp}{r:V->Hp->VK->Prop}(ho:Kf X (unaryOp op) r)(ha:PE X a ta):PE X (.UnaryOp op a pos) (Lb r ta):=by
 intro pins s σ H Q I h;exact UnaryOp_ (bA (ha pins s σ H _ I h) λv s1 ⟨x,H1,I1,r1,q1⟩=>ho pins s1 σ H1 x v Q I1 r1 q1)
theorem Jd {f:Value->Value->Sem Value}{C:Int->Int->Prop}{g:Int->Int->Int}
  (rule:∀(i j:Int) (t u:Tok) (s:Shared) (Q:aag) (E:aag),C i j->Q (.int (g i j) s.toks) {s with toks:=s.toks+1}->wpAny (model X.prog X.w) X.A (f (.int i t) (.int j u)) Q E s) :
  jT X f (rI C λi j=>.int (g i j)):=by
 intro pins s σ H x y v u Q I rx ry h;obtain⟨i,j,rfl,rfl,hc,q⟩:=h;obtain⟨t,rfl⟩:=rx;obtain⟨t',rfl⟩:=ry;exact rule i j t t' s _ _ hc ⟨.int (g i j),H,I.tok _,⟨_,rfl⟩,q⟩
theorem HV {f:Value->Value->Sem Value}{g:Int->Int->Int}
  (rule:∀(i j:Int) (t u:Tok) (s:Shared) (Q:aag) (E:aag),Q (.int (g i j) s.toks) {s with toks:=s.toks+1}->wpAny (model X.prog X.w) X.A (f (.int i t) (.int j u)) Q E s) :
  jT X f (qI λi j=>.int (g i j)):=by
 intro pins s σ H x y v u Q I rx ry h;obtain⟨i,j,rfl,rfl,q⟩:=h;obtain⟨t,rfl⟩:=rx;obtain⟨t',rfl⟩:=ry;exact rule i j t t' s _ _ ⟨.int (g i j),H,I.tok _,⟨_,rfl⟩,q⟩
theorem Gm {f:Value->Value->Sem Value}{g:Int->Int->Bool}
  (rule:∀(i j:Int) (t u:Tok) (s:Shared) (Q:aag) (E:aag),Q (.bool (g i j)) s->wpAny (model X.prog X.w) X.A (f (.int i t) (.int j u)) Q E s) :
  jT X f (qI λi j=>.bl (g i j)):=by
 intro pins s σ H x y v u Q I rx ry h;obtain⟨i,j,rfl,rfl,q⟩:=h;obtain⟨t,rfl⟩:=rx;obtain⟨t',rfl⟩:=ry;exact rule i j t t' s _ _ ⟨.bl (g i j),H,I,rfl,q⟩
def KP (i j:Int):Prop:=0 < j/\j < 1073741824
def Ec (i j:Int):Prop:=0<=j/\j<=1000000/\i.natAbs < 2 ^ 64
def zK (i j:Int):Prop:=(-(2 ^ 64) < i/\i < 2 ^ 64)∨(-(2 ^ 64) < j/\j < 2 ^ 64)
theorem zK.ok {i j:Int}(h:zK i j):IntMulOk i j:=by
 rcases h with ⟨h1,h2⟩|⟨h1,h2⟩
 · exact .of_left (intBits_le_64 h1 h2)
 · exact .of_right (intBits_le_64 h1 h2)
theorem eJ:jT X (binaryOp .Add) (qI λi j=>.int (i+j)):=HV λ_ _ _ _ _ _ _ q=>add_int q
theorem fJ:jT X (binaryOp .Sub) (qI λi j=>.int (i - j)):=HV λ_ _ _ _ _ _ _ q=>sub_int q
theorem xO:jT X (binaryOp .Mult) (rI zK λi j=>.int (i*j)):=Jd λ_ _ _ _ _ _ _ hc q=>mul_int q hc.ok
theorem DL:jT X (binaryOp .FloorDiv) (rI KP λi j=>.int (i / j)):=Jd λi j _ _ _ _ _ hc q=>by
 have h1:(0:Int) < j:=hc.1;have h2:j < 1073741824:=hc.2;exact floordiv_int (by omega) (by rw[Int.fdiv_eq_ediv_of_nonneg i (by omega)];exact q) (.inl (PyProof.noPylong_small (by omega)))
theorem G8:jT X (binaryOp .Mod) (rI (λ_ j=>0 < j) λi j=>.int (i % j)):=Jd λi j _ _ _ _ _ hc q=>by
 have h1:(0:Int) < j:=hc;exact mod_int' (by omega) (by rw[Int.fmod_eq_emod_of_nonneg i (by omega)];exact q)
theorem BJ:jT X (binaryOp .LShift) (rI Ec λi j=>.int (i*2 ^ j.toNat)):=Jd λ_ _ _ _ _ _ _ hc q=>lshift_int_small hc.1 hc.2.1 hc.2.2 q
theorem Gr:jT X (binaryOp .BitAnd) (qI λi j=>.int (Builtin.bitAnd i j)):=HV λ_ _ _ _ _ _ _ q=>and_int q
theorem DJ:jT X (inplaceOp .Mult) (rI zK λi j=>.int (i*j)):=Jd λ_ _ _ _ _ _ _ hc q=>imul_int q hc.ok
theorem Ls {f:Value->Sem Value}{g:Int->Int}
  (rule:∀(i:Int) (t:Tok) (s:Shared) (Q:aag) (E:aag),Q (.int (g i) s.toks) {s with toks:=s.toks+1}->wpAny (model X.prog X.w) X.A (f (.int i t)) Q E s) :
  Kf X f (rU λi=>.int (g i)):=by
 intro pins s σ H x v Q I rx h;obtain⟨i,rfl,q⟩:=h;obtain⟨t,rfl⟩:=rx;exact rule i t s _ _ ⟨.int (g i),H,I.tok _,⟨_,rfl⟩,q⟩
theorem ql:Kf X (unaryOp .USub) (rU λi=>.int (-i)):=Ls λ_ _ _ _ _ q=>neg_int q
end
def Ep:V->V->Bool
 |.cb,.cb=>true|.cb,.int _=>true|.int _,.cb=>true|.cb,.bl _=>true|.bl _,.cb=>true|.cb,.str _=>true|.str _,.cb=>true
 |.int _,.int _=>true|.bl _,.bl _=>true|.str _,.str _=>true|.v8 _,.v8 _=>true
 |.int _,.str _=>true|.str _,.int _=>true|.bl _,.str _=>true|.str _,.bl _=>true
 |_,_=>false
def JZ:R2:=λx y H Q=>Ep x y=true/\Q (.bl (decide (x=y))) H
def La:R2:=λx y H Q=>Ep x y=true/\Q (.bl (!decide (x=y))) H
theorem aY {i j:Int}:decide (V.int i=V.int j)=(i==j):=by
 rw[X8];simp
theorem A3 {i j:Bool}:decide (V.bl i=V.bl j)=(i==j):=by
 rw[X8];simp
theorem za {i j:Str}:decide (V.str i=V.str j)=(i==j):=by
 rw[X8];simp
theorem yG {i j:Array UInt8}:decide (V.v8 i=V.v8 j)=(i.toList==j.toList):=by
 rw[X8];cases i;cases j;simp
section
variable {X:Cx}{a b c:Expr}{ta tb tc:TE}{pos:Pos}
theorem bt {pins:aai} {σ:St} {H:Hp} {s:Shared} {Q:VK} {k k':Bool} (I:Inv X pins σ H s) (q:Q (.bl k) H) (e:k=k'):EP X pins σ Q (.bool k') s:=by
 subst e;exact⟨.bl k,H,I,rfl,q⟩
theorem cp:jT X (compareOp .Eq) JZ:=by
 intro pins s σ H x y v u Q I rx ry h;obtain⟨hs,q⟩:=h;cases x with
 |cb =>
  cases rx;cases y with
  |cb=>cases ry;exact PySem.EqNone.eq_none_none (bt I q (by simp))
  |bl j=>cases ry;exact PySem.EqNone.eq_none_bool (bt I q (by simp))
  |int j=>obtain⟨t',rfl⟩:=ry;exact PySem.EqNone.eq_none_int (bt I q (by simp))
  |str j=>obtain⟨t',rfl⟩:=ry;exact PySem.EqNone.eq_none_str (bt I q (by simp))
  |_=>exact absurd (show false=true from hs) XU
 |bl i =>
  cases rx;cases y with
  |cb=>cases ry;exact PySem.EqNone.eq_bool_none (bt I q (by simp))
  |bl j=>cases ry;exact eq_bool (bt I q A3)
  |str j=>obtain⟨t',rfl⟩:=ry;exact PySem.EqMixed.eq_bool_str (bt I q (by simp))
  |_=>exact absurd (show false=true from hs) XU
 |int i =>
  obtain⟨t,rfl⟩:=rx;cases y with
  |cb=>cases ry;exact PySem.EqNone.eq_int_none (bt I q (by simp))
  |int j=>obtain⟨t',rfl⟩:=ry;exact eq_int (bt I q aY)
  |str j=>obtain⟨t',rfl⟩:=ry;exact PySem.EqMixed.eq_int_str (bt I q (by simp))
  |_=>exact absurd (show false=true from hs) XU
 |str i =>
  obtain⟨t,rfl⟩:=rx;cases y with
  |cb=>cases ry;exact PySem.EqNone.eq_str_none (bt I q (by simp))
  |bl j=>cases ry;exact PySem.EqMixed.eq_str_bool (bt I q (by simp))
  |int j=>obtain⟨t',rfl⟩:=ry;exact PySem.EqMixed.eq_str_int (bt I q (by simp))
  |str j=>obtain⟨t',rfl⟩:=ry;exact eq_str (bt I q za)
  |_=>exact absurd (show false=true from hs) XU
 |v8 i =>
  obtain⟨t,rfl⟩:=rx;cases y with
  |v8 j=>obtain⟨t',rfl⟩:=ry;exact PySem.W.eq_bytes (bt I q yG)
  |_=>exact absurd (show false=true from hs) XU
 |_=>cases y <;> exact absurd (show false=true from hs) XU
theorem pO:jT X (compareOp .NotEq) La:=by
 intro pins s σ H x y v u Q I rx ry h;obtain⟨hs,q⟩:=h;cases x with
 |cb =>
  cases rx;cases y with
  |cb=>cases ry;exact PySem.EqNone.ne_none_none (bt I q (by simp))
  |bl j=>cases ry;exact PySem.EqNone.ne_none_bool (bt I q (by simp))
  |int j=>obtain⟨t',rfl⟩:=ry;exact PySem.EqNone.ne_none_int (bt I q (by simp))
  |str j=>obtain⟨t',rfl⟩:=ry;exact PySem.EqNone.ne_none_str (bt I q (by simp))
  |_=>exact absurd (show false=true from hs) XU
 |bl i =>
  cases rx;cases y with
  |cb=>cases ry;exact PySem.EqNone.ne_bool_none (bt I q (by simp))
  |bl j=>cases ry;exact ne_bool (bt I q (YA not A3))
  |str j=>obtain⟨t',rfl⟩:=ry;exact PySem.EqMixed.ne_bool_str (bt I q (by simp))
  |_=>exact absurd (show false=true from hs) XU
 |int i =>
  obtain⟨t,rfl⟩:=rx;cases y with
  |cb=>cases ry;exact PySem.EqNone.ne_int_none (bt I q (by simp))
  |int j=>obtain⟨t',rfl⟩:=ry;exact ne_int (bt I q (YA not aY))
  |str j=>obtain⟨t',rfl⟩:=ry;exact PySem.EqMixed.ne_int_str (bt I q (by simp))
  |_=>exact absurd (show false=true from hs) XU
 |str i =>
  obtain⟨t,rfl⟩:=rx;cases y with
  |cb=>cases ry;exact PySem.EqNone.ne_str_none (bt I q (by simp))
  |bl j=>cases ry;exact PySem.EqMixed.ne_str_bool (bt I q (by simp))
  |int j=>obtain⟨t',rfl⟩:=ry;exact PySem.EqMixed.ne_str_int (bt I q (by simp))
  |str j=>obtain⟨t',rfl⟩:=ry;exact ne_str (bt I q (YA not za))
  |_=>exact absurd (show false=true from hs) XU
 |v8 i =>
  obtain⟨t,rfl⟩:=rx;cases y with
  |v8 j=>obtain⟨t',rfl⟩:=ry;exact PySem.W.ne_bytes (bt I q (YA not yG))
  |_=>exact absurd (show false=true from hs) XU
 |_=>cases y <;> exact absurd (show false=true from hs) XU
theorem nX:jT X (compareOp .Lt) (qI λi j=>.bl (decide (i < j))):=Gm λ_ _ _ _ _ _ _ q=>lt_int q
theorem b_:jT X (compareOp .LtE) (qI λi j=>.bl (decide (i<=j))):=Gm λ_ _ _ _ _ _ _ q=>le_int q
theorem kX:jT X (compareOp .Gt) (qI λi j=>.bl (decide (j < i))):=Gm λ_ _ _ _ _ _ _ q=>gt_int q
theorem tJ:jT X (compareOp .Is) (λx y H Q=>y=.cb/\Q (.bl (decide (x=.cb))) H):=by
 intro pins s σ H x y v u Q I rx ry h;obtain⟨rfl,q⟩:=h;cases ry;refine is_none_gen (bt I q ?_);cases x <;> first
  |(cases rx;rfl)
  |(obtain⟨t,rfl⟩:=rx;rfl)
theorem aJ (b:Expr){op:CmpOp}(h:op≠.In:=by decide)(h2:op≠.NotIn:=by decide):behindInMarks op b=false:=by
 have e1:(op==CmpOp.In)=false:=by cases op <;> first|rfl|exact absurd rfl h
 have e2:(op==CmpOp.NotIn)=false:=by cases op <;> first|rfl|exact absurd rfl h2
 cases b <;> simp[behindInMarks,e1,e2]
theorem ft {op:CmpOp}{r:R2}(ho:jT X (compareOp op) r)(ha:PE X a ta)(hb:PE X b tb)(hm:behindInMarks op b=false):PE X (.Compare a [op] [b] pos) (kK r ta tb):=by
 intro pins s σ H Q I h;exact wpAny_Compare1 (G4 ha hb I h λv u s2 x y H2 I2 rx ry q=>ho pins s2 σ H2 x y v u Q I2 rx ry q) hm
def qx (t:TE):TT:=λσ H Q=>t σ H λx H'=>∃k,x=.bl k/\Q k H'
theorem aC {op:CmpOp}{r:R2}(ho:jT X (compareOp op) r)(ha:PE X a ta)(hb:PE X b tb)(hm:behindInMarks op b=false):PT X (.Compare a [op] [b] pos) (qx (kK r ta tb)):=by
 intro pins s σ H Q I h;refine wpAny_isTrue_Compare1 (bA (ha pins s σ H _ I h) λv s1 ⟨x,H1,I1,r1,q1⟩=>bA (hb pins s1 σ H1 _ I1 q1) λu s2 ⟨y,H2,I2,r2,q2⟩ =>
  bA (ho pins s2 σ H2 x y v u _ I2 r1 r2 q2) λc s3 ⟨z,H3,I3,r3,k,e,q3⟩=>?_) hm
 subst e;cases r3;exact YI ⟨H3,I3,q3⟩
def xN (r r':R2)(ta tb tc:TE):TE:=λσ H Q=>ta σ H λx H1=>tb σ H1 λy H2=>r x y H2 λz H3=>∃k,z=.bl k /\
 (if k=true then tc σ H3 λw' H4=>r' y w' H4 Q else Q (.bl false) H3)
theorem cF {op QP:CmpOp}{r r':R2}(ho:jT X (compareOp op) r)(L0:jT X (compareOp QP) r')(ha:PE X a ta)(hb:PE X b tb)(hc:PE X c tc)
  (hm:lastMarks [op,QP] [b,c]=false:=by with_unfolding_all rfl):PT X (.Compare a [op,QP] [b,c] pos) (qx (xN r r' ta tb tc)):=by
 intro pins s σ H Q I h;refine isTrue_chain (bA (ha pins s σ H _ I h) λv s1 ⟨x,H1,I1,r1,q1⟩=>test_link (bA (hb pins s1 σ H1 _ I1 q1) λu s2 ⟨y,H2,I2,r2,q2⟩ =>
  bA (ho pins s2 σ H2 x y v u _ I2 r1 r2 q2) λd s3 ⟨z,H3,I3,r3,k,e,q3⟩=>?_)) hm
 subst e;cases r3;refine YI ?_;cases k with
 |false =>
  obtain⟨k',e',q'⟩:=q3;cases e';exact ite_ff ⟨H3,I3,q'⟩
 |true =>
  refine ite_tt (test_last (bA (hc pins s3 σ H3 _ I3 q3) λw' s4 ⟨z',H4,I4,r4,q4⟩=>bA (L0 pins s4 σ H4 y z' u w' _ I4 r2 r4 q4) λd' s5 ⟨z2,H5,I5,r5,k2,e2,q5⟩=>?_));subst e2;cases r5;exact YI ⟨H5,I5,q5⟩
theorem k7:(sizeLine:Nat) < 2 ^ 63:=by rw[XY];decide
theorem vals1 {x:V}{us:aaj}(r:Vals [x] us):∃u,us=[u]/\RelV x u:=by
 cases r with
 |cons r1 r2=>cases r2;exact⟨_,rfl,r1⟩
theorem vals2 {x y:V}{us:aaj}(r:Vals [x,y] us):∃u w',us=[u,w']/\RelV x u/\RelV y w':=by
 cases r with
 |cons r1 r2 =>
  cases r2 with
  |cons r3 r4=>cases r4;exact⟨_,_,rfl,r1,r3⟩
end
structure xQ (h:Heap)(x dx C:Addr)(mA:aah):Prop where
 obj:h.get? x=some (PySem.W.instObj C dx)
 ns:h.Ns1 dx mA
 ne:dx≠x
theorem zz {h:Heap}{dx:Addr}{mA:aah}(n:h.Ns1 dx mA):∃od,h.get? dx=some od/\∀name,PySem.W.lookIn name od=some (mA name):=by
 obtain⟨o,es,ep,ho,hd,hk,_,hm⟩:=n;refine⟨o,ho,λname=>?_⟩;have e:=hm name;unfold nsFind findBy at e;rw[←Array.find?_toList] at e;unfold PySem.W.lookIn;rw[hd];dsimp only;split
 · rename_i y q;rw[q] at e;exact YA some e
 · rename_i q;rw[q] at e;have a:es.toList.any (·.refKey)=false:=by
    rw[List.any_eq_false];intro y hy;obtain⟨z,t,QQ⟩:=hk y (Array.mem_toList_iff.mp hy);simp[DictEntry.refKey,QQ]
   have a':¬es.toList.any (·.refKey)=true:=by rw[a];exact XU
   rw[Xu a'];exact YA some e
theorem xQ.look {h:Heap}{x dx C:Addr}{mA:aah}(I:xQ h x dx C mA):∃od,PySem.W.InstAt h x (PySem.W.instObj C dx) C (some od)/\∀name,PySem.W.lookIn name od=some (mA name) :=
 let ⟨od,ho,hl⟩:=zz I.ns
 ⟨od,⟨I.obj,rfl,rfl,ho⟩,hl⟩
section
variable {prog:Program}{w:World}{A:Around}{E:aag}{s:Shared}{K:aaf}{x dx C f:Addr}{mA:aah}{name:Str}{v:Value}
theorem get_map {expr:Bool} {Q:aag} (X:K.In s.heap) (I:xQ s.heap x dx C mA) (hg:PySem.W.plainGet K C name=true) (hh:PySem.W.hasDictIn K C=true)
  (ha:PySem.W.findIn K (.ref C) name=some none) (hv:mA name=some v) (PK:PySem.W.handedIn v=true) (h:Q v {s with toks:=s.toks+1}) :
  wpAny (model prog w) A (getAttr (.ref x) name expr) Q E s:=by
 obtain⟨od,J,hl⟩:=I.look;exact PySem.W.get_value X J (PySem.W.plainGet_of hg).1 (PySem.W.findObj_own hh ha rfl (by rw[hl,hv])) PK h
theorem Bl {pl:Sem Bool}{Q:Value×aaj->Shared->Prop}(X:K.In s.heap)(I:xQ s.heap x dx C mA)(hg:PySem.W.plainGet K C name=true)
  (hf:PySem.W.findIn K (.ref C) name=some (some (.ref f)))(ht:PySem.W.isFn K (.ref f)=true)(hv:mA name=none)(h:Q (.ref f,[.ref x]) s) :
  wpAny (model prog w) A (getMethod (.ref x) name pl) Q E s:=by
 obtain⟨od,J,hl⟩:=I.look;exact PySem.W.method_fn X J (PySem.W.plainGet_of hg).1 (PySem.W.plainGet_of hg).2 hf (Yk.mp ht) (by show (PySem.W.lookIn name od).map (·.isSome)=some false;rw[hl,hv];rfl) h
theorem EO {ns:List Str}{Q:Unit->Shared->Prop}(X:K.In s.heap)(I:xQ s.heap x dx C mA)
  (hs:PySem.W.findIn K (.ref C) "__setattr__"=some (some (.builtin "object.__setattr__")))(hp:PySem.W.plainOver K C=true)(ht:PySem.W.takerIn K C name=some none)(hh:PySem.W.hasDictIn K C=true)
  (hw:PySem.Within mA ns)(hsz:ns.length<=sizeLine)
  (h:∀h',xQ h' x dx C (λy=>if y=name then some v else mA y)->Heap.SameBut dx s.heap h'->Q () {s with heap:=h',toks:=s.toks+2}) :
  wpAny (model prog w) A (setAttr (.ref x) name v) Q E s:=by
 obtain⟨od,J,hl⟩:=I.look;refine PySem.W.set_plain X J hs (PySem.W.osa_open (s:={s with toks:=s.toks+1}) (r:=none) X J hp ht λb=>?_);obtain⟨cd,hc,Mc⟩:=PySem.W.any_some hh;have hx:s.heap.get? x=some ⟨.ref C,some dx,.plain,#[]⟩:=I.obj;refine Xr (Xz (Xr (Xr (wpAny_loadPart hx (Xr (PySem.W.Looks.here (s:={s with toks:=s.toks+1}) (PySem.W.looks_clsIn X hc) ?_))))));rw[Mc];refine Xz (a:=some dx) (Xr (Xz (Xr ?_)));refine wpAny_nsSet1 (s:={s with toks:=s.toks+1}) I.ns λh' Sm NJ=>?_;obtain⟨oD,U5,U6,QR,QS,U7⟩:=Sm.count (PySem.Within.cons name v hw);refine Xr (wpAny_lookBehind QR (by rw[QS];exact pastItsLine_dict (Yh U7 (by rw[XE];omega))) ?_);exact Xz (h _ ⟨(NJ.2 _ (Z7 I.ne)).trans I.obj,Sm,I.ne⟩ NJ)
theorem CG {R:Result->Shared->Prop}{vs:aaj}{kw:List (Str×Value)}(X:K.In s.heap)(hm:PySem.W.makesIn K C=true)
  (hi:PySem.W.findIn K (.ref C) "__init__"=some (some (.ref f)))(hf:PySem.W.typeIn K (.ref f)=some (.type "function"))
  (h:codeAny (model prog w) (A.under (.builtin "type.__call__" ⟨.ref C::vs,kw⟩)) (.call (.ref f) ⟨.ref (s.heap.objs.size+1)::vs,kw⟩) (PySem.W.InitBack (s.heap.objs.size+1) R)
   {s with heap:=(s.heap.push PySem.W.emptyDict).push (PySem.W.instObj C s.heap.objs.size)}) :
  codeAny (model prog w) A (.call (.ref C) ⟨vs,kw⟩) R s:=by
 obtain⟨hh,g,d,t,os⟩:=s;exact PySem.W.make_core (PySem.W.makes_of X hm) (PySem.W.looks_findIn X hi) (λself=>PySem.W.bind_fn X self hf) (.inl rfl) h
end
def eN (f:Str)(v:V):List (Str×V)->List (Str×V)
 |[]=>[(f,v)]
 |(g,x)::r=>if g=f then (g,v)::r else (g,x)::eN f v r
theorem jE (f g:Str)(v:V):∀fs:List (Str×V),(eN f v fs).lookup g=if g=f then some v else fs.lookup g
 |[]=>by
  show List.lookup g [(f,v)]=_;by_cases h:g=f
  · have hb:(g==f)=true:=Yk.mpr h;simp only[List.lookup,hb,Xv h]
  · have hb:(g==f)=false:=X2.mpr h;simp only[List.lookup,hb,Xu h]
 |(k,x)::r=>by
  have ih:=jE f g v r;rw[show eN f v ((k,x)::r)=(if k=f then (k,v)::r else (k,x)::eN f v r) from rfl];by_cases hk:k=f
  · rw[Xv hk];by_cases h:g=k
    · have hb:(g==k)=true:=Yk.mpr h;simp only[List.lookup,hb,Xv (h.trans hk)]
    · have hb:(g==k)=false:=X2.mpr h;simp only[List.lookup,hb,Xu (λe:g=f=>h (e.trans hk.symm))]
  · rw[Xu hk];by_cases h:g=k
    · have hb:(g==k)=true:=Yk.mpr h;simp only[List.lookup,hb,Xu (λe:g=f=>hk (h.symm.trans e))]
    · have hb:(g==k)=false:=X2.mpr h;simp only[List.lookup,hb];exact ih
theorem mZ (f:Str)(v:V):∀fs:List (Str×V),f∈(eN f v fs).map (·.1)/\∀g,g∈fs.map (·.1)->g∈(eN f v fs).map (·.1)
 |[]=>⟨by simp[eN],λg h=>by simp at h⟩
 |(k,x)::r=>by
  obtain⟨i1,i2⟩:=mZ f v r;rw[show eN f v ((k,x)::r)=(if k=f then (k,v)::r else (k,x)::eN f v r) from rfl];by_cases hk:k=f
  · rw[Xv hk];subst hk;exact⟨by simp,λg h=>by simpa using h⟩
  · rw[Xu hk];refine⟨?_,λg h=>?_⟩
    · rw[XM];exact XN _ i1
    · rw[XM] at h ⊢;rcases Xx.mp h with e|e
      · exact Xx.mpr (.inl e)
      · exact XN _ (i2 g e)
theorem nO (f:Str)(v:V):∀fs:List (Str×V),(eN f v fs).length<=fs.length+1
 |[]=>by simp[eN]
 |(k,x)::r=>by
  have ih:=nO f v r;rw[show eN f v ((k,x)::r)=(if k=f then (k,v)::r else (k,x)::eN f v r) from rfl];by_cases hk:k=f
  · rw[Xv hk,XE,XE];omega
  · rw[Xu hk,XE,XE];omega
theorem jc.some_of {v:V}{o:Option Value}(r:jc (some v) o):∃u,o=some u/\RelV v u:=by
 cases o with
 |none=>exact (show False from r).elim
 |some u=>exact⟨u,rfl,r⟩
theorem jc.none_of {o:Option Value}(r:jc none o):o=none:=by
 cases o with
 |none=>rfl
 |some u=>exact (show False from r).elim
theorem su {v:V}{u:Value}(r:RelV v u):PySem.W.handedIn u=true:=by
 cases v with
 |cb=>cases (show u=Value.none from r);rfl
 |bl b=>cases (show u=Value.bool b from r);rfl
 |int i=>obtain⟨t,e⟩:=(show ∃t,u=Value.int i t from r);cases e;rfl
 |str x=>obtain⟨t,e⟩:=(show ∃t,u=Value.str x t from r);cases e;rfl
 |v8 b=>obtain⟨t,e⟩:=(show ∃t,u=Value.bytes b t from r);cases e;rfl
 |flt b=>obtain⟨t,e⟩:=(show ∃t,u=Value.float b t from r);cases e;rfl
 |ref a=>cases (show u=Value.ref a from r);rfl
 |ty n=>cases (show u=Value.type n from r);rfl
section
variable {P:Program}{w:World}{H H':Hp}{h h':Heap}{a C dx:Addr}{fs Ma:List (Str×V)}
theorem uc (bu:iu P w H h) (e:H a=some (.ins C dx fs)):∃mA,xQ h a dx C mA/\(∀f,jc (fs.lookup f) (mA f))/\PySem.Within mA (fs.map (·.1))/\fs.length<=1000/\H dx=some (.own a):=by
 obtain⟨d,z,ne,ob,mA,n,r,q⟩:=(show bK P w H h a (.ins C dx fs) from bu a _ e);exact⟨mA,⟨ob,n,ne⟩,r,q,z,d⟩
end
structure yW (K:aaf)(C:Addr):Prop where
 pg:PySem.W.plainGet K C Str.empty=true
 hd:PySem.W.hasDictIn K C=true
 po:PySem.W.plainOver K C=true
 sa:PySem.W.findIn K (.ref C) "__setattr__"=some (some (.builtin "object.__setattr__"))
theorem yW.get {K:aaf}{C:Addr}(c:yW K C)(f:Str):PySem.W.plainGet K C f=true:=c.pg
def g_ (K:aaf)(C:Addr)(f:Str):Prop:=PySem.W.findIn K (.ref C) f=some none
theorem g_.JJ {K:aaf}{C:Addr}{f:Str}(n:g_ K C f):PySem.W.takerIn K C f=some none:=by
 unfold PySem.W.takerIn;rw[show PySem.W.findIn K (.ref C) f=some none from n];rfl
structure Meth (K:aaf)(C:Addr)(m:Str)(f:Addr):Prop where
 at_:PySem.W.findIn K (.ref C) m=some (some (.ref f))
 fn:PySem.W.isFn K (.ref f)=true
 kp:PySem.W.keepIn K (.ref f)=true
section
variable {X:Cx}{pins:aai}{σ:St}{H:Hp}{s:Shared}{a C dx:Addr}{fs:List (Str×V)}{f:Str}{v:V}{A:Around}{E:aag}
theorem o7 {b:Bool} {Q:aag} (I:Inv X pins σ H s) (e:H a=some (.ins C dx fs)) (c:yW X.K C) (n:g_ X.K C f) (l:fs.lookup f=some v)
  (h:∀u s',Inv X pins σ H s'->RelV v u->Q u s'):wpAny (model X.prog X.w) A (getAttr (.ref a) f b) Q E s:=by
 obtain⟨mA,O,r,_,_,_⟩:=uc I.bu e;obtain⟨u,hu,ru⟩:=jc.some_of (v:=v) (o:=mA f) (by rw[←l];exact r f);exact get_map I.mW O (c.get f) c.hd n hu (su ru) (h u _ (I.tok _) ru)
theorem oZ {m:Str}{g:Addr}{pl:Sem Bool}{Q:Value×aaj->Shared->Prop}(I:Inv X pins σ H s)(e:H a=some (.ins C dx fs))(c:yW X.K C)(k:Meth X.K C m g)(l:fs.lookup m=none)
  (h:Q (.ref g,[.ref a]) s):wpAny (model X.prog X.w) A (getMethod (.ref a) m pl) Q E s:=by
 obtain⟨mA,O,r,_,_,_⟩:=uc I.bu e;have hn:mA m=none:=jc.none_of (by rw[←l];exact r m);exact Bl I.mW O (c.get m) k.at_ k.fn hn h
theorem oM {y:V}{u:Value}{Q:Unit->Shared->Prop}(I:Inv X pins σ H s)(e:H a=some (.ins C dx fs))(c:yW X.K C)(n:g_ X.K C f)(hl:fs.length < 1000)(ry:RelV y u)
  (h:∀s',Inv X pins σ (upd H a (.ins C dx (eN f y fs))) s'->Q () s'):wpAny (model X.prog X.w) A (setAttr (.ref a) f u) Q E s:=by
 obtain⟨mA,O,r,wi,_,ho⟩:=uc I.bu e;have hz:(fs.map (·.1)).length<=sizeLine:=by rw[Xs,XY];omega
 refine EO I.mW O c.sa c.po n.JJ c.hd wi hz λh' O' sb=>h _ ?_;have hd:∃o,h'.get? dx=some o:=let ⟨o,_,_,e',_⟩:=O'.ns;⟨o,e'⟩;refine I.write (x:=a) (e:=dx) (by rw[e];exact True.intro) (.inr ho) (λb q hb z=>(sb.2 b hb).trans z) hd ?_;refine⟨by rw[aq O.ne];exact ho,?_,O.ne,O'.obj,_,O'.ns,λg=>?_,λg hg=>?_⟩
 · have:=nO f y fs;omega
 · show jc ((eN f y fs).lookup g) (if g=f then some u else mA g);rw[jE];by_cases q:g=f
   · rw[Xv q,Xv q];exact ry
   · rw[Xu q,Xu q];exact r g
 · by_cases q:g=f
   · rw[q];exact (mZ f y fs).1
   · refine (mZ f y fs).2 g (wi g λz=>hg ?_);show (if g=f then some u else mA g)=none;rw[Xu q];exact z
theorem Inv.made (I:Inv X pins σ H s):Inv X pins σ (upd (upd H s.heap.objs.size (.own (s.heap.objs.size+1))) (s.heap.objs.size+1) (.ins C s.heap.objs.size []))
  {s with heap:=(s.heap.push PySem.W.emptyDict).push (PySem.W.instObj C s.heap.objs.size)}:=by
 have e1:(s.heap.push PySem.W.emptyDict).get? s.heap.objs.size=some PySem.W.emptyDict:=XJ s.heap rfl;have e2:((s.heap.push PySem.W.emptyDict).push (PySem.W.instObj C s.heap.objs.size)).get? (s.heap.objs.size+1)=some (PySem.W.instObj C s.heap.objs.size):=by
  have:=XJ (s.heap.push PySem.W.emptyDict) (o:=PySem.W.instObj C s.heap.objs.size) rfl
  rwa [YC] at this
 have e3:(s.heap.push PySem.W.emptyDict).Ns s.heap.objs.size (λ_=>none):=⟨PySem.W.emptyDict,#[],_,e1,rfl,(λe he=>absurd he (by simp)),λ_=>rfl⟩;have I1:=I.laid (a:=s.heap.objs.size) (o:=.own (s.heap.objs.size+1)) (h':=s.heap.push PySem.W.emptyDict) (t':=s.toks) (λb u q=>Xw _ q) (XC _) ⟨_,e1⟩;refine I1.laid (a:=s.heap.objs.size+1) (o:=.ins C s.heap.objs.size []) (t':=s.toks) (λb u q=>Xw _ q) (Z8 (YC _ _)) ?_;have ne:s.heap.objs.size≠s.heap.objs.size+1:=X6 (ZW _);refine⟨by rw[aq ne,ae],X1 _,ne,e2,λ_=>none,(Heap.Ns1.of_empty e3).at λo q=>Xw _ q,λ_=>True.intro,λy hy=>absurd rfl hy⟩
theorem yx {prog:Program}{w:World}{env:Env}{e:Expr}{f:Str}{pos:Pos}{s:Shared}{Q:aag}(hb:attributeBase e f env (eval e env)=eval e env)
  (h:wpAny (model prog w) A (eval e env) (λo s₁=>wpAny (model prog w) A (getAttr o f true) Q E s₁) E s):wpAny (model prog w) A (eval (.Attribute e f pos) env) Q E s :=
 Attribute_any_ h (by rw[arm_eval_Attribute,hb])
end
def vn (K:aaf)(ta:TE)(f:Str):TE:=λσ H Q=>ta σ H λx H1=>∃a C dx fs v,x=.ref a/\H1 a=some (.ins C dx fs)/\yW K C/\g_ K C f/\fs.lookup f=some v/\Q v H1
def Kb (K:aaf)(ta tv:TE)(f:Str):TS:=λD σ H=>tv σ H λy H1=>ta σ H1 λx H2=>∃a C dx fs,x=.ref a/\H2 a=some (.ins C dx fs)/\yW K C/\g_ K C f/\fs.length < 1000 /\
 D.nx σ (upd H2 a (.ins C dx (eN f y fs)))
def IV (X:Cx)(op:Operator)(rd:V->V->Hp->VK->Prop):Prop :=
 ∀(pins:aai) (s:Shared) (σ:St) (H:Hp) (x y:V) (u v:Value) (Q:VK),Inv X pins σ H s->RelV x u->RelV y v->rd x y H Q->wpAny (model X.prog X.w) X.A (inplaceOp op u v) (EP X pins σ Q) X.xe s
def EK (K:aaf)(ta tv:TE)(rd:V->V->Hp->VK->Prop)(f:Str):TS:=λD σ H=>ta σ H λx H1=>∃a C dx fs v,x=.ref a/\H1 a=some (.ins C dx fs)/\yW K C/\g_ K C f/\fs.lookup f=some v /\
 tv σ H1 λy H2=>rd v y H2 λz H3=>∃MB Ma,H3 a=some (.ins C MB Ma)/\Ma.length < 1000/\D.nx σ (upd H3 a (.ins C MB (eN f z Ma)))
section
variable {X:Cx}{o e value:Expr}{f:Str}{pos pos' LV:Pos}{ta tv:TE}
theorem aV (he:PE X e ta) (hb:attributeBase e f X.env (eval e X.env)=eval e X.env):PE X (.Attribute e f pos) (vn X.K ta f):=by
 intro pins s σ H Q I h;refine yx hb (bA (he pins s σ H _ I h) λu s1 ⟨x,H1,I1,rx,a,C,dx,fs,v,ex,ea,c,n,l,q⟩=>?_);subst ex;obtain rfl:u=Value.ref a:=rx;exact o7 I1 ea c n l λu' s2 I2 ru=>⟨v,H1,I2,ru,q⟩
theorem cD (ha:PE X o ta)(hv:PE X value tv)(hs:swapsWith value (some (.Attribute o f pos')) pos.line X.env=pure false):PS X (.Assign [.Attribute o f pos'] value pos) (Kb X.K ta tv f):=by
 intro pins s σ H D I h;refine plainObj_wpAny_Assign_Attribute (bA (hv pins s σ H _ I h) λu s1 ⟨y,H1,I1,ry,q⟩=>bA (ha pins s1 σ H1 _ I1 q) λov s2 ⟨x,H2,I2,rx,a,C,dx,fs,ex,ea,c,n,l,q2⟩=>?_) hs;subst ex;obtain rfl:ov=Value.ref a:=rx;exact oM I2 ea c n l ry λs3 I3=>⟨σ,_,I3,q2⟩
theorem q_ {op:Operator}{rd:V->V->Hp->VK->Prop}(ha:PE X o ta)(hv:PE X value tv)(U8:IV X op rd):PS X (.AugAssign (.Attribute o f LV) op value pos) (EK X.K ta tv rd f):=by
 intro pins s σ H D I h;refine wpAny_AugAssign_AttributeAny (bA (ha pins s σ H _ I h) λov s1 ⟨x,H1,I1,rx,a,C,dx,fs,v,ex,ea,c,n,l,q⟩=>?_);subst ex;obtain rfl:ov=Value.ref a:=rx;refine o7 I1 ea c n l λu s2 I2 ru=>bA (hv pins s2 σ H1 _ I2 q) λw3 s3 ⟨y,H2,I3,ry,q3⟩=>bA (U8 pins s3 σ H2 v y u w3 _ I3 ru ry q3) λw4 s4 ⟨z,H3,I4,rz,MB,Ma,U9,l',q4⟩=>?_;exact oM I4 U9 c n l' rz λs5 I5=>⟨σ,_,I5,q4⟩
def J9:V->V->Hp->VK->Prop:=λx y H Q=>∃i j,x=.int i/\y=.int j/\Q (.int (i+j)) H
theorem BM:IV X .Add J9:=by
 rintro pins s σ H x y u v Q I rx ry ⟨i,j,rfl,rfl,q⟩;obtain⟨t,rfl⟩:=(show ∃t,u=Value.int i t from rx);obtain⟨t',rfl⟩:=(show ∃t',v=Value.int j t' from ry);exact PyProof.Rows.iadd_int ⟨.int (i+j),H,I.tok _,⟨_,rfl⟩,q⟩
end
section
variable {X:Cx}{pins:aai}{σ:St}{H:Hp}{s:Shared}{A:Around}{E:aag}{Q:aag}{c:Value}{b:Bool}
end
structure cK (k:Nat)(A:Around):Prop where
 hd:A.handled=none
 dp:A.depth+3*k+5 < recursionLimit
 un:A.units+16*k+200 < cLine
theorem cK.mono {j k:Nat}{A:Around}(r:cK k A)(h:j<=k):cK j A:=⟨r.hd,by have:=r.dp;omega,by have:=r.un;omega⟩
theorem cK.deeper {k:Nat}{A:Around}(r:cK (k+1) A)(env:Env):cK k (A.deeper env) :=
 ⟨r.hd,by have:=r.dp;show A.depth+1+3*k+5 < _;omega,by have:=r.un;show A.units+3+16*k+200 < _;omega⟩
theorem xB {A:Around}{C:Addr}{us:aaj}{kw:List (Str×Value)}:(A.under (.builtin "type.__call__" ⟨.ref C::us,kw⟩)).depth=A.depth+1:=by
 first|rfl|simp[Around.under,Code.weight,Code.isCreation,Code.isGuard,Code.isCaller,Code.frames,Code.isFrame,guardIds]
theorem xx {A:Around}{C:Addr}{us:aaj}{kw:List (Str×Value)}:(A.under (.builtin "type.__call__" ⟨.ref C::us,kw⟩)).units=A.units+1:=by
 first|rfl|simp[Around.under,Code.cUnits,Code.frames,Code.isFrame]
theorem cK.make {k:Nat}{A:Around}(r:cK (k+1) A)(C:Addr)(us:aaj)(kw:List (Str×Value)):cK k (A.under (.builtin "type.__call__" ⟨.ref C::us,kw⟩)) :=
 ⟨r.hd,by have:=r.dp;rw[xB];omega,by have:=r.un;rw[xx];omega⟩
theorem cK.depth {k:Nat}{A:Around}(r:cK k A):A.depth < recursionLimit:=by have:=r.dp;omega
theorem cK.units {k:Nat}{A:Around}(r:cK k A):A.units+64 < cLine:=by have:=r.un;omega
def eV:TA:=λ_ H Q=>Q [] H
def cO (ta:TE)(tr:TA):TA:=λσ H Q=>ta σ H λx H1=>tr σ H1 λxs H2=>Q (x::xs) H2
section
variable {X:Cx}{e:Expr}{es:List Expr}{te:TE}{t:TA}{pos:Pos}
theorem ah:PA X [] eV:=λ_ _ _ _ H Q I h=>Calls.spliced_nil ⟨[],H,I,.nil,h⟩
theorem aa (ha:PE X e te)(hr:PA X es t)(hs:starEach (e::es) X.env=(false,eval e X.env)::starEach es X.env:=by rfl):PA X (e::es) (cO te t):=by
 intro pos pins s σ H Q I h;rw[hs];show wpAny _ _ (spliced ((false,eval e X.env)::backTo pos (starEach es X.env))) _ _ s;refine aac (bA (ha pins s σ H _ I h) λu s1 ⟨x,H1,I1,r1,q1⟩=>?_);exact bA (hr pos pins s1 σ H1 _ I1 q1) λus s2 ⟨xs,H2,I2,r2,q2⟩=>⟨x::xs,H2,I2,.cons r1 r2,q2⟩
def Kz (t:TA):TE:=λσ H Q=>t σ H λxs H1=>xs.length<=sizeLine/\∀p,H1 p=none->Q (.ref p) (upd H1 p (.tup xs))
def JS (t:TA):TE:=λσ H Q=>t σ H λxs H1=>xs.length<=sizeLine/\∀p,H1 p=none->Q (.ref p) (upd H1 p (.lst xs))
theorem dq {x1}(h:PA X es t):PE X (.Tuple es x1 pos) (Kz t):=by
 intro pins s σ H Q I hq;refine wpAny_Tuple_spliced (bA (h pos pins s σ H _ I hq) λus s1 ⟨xs,H1,I1,r,z,q⟩=>⟨by rw[←r.length];exact z,?_⟩);have hf:H1 s1.heap.objs.size=none:=I1.bu.fresh (XC _);refine⟨.ref s1.heap.objs.size,upd H1 s1.heap.objs.size (.tup xs),I1.laid (t':=s1.toks) (λb u e=>Xw _ e) (XC _) ?_,rfl,q _ hf⟩;exact⟨z,us,r,⟨_,XJ _ rfl,rfl,_,rfl⟩⟩
theorem bV (h:PA X es t):PE X (.List es pos) (JS t):=by
 intro pins s σ H Q I hq;refine wpAny_List_spliced (bA (h pos pins s σ H _ I hq) λus s1 ⟨xs,H1,I1,r,z,q⟩=>⟨by rw[←r.length];exact z,?_⟩);have hf:H1 s1.heap.objs.size=none:=I1.bu.fresh (XC _);refine⟨.ref s1.heap.objs.size,upd H1 s1.heap.objs.size (.lst xs),I1.laid (t':=s1.toks) (λb u e=>Xw _ e) (XC _) ?_,rfl,q _ hf⟩;exact⟨z,us,0,r,XJ _ rfl⟩
end
abbrev Sp:=List V->Hp->VK->XK->Prop
abbrev mH:=List Env->Hp->Shared->XK->Value->Shared->Prop
structure wD (P:Program)(w:World)(K:aaf)(mg:aah)(base:Heap)(A:Around)(outer:List Env)(s:Shared)(H:Hp):Prop where
 frames:A.frames=some outer
 mod:Mod K mg base
 bs:∀b o,base.get? b=some o->s.heap.get? b=some o/\H b=none
 C2:base.objs.size<=s.heap.objs.size
 mw:s.heap.FunFrames base outer
 FE:∀b∈v_ outer,H b=none
 bu:iu P w H s.heap
 bare:AllBare s.gens
def CE (outer:List Env)(P:Program)(w:World)(H:Hp)(s:Shared)(Q:VK)(u:Value)(s':Shared):Prop :=
 ∃v H',s'.os=s.os/\AllBare s'.gens/\Un (v_ outer) [] H H' s.heap s'.heap/\iu P w H' s'.heap/\RelV v u/\Q v H'
def CR (CX:mH)(outer:List Env)(P:Program)(w:World)(H:Hp)(s:Shared)(Q:VK)(E:XK)(r:Result)(s':Shared):Prop :=
 match r with
 |.ok (.ret u)=>CE outer P w H s Q u s'
 |.ok _=>False
 |.error e=>CX outer H s E e s'
structure a8 (P:Program)(w:World)(K:aaf)(mg:aah)(base:Heap)(CX:mH)(k:Nat)(f:Addr)(fd:FuncData)(ps:List Str)(sp:Sp):Prop where
 len:∀vs H Q E,sp vs H Q E->vs.length=ps.length
 run:∀(A:Around) (outer:List Env) (s:Shared) (H:Hp) (args:Args) (us:aaj) (vs:List V) (Q:VK) (E:XK),cK k A->wD P w K mg base A outer s H->BindsTo s fd args (ps.zip us)->Vals vs us->sp vs H Q E ->
  codeAny (model P w) A (.call (.ref f) args) (CR CX outer P w H s Q E) s
theorem a8.mono {P:Program}{w:World}{K:aaf}{mg:aah}{base:Heap}{CX:mH}{j k:Nat}{f:Addr}{fd:FuncData}{ps:List Str}{sp:Sp}(F:a8 P w K mg base CX j f fd ps sp)(h:j<=k) :
  a8 P w K mg base CX k f fd ps sp:=⟨F.len,λA outer s H args us vs Q E hr=>F.run A outer s H args us vs Q E (hr.mono h)⟩
theorem wD.make {P:Program}{w:World}{K:aaf}{mg:aah}{base:Heap}{A:Around}{outer:List Env}{s:Shared}{H:Hp}(e:wD P w K mg base A outer s H)(C:Addr)(us:aaj)(kw:List (Str×Value)) :
  wD P w K mg base (A.under (.builtin "type.__call__" ⟨.ref C::us,kw⟩)) outer s H:=⟨by first|exact e.frames|(simpa [Around.under,Code.envs,Code.isFrame,pushEnvs] using e.frames),e.mod,e.bs,e.C2,e.mw,e.FE,e.bu,e.bare⟩
section
variable {X:Cx}{pins:aai}{σ:St}{H:Hp}{s s':Shared}
theorem Inv.Ht (I:Inv X pins σ H s):wD X.prog X.w X.K X.mg X.base X.A X.stack s H :=
 ⟨I.ok.frames,I.ok.mod,I.bs,Yh I.ok.C2 I.sz,I.stack,I.uB,I.bu,I.bare⟩
theorem Inv.after {Q:VK}{u:Value}(I:Inv X pins σ H s)(h:CE X.stack X.prog X.w H s Q u s'):EP X pins σ Q u s':=by
 obtain⟨v,H',os,bare,un,bu,r,q⟩:=h;obtain⟨hh,g,d,t,QT⟩:=s';obtain rfl:QT=s.os:=os;exact⟨v,H',I.call (h':=hh) (g':=g) (d':=d) (t':=t) (ch:=[]) un bu bare (λb z=>absurd z (by simp)),r,q⟩
end
def nH (sp:Sp)(LX:List V)(E:XK)(t:TA):TE:=λσ H Q=>t σ H λvs H1=>sp (vs++LX) H1 Q E
def vh (C:Addr)(m:Str)(sp:Sp)(LX:List V)(E:XK)(ta:TE)(t:TA):TE:=λσ H Q=>ta σ H λx H1=>∃a dx fs,x=.ref a/\H1 a=some (.ins C dx fs)/\fs.lookup m=none /\
 t σ H1 λvs H2=>sp (x::(vs++LX)) H2 Q E
def F5 (C:Addr)(sp:Sp)(LX:List V)(E:XK)(t:TA):TE:=λσ H Q=>t σ H λvs H1=>∀x dx,H1 x=none->H1 dx=none->dx≠x ->
 sp (.ref x::(vs++LX)) (upd (upd H1 dx (.own x)) x (.ins C dx [])) (λv H2=>v=.cb/\Q (.ref x) H2) E
def Binds (K:aaf)(fd:FuncData)(ps:List Str)(ds:aaj):Prop :=
 ∀(s:Shared) (us:aaj),K.In s.heap->(us++ds).length=ps.length->BindsTo s fd ⟨us,[]⟩ (ps.zip (us++ds))
theorem Binds.all {K:aaf}{fd:FuncData}{ps:List Str}(h:∀us:aaj,us.length=ps.length->bindArgs fd ⟨us,[]⟩=pure (ps.zip us)):Binds K fd ps []:=λs us _ hl=>by
 rw[Yw] at hl ⊢;exact .of_eq (h us hl)
def Passes (CX:mH)(X:Cx)(E:XK):Prop:=∀(pins:aai) (σ:St) (H:Hp) (s:Shared) (e:Value) (s':Shared),Inv X pins σ H s->CX X.stack H s E e s'->X.xe e s'
section
variable {X:Cx}{CX:mH}{k:Nat}{f C:Addr}{fd:FuncData}{ps:List Str}{sp:Sp}{LX:List V}{ds:aaj}{E:XK}{x m:Str}{p pos apos:Pos}{e o:Expr}{es:List Expr}{ta:TE}{t:TA}
theorem xt {pins:aai} {σ:St} {H:Hp} {s:Shared} {Q:VK} {us:aaj} {vs:List V} (F:a8 X.prog X.w X.K X.mg X.base CX k f fd ps sp) (hr:cK k X.A) (hb:Binds X.K fd ps ds) (hd:Vals LX ds) (hx:Passes CX X E)
  (I:Inv X pins σ H s) (r:Vals vs us) (h:sp (vs++LX) H Q E):wpAny (model X.prog X.w) X.A (call (.ref f) us) (EP X pins σ Q) X.xe s:=by
 have r2:Vals (vs++LX) (us++ds):=r.append hd;have hl:(us++ds).length=ps.length:=by rw[←r2.length];exact F.len _ _ _ _ h
 refine wpAny_call (Z6 (F.run X.A X.stack s H ⟨us,[]⟩ (us++ds) (vs++LX) Q E hr I.Ht (hb s us I.mW hl) r2 h) λr s' hq=>?_);cases r with
 |error e=>exact hx pins σ H s e s' I hq
 |ok fl =>
  cases fl with
  |ret u=>exact I.after hq
  |next=>exact False.elim hq
  |brk=>exact False.elim hq
  |cont=>exact False.elim hq
theorem DT (F:a8 X.prog X.w X.K X.mg X.base CX k f fd ps sp)(hr:cK k X.A)(hg:Gl X x)(hm:X.mg x=some (.ref f))(hk:PySem.W.keepIn X.K (.ref f)=true)(hb:Binds X.K fd ps ds)(hd:Vals LX ds)(hx:Passes CX X E)
  (ha:PA X (e::es) t)(Mj:(x==("__debug__":Str))=false:=by decide)(he:starEach (e::es) X.env=(false,eval e X.env)::starEach es X.env:=by rfl)(LN:(backTo pos (starEach es X.env)).any (·.1)=false:=by rfl) :
  PE X (.Call (.Name x p) (e::es) [] pos) (nH sp LX E t):=by
 intro pins s σ H Q I h;refine ZJ (lN I hg hm ?_ Mj);refine PySem.W.callWith_K (h₀:=X.base) I.ok.mod.Fj hk (bA (ha pos pins s σ H _ I h) λus s1 ⟨vs,H1,I1,r,q⟩=>⟨I1.mW,?_⟩) he LN;exact xt F hr hb hd hx I1 r q
theorem ED {pl:Sem Bool}(he:PE X o ta)(c:yW X.K C)(hm:Meth X.K C m f)(F:a8 X.prog X.w X.K X.mg X.base CX k f fd ps sp)(hr:cK k X.A)(hb:Binds X.K fd ps ds)(hd:Vals LX ds)(hx:Passes CX X E)(ha:PA X (e::es) t)
  (Mi:starEach (e::es) X.env=(false,eval e X.env)::starEach es X.env:=by rfl)(LN:(backTo pos (starEach es X.env)).any (·.1)=false:=by rfl)
  (ht:eval (.Call (.Attribute o m apos) (e::es) [] pos) X.env=(do
   let ov ←eval o X.env
   standAt apos.atName
   let (f,first) ←holding [ov] (getMethod ov m pl)
   callWith pos f first (backTo pos (starEach (e::es) X.env)) (backToKw pos (keywordEach [] X.env))):=by rfl) :
  PE X (.Call (.Attribute o m apos) (e::es) [] pos) (vh C m sp LX E ta t):=by
 intro pins s σ H Q I h;refine PySem.W.methodCall_KW (pl:=pl) (bA (he pins s σ H _ I h) λu s1 ⟨x,H1,I1,rx,a,dx,fs,ex,ea,l,q⟩=>?_) ht;subst ex;obtain rfl:u=Value.ref a:=rx;refine oZ I1 ea c hm l ?_;refine PySem.W.callWith_K (first:=[.ref a]) (h₀:=X.base) I.ok.mod.Fj hm.kp (bA (ha pos pins s1 σ H1 _ I1 q) λus s2 ⟨vs,H2,I2,r,q2⟩=>⟨I2.mW,?_⟩) Mi LN;exact xt (us:=.ref a::us) (vs:=.ref a::vs) F hr hb hd hx I2 (.cons rfl r) q2
theorem Cs {pl:Sem Bool}(he:PE X o ta)(c:yW X.K C)(hm:Meth X.K C m f)(F:a8 X.prog X.w X.K X.mg X.base CX k f fd ps sp)(hr:cK k X.A)(hb:Binds X.K fd ps ds)(hd:Vals LX ds)(hx:Passes CX X E)
  (ht:eval (.Call (.Attribute o m apos) [] [] pos) X.env=(do
   let ov ←eval o X.env
   standAt apos.atName
   let (f,first) ←holding [ov] (getMethod ov m pl)
   callWith pos f first (backTo pos (starEach [] X.env)) (backToKw pos (keywordEach [] X.env))):=by rfl) :
  PE X (.Call (.Attribute o m apos) [] [] pos) (vh C m sp LX E ta eV):=by
 intro pins s σ H Q I h;refine PySem.W.methodCall_KW (pl:=pl) (bA (he pins s σ H _ I h) λu s1 ⟨x,H1,I1,rx,a,dx,fs,ex,ea,l,q⟩=>?_) ht;subst ex;obtain rfl:u=Value.ref a:=rx;refine oZ I1 ea c hm l ?_;exact PySem.W.callWith_K0 (first:=[.ref a]) I1.mW hm.kp (xt (us:=[.ref a]) (vs:=[.ref a]) F hr hb hd hx I1 (.cons rfl .nil) q)
structure Mk (K:aaf)(C f:Addr):Prop where
 makes:PySem.W.makesIn K C=true
 init:PySem.W.findIn K (.ref C) "__init__"=some (some (.ref f))
 fn:PySem.W.isFn K (.ref f)=true
 kp:PySem.W.keepIn K (.ref C)=true
theorem CD {pins:aai}{σ:St}{H:Hp}{s:Shared}{Q:VK}{us:aaj}{vs:List V}(M:Mk X.K C f)(F:a8 X.prog X.w X.K X.mg X.base CX k f fd ps sp)(hr:cK (k+1) X.A)(hb:Binds X.K fd ps ds)(hd:Vals LX ds)
  (hx:Passes CX X E)(I:Inv X pins σ H s)(r:Vals vs us)
  (h:∀x dx,H x=none->H dx=none->dx≠x->sp (.ref x::(vs++LX)) (upd (upd H dx (.own x)) x (.ins C dx [])) (λv H2=>v=.cb/\Q (.ref x) H2) E) :
  wpAny (model X.prog X.w) X.A (call (.ref C) us) (EP X pins σ Q) X.xe s:=by
 have hq:=h (s.heap.objs.size+1) s.heap.objs.size (I.bu.fresh (Nat.le_succ _)) (I.bu.fresh (XC _)) (X6 (ZW _));have I2:=Inv.made (C:=C) I;have r2:Vals (V.ref (s.heap.objs.size+1)::(vs++LX)) (Value.ref (s.heap.objs.size+1)::(us++ds)):=.cons rfl (r.append hd);have hl:(Value.ref (s.heap.objs.size+1)::us++ds).length=ps.length:=by
  have e:=r2.length;rw[F.len _ _ _ _ hq] at e;exact e.symm
 refine wpAny_call (CG (f:=f) I.mW M.makes M.init (Yk.mp M.fn) (Z6 (F.run _ X.stack _ _ ⟨Value.ref (s.heap.objs.size+1)::us,[]⟩ (Value.ref (s.heap.objs.size+1)::(us++ds)) _ _ E (hr.make C us [])
  (I2.Ht.make C us []) (hb _ (Value.ref (s.heap.objs.size+1)::us) I2.mW hl) r2 hq) λr s' MT=>?_))
 cases r with
 |error e=>exact hx pins σ _ _ e s' I2 MT
 |ok fl =>
  cases fl with
  |ret u =>
   obtain⟨v,H',I3,rv,ev,q3⟩:=I2.after MT;subst ev;exact⟨rv,⟨V.ref (s.heap.objs.size+1),H',I3,rfl,q3⟩⟩
  |next=>exact False.elim MT
  |brk=>exact False.elim MT
  |cont=>exact False.elim MT
theorem D8 (M:Mk X.K C f)(F:a8 X.prog X.w X.K X.mg X.base CX k f fd ps sp)(hr:cK (k+1) X.A)(hg:Gl X x)(hm:X.mg x=some (.ref C))(hb:Binds X.K fd ps ds)(hd:Vals LX ds)(hx:Passes CX X E)
  (ha:PA X (e::es) t)(Mj:(x==("__debug__":Str))=false:=by decide)(he:starEach (e::es) X.env=(false,eval e X.env)::starEach es X.env:=by rfl)(LN:(backTo pos (starEach es X.env)).any (·.1)=false:=by rfl) :
  PE X (.Call (.Name x p) (e::es) [] pos) (F5 C sp LX E t):=by
 intro pins s σ H Q I h;refine ZJ (lN I hg hm ?_ Mj);refine PySem.W.callWith_K (h₀:=X.base) I.ok.mod.Fj M.kp (bA (ha pos pins s σ H _ I h) λus s1 ⟨vs,H1,I1,r,q⟩=>⟨I1.mW,?_⟩) he LN;exact CD M F hr hb hd hx I1 r q
end
section
variable {X:Cx}{CX:mH}{k:Nat}{f C:Addr}{fd:FuncData}{ps ks:List Str}{sp:Sp}{E:XK}{x m:Str}{p pos apos kpos:Pos}{e o:Expr}{es:List Expr}{kws:List Keyword}{te ta:TE}{t tk:TA}{nm:Option Str}
variable {g:aaj->aaj->aaj} {gV:List V->List V->List V}
end
structure aG (N P:List Str)(sc:Scope):Prop where
 kind:sc.kind=.function
 co:sc.isCoroutine=false
 gen:sc.isGenerator=false
 nd:N.Nodup
 pre:N.take P.length=P
 par:∀x∈P,sc.names.lookup x=some .local∨sc.names.lookup x=some .cell
 Ha:∀y∈sc.names,y.2≠.free
theorem rn {kindOf:Str->Option NameKind}{x:Str}:∀{binds:List (Str×Value)} {m:aah},(∀v,(x,v)∉binds)->bindL kindOf binds m x=m x
 |[],_,_=>rfl
 |(n,v)::r,m,h=>by
  unfold bindL;rw[rn λw hw=>h w (XN _ hw)];split
  · have:x≠n:=by rintro rfl;exact h v Yg
    simp[this]
  · rfl
theorem rm {kindOf:Str->Option NameKind}{x:Str}:∀{binds:List (Str×Value)} {m:aah},(∀v,(x,v)∉binds)->bindC kindOf binds m x=m x
 |[],_,_=>rfl
 |(n,v)::r,m,h=>by
  unfold bindC;rw[rm λw hw=>h w (XN _ hw)];split
  · rfl
  · have:x≠n:=by rintro rfl;exact h v Yg
    simp[this]
theorem rO {kindOf:Str->Option NameKind}{x:Str}{v:Value}:∀{P:List Str} {vs:aaj} {i:Nat} {m:aah},P.Nodup->P[i]?=some x->vs[i]?=some v->kindOf x=some .local ->
  bindL kindOf (P.zip vs) m x=some v
 |[],_,_,_,_,h,_,_=>by simp at h
 |_::_,[],_,_,_,_,h,_=>by simp at h
 |p::P,w::vs,0,m,nd,h1,h2,hk=>by
  simp at h1 h2;subst h1;subst h2;show bindL kindOf ((p,w)::P.zip vs) m p=_;unfold bindL;rw[rn λv hv=>(YF.mp nd).1 (List.of_mem_zip hv).1,Xv hk];simp
 |p::P,w::vs,i+1,m,nd,h1,h2,hk=>by
  show bindL kindOf ((p,w)::P.zip vs) m x=_;unfold bindL;exact rO (i:=i) (YF.mp nd).2 (by simpa using h1) (by simpa using h2) hk
theorem sE {kindOf:Str->Option NameKind}{x:Str}{v:Value}:∀{P:List Str} {vs:aaj} {i:Nat} {m:aah},P.Nodup->P[i]?=some x->vs[i]?=some v->kindOf x≠some .local ->
  bindC kindOf (P.zip vs) m x=some v
 |[],_,_,_,_,h,_,_=>by simp at h
 |_::_,[],_,_,_,_,h,_=>by simp at h
 |p::P,w::vs,0,m,nd,h1,h2,hk=>by
  simp at h1 h2;subst h1;subst h2;show bindC kindOf ((p,w)::P.zip vs) m p=_;unfold bindC;rw[rm λv hv=>(YF.mp nd).1 (List.of_mem_zip hv).1,Xu hk];simp
 |p::P,w::vs,i+1,m,nd,h1,h2,hk=>by
  show bindC kindOf ((p,w)::P.zip vs) m x=_;unfold bindC;exact sE (i:=i) (YF.mp nd).2 (by simpa using h1) (by simpa using h2) hk
def start (N:List Str)(vs:List V):St:=vs.map some++List.replicate (N.length - vs.length) none
def mO (CX:mH)(P:Program)(w:World)(K:aaf)(mg:aah)(base:Heap)(N:List Str)(qual:Str)(scope:Scope)(f:Addr)(cd:Value)(A:Around)(outer:List Env)(s:Shared)(H:Hp)(E:XK):Cx where
 prog:=P
 w:=w
 K:=K
 mg:=mg
 base:=base
 A:=A.deeper (envOfC qual scope s.heap.objs.size f cd)
 N:=N
 kJ:=s
 Ig:=H
 env:=envOfC qual scope s.heap.objs.size f cd
 outer:=outer
 stack:=envOfC qual scope s.heap.objs.size f cd::outer
 ex:=[]
 calm:=true
 fn:=λ_=>true
 pn:=[]
 xe:=λe s'=>wpAny (model P w) (A.deeper (envOfC qual scope s.heap.objs.size f cd)) (leaving (envOfC qual scope s.heap.objs.size f cd) e) (λ_ PL=>CX outer H s E e PL) (λe' PL=>CX outer H s E e' PL) s'
theorem vV {sc:Scope}{n:Nat}{x:Str}(h:sc.names.lookup x=some .cell):∃c,(cellsFrom n sc.names []).lookup x=some c:=by
 have q:=PySem.W.cellsFrom_some sc.names n [] (.inl h);exact ZG.mp q
theorem Ac {CX:mH}{P:Program}{w:World}{K:aaf}{mg:aah}{base:Heap}{N ps:List Str}{qual:Str}{scope:Scope}{f:Addr}{cd:Value}{A:Around}{outer:List Env}{s s1:Shared}{H:Hp}{E:XK}{us:aaj}{vs:List V}
  (S:aG N ps scope)(hd:A.handled=none)(e0:wD P w K mg base A outer s H)(hl:vs.length=ps.length)(r:Vals vs us)
  (x:InCallC s s.heap.objs.size (bindL (envOfC qual scope s.heap.objs.size f cd).kindOf (ps.zip us) λ_=>none) (cellsFrom (s.heap.objs.size+1) scope.names []) (bindC (envOfC qual scope s.heap.objs.size f cd).kindOf (ps.zip us) λ_=>none) s1) :
  Inv (mO CX P w K mg base N qual scope f cd A outer s H E) [] (start N vs) H s1:=by
 have LN:ps.length<=N.length:=by have:=YA List.length S.pre;rw[XT] at this;omega
 obtain⟨h1,tk,rfl,hk⟩:=x.done;have N_:∀b:Addr,b∉(mO CX P w K mg base N qual scope f cd A outer s H E).ex:=λb z=>absurd (show b∈([]:List Addr) from z) (by simp);refine⟨⟨e0.mod,S.kind,rfl,rfl,XC _,λy z c h1 h2=>?_,λy hy=>?_,λy c _ h=>?_,λ_=>hd,Around.frames_deeper e0.frames,.inr ⟨rfl,rfl⟩,λb z=>absurd z (N_ b),e0.bs,e0.C2,λb _ _=>N_ b,λb z=>absurd z (N_ b),e0.mw,e0.FE⟩,
  rfl,e0.bare,Un.kept hk,⟨_,x.toInCall.ns,λi y v h1 h2 h3=>?_⟩,λy c h=>⟨_,x.cell y c h⟩,e0.bu.fresh (XC _),λy c h=>?_,λp hp=>absurd (show p∈([]:aai) from hp) (by simp),e0.bu.kept hk,?_⟩
 · exact name_of_addr x.apart (PySem.mem_of_lookup h1) (PySem.mem_of_lookup h2)
 · have hy:scope.names.lookup y=some .cell∨scope.names.lookup y=some .free:=hy;rcases hy with hy|hy
   · exact vV hy
   · exact absurd rfl (S.Ha _ (PySem.mem_of_lookup hy))
 · exact Nat.le_of_lt (x.above y c (PySem.mem_of_lookup h))
 · have hi:i < vs.length:=by
    unfold start at h2;by_cases hi:i < vs.length
    · exact hi
    · rw[aab (by simpa using hi)] at h2;rw[List.getElem?_replicate] at h2;split at h2 <;> cases h2
   have ha:vs[i]?=some v:=by
    unfold start at h2;rw[List.getElem?_append_left (by simpa using hi),Xy] at h2;cases e:vs[i]? with
    |none=>rw[e] at h2;cases h2
    |some a=>rw[e] at h2;cases h2;rfl
   obtain⟨u,hu,rv⟩:=r.get ha;have hp:ps[i]?=some y:=by
    rw[←S.pre,List.getElem?_take_of_lt (by omega)];exact h1
   have So:ps.Nodup:=by rw[←S.pre];exact S.nd.sublist (List.take_sublist _ _)
   refine⟨u,rv,?_⟩;rcases S.par y (XZ hp) with k|k
   · exact .inl ⟨k,rO So hp hu k⟩
   · obtain⟨c,e⟩:=vV (n:=s.heap.objs.size+1) k;refine .inr ⟨.inl k,c,e,?_⟩;have q:=x.cell y c e;rw[sE So hp hu (by show scope.names.lookup y≠_;rw[k];decide)] at q;exact q
 · exact e0.bu.fresh (Nat.le_of_lt (x.above y c (PySem.mem_of_lookup h)))
 · unfold start;show _=N.length;rw[XS,Xs,X4];omega
theorem Cm {CX:mH}{P:Program}{w:World}{K:aaf}{mg:aah}{base:Heap}{k:Nat}{f:Addr}{name qual:Str}{params:Arguments}{body:List Stmt}{scope:Scope}{dV kV doc pm LF ct oc:Value}{an od:Option Addr}
  {Mx:Array (Option Value)}{N ps:List Str}{sp:Sp}(lk:K.lookup f=some ⟨oc,od,.func (PySem.W.fnOf name qual params body scope dV kV doc pm an LF ct),Mx⟩)(Mf:PySem.W.codeIn K LF qual=true)(S:aG N ps scope)
  (len:∀vs H Q E,sp vs H Q E->vs.length=ps.length)
  (LK:∀(A:Around) (outer:List Env) (s:Shared) (H:Hp) (vs:List V) (Q:VK) (E:XK),cK k (A.deeper (envOfC qual scope s.heap.objs.size f LF))->sp vs H Q E ->
   ∃t,Cd (mO CX P w K mg base N qual scope f LF A outer s H E) body t/\t {nx:=λ_ H'=>Q .cb H',rt:=Q} (start N vs) H) :
  a8 P w K mg base CX (k+1) f (PySem.W.fnOf name qual params body scope dV kV doc pm an LF ct) ps sp:=by
 refine⟨len,λA outer s H args us vs Q E hr e0 hb r Mg=>?_⟩;have hl:=len _ _ _ _ Mg;have KX:K.In s.heap:=e0.mod.Fj.keeps λb o e=>(e0.bs b o e).1;have lim:s.heap.NoLimit:=e0.mod.nolimit.keeps λb o e=>(e0.bs b o e).1;have OK:∀y∈ps.zip us,scope.names.lookup y.1=some .local∨(scope.names.lookup y.1=some .cell/\((cellsFrom (s.heap.objs.size+1) scope.names []).lookup y.1).isSome=true):=λ⟨n,v⟩ hy=>by
  rcases S.par n (List.of_mem_zip hy).1 with q|q
  · exact .inl q
  · exact .inr ⟨q,PySem.W.cellsFrom_some _ _ _ (.inl q)⟩
 refine codeAny_call_function hr.depth (KX _ _ lk) rfl S.co S.gen rfl (PySem.W.codeRec_of KX Mf) (hb _ _ _ _ ?_);refine wpAny_newFunctionEnv_cells S.kind OK λenv he s1 x=>?_;subst he;refine⟨lim.keeps x.toInCall.keep,codeAny_func ?_⟩;obtain⟨t,ht,hq⟩:=LK A outer s H vs Q E (hr.deeper _) Mg;have I:Inv (mO CX P w K mg base N qual scope f LF A outer s H E) [] (start N vs) H s1:=Ac S hr.hd e0 hl r x;refine YL (ht s1 (start N vs) H _ I hq) (λfl s' hs=>?_) λe s' hs=>hs;have fin:∀{σ':St} {H':Hp} {v:V} {u:Value},Inv (mO CX P w K mg base N qual scope f LF A outer s H E) [] σ' H' s'->RelV v u->Q v H'->CE outer P w H s Q u s' :=
  λ{σ' H' v u} J rv q=>⟨v,H',J.os,J.bare,J.base,J.bu,rv,q⟩
 cases fl with
 |ret u =>
  obtain⟨v,σ',H',J,rv,q⟩:=hs;exact fin J rv q
 |next =>
  obtain⟨σ',H',J,q⟩:=hs;exact fin (v:=V.cb) (u:=Value.none) J rfl q
 |brk =>
  obtain⟨_,_,_,q⟩:=hs;exact False.elim q
 |cont =>
  obtain⟨_,_,_,q⟩:=hs;exact False.elim q
theorem FZ {CX:mH}{P:Program}{w:World}{K:aaf}{mg:aah}{base:Heap}{k:Nat}{f:Addr}{name qual:Str}{params:Arguments}{body:List Stmt}{scope:Scope}{dV kV doc pm LF ct oc:Value}{an od:Option Addr}
  {Mx:Array (Option Value)}{N ps:List Str}{sp:Sp}(lk:K.lookup f=some ⟨oc,od,.func (PySem.W.fnOf name qual params body scope dV kV doc pm an LF ct),Mx⟩)(Mf:PySem.W.codeIn K LF qual=true)(S:aG N ps scope)
  (len:∀vs H Q E,sp vs H Q E->vs.length=ps.length)
  (LK:∀(A:Around) (outer:List Env) (s:Shared) (H:Hp) (vs:List V) (Q:VK) (E:XK),cK k (A.deeper (envOfC qual scope s.heap.objs.size f LF))->sp vs H Q E ->
   ∃t,qP (mO CX P w K mg base N qual scope f LF A outer s H E) body t/\t {nx:=λ_ H'=>Q .cb H',rt:=Q} (start N vs) H) :
  a8 P w K mg base CX (k+1) f (PySem.W.fnOf name qual params body scope dV kV doc pm an LF ct) ps sp:=Cm lk Mf S len λA outer s H vs Q E hr hs=>let ⟨t,ht,hq⟩:=LK A outer s H vs Q E hr hs;⟨t,λs σ H D=>ht [] s σ H D,hq⟩
section
variable {X:Cx}{x:Str}{p pos:Pos}{e:Expr}{es:List Expr}{t:TA}{id T:String}{r:List V->Hp->VK->Prop}
def G_ (r:List V->Hp->VK->Prop) (t:TA):TE:=λσ H Q=>t σ H λvs H1=>r vs H1 Q
theorem bY (hc:ir X (.builtin id) r)(hg:Gl X x)(hm:X.mg x=none)(hv:bootBuiltins x=some (.builtin id))(ha:PA X (e::es) t)(hn:x≠"__name__":=by decide)(Mj:(x==("__debug__":Str))=false:=by decide)
  (he:starEach (e::es) X.env=(false,eval e X.env)::starEach es X.env:=by rfl)(LN:(backTo pos (starEach es X.env)).any (·.1)=false:=by rfl):PE X (.Call (.Name x p) (e::es) [] pos) (G_ r t):=by
 intro pins s σ H Q I h;refine ZJ (lh I hg hm hv ?_ hn Mj);exact PyProof.Rows.callWith_builtin1 (bA (ha pos pins s σ H _ I h) λus s1 ⟨vs,H1,I1,r1,q1⟩=>hc pins s1 σ H1 vs us Q I1 r1 q1) he LN
theorem j0 (hc:ir X (.type T) r)(hg:Gl X x)(hm:X.mg x=none)(hv:bootBuiltins x=some (.type T))(ha:PA X (e::es) t)(hn:x≠"__name__":=by decide)(Mj:(x==("__debug__":Str))=false:=by decide)
  (he:starEach (e::es) X.env=(false,eval e X.env)::starEach es X.env:=by rfl)(LN:(backTo pos (starEach es X.env)).any (·.1)=false:=by rfl):PE X (.Call (.Name x p) (e::es) [] pos) (G_ r t):=by
 intro pins s σ H Q I h;refine ZJ (lh I hg hm hv ?_ hn Mj);exact YV (bA (ha pos pins s σ H _ I h) λus s1 ⟨vs,H1,I1,r1,q1⟩=>hc pins s1 σ H1 vs us Q I1 r1 q1) he LN
end
end L2
namespace HT
open PySem PyProof.Rows
section
open PySem.SeqAt
open PySem.AutoSeq1 (wpAny_loadPart')
open PySem.MeetsSeq PySem.MeetsSeq2 PySem.MeetsSeq3
end
section
variable {prog:Program}{w:World}{A:Around}{E:aag}{s:Shared}
theorem EC {t b:Addr} {vs ws:aaj} {Q:aag} (ht:IsTup s.heap t vs.toArray) (hb:IsTup s.heap b ws.toArray) (hv:vs≠[])
  (h1:ws=[]->Q (.ref t) s) (h2:ws≠[]->Q (.ref s.heap.objs.size) {s with heap:=s.heap.push {cls:=.type "tuple",data:=.seq (vs++ws).toArray}})
  (hsz:vs.length+ws.length<=sizeLine):wpAny (model prog w) A (binaryOp .Add (.ref t) (.ref b)) Q E s:=by
 obtain⟨⟨cls,dd,data,sl⟩,ho,hc,n,hd⟩:=id ht;obtain⟨⟨cls2,Sq,data2,Sr⟩,PM,Ss,n2,hd2⟩:=id hb;simp only at hc hd Ss hd2;subst hc hd Ss hd2;have e:vs.toArray++ws.toArray=(vs++ws).toArray:=by simp
 by_cases hw:ws=[]
 · exact concat_meets ⟨_,ho,rfl⟩ ⟨_,PM,rfl⟩ noFill_tuple_add seq_tuple_add PySem.F.slot_tuple_add PySem.F.entry_tuple_add (PySem.F.args_tuple_add_2 _ _)
    (tuple_addW1 t b vs.toArray ws.toArray n n2 dd Sq sl Sr (by simpa using hv) (by simp[hw])) ⟨ho,PM,h1 hw⟩
 · refine concat_meets ⟨_,ho,rfl⟩ ⟨_,PM,rfl⟩ noFill_tuple_add seq_tuple_add PySem.F.slot_tuple_add PySem.F.entry_tuple_add (PySem.F.args_tuple_add_2 _ _)
    (tuple_addW2 t b vs.toArray ws.toArray n n2 dd Sq sl Sr (by simpa using hv) (by simpa using hw) (by rw[XR,XR];exact hsz)) ⟨ho,PM,?_⟩
   rw[e];exact h2 hw
def cf (n d:Nat):Option Int->Nat
 |none=>d
 |some v=>if v < 0 then (v+(n:Int)).toNat else min v.toNat n
theorem iB (n d:Nat):cf n d none=d:=rfl
theorem i6 (n d k:Nat):cf n d (some (k:Int))=min k n:=by
 show (if (k:Int) < 0 then ((k:Int)+(n:Int)).toNat else min (k:Int).toNat n)=min k n;rw[Xu (by omega),Ye]
theorem w8 (n d:Nat)(hd:d<=n)(o:Option Int):cf n d o<=n:=by
 cases o with
 |none=>exact hd
 |some v =>
  show (if v < 0 then (v+(n:Int)).toNat else min v.toNat n)<=n;by_cases hv:v < 0
  · rw[Xv hv];omega
  · rw[Xu hv];exact Nat.min_le_right _ _
theorem yi (v:Int)(n d:Nat):(if v < 0 then max (v+(n:Int)) 0 else min v (n:Int))=((cf n d (some v):Nat):Int):=by
 show (if v < 0 then max (v+(n:Int)) 0 else min v (n:Int))=(((if v < 0 then (v+(n:Int)).toNat else min v.toNat n):Nat):Int);by_cases hv:v < 0
 · simp only[Xv hv];omega
 · simp only[Xu hv];omega
theorem wU (lo hi:Option Int)(n:Nat):Builtin.Slice.sliceAdjust lo hi 1 (n:Int)=(((cf n 0 lo:Nat):Int),((cf n n hi:Nat):Int)):=by
 have h1:¬((1:Int) < 0):=by omega
 unfold Builtin.Slice.sliceAdjust;simp only[h1,Zs];refine Prod.ext ?_ ?_
 · cases lo with
   |none=>rfl
   |some v=>exact yi v n 0
 · cases hi with
   |none=>rfl
   |some v=>exact yi v n n
theorem xk (i j:Nat):Builtin.Slice.slicePlaces (i:Int) (j:Int) 1=j - i:=by
 unfold Builtin.Slice.slicePlaces;have h1:(1:Int) > 0:=by omega
 simp only[h1,Zc,Int.ediv_one];split <;> omega
theorem o9 {v:Value}{o:Option Int}{Q:Option Int->Shared->Prop}(p:IsPart v o)(h:Q o s):wpAny (model prog w) A (Builtin.Slice.slicePartIndex v) Q E s:=by
 cases p with
 |none=>exact slicePart_none h
 |int i t=>exact slicePart_int h
theorem ik {sl:Addr}{vl vu:Value}{lo hi:Option Int}{n:Nat}{Q:Int×Int×Nat->Shared->Prop}(hs:s.heap.IsSliceOf sl vl vu .none)(pl:IsPart vl lo)(pu:IsPart vu hi)
  (h:Q (((cf n 0 lo:Nat):Int),1,cf n n hi - cf n 0 lo) s):wpAny (model prog w) A (Builtin.Slice.sliceApplied (.ref sl) (pure (n:Int))) Q E s:=by
 obtain⟨os,M4,NL,NM⟩:=id hs;unfold Builtin.Slice.sliceApplied Builtin.Slice.sliceFields;refine Xr (Xr (wpAny_field M4 NM (x:=vl) rfl (Xr (wpAny_field M4 NM (x:=vu) rfl (Xr (wpAny_field M4 NM (x:=.none) rfl (Xz ?_)))))));refine Xr (slicePart_none ?_);show wpAny _ _ (if ((1:Int)==0)=true then _ else _) _ _ s;rw[Xu (by decide)];refine Xr (o9 pl (Xr (o9 pu (Xr (Xz ?_)))));show wpAny _ _ (match Builtin.Slice.sliceAdjust lo hi 1 (n:Int) with|(lo,hi)=>pure (lo,(1:Int),Builtin.Slice.slicePlaces lo hi 1)) _ _ s;rw[wU lo hi n];show wpAny _ _ (pure (((cf n 0 lo:Nat):Int),(1:Int),Builtin.Slice.slicePlaces ((cf n 0 lo:Nat):Int) ((cf n n hi:Nat):Int) 1)) _ _ s;rw[xk];exact Xz h
theorem CJ (xs:Array Value)(i k:Nat):((List.range k).filterMap λ(m:Nat)=>xs[((i:Int)+(m:Int)*1).toNat]?).toArray=((xs.toList.drop i).take k).toArray:=by
 have e:(λ(m:Nat)=>xs[((i:Int)+(m:Int)*1).toNat]?)=λm=>xs[i+m]?:=by
  funext m;have:((i:Int)+(m:Int)*1).toNat=i+m:=by omega
  rw[this]
 rw[e];have:=pick_run xs i k;rw[List.filterMap_map] at this;have e2:((λx=>xs[x]?) ∘ λx=>i+x)=λm=>xs[i+m]?:=rfl;rw[e2] at this;rw[this]
theorem lW {t sl:Addr}{items:Array Value}{vl vu:Value}{lo hi:Option Int}{Q:aag}(ht:IsTup s.heap t items)(hs:s.heap.IsSliceOf sl vl vu .none)(pl:IsPart vl lo)(pu:IsPart vu hi)
  (hw:¬(cf items.size 0 lo=0/\cf items.size items.size hi=items.size))
  (h:Q (.ref s.heap.objs.size) {s with heap:=s.heap.push {cls:=.type "tuple",data:=.seq ((items.toList.drop (cf items.size 0 lo)).take (cf items.size items.size hi - cf items.size 0 lo)).toArray}})
  (hsz:items.size<=sizeLine):wpAny (model prog w) A (getItem (.ref t) (.ref sl)) Q E s:=by
 have Mq:sizeOk (.seq ((items.toList.drop (cf items.size 0 lo)).take (cf items.size items.size hi - cf items.size 0 lo)).toArray):=by
  show ((items.toList.drop (cf items.size 0 lo)).take (cf items.size items.size hi - cf items.size 0 lo)).toArray.size<=sizeLine;rw[XR,XT,Ym,Ze];omega
 have hj:cf items.size items.size hi<=items.size:=w8 _ _ (XC _) hi;obtain⟨os,M4,NL,NM⟩:=id hs;have U_:s.TypeIs (.ref sl) "slice":=⟨os,M4,NL⟩;unfold getItem
 try with_reducible refine Zv ?_
 first|refine Xr (Xz ?_)|skip
 refine Xr (wpAny_sequenceKey ht.typeIs (by decide) ?_);refine Xr (YJ (name:=Str.ofString "__getitem__") ht.typeIs YK
  (YQ YK ht.typeIs entry_tuple_getitem ?_ (args_tuple_getitem _ _)))
 show wpAny _ _ (Builtin.Tuple.tupleItemsOf (.ref t) >>= _) _ _ s;refine Xr (tupleItemsOf_ ht ?_);refine Xr (wpAny_typeOf U_ ?_);rw[Xv (by decide)];refine Xr (ik hs pl pu ?_);have MU:¬((((cf items.size 0 lo:Nat):Int)==0&&(1:Int)==1&&(cf items.size items.size hi - cf items.size 0 lo)==items.size)=true):=by
  intro q;rw[XA,XA] at q;have q1:((cf items.size 0 lo:Nat):Int)=0:=YY q.1.1;have q2:cf items.size items.size hi - cf items.size 0 lo=items.size:=YY q.2;exact hw ⟨by omega,by omega⟩
 show wpAny _ _ (if (((cf items.size 0 lo:Nat):Int)==0&&(1:Int)==1&&(cf items.size items.size hi - cf items.size 0 lo)==items.size)=true then _ else _) _ _ s;rw[Xu MU,CJ]
 first
  |exact Xr (m:=Builtin.Tuple.tupleExact _) (YW (Xz ⟨_,rfl,Xz h⟩) Mq)
  |exact Xr (m:=Builtin.Tuple.tupleExact _) (YW (Xr (Xz (Xz ⟨_,rfl,Xz h⟩))) Mq)
  |exact Xr (Xr (m:=Builtin.Tuple.tupleExact _) (YW (Xz (Xz ⟨_,rfl,Xz h⟩)) Mq))
  |exact Xr (Xr (m:=Builtin.Tuple.tupleExact _) (YW (Xz ⟨_,rfl,Xz h⟩) Mq))
end
end HT
namespace L2
open PySem PySem.Spec PyProof.Rows
abbrev TO:=St->Hp->(Option Int->Hp->Prop)->Prop
def PO (X:Cx)(e:Option Expr)(t:TO):Prop :=
 ∀(pins:aai) (s:Shared) (σ:St) (H:Hp) (Q:Option Int->Hp->Prop),Inv X pins σ H s->t σ H Q ->
  wpAny (model X.prog X.w) X.A (evalPart e X.env) (λu s'=>∃o H',Inv X pins σ H' s'/\IsPart u o/\Q o H') X.xe s
def C7:TO:=λ_ H Q=>Q none H
def Iw (t:TE):TO:=λσ H Q=>t σ H λx H1=>∃i,x=.int i/\Q (some i) H1
theorem intsAre_of {ns:List Int}:∀{us:aaj},Vals (ns.map V.int) us->IntsAre us ns:=by
 induction ns with
 |nil=>intro us r;rw[YT] at r;cases r;exact .nil
 |cons n ns ih =>
  intro us r;rw[XM] at r;cases r with
  |cons r1 r2 =>
   obtain⟨t,e⟩:=r1;subst e;exact .cons n t (ih r2)
section
variable {X:Cx}{e:Expr}{te:TE}{lo hi:Option Expr}{tl th:TO}{pos p2:Pos}
theorem fk:PO X none C7:=by
 intro pins s σ H Q I h;rw[evalPart_none];exact Xz ⟨none,H,I,.none,h⟩
theorem cY (h:PE X e te):PO X (some e) (Iw te):=by
 intro pins s σ H Q I hw;rw[evalPart_some];refine bA (h pins s σ H _ I hw) λu s1 ⟨x,H1,I1,r1,q1⟩=>?_;obtain⟨i,rfl,q⟩:=q1;obtain⟨t,rfl⟩:=r1;exact⟨some i,H1,I1,.int i t,q⟩
def Je (X:Cx)(r:V->Option Int->Option Int->Hp->VK->Prop):Prop :=
 ∀(pins:aai) (s:Shared) (σ:St) (H:Hp) (x:V) (v vl vu:Value) (lo hi:Option Int) (sl:Addr) (Q:VK),Inv X pins σ H s->RelV x v->s.heap.IsSliceOf sl vl vu .none->IsPart vl lo->IsPart vu hi->r x lo hi H Q ->
  ∃T id,typeLookup (.type T) "__getitem__"=pure (some (.builtin id))/\s.TypeIs v T/\wpAny (model X.prog X.w) X.A (getItem v (.ref sl)) (EP X pins σ Q) X.xe s
def Ln (r:V->Option Int->Option Int->Hp->VK->Prop)(te:TE)(tl th:TO):TE:=λσ H Q=>te σ H λx H1=>tl σ H1 λl H2=>th σ H2 λu H3=>r x l u H3 Q
theorem cN {r:V->Option Int->Option Int->Hp->VK->Prop}(hr:Je X r)(he:PE X e te)(hl:PO X lo tl)(hu:PO X hi th):PE X (.Subscript e (.Slice lo hi none p2) pos) (Ln r te tl th):=by
 intro pins s σ H Q I h;refine Subscript_ (bA (he pins s σ H _ I h) λv s1 ⟨x,H1,I1,r1,q1⟩=>?_);refine wpAny_Slice (bA (hl pins s1 σ H1 _ I1 q1) λvl s2 ⟨l,H2,I2,pl,q2⟩=>bA (hu pins s2 σ H2 _ I2 q2) λvu s3 ⟨u,H3,I3,pu,q3⟩=>?_);rw[evalPart_none];refine Xz ?_;have I4:Inv X pins σ H3 {s3 with heap:=s3.heap.push {cls:=.type "slice",data:=.fields #[vl,vu,.none]}}:=I3.kept (t':=s3.toks) λb ob q=>Xw _ q;obtain⟨T,id,hT,ht,hg⟩:=hr pins {s3 with heap:=s3.heap.push {cls:=.type "slice",data:=.fields #[vl,vu,.none]}} σ H3 x v vl vu l u s3.heap.objs.size Q I4 r1 (Heap.IsSliceOf.new ..) pl pu q3;show wpAny (model X.prog X.w) X.A (subscriptTail e (.Slice lo hi none p2) v (.ref s3.heap.objs.size)) (EP X pins σ Q) X.xe {s3 with heap:=s3.heap.push {cls:=.type "slice",data:=.fields #[vl,vu,.none]}};exact tail_any (ops:=[.ref s3.heap.objs.size,v]) ht hT hg (by with_unfolding_all rfl)
def fC (xs:List V)(lo hi:Option Int):List V:=(xs.drop (HT.cf xs.length 0 lo)).take (HT.cf xs.length xs.length hi - HT.cf xs.length 0 lo)
theorem nJ (xs:List V)(lo hi:Option Int):(fC xs lo hi).length<=xs.length:=by
 unfold fC;rw[XT,Ym];omega
def Kc (K:aaf):V->Option Int->Option Int->Hp->VK->Prop:=λx lo hi H Q=>∃a xs,x=.ref a/\bZ K H a xs /\
 ¬(HT.cf xs.length 0 lo=0/\HT.cf xs.length xs.length hi=xs.length)/\∀p,H p=none->Q (.ref p) (upd H p (.tup (fC xs lo hi)))
theorem G5:Je X (Kc X.K):=by
 intro pins s σ H x v vl vu lo hi sl Q I rx hs pl pu h;obtain⟨a,xs,rfl,hx,hw,q⟩:=h;cases rx;obtain⟨LD,r,ht,hz⟩:=I.tuple hx;have hlen:LD.toArray.size=xs.length:=by rw[XR];exact r.length.symm
 refine⟨"tuple",_,YK.lookup,ht.typeIs,?_⟩;refine HT.lW ht hs pl pu (by rw[hlen];exact hw) ?_ (by rw[hlen];exact hz);rw[hlen];refine⟨.ref s.heap.objs.size,_,I.laid (t':=s.toks) (o:=.tup (fC xs lo hi)) (λb ob q=>Xw _ q) (XC _) ?_,rfl,q _ (I.bu.fresh (XC _))⟩;exact⟨Yh (nJ xs lo hi) hz,_,(r.drop (HT.cf xs.length 0 lo)).take (HT.cf xs.length xs.length hi - HT.cf xs.length 0 lo),IsTup.new _ _⟩
def IL (K:aaf):R2:=λx y H Q=>∃a b xs ys,x=.ref a/\y=.ref b/\bZ K H a xs/\bZ K H b ys/\xs≠[]/\xs.length+ys.length<=sizeLine /\
 (ys=[]->Q (.ref a) H)/\(ys≠[]->∀p,H p=none->Q (.ref p) (upd H p (.tup (xs++ys))))
theorem Vals.oF {xs:List V}{us:aaj}(r:Vals xs us):us=[]↔xs=[]:=by
 cases r with
 |nil=>simp
 |cons _ _=>simp
theorem EJ:jT X (binaryOp .Add) (IL X.K):=by
 intro pins s σ H x y v u Q I rx ry h;obtain⟨a,b,xs,ys,rfl,rfl,ha,hb,hx,hz,q1,q2⟩:=h;cases rx;cases ry;obtain⟨LD,r1,p1,_⟩:=I.tuple ha;obtain⟨L6,r2,p2,_⟩:=I.tuple hb;refine HT.EC p1 p2 (λz=>hx (r1.oF.mp z)) (λz=>⟨.ref a,H,I,rfl,q1 (r2.oF.mp z)⟩) (λz=>?_) (by rw[←r1.length,←r2.length];exact hz);refine⟨.ref s.heap.objs.size,_,I.laid (t':=s.toks) (o:=.tup (xs++ys)) (λb ob q=>Xw _ q) (XC _) ?_,rfl,q2 (λw=>z (r2.oF.mpr w)) _ (I.bu.fresh (XC _))⟩;exact⟨by rw[XS];exact hz,_,r1.append r2,IsTup.new _ _⟩
end
def C8 (n:Nat)(i:Int):Option Nat:=if 0<=i then (if i < n then some i.toNat else none) else if -(n:Int)<=i then some (i+n).toNat else none
def nU {α:Type}(xs:List α)(i:Int):Option α:=(C8 xs.length i).bind λj=>xs[j]?
theorem yC {n:Nat}{i:Int}{j:Nat}(h:C8 n i=some j):seqIndex? i n=some j/\j < n/\-(n:Int)<=i/\i < n:=by
 unfold C8 at h;by_cases h0:0<=i
 · rw[Xv h0] at h;by_cases h1:i < n
   · rw[Xv h1] at h;have e:i.toNat=j:=X7 h;exact⟨by rw[seqIndex_of h0 h1,e],by omega,by omega,h1⟩
   · rw[Xu h1] at h;cases h
 · rw[Xu h0] at h;by_cases h1:-(n:Int)<=i
   · rw[Xv h1] at h;have e:(i+n).toNat=j:=X7 h;exact⟨by rw[seqIndex_neg (by omega) h1,e],by omega,h1,by omega⟩
   · rw[Xu h1] at h;cases h
theorem t9 {α:Type}{xs:List α}{i:Int}{v:α}(h:nU xs i=some v):∃j,seqIndex? i xs.length=some j/\xs[j]?=some v/\j < xs.length/\-(xs.length:Int)<=i/\i < xs.length:=by
 unfold nU at h;cases e:C8 xs.length i with
 |none=>rw[e] at h;cases h
 |some j =>
  rw[e] at h;obtain⟨h1,h2,h3,h4⟩:=yC e;exact⟨j,h1,h,h2,h3,h4⟩
theorem cu {α:Type}{xs:List α}{j:Nat}{v:α}(h:xs[j]?=some v):nU xs (j:Int)=some v:=by
 have hj:j < xs.length:=(XH.mp h).1;have e:C8 xs.length (j:Int)=some j:=by
  unfold C8;rw[Xv (by omega),Xv (by omega)];simp
 unfold nU;rw[e];exact h
def Fe (b:Expr):Prop:=∀o i,subscripted b false o i=operate [o,i] (getItem o i)
def J0 (X:Cx)(r:R2):Prop :=
 ∀(value slice:Expr) (pins:aai) (s:Shared) (σ:St) (H:Hp) (x y:V) (v u:Value) (Q:VK),Inv X pins σ H s->RelV x v->RelV y u->r x y H Q ->
  subscripted slice false v u=operate [v,u] (getItem v u)->wpAny (model X.prog X.w) X.A (subscriptTail value slice v u) (EP X pins σ Q) X.xe s
def BW (X:Cx)(id:String)(r:V->List V->Hp->VK->Prop):Prop :=
 ∀(pins:aai) (s:Shared) (σ:St) (H:Hp) (x:V) (xs:List V) (v:Value) (us:aaj) (Q:VK),Inv X pins σ H s->RelV x v->Vals xs us->r x xs H Q ->
  wpAny (model X.prog X.w) X.A (call (.builtin id) (v::us)) (EP X pins σ Q) X.xe s
section
variable {X:Cx}{a b:Expr}{ta tb:TE}{pos:Pos}
theorem bp {r:R2} (hr:J0 X r) (ha:PE X a ta) (hb:PE X b tb) (hs:Fe b):PE X (.Subscript a b pos) (kK r ta tb):=by
 intro pins s σ H Q I h;exact Subscript_ (G4 ha hb I h λv u s2 x y H2 I2 rx ry q=>hr a b pins s2 σ H2 x y v u Q I2 rx ry q (hs _ _))
def Ao (K:aaf):R2:=λx y H Q=>∃p xs i v,x=.ref p/\y=.int i/\aP K H p xs/\nU xs i=some v/\Q v H
def Jx (K:aaf):R2:=λx y H Q=>∃p xs i v,x=.ref p/\y=.int i/\bZ K H p xs/\nU xs i=some v/\Q v H
def ID:R2:=λx y H Q=>∃z i c,x=.str z/\y=.int i/\z.length<=sizeLine/\nU z.cps.toList i=some c/\Q (.str ⟨#[c]⟩) H
theorem aM:J0 X (Ao X.K):=by
 intro value slice pins s σ H x y v u Q I rx ry h hs;obtain⟨p,xs,i,z,rfl,rfl,hq,he,q⟩:=h;cases rx;obtain⟨t,rfl⟩:=ry;obtain⟨LD,r,pl,hz⟩:=I.list hq;obtain⟨j,h1,h2,h3,h4,h5⟩:=t9 he;obtain⟨w,ew,NN⟩:=r.get h2;have hl:=r.length;have hn:=k7;have fin:EP X pins σ Q w s:=⟨z,H,I,NN,q⟩;by_cases h0:0<=i
 · have hj:i.toNat=j:=by
    rw[seqIndex_of h0 h5] at h1;exact X7 h1
   exact item_listR pl.isList h0 (by omega) (by rw[hj];simpa using ew) fin hs
 · have hj:(i+(LD.toArray.size:Int)).toNat=j:=by
    rw[seqIndex_neg (by omega) h4] at h1;rw[XR,←hl];exact X7 h1
   exact subscriptTail_builtinR (x:=w) pl.isList.typeIs slot_list_getitem.lookup
    (wpAny_getItem_list_neg (Q:=λr s'=>r=w/\EP X pins σ Q r s') pl.isList (by omega) (by rw[XR] <;> omega) (by omega) (by rw[hj];simpa using ew) ⟨rfl,fin⟩) hs
theorem AM:J0 X (Jx X.K):=by
 intro value slice pins s σ H x y v u Q I rx ry h hs;obtain⟨p,xs,i,z,rfl,rfl,hq,he,q⟩:=h;cases rx;obtain⟨t,rfl⟩:=ry;obtain⟨LD,r,pl,hz⟩:=I.tuple hq;obtain⟨j,h1,h2,h3,h4,h5⟩:=t9 he;obtain⟨w,ew,NN⟩:=r.get h2;have hl:=r.length;have hn:=k7;have fin:EP X pins σ Q w s:=⟨z,H,I,NN,q⟩;exact subscriptTail_builtinR (x:=w) pl.typeIs slot_tuple_getitem.lookup
  (getItem_tuple (j:=j) (Q:=λr s'=>r=w/\EP X pins σ Q r s') pl (by omega) (by omega) (by rw[XR,←hl];exact h1) (by simpa using ew) ⟨rfl,fin⟩) hs
theorem sQ:J0 X ID:=by
 intro value slice pins s σ H x y v u Q I rx ry h hs;obtain⟨z,i,c,rfl,rfl,hz,he,q⟩:=h;obtain⟨t,rfl⟩:=rx;obtain⟨t',rfl⟩:=ry;obtain⟨j,h1,h2,h3,h4,h5⟩:=t9 he;have hl:z.cps.toList.length=z.length:=by simp[Str.length]
 rw[hl] at h1 h4 h5;have hn:=k7;exact tail_any (ZV s z t) slot_str_getitem.lookup (getItem_str (c:=c) (by
  have e1:decide (i < -(2 ^ 63:Int))=false:=Yi (by omega);have e2:decide (i ≥ 2 ^ 63)=false:=Yi (by omega);rw[e1,e2,ZI]) (by rw[h1];simpa using h2) ⟨.str ⟨#[c]⟩,H,I.tok _,⟨_,rfl⟩,q⟩) hs
theorem wj (LD:aaj)(n j:Nat)(u:Value):Obj.mapSeq (·.setIfInBounds j u) {cls:=.type "list",data:=.seq LD.toArray n}={cls:=.type "list",data:=.seq (LD.set j u).toArray n}:=by
 simp[Obj.mapSeq]
theorem Inv.lst {pins:aai}{σ:St}{H:Hp}{s:Shared}{p:Addr}{xs:List V}(I:Inv X pins σ H s)(h:H p=some (.lst xs)) :
  ∃(LD:aaj) (n:Nat),Vals xs LD/\s.heap.get? p=some {cls:=.type "list",data:=.seq LD.toArray n}/\xs.length<=sizeLine:=by
 obtain⟨z,LD,n,r,e⟩:=I.bu p _ h;exact⟨LD,n,r,e,z⟩
theorem Inv.GQ {pins:aai}{σ:St}{H:Hp}{s:Shared}{p:Addr}{xs ys:List V}{LD its':aaj}{n n':Nat}{f:Obj->Obj}(I:Inv X pins σ H s)(h:H p=some (.lst xs))
  (ho:s.heap.get? p=some {cls:=.type "list",data:=.seq LD.toArray n})(hf:f {cls:=.type "list",data:=.seq LD.toArray n}={cls:=.type "list",data:=.seq its'.toArray n'})(r:Vals ys its')(hz:ys.length<=sizeLine)(t:Nat) :
  Inv X pins σ (upd H p (.lst ys)) {s with heap:=s.heap.update p f,toks:=t}:=by
 have e:(s.heap.update p f).get? p=some {cls:=.type "list",data:=.seq its'.toArray n'}:=by
  rw[Yt f ho (by rw[hf] <;> rfl),hf]
 refine I.write (x:=p) (e:=p) (by rw[h];trivial) (.inl rfl) (λb u hb q=>(Zq _ _ (Z7 hb)).trans q) ⟨_,e⟩ ?_;exact⟨hz,its',n',r,e⟩
def Jy:V->V->V->Hp->(Hp->Prop)->Prop:=λo i v H Q=>∃p xs k j,o=.ref p/\i=.int k/\H p=some (.lst xs)/\C8 xs.length k=some j/\Q (upd H p (.lst (xs.set j v)))
theorem set_list:JC X Jy:=by
 intro pins s σ H o i v ov iv u Q I ro ri rv h;obtain⟨p,xs,k,j,rfl,rfl,hp,hj,q⟩:=h;cases ro;obtain⟨t,rfl⟩:=ri;obtain⟨LD,n,r,ho,hz⟩:=I.lst hp;obtain⟨h1,h2,h3,h4⟩:=yC hj;have hl:=r.length;have hn:=k7;have I':Inv X pins σ (upd H p (.lst (xs.set j v))) {s with heap:=s.heap.update p (Obj.mapSeq (·.setIfInBounds j u))} :=
  I.GQ hp ho (wj LD n j u) (r.set rv j) (by rw[List.length_set];exact hz) s.toks
 by_cases h0:0<=k
 · have hk:k.toNat=j:=by
    rw[seqIndex_of h0 h4] at h1;exact X7 h1
   exact PySem.W.ki_setAt ho h0 (by omega) (by rw[XR,←hl];exact h4) (by rw[hk];exact⟨_,I',q⟩)
 · have hk:(k+(LD.toArray.size:Int)).toNat=j:=by
    rw[seqIndex_neg (by omega) h3] at h1;rw[XR,←hl];exact X7 h1
   exact PySem.W.ki_setBack ho (by omega) (by rw[XR,←hl];exact h3) (by omega) (by rw[hk];exact⟨_,I',q⟩)
theorem tQ (lo hi:Option Int)(n:Nat):(sliceBounds lo hi none n).1=((HT.cf n 0 lo:Nat):Int)/\(sliceBounds lo hi none n).2.1=((HT.cf n n hi:Nat):Int)/\(sliceBounds lo hi none n).2.2=1:=by
 refine⟨?_,?_,rfl⟩
 · cases lo with
   |none=>simp[sliceBounds,HT.cf]
   |some i =>
    simp only[sliceBounds,HT.cf,Option.getD_none,show (1:Int) > 0 by decide,Zc];by_cases h:i < 0
    · simp only[h,Zc] <;> omega
    · simp only[h,Zs] <;> omega
 · cases hi with
   |none=>simp[sliceBounds,HT.cf]
   |some i =>
    simp only[sliceBounds,HT.cf,Option.getD_none,show (1:Int) > 0 by decide,Zc];by_cases h:i < 0
    · simp only[h,Zc] <;> omega
    · simp only[h,Zs] <;> omega
theorem qU (LD:aaj)(lo hi:Option Int):slicePick LD.toArray lo hi none=((LD.drop (HT.cf LD.length 0 lo)).take (HT.cf LD.length LD.length hi - HT.cf LD.length 0 lo)).toArray:=by
 obtain⟨h1,h2,h3⟩:=tQ lo hi LD.toArray.size;unfold slicePick;rw[h1,h2,h3];simp only[sliceRange_one,pick_run,XR] <;> rfl
def Kh (K:aaf):V->Option Int->Option Int->Hp->VK->Prop:=λx lo hi H Q=>∃a xs,x=.ref a/\aP K H a xs/\∀p,H p=none->Q (.ref p) (upd H p (.lst (fC xs lo hi)))
theorem fw:Je X (Kh X.K):=by
 intro pins s σ H x v vl vu lo hi sl Q I rx hs pl pu h;obtain⟨a,xs,rfl,hx,q⟩:=h;cases rx;obtain⟨LD,r,ht,hz⟩:=I.list hx;have hlen:=r.length;refine⟨"list",_,slot_list_getitem.lookup,ht.isList.typeIs,?_⟩;refine wpAny_getItem_list_slice ht.isList hs pl pu .none (by simp) ?_ (by rw[XR] <;> omega);rw[qU,←hlen];refine⟨.ref s.heap.objs.size,_,I.laid (t':=s.toks) (o:=.lst (fC xs lo hi)) (λb ob q=>Xw _ q) (XC _) ?_,rfl,q _ (I.bu.fresh (XC _))⟩;exact⟨Yh (nJ xs lo hi) hz,_,0,(r.drop (HT.cf xs.length 0 lo)).take (HT.cf xs.length xs.length hi - HT.cf xs.length 0 lo),XJ _ rfl⟩
def dJ:V->Bool
 |.cb=>true
 |.bl _=>true
 |.int _=>true
 |.str _=>true
 |_=>false
def sv:V->V->Bool
 |.cb,.cb=>true
 |.bl a,.bl b=>a==b
 |.bl a,.int b=>(if a then 1 else 0)==b
 |.int a,.bl b=>a==(if b then 1 else 0)
 |.int a,.int b=>a==b
 |.str a,.str b=>a==b
 |_,_=>false
theorem HH {A:Around}{s:Shared}{y x:V}{u v:Value}(ry:RelV y u)(rx:RelV x v)(fy:dJ y=true)(fx:dJ x=true):SeqAt.EqAt A s u v (sv y x):=by
 cases y with
 |cb =>
  cases ry;cases x with
  |cb=>cases rx;exact SeqAt.EqAt.same _
  |bl b=>cases rx;exact SeqAt.EqAt.none_bool b
  |int b=>obtain⟨t,rfl⟩:=rx;exact SeqAt.EqAt.none_int b t
  |str b=>obtain⟨t,rfl⟩:=rx;exact SeqAt.EqAt.none_str b t
  |_=>exact absurd (show false=true from fx) XU
 |bl a =>
  cases ry;cases x with
  |cb=>cases rx;exact SeqAt.EqAt.bool_none a
  |bl b=>cases rx;exact SeqAt.EqAt.bool_bool a b
  |int b=>obtain⟨t,rfl⟩:=rx;exact SeqAt.EqAt.bool_int a b t
  |str b=>obtain⟨t,rfl⟩:=rx;exact SeqAt.EqAt.bool_str a b t
  |_=>exact absurd (show false=true from fx) XU
 |int a =>
  obtain⟨t',rfl⟩:=ry;cases x with
  |cb=>cases rx;exact SeqAt.EqAt.int_none a t'
  |bl b=>cases rx;exact SeqAt.EqAt.int_bool a t' b
  |int b=>obtain⟨t,rfl⟩:=rx;exact SeqAt.EqAt.int_int a t' b t
  |str b=>obtain⟨t,rfl⟩:=rx;exact SeqAt.EqAt.int_str a t' b t
  |_=>exact absurd (show false=true from fx) XU
 |str a =>
  obtain⟨t',rfl⟩:=ry;cases x with
  |cb=>cases rx;exact SeqAt.EqAt.str_none a t'
  |bl b=>cases rx;exact SeqAt.EqAt.str_bool a t' b
  |int b=>obtain⟨t,rfl⟩:=rx;exact SeqAt.EqAt.str_int a t' b t
  |str b=>obtain⟨t,rfl⟩:=rx;exact SeqAt.EqAt.str_str a t' b t
  |_=>exact absurd (show false=true from fx) XU
 |_=>exact absurd (show false=true from fy) XU
def vY (x:V)(u:Value):Bool:=match u with
 |.none=>sv .cb x
 |.bool b=>sv (.bl b) x
 |.int i _=>sv (.int i) x
 |.str z _=>sv (.str z) x
 |_=>false
theorem lG {x y:V}{u:Value}(r:RelV y u)(f:dJ y=true):vY x u=sv y x:=by
 cases y with
 |cb=>cases r;rfl
 |bl b=>cases r;rfl
 |int i=>obtain⟨t,rfl⟩:=r;rfl
 |str z=>obtain⟨t,rfl⟩:=r;rfl
 |_=>exact absurd (show false=true from f) XU
theorem mJ {x:V}:∀{xs:List V} {us:aaj},Vals xs us->xs.all dJ=true->us.any (vY x)=xs.any λy=>sv y x
 |_,_,.nil,_=>rfl
 |y::xs,u::us,.cons r t,f=>by
  rw[ZH,XA] at f;rw[Y2,Y2,lG r f.1,mJ t f.2]
theorem gm {A:Around}{s:Shared}{x:V}{v:Value}(rx:RelV x v)(fx:dJ x=true):∀{xs:List V} {us:aaj},Vals xs us->xs.all dJ=true->∀u∈us,SeqAt.EqAt A s u v (vY x u)
 |_,_,.nil,_=>λu hu=>by cases hu
 |y::xs,u::us,.cons r t,f=>λu' hu=>by
  rw[ZH,XA] at f;rcases Xx.mp hu with rfl|hu
  · rw[lG r f.1];exact HH r rx f.1 fx
  · exact gm rx fx t f.2 u' hu
def oh (x:V)(xs:List V):Bool:=xs.any λy=>sv y x
def Gy (K:aaf)(neg:Bool):R2:=λx y H Q=>∃p xs,y=.ref p/\(aP K H p xs∨bZ K H p xs)/\dJ x=true/\xs.all dJ=true/\Q (.bl (if neg then !oh x xs else oh x xs)) H
theorem gg:jT X (compareOp .In) (Gy X.K false):=by
 intro pins s σ H x y v u Q I rx ry h;obtain⟨p,xs,rfl,hq,fx,fs,q⟩:=h;cases ry;rcases hq with hq|hq
 · obtain⟨LD,r,pl,hz⟩:=I.list hq;refine SeqAt.in_listAt (vY x) pl.isList (λw hw=>gm rx fx r fs w (by simpa using hw)) ⟨.bl _,H,I,rfl,?_⟩;rw[show LD.toArray.any (vY x)=LD.any (vY x) by simp,mJ r fs];exact q
 · obtain⟨LD,r,pl,hz⟩:=I.tuple hq;refine SeqAt.in_tupleAt (vY x) pl (λw hw=>gm rx fx r fs w (by simpa using hw)) ⟨.bl _,H,I,rfl,?_⟩;rw[show LD.toArray.any (vY x)=LD.any (vY x) by simp,mJ r fs];exact q
theorem eQ:jT X (compareOp .NotIn) (Gy X.K true):=by
 intro pins s σ H x y v u Q I rx ry h;obtain⟨p,xs,rfl,hq,fx,fs,q⟩:=h;cases ry;rcases hq with hq|hq
 · obtain⟨LD,r,pl,hz⟩:=I.list hq;refine SeqAt.notIn_listAt (vY x) pl.isList (λw hw=>gm rx fx r fs w (by simpa using hw)) ⟨.bl _,H,I,rfl,?_⟩;rw[show LD.toArray.any (vY x)=LD.any (vY x) by simp,mJ r fs];exact q
 · obtain⟨LD,r,pl,hz⟩:=I.tuple hq;refine SeqAt.notIn_tupleAt (vY x) pl (λw hw=>gm rx fx r fs w (by simpa using hw)) ⟨.bl _,H,I,rfl,?_⟩;rw[show LD.toArray.any (vY x)=LD.any (vY x) by simp,mJ r fs];exact q
theorem sO:ir X (.builtin "len") (λxs H Q=>∃p ys,xs=[.ref p]/\(aP X.K H p ys∨bZ X.K H p ys)/\Q (.int ys.length) H):=by
 intro pins s σ H xs us Q I r h;obtain⟨p,ys,rfl,hq,q⟩:=h;obtain⟨u,rfl,rx⟩:=vals1 r;cases rx;have hn:=k7;rcases hq with hq|hq
 · obtain⟨LD,r',pl,hz⟩:=I.list hq;have hlen:=r'.length;exact Calls.call_len_list pl.isList (by simp only[XR] <;> omega) ⟨.int ys.length,H,I.tok _,⟨s.toks+1,by rw[XR,hlen]⟩,q⟩
 · obtain⟨LD,r',pl,hz⟩:=I.tuple hq;have hlen:=r'.length;exact len_tuple pl (by simp only[XR] <;> omega) ⟨.int ys.length,H,I.tok _,⟨s.toks+1,by rw[XR,hlen]⟩,q⟩
theorem f7:ir X (.builtin "len") (λxs H Q=>∃z,xs=[.str z]/\z.length<=sizeLine/\Q (.int z.length) H):=by
 intro pins s σ H xs us Q I r h;obtain⟨z,rfl,hz,q⟩:=h;obtain⟨u,rfl,t,rfl⟩:=vals1 r;have hn:=k7;exact len_str (by omega) ⟨.int z.length,H,I.tok _,⟨_,rfl⟩,q⟩
theorem qL:ir X (.type "tuple") (λxs H Q=>∃p ys,xs=[.ref p]/\((aP X.K H p ys/\∀l,H l=none->Q (.ref l) (upd H l (.tup ys)))∨(bZ X.K H p ys/\Q (.ref p) H))):=by
 intro pins s σ H xs us Q I r h;obtain⟨p,ys,rfl,h⟩:=h;obtain⟨u,rfl,rx⟩:=vals1 r;cases rx;rcases h with ⟨hq,q⟩|⟨hq,q⟩
 · obtain⟨LD,r',pl,hz⟩:=I.list hq;have hlen:=r'.length;refine call_tuple_list pl.isList (λh' kp=>?_) (by simp only[XR] <;> omega);have I1:Inv X pins σ H {s with heap:=h'}:=I.kept (t':=s.toks) kp;have I2:Inv X pins σ (upd H h'.objs.size (.tup ys)) {s with heap:=h'.push {cls:=.type "tuple",data:=.seq LD.toArray}} :=
    I1.laid (t':=s.toks) (λb o e=>Xw _ e) (XC _) (show bK X.prog X.w _ _ _ (.tup ys) from ⟨hz,LD,r',IsTup.new _ _⟩)
   exact⟨.ref h'.objs.size,_,I2,rfl,q _ (I1.bu.fresh (XC _))⟩
 · obtain⟨LD,r',pl,hz⟩:=I.tuple hq;exact call_tuple_same pl ⟨.ref p,H,I,rfl,q⟩
def Le (K:aaf)(T:String)(x:V)(H:Hp):Prop:=match x with
 |.str _=>T="str"
 |.int _=>T="int"
 |.ref p=>(T="list"/\∃xs,aP K H p xs)∨(T="tuple"/\∃o,K.lookup p=some o/\o.cls=.type "tuple"/\o.dict=none) ∨
   (T="dict"/\((∃LC,H p=some (.dK LC))∨∃LC,H p=some (.dT LC)))∨(T="set"/\∃S n,H p=some (.set S n))
 |_=>False
theorem Hs {pins:aai}{σ:St}{H:Hp}{s:Shared}{T:String}{x:V}{v:Value}(I:Inv X pins σ H s)(r:RelV x v)(ty:Le X.K T x H) :
  s.TypeIs v T/\∀a,v=.ref a->∃ob,s.heap.get? a=some ob/\ob.dict=none:=by
 cases x with
 |str z =>
  obtain⟨t,rfl⟩:=r;cases (show T="str" from ty);exact⟨ZV s z t,λ_ e=>nomatch e⟩
 |int i =>
  obtain⟨t,rfl⟩:=r;cases (show T="int" from ty);exact⟨typeIs_int s i t,λ_ e=>nomatch e⟩
 |ref p =>
  cases r;rcases ty with ⟨rfl,xs,hq⟩|⟨rfl,o,hk,hc,hd⟩|⟨rfl,hk⟩|⟨rfl,S,n,hk⟩
  · obtain⟨LD,_,pl,_⟩:=I.list hq;refine⟨pl.isList.typeIs,λa e=>?_⟩;cases e;obtain⟨o,n,e,c,hd,_⟩:=pl;exact⟨o,e,hd⟩
  · refine⟨⟨o,I.mW p o hk,hc⟩,λa e=>?_⟩;cases e;exact⟨o,I.mW _ o hk,hd⟩
  · have z:∃o,s.heap.get? p=some o/\o.ExactDict:=by
     rcases hk with ⟨LC,hk⟩|⟨LC,hk⟩
     · obtain⟨_,_,_,_,o,_,_,e,ex,_⟩:=I.bu p _ hk;exact⟨o,e,ex⟩
     · obtain⟨_,_,_,_,o,_,_,e,ex,_⟩:=I.bu p _ hk;exact⟨o,e,ex⟩
    obtain⟨o,e,ex⟩:=z;refine⟨⟨o,e,ex.1⟩,λa e2=>?_⟩;cases e2;exact⟨o,e,ex.2.1⟩
  · obtain⟨o,_,_,_,e,ex,_⟩:=I.bu p _ hk;refine⟨⟨o,e,ex.1⟩,λa e2=>?_⟩;cases e2;exact⟨o,e,ex.2.1⟩
 |_=>exact False.elim ty
def Ly (K:aaf)(T:String)(r:V->List V->Hp->VK->Prop)(to:TE)(t:TA):TE:=λσ H Q=>to σ H λx H1=>Le K T x H1/\t σ H1 λxs H2=>r x xs H2 Q
variable {o e:Expr}{es:List Expr}{to:TE}{t:TA}{name:Str}{apos LJ:Pos}{T id:String}{r:V->List V->Hp->VK->Prop}
theorem qr (pa:PlainAttrs T) (slot:Slot T name id) (Oa:typeOf (.builtin id)=pure (.type "method_descriptor")) (hm:BW X id r) (ho:PE X o to) (ha:PA X (e::es) t)
  (LR:attributeBase o name X.env (eval o X.env)=eval o X.env:=by rfl)
  (QU:((backTo LJ (starEach (e::es) X.env)).all (λx=>!x.1)&&(backToKw LJ (keywordEach [] X.env)).all (λx=>x.1.isSome)
   && decide ((e::es).length+([]:List Keyword).length+(if ([]:List Keyword).isEmpty then 0 else 1) < 30))=true:=by rfl)
  (LU:(apos.endLine==LJ.line)=true:=by rfl) (hs:starEach (e::es) X.env=(false,eval e X.env)::starEach es X.env:=by rfl) (NO:(backTo LJ (starEach es X.env)).any (·.1)=false:=by rfl) :
  PE X (.Call (.Attribute o name apos) (e::es) [] LJ) (Ly X.K T r to t):=by
 intro pins s σ H Q I h;refine wpAny_Call_method_late LR QU LU rfl (bA (ho pins s σ H _ I h) λv s1 ⟨x,H1,I1,r1,ty,q1⟩=>?_);obtain⟨h1,h2⟩:=Hs I1 r1 ty;refine⟨T,id,pa,slot,Oa,h1,h2,?_⟩;have hA:=ha LJ pins s1 σ H1 _ I1 q1;rw[hs] at hA ⊢;refine ZT (by show (false||(backTo LJ (starEach es X.env)).any (·.1))=false;rw[NO] <;> rfl) (Calls.evalArgs_plain ?_);exact bA hA λus s2 ⟨vs,H2,I2,r2,q2⟩=>hm pins s2 σ H2 x vs v us Q I2 r1 r2 q2
end
def K7 (X:Cx)(id:String)(r:V->List V->Hp->VK->Prop):Prop :=
 ∀(pins:aai) (s:Shared) (σ:St) (H:Hp) (x:V) (xs:List V) (v:Value) (us:aaj) (Q:VK),Inv X pins σ H s->RelV x v->Vals xs us->r x xs H Q ->
  wpAny (model X.prog X.w) X.A (call (.builtin id) (v::us)) (EP X pins σ Q) X.xe s
theorem Vals.one:∀{x:V} {us:aaj},Vals [x] us->∃u,us=[u]/\RelV x u
 |_,_,.cons r .nil=>⟨_,rfl,r⟩
section
variable {X:Cx}{pins:aai}{σ:St}{H:Hp}{s:Shared}{l b:Addr}{xs ys zs:List V}
theorem Inv.KH {LD its':aaj} {n:Nat} {f:Array Value->Array Value} {t':Nat} (I:Inv X pins σ H s) (hH:H l=some (.lst xs))
  (e:s.heap.get? l=some {cls:=.type "list",data:=.seq LD.toArray n}) (hf:f LD.toArray=its'.toArray) (hv:Vals ys its') (hz:ys.length<=sizeLine) :
  Inv X pins σ (upd H l (.lst ys)) {s with heap:=s.heap.update l (Obj.mapSeq f),toks:=t'}:=by
 have q:=PySem.IsL.update e f;rw[hf] at q;refine I.write (x:=l) (e:=l) (by rw[hH];exact trivial) (.inl rfl) (λb' u hb hu=>(Zq s.heap (Obj.mapSeq f) (Z7 hb)).trans hu) ⟨_,q⟩ ?_;exact⟨hz,its',_,hv,q⟩
theorem Inv.Kv {LD:aaj}{t':Nat}(I:Inv X pins σ H s)(hv:Vals ys LD)(hz:ys.length<=sizeLine) :
  Inv X pins σ (upd H s.heap.objs.size (.lst ys)) {s with heap:=s.heap.push {cls:=.type "list",data:=.seq LD.toArray},toks:=t'} :=
 I.laid (λ_ _ q=>Xw _ q) (XC _) ⟨hz,LD,0,hv,XJ _ rfl⟩
theorem Inv.fresh (I:Inv X pins σ H s):H s.heap.objs.size=none:=I.bu.fresh (XC _)
theorem Inv.Hr (I:Inv X pins σ H s)(hH:H l=some (.lst xs)):xs.length<=sizeLine/\∃(LD:aaj) (n:Nat),Vals xs LD/\xs.length=LD.length/\s.heap.get? l=some {cls:=.type "list",data:=.seq LD.toArray n}:=by
 obtain⟨z,LD,n,r,e⟩:=I.bu l _ hH;exact⟨z,LD,n,r,r.length,e⟩
end
section
variable {X:Cx}
def EY:V->List V->Hp->VK->Prop:=λx vs H Q=>∃l xs y,x=.ref l/\vs=[y]/\H l=some (.lst xs)/\xs.length < sizeLine/\Q .cb (upd H l (.lst (xs++[y])))
theorem iz:K7 X "list.append" EY:=by
 intro pins s σ H x vs v us Q I rx rv h;obtain⟨l,xs,y,rfl,rfl,hH,hz,q⟩:=h;cases rx;obtain⟨u,rfl,ru⟩:=rv.one;obtain⟨z,LD,n,r,hl,e⟩:=I.Hr hH;refine call_meets F.slot_list_append ⟨_,e,rfl⟩ F.entry_list_append (F.args_list_append_2 _ _) (PySem.list_append l LD.toArray n u (by rw[XR];omega)) ⟨e,?_⟩;refine⟨.cb,_,I.KH (its':=LD++[u]) hH e (by simp) (r.append (.cons ru .nil)) ?_,rfl,q⟩;rw[XS,YH];omega
def Kp:R2:=λx y H Q=>∃l b xs zs,x=.ref l/\y=.ref b/\H l=some (.lst xs)/\H b=some (.lst zs)/\xs.length+zs.length<=sizeLine/\∀p,H p=none->Q (.ref p) (upd H p (.lst (xs++zs)))
theorem wx:jT X (binaryOp .Add) Kp:=by
 intro pins s σ H x y v u Q I rx ry h;obtain⟨l,b,xs,zs,rfl,rfl,hH,hB,hz,q⟩:=h;cases rx;cases ry;obtain⟨z,LD,n,r,hl,e⟩:=I.Hr hH;obtain⟨z2,L6,n2,r2,U1,e2⟩:=I.Hr hB;refine PySem.P.add_list e e2 ?_ (by rw[XR,XR];omega);have ea:LD.toArray++L6.toArray=(LD++L6).toArray:=by simp
 rw[ea];exact⟨.ref _,_,I.Kv (t':=s.toks) (r.append r2) (by rw[XS];omega),rfl,q _ I.fresh⟩
end
section
variable {prog:Program}{w:World}{A:Around}{E:aag}{s:Shared}
end
section
variable {X:Cx}
end
theorem Vals.ints:∀{ns:List Int} {us:aaj},Vals (ns.map V.int) us->IntsAre us ns
 |[],us,h=>by
  rw[YT] at h;cases h;exact IntsAre.nil
 |n::ns,us,h=>by
  rw[XM] at h;cases h with
  |cons r t =>
   obtain⟨k,rfl⟩:=r;exact IntsAre.cons n k (Vals.ints t)
theorem lY:∀{us:aaj} {ns:List Int},IntsAre us ns->Vals (ns.map V.int) us
 |_,_,.nil=>by rw[YT];exact Paired.nil
 |_,_,.cons n t h=>by rw[XM];exact Paired.cons (show RelV (V.int n) (Value.int n t) from ⟨t,rfl⟩) (lY h)
theorem Vals.KG:∀{bs:List Bool} {us:aaj},Vals (bs.map V.bl) us->us=bs.map Value.bool
 |[],us,h=>by
  rw[YT] at h;cases h;rfl
 |b::bs,us,h=>by
  rw[XM] at h;cases h with
  |cons r t =>
   cases r;rw[Vals.KG t,XM]
theorem Vals.wA {a:Addr}{us:aaj}(r:Vals [V.ref a] us):us=[Value.ref a]:=by
 cases r with
 |cons r t =>
  cases t;cases r;rfl
section
variable {prog:Program}{w:World}{A:Around}{E:aag}{s:Shared}{l:Addr}{LD:aaj}{ns:List Int}{Q:aag}
theorem DO (hh:A.handled=none) (hl:s.heap.IsList l LD.toArray) (hi:IntsAre LD ns)
  (h:∀h' tk t',(∀b o,s.heap.get? b=some o->h'.get? b=some o)->Q (.int ns.sum t') {s with heap:=h',toks:=tk}):wpAny (model prog w) A (call (.builtin "sum") [.ref l]) Q E s:=by
 obtain⟨xs,e⟩:=hi.allInts.items;have hn:numsOf (intItems xs).toList=ns:=by rw[←e];exact hi.numsOf
 rw[nums_intItems] at hn;rw[e] at hl;refine PySem.sum_intListG hh hl λh' tk t' hk=>?_;have:=h h' tk t' hk;rw[preSum_eq,Yq (by simp),hn];exact this
end
section
variable {X:Cx}
def IE (K:aaf):List V->Hp->VK->Prop:=λvs H Q=>∃(a:Addr) (ns:List Int),vs=[V.ref a]/\aP K H a (ns.map V.int)/\Q (.int ns.sum) H
theorem xY (hc:X.calm=true):ir X (.builtin "sum") (IE X.K):=by
 intro pins s σ H vs us Q I r h;obtain⟨a,ns,rfl,hs,q⟩:=h;obtain⟨LD,rv,hl,_⟩:=I.list hs;rw[Vals.wA r];exact DO (I.ok.hd hc) hl.isList rv.ints λh' tk t' hk=>⟨.int _,H,I.kept hk,⟨_,rfl⟩,q⟩
theorem yw {n:Nat}(h:n < 64):n<=sizeLine:=by rw[XY];omega
end
section
variable {X:Cx}
def GI (K:aaf):V->List V->Hp->VK->Prop:=λx xs H Q=>∃(a:Addr) (ys:List V) (y:V) (j:Nat) (z:V),x=V.ref a/\xs=[y]/\aP K H a ys/\dJ y=true/\ys.all dJ=true/\ys[j]?=some z/\sv z y=true /\
 (∀(m:Nat) (z':V),m < j->ys[m]?=some z'->sv z' y=false)/\Q (.int (j:Nat)) H
theorem y8 {ys:List V}(f:ys.all dJ=true){j:Nat}{z:V}(h:ys[j]?=some z):dJ z=true:=X0.mp f z (XZ h)
theorem BE:BW X "list.index" (GI X.K):=by
 intro pins s σ H x xs v us Q I rx QV h;obtain⟨a,ys,y,j,z,rfl,rfl,hs,fy,Nk,hz,Va,MU,q⟩:=h;cases rx;cases QV with
 |cons ry rt =>
  rename_i uy ut;cases rt;obtain⟨LD,rv,⟨⟨cls,dd,data,sl⟩,n,ho,hc,PN,hd⟩,hlen⟩:=I.list hs;simp only at hc hd;subst hc hd;obtain⟨u,hu,ru⟩:=rv.get hz;obtain⟨Ob,Vb⟩:=XH.mp hu;have hvl:=rv.length;have hj:j < LD.toArray.size:=by simpa using Ob
  have NP:=XY;refine call_meets PySem.F.slot_list_index ⟨_,ho,rfl⟩ PySem.F.entry_list_index (PySem.F.args_list_index_2 _ _)
   (SeqAt.list_indexAt a LD.toArray n dd sl uy (vY y) j hj (by omega) ?_ ?_) ⟨ho,λu' QW=>gm ry fy rv Nk u' (by simpa using QW),?_⟩
  · have e1:LD.toArray[j]=u:=by simpa using Vb
    rw[e1,lG ru (y8 Nk hz)];exact Va
  · intro m hm Vc;have Nl:m < LD.length:=by simpa using hm
    have Vd:m < ys.length:=by omega
    have Nm:ys[m]?=some ys[m]:=XD Vd;obtain⟨u2,QX,QY⟩:=rv.get Nm;obtain⟨_,Ve⟩:=XH.mp QX;have e1:LD.toArray[m]=u2:=by simpa using Ve
    rw[e1,lG QY (y8 Nk Nm)];exact MU m _ Vc Nm
  · exact⟨.int (j:Nat),H,I.tok _,⟨_,rfl⟩,q⟩
end
section
variable {X:Cx}
end
theorem uN {prog:Program}{w:World}{A:Around}{E:aag}{s:Shared}{l:Addr}{items:Array Value}{Q:aag}(hl:s.heap.IsList l items)
  (h:∀s₂:Shared,s₂={s with heap:=s.heap.push {cls:=.type "list_iterator",data:=.fields #[.ref l,.int 0 0]}} ->
   (s₂.heap.IsListIter s.heap.objs.size l 0/\s₂.heap.IsList l items)->l≠s.heap.objs.size->Q (.ref s.heap.objs.size) s₂):wpAny (model prog w) A (pyIter (.ref l)) Q E s:=by
 have LI:l < s.heap.objs.size:=by obtain⟨_,e,_⟩:=hl;exact XG e
 exact wpAny_pyIter_list hl (h _ rfl ⟨⟨_,XJ _ rfl,rfl,rfl⟩,hl.push _⟩ (X6 LI))
theorem nM {prog:Program}{w:World}{A:Around}{bs:List Bool}{LD:aaj}(e:LD=bs.map Value.bool) :
  TruthOf prog w A (λi v=>LD.toArray[i]?=some v) (λi=>bs.getD i false):=λi v s Q E hv hq=>by
 have PK:LD[i]?=some v:=by simpa using hv
 rw[e,Xy] at PK;obtain⟨b,hb,rfl⟩:=X5.mp PK;have hg:bs.getD i false=b:=by rw[Yc,hb] <;> rfl
 have MT:Q (bs.getD i false) s:=hq;rw[hg] at MT;exact YI MT
theorem any_range:∀bs:List Bool,(List.range bs.length).any (λi=>bs.getD i false)=bs.any id
 |[]=>rfl
 |b::bs=>by
  rw[XE,List.range_succ_eq_map,Y2,ZR,Y2,←any_range bs]
  all_goals rfl
theorem all_range:∀bs:List Bool,(List.range bs.length).all (λi=>bs.getD i false)=bs.all id
 |[]=>rfl
 |b::bs=>by
  rw[XE,List.range_succ_eq_map,ZH,ZD,ZH,←all_range bs]
  all_goals rfl
section
variable {X:Cx}
def KU (K:aaf):List V->Hp->VK->Prop:=λvs H Q=>∃(a:Addr) (bs:List Bool),vs=[V.ref a]/\aP K H a (bs.map V.bl)/\Q (.bl (bs.any id)) H
def Kq (K:aaf):List V->Hp->VK->Prop:=λvs H Q=>∃(a:Addr) (bs:List Bool),vs=[V.ref a]/\aP K H a (bs.map V.bl)/\Q (.bl (bs.all id)) H
theorem AH (hc:X.calm=true):ir X (.builtin "any") (KU X.K):=by
 intro pins s σ H vs us Q I r h;obtain⟨a,bs,rfl,hs,q⟩:=h;obtain⟨LD,rv,hl,_⟩:=I.list hs;rw[Vals.wA r];have hb:=rv.KG;refine call_any_walk (uN hl.isList λs₂ e2 st LP=>?_);subst e2;refine⟨_,_,_,_,_,_,_,rfl,Walks.list (A:=X.A.in1) (I.ok.hd hc) _ a LP LD.toArray,st,nM hb,λh' tk hk=>?_⟩;refine⟨.bl _,H,I.kept λb o eo=>hk b o (λMl=>?_) (Xw _ eo),?_,q⟩
 · rcases Xx.mp Ml with e1|Ml
   · exact absurd (e1 ▸ XG eo) (YO _)
   · cases Ml
 · show Value.bool _=Value.bool _;rw[←any_range,hb,XR,Xs]
theorem xW (hc:X.calm=true):ir X (.builtin "all") (Kq X.K):=by
 intro pins s σ H vs us Q I r h;obtain⟨a,bs,rfl,hs,q⟩:=h;obtain⟨LD,rv,hl,_⟩:=I.list hs;rw[Vals.wA r];have hb:=rv.KG;refine call_all_walk (uN hl.isList λs₂ e2 st LP=>?_);subst e2;refine⟨_,_,_,_,_,_,_,rfl,Walks.list (A:=X.A.in1) (I.ok.hd hc) _ a LP LD.toArray,st,nM hb,λh' tk hk=>?_⟩;refine⟨.bl _,H,I.kept λb o eo=>hk b o (λMl=>?_) (Xw _ eo),?_,q⟩
 · rcases Xx.mp Ml with e1|Ml
   · exact absurd (e1 ▸ XG eo) (YO _)
   · cases Ml
 · show Value.bool _=Value.bool _;rw[←all_range,hb,XR,Xs]
end
mutual
inductive Dp (K:aaf)(H:Hp):V->PyData->Prop
 |cb:Dp K H .cb .none
 |bl (b:Bool):Dp K H (.bl b) (.bool b)
 |int (i:Int):Dp K H (.int i) (.int i)
 |str (x:Str):Dp K H (.str x) (.str x)
 |lst {a:Addr} {xs:List V} {ds:List PyData}:aP K H a xs->rK K H xs ds->Dp K H (.ref a) (.list ds)
 |tup {a:Addr} {xs:List V} {ds:List PyData}:bZ K H a xs->rK K H xs ds->Dp K H (.ref a) (.tuple ds)
inductive rK (K:aaf)(H:Hp):List V->List PyData->Prop
 |nil:rK K H [] []
 |cons {v:V} {vs:List V} {d:PyData} {ds:List PyData}:Dp K H v d->rK K H vs ds->rK K H (v::vs) (d::ds)
end
section
variable {X:Cx}{pins:aai}{σ:St}{H:Hp}{s:Shared}
mutual
theorem Dp.reads (I:Inv X pins σ H s):∀(d:PyData) (v:V) (u:Value),Dp X.K H v d->RelV v u->∃as,Reads s.heap u d as
 |.none,_,_,h,r=>by
  cases h;cases r;exact⟨_,Reads.none⟩
 |.bool b,_,_,h,r=>by
  cases h;cases r;exact⟨_,Reads.bool b⟩
 |.int i,_,_,h,r=>by
  cases h;obtain⟨t,rfl⟩:=r;exact⟨_,Reads.int i t⟩
 |.str x,_,_,h,r=>by
  cases h;obtain⟨t,rfl⟩:=r;exact⟨_,Reads.str x t⟩
 |.list ds,_,_,h,r=>by
  cases h with
  |lst hs ha =>
   cases r;obtain⟨LD,rv,⟨o,n,ho,hc,_,hd⟩,_⟩:=I.list hs;obtain⟨as,hr⟩:=Dp.readsAll I ds _ LD ha rv;exact⟨_,Reads.list ho hc hd hr⟩
 |.tuple ds,_,_,h,r=>by
  cases h with
  |tup hs ha =>
   cases r;obtain⟨LD,rv,⟨o,ho,hc,n,hd⟩,_⟩:=I.tuple hs;obtain⟨as,hr⟩:=Dp.readsAll I ds _ LD ha rv;exact⟨_,Reads.tuple ho hc hd hr⟩
 |.dict _,_,_,h,_=>by cases h
theorem Dp.readsAll (I:Inv X pins σ H s):∀(ds:List PyData) (vs:List V) (us:aaj),rK X.K H vs ds->Vals vs us->∃as,ReadsAll s.heap us ds as
 |[],_,_,h,r=>by
  cases h;cases r;exact⟨_,ReadsAll.nil⟩
 |d::ds,_,_,h,r=>by
  cases h with
  |cons h1 h2 =>
   cases r with
   |cons r1 r2 =>
    obtain⟨as,q1⟩:=Dp.reads I d _ _ h1 r1;obtain⟨bs,q2⟩:=Dp.readsAll I ds _ _ h2 r2;exact⟨_,ReadsAll.cons q1 q2⟩
end
end
section
variable {X:Cx}
def KA (K:aaf):R2:=λx y H Q=>∃d e,Dp K H x d/\Dp K H y e/\SeqAt.shaped d=true/\SeqAt.shaped e=true/\Q (.bl (PyData.eqv d e)) H
theorem GS (hu:X.A.units+64 < cLine):jT X (compareOp .Eq) (KA X.K):=by
 intro pins s σ H x y v u Q I rx ry h;obtain⟨d,e,hd,he,sd,se,q⟩:=h;obtain⟨as,r1⟩:=Dp.reads I d x v hd rx;obtain⟨bs,r2⟩:=Dp.reads I e y u he ry;exact SeqAt.compareEq_shaped r1 r2 sd se hu ⟨.bl _,H,I,rfl,q⟩
end
end L2
namespace L2
open PySem PySem.Spec PyProof.Rows
abbrev Ci (h:Heap)(c:Addr)(v:Option Value):Prop:=h.IsCell c v
def Ky (scope sc:Scope):Scope :=
 {scope with names:=scope.names.map λ(n,k)=>if (k==.free&&sc.kind==.function&&sc.names.lookup n==some .cell) then (n,.cell) else (n,k)}
def bL (cells:List (Str×Addr)):List (Str×NameKind)->List (Str×Addr)->List (Str×Addr)
 |[],acc=>acc
 |(n,k)::r,acc=>if k==.free then bL cells r ((n,(cells.lookup n).getD 0)::acc) else bL cells r acc
theorem mj (env:Env)(f:Str×NameKind->List (Str×Addr)->Sem (ForInStep (List (Str×Addr))))
  (hf:∀n k c,f (n,k) c=if k==.free then (do let a ←cellOf env n;pure (.yield ((n,a)::c))) else pure (.yield c)) :
  ∀(names:List (Str×NameKind)) (acc:List (Str×Addr)),(∀y∈names,y.2=.free->∃c,env.cells.lookup y.1=some c)->forIn names acc f=pure (bL env.cells names acc)
 |[],acc,_=>by rw[List.forIn_nil];rfl
 |(n,k)::r,acc,h=>by
  rw[List.forIn_cons,hf];have ih:=λacc=>mj env f hf r acc λy hy=>h y (XN _ hy);unfold bL;by_cases hk:(k==NameKind.free)=true
  · rw[Xv hk,Xv hk];obtain⟨c,hc⟩:=h (n,k) Yg (by simpa using hk);have e:cellOf env n=pure c:=by unfold cellOf;rw[hc]
    rw[e];have e2:(env.cells.lookup n).getD 0=c:=by rw[hc];rfl
    rw[e2];exact ih _
  · rw[Xu hk,Xu hk];exact ih _
theorem wG {scope:Scope}{env:Env}(h:∀y∈scope.names,y.2=.free->∃c,env.cells.lookup y.1=some c):closureFor scope env=pure (bL env.cells scope.names []):=by
 simp only[closureFor];rw[mj env _ (λn k c=>rfl) scope.names [] h];rfl
theorem mem_lookup {α:Type}:∀{l:List (Str×α)} {n:Str} {c:α},(n,c)∈l->∃c',l.lookup n=some c'
 |(k,v)::r,n,c,h=>by
  rw[Zi];cases hb:n==k with
  |true=>exact⟨_,rfl⟩
  |false =>
   rcases Xx.mp h with e|h
   · cases e;simp at hb
   · exact mem_lookup h
theorem gN {cells:List (Str×Addr)}:∀{names:List (Str×NameKind)} {acc:List (Str×Addr)} {n:Str} {c:Addr},(n,c)∈bL cells names acc->(n,c)∈acc∨((n,.free)∈names/\c=(cells.lookup n).getD 0)
 |[],_,_,_,h=>.inl h
 |(m,k)::r,acc,n,c,h=>by
  unfold bL at h;split at h
  · rename_i hk;have hk:k=.free:=by simpa using hk
    rcases gN h with h|⟨h1,h2⟩
    · rcases Xx.mp h with e|h
      · cases e;exact .inr ⟨hk ▸ Yg,rfl⟩
      · exact .inl h
    · exact .inr ⟨XN _ h1,h2⟩
  · rcases gN h with h|⟨h1,h2⟩
    · exact .inl h
    · exact .inr ⟨XN _ h1,h2⟩
theorem jS {cells:List (Str×Addr)}:∀{names:List (Str×NameKind)} {acc:List (Str×Addr)} {p:Str×Addr},p∈acc->p∈bL cells names acc
 |[],_,_,h=>h
 |(m,k)::r,acc,p,h=>by
  unfold bL;split
  · exact jS (XN _ h)
  · exact jS h
theorem jt {cells:List (Str×Addr)}:∀{names:List (Str×NameKind)} {acc:List (Str×Addr)} {n:Str},(n,.free)∈names->(n,(cells.lookup n).getD 0)∈bL cells names acc
 |(m,k)::r,acc,n,h=>by
  unfold bL;rcases Xx.mp h with e|h
  · cases e;exact jS Yg
  · split
    · exact jt h
    · exact jt h
theorem ib:∀{names:List (Str×NameKind)} {h:Heap} {acc:List (Str×Addr)} {x:Str} {c:Addr},(x,c)∈cellsFrom h.objs.size names acc ->
  (x,c)∈acc∨((x,.cell)∈names/\h.objs.size<=c/\Ci (pushCells h names) c none)
 |[],_,_,_,_,h=>.inl h
 |(n,k)::r,h,acc,x,c,hm=>by
  unfold cellsFrom at hm;unfold pushCells;split at hm
  · rename_i hk;rw[Xv hk];have hk:k=.cell:=by simpa using hk
    rw[←YC h {cls:=.type "cell",data:=.cell none}] at hm;rcases ib hm with hm|⟨h1,h2,h3⟩
    · rcases Xx.mp hm with e|hm
      · cases e;exact .inr ⟨hk ▸ Yg,XC _,_,pushCells_keeps r _ _ _ (XJ _ rfl),rfl⟩
      · exact .inl hm
    · rw[YC] at h2;exact .inr ⟨XN _ h1,Nat.le_of_succ_le h2,h3⟩
  · rename_i hk;rw[Xu hk];rcases ib hm with hm|⟨h1,h2,h3⟩
    · exact .inl hm
    · exact .inr ⟨XN _ h1,h2,h3⟩
theorem j1:∀{names:List (Str×NameKind)} {n:Nat} {acc:List (Str×Addr)} {p:Str×Addr},p∈acc->p∈cellsFrom n names acc
 |[],_,_,_,h=>h
 |(m,k)::r,n,acc,p,h=>by
  unfold cellsFrom;split
  · exact j1 (XN _ h)
  · exact j1 h
theorem mT:∀{names:List (Str×NameKind)} {n:Nat} {acc:List (Str×Addr)} {x:Str},(x,.cell)∈names->∃c,(x,c)∈cellsFrom n names acc
 |(m,k)::r,n,acc,x,h=>by
  unfold cellsFrom;rcases Xx.mp h with e|h
  · cases e;exact⟨n,j1 Yg⟩
  · split
    · exact mT h
    · exact mT h
theorem nv:∀{names:List (Str×NameKind)} {h:Heap} {acc:List (Str×Addr)} {x y:Str} {c:Addr},(∀p∈acc,p.2 < h.objs.size)->(∀x y c,(x,c)∈acc->(y,c)∈acc->x=y) ->
  (x,c)∈cellsFrom h.objs.size names acc->(y,c)∈cellsFrom h.objs.size names acc->x=y
 |[],_,_,_,_,_,_,hi,h1,h2=>hi _ _ _ h1 h2
 |(n,k)::r,h,acc,x,y,c,hl,hi,h1,h2=>by
  unfold cellsFrom at h1 h2;split at h1
  · rename_i hk;rw[Xv hk] at h2;rw[←YC h {cls:=.type "cell",data:=.cell none}] at h1 h2;refine nv (h:=h.push _) (λp hp=>?_) (λx y c a b=>?_) h1 h2
    · rw[YC];rcases Xx.mp hp with rfl|hp
      · exact ZW _
      · exact Nat.lt_succ_of_lt (hl p hp)
    · rcases Xx.mp a with e|a <;> rcases Xx.mp b with e'|b
      · cases e;cases e';rfl
      · cases e;exact absurd (hl _ b) (YO _)
      · cases e';exact absurd (hl _ a) (YO _)
      · exact hi _ _ _ a b
  · rename_i hk;rw[Xu hk] at h2;exact nv hl hi h1 h2
theorem vm {M:Model}{A:Around}{E:aag}{s:Shared}{scope:Scope}{globals:Addr}{closure:List (Str×Addr)}{qual:Str}{func:Option Addr}{code:Value}{around:Env}{builtins:Addr}{Q:Env->Shared->Prop}
  (h:Q (newEnv scope s.heap.objs.size globals (cellsFrom (s.heap.objs.size+1) scope.names closure) qual func code (some around) builtins)
   {s with heap:=pushCells (s.heap.push {cls:=.type "dict",data:=.dict #[]}) scope.names}) :
  wpAny M A (newFunctionEnv scope globals closure [] qual func code (some around) builtins) Q E s:=by
 simp only[newFunctionEnv,Option.isSome_some,Zc];refine Xr (wpAny_alloc ?_);refine Xr (wpAny_layCells _ (λn k c=>rfl) scope.names closure _ _ ?_);rw[show ({s with heap:=s.heap.push {cls:=.type "dict",data:=.dict #[]}}:Shared).heap.objs.size=s.heap.objs.size+1 from YC ..];rw[List.forIn_nil];exact Xr (Xz (Xz h))
theorem jv {sc:Scope}:∀{names:List (Str×NameKind)} {x:Str} {k:NameKind},
  (names.map λ(n,k)=>if (k==NameKind.free&&sc.kind==.function&&sc.names.lookup n==some .cell) then (n,NameKind.cell) else (n,k)).lookup x=some k ->
  ∃k',names.lookup x=some k'/\(k=k'∨(k'=.free/\k=.cell))
 |[],_,_,h=>by simp at h
 |(n,k₀)::r,x,k,h=>by
  have ih:=@jv sc r x k;have h':List.lookup x ((if (k₀==NameKind.free&&sc.kind==.function&&sc.names.lookup n==some .cell)=true then (n,NameKind.cell) else (n,k₀))::(r.map _))=some k:=h;cases hx:x==n with
  |true =>
   simp only[Zi,hx];by_cases hc:(k₀==NameKind.free&&sc.kind==.function&&sc.names.lookup n==some .cell)=true
   · rw[Xv hc] at h';simp only[Zi,hx] at h';cases h';simp only[XA,Yk] at hc;exact⟨k₀,rfl,.inr ⟨hc.1.1,rfl⟩⟩
   · rw[Xu hc] at h';simp only[Zi,hx] at h';cases h';exact⟨_,rfl,.inl rfl⟩
  |false =>
   simp only[Zi,hx];by_cases hc:(k₀==NameKind.free&&sc.kind==.function&&sc.names.lookup n==some .cell)=true
   · rw[Xv hc] at h';simp only[Zi,hx] at h';exact ih h'
   · rw[Xu hc] at h';simp only[Zi,hx] at h';exact ih h'
structure uL (N:List Str)(sc scope:Scope)(own:List (Str×Nat)):Prop where
 kind:scope.kind=.function
 uniq:∀y∈scope.names,scope.names.lookup y.1=some y.2
 ix:∀p∈own,N[p.2]?=some p.1
 free:∀y∈scope.names,y.2=.free->sc.names.lookup y.1=some .cell∨sc.names.lookup y.1=some .free
 own:∀y∈scope.names,y.2=.local∨y.2=.cell->y.1∈own.map (·.1)∨y.1∉N
def wipe (σ:St):aae->St
 |[]=>σ
 |v::vs=>(wipe σ vs).set v none
theorem jG (σ:St):∀vs:aae,(wipe σ vs).length=σ.length
 |[]=>rfl
 |v::vs=>by unfold wipe;rw[List.length_set,jG σ vs]
theorem mS {σ:St}{i:Nat}{x:V}:∀{vs:aae},(wipe σ vs)[i]?=some (some x)->σ[i]?=some (some x)/\i∉vs
 |[],h=>⟨h,by simp⟩
 |v::vs,h=>by
  unfold wipe at h;by_cases hi:v=i
  · subst hi;by_cases hv:v < (wipe σ vs).length
    · rw[ZO hv] at h;cases h
    · rw[Yx (by simpa using hv)] at h;cases h
  · rw[List.getElem?_set_ne hi] at h;obtain⟨h1,h2⟩:=mS h;exact⟨h1,by simp only[Xx,not_or];exact⟨λe=>hi e.symm,h2⟩⟩
abbrev Cx.qJ (X:Cx)(s:Shared)(H:Hp)(scope:Scope)(LH:Env)(fp:List Addr):Cx:={X with kJ:=s,Ig:=H,env:=LH,outer:=X.stack,ex:=fp,fn:=λx=>scope.names.lookup x==some .cell,pn:=[],xe:=λ_ _=>False}
section
variable {X:Cx}{pins:aai}{σ:St}{H:Hp}{s:Shared}
theorem uX {scope:Scope} {own:List (Str×Nat)} {fp:List Addr} (I:Inv X pins σ H s) (ok:uL X.N X.env.scope scope own) (hN:X.N.Nodup) (Nn:∀b∈fp,nj X pins H b/\b < s.heap.objs.size) :
  Inv (X.qJ s H scope (compEnvC scope (cellsFrom (s.heap.objs.size+1) scope.names (bL X.env.cells scope.names [])) s.heap.objs.size X.env) fp) [] (wipe σ (own.map (·.2))) H {s with heap:=pushCells (s.heap.push {cls:=.type "dict",data:=.dict #[]}) scope.names}:=by
 have L3:∀y∈scope.names,y.2=.free->∃c,X.env.cells.lookup y.1=some c:=λy hy e=>by
  rcases ok.free y hy e with k|k
  · exact I.ok.has _ (.inl k)
  · exact I.ok.has _ (.inr k)
 generalize Md:compEnvC scope (cellsFrom (s.heap.objs.size+1) scope.names (bL X.env.cells scope.names [])) s.heap.objs.size X.env=LH;have kp:∀b o,s.heap.get? b=some o->(pushCells (s.heap.push {cls:=.type "dict",data:=.dict #[]}) scope.names).get? b=some o:=λb o e=>pushCells_keeps _ _ _ _ (Xw _ e);have hL:LH.locals=s.heap.objs.size:=by rw[←Md];rfl
 have NQ:LH.cells=cellsFrom (s.heap.objs.size+1) scope.names (bL X.env.cells scope.names []):=by rw[←Md];rfl
 have QZ:LH.scope=Ky scope X.env.scope:=by rw[←Md];rfl
 rw[←YC s.heap {cls:=.type "dict",data:=.dict #[]}] at NQ;have cm:∀{y c},(y,c)∈bL X.env.cells scope.names []->X.env.cells.lookup y=some c/\c < s.heap.objs.size:=λ{y c} hm=>by
  rcases gN hm with hm|⟨h1,rfl⟩
  · cases hm
  · obtain⟨c,hc⟩:=L3 _ h1 rfl;rw[hc];obtain⟨w,z⟩:=I.cell _ _ hc;exact⟨rfl,z.lt⟩
 have mem:∀{y c},LH.cells.lookup y=some c->(X.env.cells.lookup y=some c/\c < s.heap.objs.size)∨(s.heap.objs.size+1<=c/\Ci (pushCells (s.heap.push {cls:=.type "dict",data:=.dict #[]}) scope.names) c none):=λ{y c} e=>by
  rw[NQ] at e;rcases ib (PySem.mem_of_lookup e) with hm|⟨_,h2,h3⟩
  · exact .inl (cm hm)
  · rw[YC] at h2;exact .inr ⟨h2,h3⟩
 have look:∀{y},scope.names.lookup y=some .free->∃c,LH.cells.lookup y=some c/\X.env.cells.lookup y=some c:=λ{y} hl=>by
  have hy:(y,NameKind.free)∈scope.names:=PySem.mem_of_lookup hl;obtain⟨c',e'⟩:=mem_lookup (j1 (names:=scope.names) (n:=(s.heap.push {cls:=.type "dict",data:=.dict #[]}).objs.size) (jt (cells:=X.env.cells) (acc:=[]) hy));rw[←NQ] at e';refine⟨c',e',?_⟩;rw[NQ] at e';rcases ib (PySem.mem_of_lookup e') with hm|⟨h1,_,_⟩
  · exact (cm hm).1
  · have:=ok.uniq _ h1;rw[hl] at this;cases this
 have Vf:(X.qJ s H scope LH fp).Ok:=by
  refine⟨I.ok.mod,by show LH.scope.kind=_;rw[QZ];exact ok.kind,by show LH.globals=_;rw[←Md];exact I.ok.glob,by show LH.builtins=_;rw[←Md];exact I.ok.blt,by show s.heap.objs.size<=LH.locals;rw[hL];exact XC _,
   λy z c e1 e2=>?_,λy hy=>?_,λy c z e=>?_,I.ok.hd,I.ok.frames,.inl rfl,λb hb=>⟨?_,λy c e z=>?_⟩,I.bs,Yh I.ok.C2 I.sz,λb o e hb=>?_,λb hb z=>?_,I.stack,I.uB⟩
  · have e1:LH.cells.lookup y=some c:=e1;have e2:LH.cells.lookup z=some c:=e2;rw[NQ] at e1 e2;refine nv (λp hp=>?_) (λy z c a b=>I.ok.inj y z c (cm a).1 (cm b).1) (PySem.mem_of_lookup e1) (PySem.mem_of_lookup e2);rw[YC];exact Nat.lt_succ_of_lt (cm (y:=p.1) (c:=p.2) hp).2
  · show ∃c,LH.cells.lookup y=some c;have key:∀k,LH.kindOf y=some k->(k=.cell∨k=.free)->∃c,LH.cells.lookup y=some c:=λk hk Q0=>by
     unfold Env.kindOf at hk;rw[QZ] at hk;obtain⟨k',e,r⟩:=jv hk;have:k'=.cell∨k'=.free:=by
      rcases r with rfl|⟨rfl,_⟩
      · exact Q0
      · exact .inr rfl
     rcases this with rfl|rfl
     · obtain⟨c,hm⟩:=mT (n:=(s.heap.push {cls:=.type "dict",data:=.dict #[]}).objs.size) (acc:=bL X.env.cells scope.names []) (PySem.mem_of_lookup e);obtain⟨c',e'⟩:=mem_lookup hm;exact⟨c',by rw[NQ];exact e'⟩
     · obtain⟨c,h1,_⟩:=look e;exact⟨c,h1⟩
    rcases hy with hy|hy
    · exact key _ hy (.inl rfl)
    · exact key _ hy (.inr rfl)
  · have z:(scope.names.lookup y==some NameKind.cell)=true:=z;have z:scope.names.lookup y=some .cell:=by simpa using z
    have e:LH.cells.lookup y=some c:=e;rw[NQ] at e;rcases ib (PySem.mem_of_lookup e) with hm|⟨_,h2,_⟩
    · rcases gN hm with hm|⟨h1,_⟩
      · cases hm
      · have q:=ok.uniq _ h1;rw[z] at q;cases q
    · rw[YC] at h2;exact Nat.le_of_succ_le h2
  · show b≠LH.locals;rw[hL];exact X6 (Nn b hb).2
  · have e:LH.cells.lookup y=some c:=e;rcases mem e with ⟨h1,_⟩|⟨h1,_⟩
    · exact (Nn b hb).1.2.2.2.2.1 y c h1 z
    · have h2:s.heap.objs.size+1<=b:=by rw[←z];exact h1
      exact absurd (X_ (Nn b hb).2 (Nat.le_of_succ_le h2)) (YO _)
  · rcases (Nn b hb).1.2.2.2.1 with z|z
    · exact I.ok.zT b o e z
    · exact absurd (X_ (XG e) (Yh I.ok.C2 z)) (YO _)
  · rcases Xx.mp (I.xr b z) with z|z
    · exact (Nn b hb).1.2.1 z
    · exact (Nn b hb).1.2.2.1 z
 refine⟨Vf,rfl,I.bare,Un.kept kp,⟨λ_=>none,?_,λi y av e1 e2 e3=>?_⟩,λy c e=>?_,?_,λy c e=>?_,λp hp=>?_,I.bu.kept kp,by rw[jG];exact I.len⟩
 · show Heap.Ns _ LH.locals _;rw[hL];exact Heap.Ns.keeps (Heap.Ns.new ..) λb o e=>pushCells_keeps _ _ _ _ e
 · obtain⟨e2,LP⟩:=mS e2;have PQ:scope.names.lookup y=some .free/\(LH.kindOf y=some .cell∨LH.kindOf y=some .free):=by
    have key:∀k,LH.scope.names.lookup y=some k->k=.local∨k=.cell∨k=.free->scope.names.lookup y=some .free/\(LH.kindOf y=some .cell∨LH.kindOf y=some .free):=λk hk Q0=>by
     have OF:=hk;rw[QZ] at hk;obtain⟨k',e,r⟩:=jv hk;have no:¬(k'=.local∨k'=.cell):=λhh=>by
      rcases ok.own _ (PySem.mem_of_lookup e) hh with e'|e'
      · obtain⟨p,hp,Vg⟩:=X3.mp e';have e3:=ok.ix p hp;have:p.1=y:=Vg;rw[this] at e3;exact LP (X3.mpr ⟨p,hp,pF hN e3 e1⟩)
      · exact e' (XZ e1)
     rcases r with rfl|⟨rfl,rfl⟩
     · rcases Q0 with rfl|rfl|rfl
       · exact absurd (.inl rfl) no
       · exact absurd (.inr rfl) no
       · exact⟨e,.inr OF⟩
     · exact⟨e,.inl OF⟩
    have e3:Ic LH.scope y:=e3;rcases e3 with e3|e3|e3
    · exact key _ e3 (.inl rfl)
    · exact key _ e3 (.inr (.inl rfl))
    · exact key _ e3 (.inr (.inr rfl))
   obtain⟨m,hn,hl⟩:=I.loc;have Q1:Ic X.env.scope y:=(ok.free _ (PySem.mem_of_lookup PQ.1) rfl).elim (λk=>.inr (.inl k)) (λk=>.inr (.inr k));obtain⟨w,r,q⟩:=hl i y av e1 e2 Q1;refine⟨w,r,.inr ⟨PQ.2,?_⟩⟩;obtain⟨c,h1,h2⟩:=look PQ.1;rcases q with ⟨k,_⟩|⟨_,c',e',z⟩
   · have k:X.env.scope.names.lookup y=some .local:=k;rcases ok.free _ (PySem.mem_of_lookup PQ.1) rfl with k'|k' <;> rw[show X.env.scope.names.lookup y=_ from k'] at k <;> cases k
   · rw[h2] at e';cases e';exact⟨c,h1,z.keeps kp⟩
 · have e:LH.cells.lookup y=some c:=e;rcases mem e with ⟨h1,_⟩|⟨_,z⟩
   · obtain⟨w,z⟩:=I.cell y c h1;exact⟨w,z.keeps kp⟩
   · exact⟨_,z⟩
 · show H LH.locals=none;rw[hL];exact I.bu.fresh (XC _)
 · have e:LH.cells.lookup y=some c:=e;rcases mem e with ⟨h1,_⟩|⟨h1,_⟩
   · exact I.gC y c h1
   · exact I.bu.fresh (Nat.le_of_succ_le h1)
 · exact absurd (show p∈([]:aai)++[] from hp) (by simp)
theorem Hw {E:aag}{D:Addr}{xs:List V}{y:V}{v:Value}{Q:aag}(I:Inv X pins σ H s)(hD:H D=some (.lst xs))(hz:xs.length < sizeLine)(r:RelV y v)
  (h:∀s',Inv X pins σ (upd H D (.lst (xs++[y]))) s'->Q .none s'):wpAny (model X.prog X.w) X.A (call (.builtin "list.append") [.ref D,v]) Q E s:=by
 obtain⟨hz',LD,n,ri,e⟩:=I.bu D _ hD;have hl:=ri.length;refine append_at (hsz:=by rw[XR];omega) e λh' sb L0=>?_;refine h {s with heap:=h'} (I.write (t':=s.toks) (by rw[hD];trivial) (.inl rfl) (λb u hb q=>(sb.2 b hb).trans q) ⟨_,L0⟩ ⟨by rw[XS];exact hz,LD++[v],n+1,ri.append (.cons r .nil),?_⟩);rw[L0];simp
def IC (X:Cx)(ifs:List Expr)(t:TT):Prop :=
 ∀(pins:aai) (s:Shared) (σ:St) (H:Hp) (Q:Bool->Hp->Prop),Inv X pins σ H s->t σ H Q ->
  wpAny (model X.prog X.w) X.A (forIn ifs true λc r=>if r=true then do let ok ←isTrue c X.env (eval c X.env);pure (ForInStep.yield ok) else pure (ForInStep.yield r)) (TP X pins σ Q) X.xe s
def B6:TT:=λ_ H Q=>Q true H
theorem cz:IC X [] B6:=λ_ _ _ H _ I h=>wpAny_tests_nil ⟨H,I,h⟩
theorem ow {c:Expr}{t:TT}(h:PT X c t):IC X [c] t:=λpins s σ H Q I hw=>wpAny_tests_one (h pins s σ H Q I hw)
end
theorem zB {α:Type}{t:Sem α}{Q Q':α->Shared->Prop}{M:Model}{A:Around}{E:aag}{s:Shared}(h:wpAny M A t Q (λ_ _=>False) s)(hQ:∀a s,Q a s->Q' a s):wpAny M A t Q' E s:=YL h hQ λ_ _ z=>False.elim z
theorem tV {prog:Program}{w:World}{A:Around}{R:Result->Shared->Prop}{s:Shared}{elt target iter:Expr}{ifs:List Expr}{scope:Scope}{pos:Pos}{it acc:Value}{env:Env}(I:Nat->Shared->Prop)
  (turn:∀n s,I n s->wpAny (model prog w) A (pyNext it) (λr s₁=>match r with
   |none=>R (.ok .next) s₁
   |some v=>wpAny (model prog w) A (letOwnedTupleGo target it v) (λ_ s₁'=>wpAny (model prog w) A (assign target env v) (λ_ s₂ =>
     wpAny (model prog w) A (forIn ifs true λc r=>if r=true then do let ok ←isTrue c env (eval c env);pure (ForInStep.yield ok) else pure (ForInStep.yield r)) (λok s₃ =>
      if ok=true then wpAny (model prog w) A (eval elt env) (λx s₄ =>
       wpAny (model prog w) A (call (.builtin "list.append") [acc,x]) (λ_ s₅=>∃m,m < n/\I m s₅) (notedBy (model prog w) A env λe s'=>R (.error e) s') s₄) (notedBy (model prog w) A env λe s'=>R (.error e) s') s₃
      else ∃m,m < n/\I m s₃) (notedBy (model prog w) A env λe s'=>R (.error e) s') s₂) (notedBy (model prog w) A env λe s'=>R (.error e) s') s₁') (notedBy (model prog w) A env λe s'=>R (.error e) s') s₁) (notedBy (model prog w) A env λe s'=>R (.error e) s') s)
  (n:Nat) (h:I n s) :
  codeAny (model prog w) A (.compLoop (.ListComp elt [⟨target,iter,ifs,0⟩] scope pos) 0 it acc env) R s:=by
 refine codeAny_loop rfl I (λn s hI=>?_) n h;show wpAny _ A ((compTurn (.ListComp elt [⟨target,iter,ifs,0⟩] scope pos) 0 it acc env).onRaise (λx=>do noteFrame x env;theTreesLotGoes x)) _ _ s;refine wpAny_noted ?_;rw[compTurn_list];refine Xr (wpAny_standAt (Xr (YL (turn n s hI) (λr s₁ h₁=>?_) λ_ _ h'=>h')));cases r with
 |none=>exact Xz h₁
 |some v =>
  refine Xr (YL h₁ (λ_ s₁' h₁'=>?_) λ_ _ h'=>h');refine Xr (YL h₁' (λ_ s₂ h₂=>Xr (YL h₂ (λok s₃ h₃=>?_) λ_ _ h'=>h')) λ_ _ h'=>h');cases ok with
  |false=>exact Xz ⟨rfl,h₃⟩
  |true =>
   exact Xr (Xr (YL h₃ (λx s₄ h₄=>Xr (YL h₄ (λ_ s₅ h₅=>Xz (Xz ⟨rfl,h₅⟩)) λ_ _ h'=>h')) λ_ _ h'=>h'))
section
variable {X:Cx}
def G2 (wi:TI) (g:TG) (tt:TT) (te:TE) (vs:aae):TE:=λσ H Q=>wi σ H λJ H1=>∀D,H1 D=none->∃W:Nat->Nat->Hp->Prop,(∃m,W 0 m (upd H1 D (.lst [])))/\∀i m H,W i m H ->
 (J.stop i H/\Q (.ref D) H)∨(J.go i H/\∃Nx:Hp->Prop,(∀H',Nx H'->∃m',m' < m/\W (i+1) m' H')/\∀x H',J.vZ i H x H'->g x (wipe σ vs) H' λσ2 H2=>wipe σ2 vs=wipe σ vs/\tt σ2 H2 λb H3 =>
  if b=true then te σ2 H3 λy H4=>∃acc,H4 D=some (.lst acc)/\acc.length < sizeLine/\Nx (upd H4 D (.lst (acc++[y]))) else Nx H3)
theorem yg {pins:aai}{s:Shared}{σ:St}{H:Hp}{Q:VK}{elt tg iter:Expr}{ifs:List Expr}{scope:Scope}{own:List (Str×Nat)}{pos pos':Pos}{wi:TI}{g:TG}{tt:TT}{te:TE}{use:Option (Value->Sem Unit)}{Qf:aag}
  (hc:X.calm=true)(hN:X.N.Nodup)(I:Inv X pins σ H s)(hi:PI X tg iter wi)(ok:uL X.N X.env.scope scope own)
  (hg:∀(s:Shared) (H:Hp) (C:Addr) (cl:List (Str×Addr)) (fp:List Addr),PG (X.qJ s H scope (compEnvC scope cl C X.env) fp) tg g)(ht:∀(s:Shared) (H:Hp) (C:Addr) (cl:List (Str×Addr)) (fp:List Addr),IC (X.qJ s H scope (compEnvC scope cl C X.env) fp) ifs tt)
  (he:∀(s:Shared) (H:Hp) (C:Addr) (cl:List (Str×Addr)) (fp:List Addr),PE (X.qJ s H scope (compEnvC scope cl C X.env) fp) elt te)(hs:∀x,foldedSetIterable iter X.env x=pure x)
  (h:G2 wi g tt te (own.map (·.2)) σ H Q)
  (Vh:∀D C s' m H',Inv X pins σ H' s'->Q (.ref D) H'->s'.heap.Ns C m->nj X pins H' C->compPost (model X.prog X.w) X.A X.xe use Qf (.ref D) C (.ok .next) s') :
  wpAny (model X.prog X.w) X.A (comprehension (.ListComp elt [⟨tg,iter,ifs,0⟩] scope pos) scope X.env pos' (newList []) false (eval iter X.env) use) Qf X.xe s:=by
 have L3:∀y∈scope.names,y.2=.free->∃c,X.env.cells.lookup y.1=some c:=λy hy e=>by
  rcases ok.free y hy e with k|k
  · exact I.ok.has _ (.inl k)
  · exact I.ok.has _ (.inr k)
 refine wpAny_comprehension_free (use:=use) rfl hs (wG L3) ok.kind (λy hy e=>by rw[ok.uniq y hy,e])
  (bA (hi pins s σ H _ I h) λxv s1 hx=>bA hx λPJ s2 h2=>?_)
 obtain⟨it,fp,tn,J,H2,e,I2,T,N9,f2,q⟩:=h2;subst e;refine YW (vm ?_) (by show 0<=sizeLine;decide);generalize hD:s2.heap.objs.size=D;have Vi:H2 D=none:=I2.bu.fresh (Z8 hD);obtain⟨W,⟨m0,w0⟩,turn⟩:=q D Vi;generalize Su:({s2 with heap:=s2.heap.push {cls:=.type "list",data:=.seq ([]:aaj).toArray}}:Shared)=s3;have I3:Inv X pins σ (upd H2 D (.lst [])) s3:=by
  rw[←Su];refine I2.laid (t':=s2.toks) (λb o e=>Xw _ e) (Z8 hD) ⟨X1 _,[],0,.nil,?_⟩;rw[←hD];exact XJ _ rfl
 have h3:s3.heap=s2.heap.push {cls:=.type "list",data:=.seq ([]:aaj).toArray}:=by rw[←Su]
 have sz:∀b∈fp,b < s2.heap.objs.size:=λb hb=>by
  obtain⟨o,e,_⟩:=T.obj _ _ N9 b hb;exact XG e
 have f3:∀b∈fp,nj X pins (upd H2 D (.lst [])) b/\b < s3.heap.objs.size:=λb hb=>by
  have LI:=sz b hb;refine⟨⟨?_,(f2 b hb).2⟩,by rw[h3,YC];exact Nat.lt_succ_of_lt LI⟩;rw[aq (by rw[←hD];exact X6 LI)];exact (f2 b hb).1
 have NK:tn 0 s3.heap:=T.keep _ _ _ N9 λb _ o e=>by rw[h3];exact Xw _ e
 have I4:=uX I3 ok hN f3;have pg:=hg s3 (upd H2 D (.lst [])) s3.heap.objs.size (cellsFrom (s3.heap.objs.size+1) scope.names (bL X.env.cells scope.names [])) fp;have pt:=ht s3 (upd H2 D (.lst [])) s3.heap.objs.size (cellsFrom (s3.heap.objs.size+1) scope.names (bL X.env.cells scope.names [])) fp;have pe:=he s3 (upd H2 D (.lst [])) s3.heap.objs.size (cellsFrom (s3.heap.objs.size+1) scope.names (bL X.env.cells scope.names [])) fp;show codeAny _ _ (.compStart (.ListComp elt [⟨tg,iter,ifs,0⟩] scope pos) 0 (.ref it) (.ref D) (compEnvC scope (cellsFrom (s3.heap.objs.size+1) scope.names (bL X.env.cells scope.names [])) s3.heap.objs.size X.env)) (compPost (model X.prog X.w) X.A X.xe use Qf (.ref D) s3.heap.objs.size) {s3 with heap:=pushCells (s3.heap.push {cls:=.type "dict",data:=.dict #[]}) scope.names};have OL:∀b∈fp,(upd H2 D (.lst [])) b=none:=λb hb=>(f3 b hb).1.1;generalize Vj:compEnvC scope (cellsFrom (s3.heap.objs.size+1) scope.names (bL X.env.cells scope.names [])) s3.heap.objs.size X.env=ce at I4 pg pt pe ⊢;have cL:ce.locals=s3.heap.objs.size:=by subst Vj;rfl
 generalize hH3:upd H2 D (.lst [])=H3 at I3 I4 pg pt pe w0 OL f3;generalize Vk:({s3 with heap:=pushCells (s3.heap.push {cls:=.type "dict",data:=.dict #[]}) scope.names}:Shared)=s4 at I4 ⊢;have Sv:tn 0 s4.heap:=T.keep _ _ _ NK λb _ o e=>by rw[←Vk];exact pushCells_keeps _ _ _ _ (Xw _ e)
 have LY:∀{σ':St} {H':Hp} {s':Shared},Inv (X.qJ s3 H3 scope ce fp) [] σ' H' s'->(∀b∈fp,H' b=none)->∀b∈fp,nj (X.qJ s3 H3 scope ce fp) [] H' b:=λ{σ' H' s'} I' hn b hb =>
  ⟨hn b hb,(I'.ok.Io b hb).1,I'.ok.zY b hb,.inl hb,λx c e=>(I'.ok.Io b hb).2 x c e,λp hp=>absurd (show p∈([]:aai)++[] from hp) (by simp)⟩
 have loop:codeAny (model X.prog X.w) X.A (.compLoop (.ListComp elt [⟨tg,iter,ifs,0⟩] scope pos) 0 (.ref it) (.ref D) ce) (compPost (model X.prog X.w) X.A X.xe use Qf (.ref D) s3.heap.objs.size) s4:=by
  refine tV (λn s'=>∃i H',Inv (X.qJ s3 H3 scope ce fp) [] (wipe σ (own.map (·.2))) H' s'/\tn i s'.heap/\(∀b∈fp,H' b=none)/\W i n H') ?_ m0 ⟨0,H3,I4,Sv,OL,w0⟩;rintro n s5 ⟨i,H5,I5,MS,n5,w5⟩;rcases turn i n H5 w5 with ⟨stop,qq⟩|⟨go,Nx,Vl,step⟩
  · have td:=T.done (X.qJ s3 H3 scope ce fp) rfl rfl rfl hc i [] s5 _ H5 (λ_ _=>False) I5 (LY I5 n5) MS stop;refine zB td λr s6 ⟨hr,I6⟩=>?_;subst hr;have I7:Inv X pins σ H5 s6:=I3.Fl (ch:=fp) I6.os I6.base I6.bu I6.bare λb hb=>⟨(f3 b hb).1.2.2.2.1,(f3 b hb).1.2.1,(f3 b hb).1.2.2.2.2.1,(f3 b hb).1.2.2.2.2.2⟩;have nC:H5 s3.heap.objs.size=none:=by
     have z:H5 ce.locals=none:=I6.free;rw[cL] at z;exact z
    obtain⟨m,hn,_⟩:=I6.loc;have hn:s6.heap.Ns ce.locals m:=hn;rw[cL] at hn;exact Vh D s3.heap.objs.size s6 m H5 I7 qq hn (I3.xq (XC _) nC)
  · have ti:=T.item (X.qJ s3 H3 scope ce fp) rfl rfl rfl hc i [] s5 _ H5 (λ_ _=>False) I5 (LY I5 n5) MS go;refine zB ti λr s6 ⟨u,hr,h6⟩=>?_;subst hr;refine zB h6 λ_ s7 ⟨x,H7,I7,r7,y7,Q2,n7⟩=>?_;have Vm:=I7.pinned (LY I7 n7) (T.obj _ _ Q2);refine zB (pg _ s7 _ H7 x u _ Vm r7 (step x H7 y7)) λ_ s8 ⟨σ8,H8,I8,Sw,q8⟩=>?_;refine zB (pt _ s8 σ8 H8 _ I8 q8) λb s9 ⟨H9,I9,q9⟩=>?_;have fin:∀{s':Shared} {H':Hp},Inv (X.qJ s3 H3 scope ce fp) ([]++mN fp s7.heap) σ8 H' s'->Nx H'->∃m,m < n/\∃i H',Inv (X.qJ s3 H3 scope ce fp) [] (wipe σ (own.map (·.2))) H' s'/\tn i s'.heap/\(∀b∈fp,H' b=none)/\W i m H':=λ{s' H'} I' nx=>by
     obtain⟨m',hm,w'⟩:=Vl H' nx;have OM:∀b∈fp,∀o,s7.heap.get? b=some o->s'.heap.get? b=some o/\H' b=none:=λb hb o e =>
      let z:=I'.pin (b,o) (Ys _ (Ys _ (gE hb e)))
      ⟨z.1,z.2.1⟩
     have hl:(wipe σ (own.map (·.2))).length=σ8.length:=by rw[←Sw,jG]
     refine⟨m',hm,i+1,H',(I'.iF (pins:=[])).weak hl (λj v e=>?_),T.keep _ _ _ Q2 λb hb o e=>(OM b hb o e).1,λb hb=>?_,w'⟩
     · rw[←Sw] at e;exact (mS e).1
     · obtain⟨o,e,_⟩:=T.obj _ _ Q2 b hb;exact (OM b hb o e).2
    cases b with
    |false =>
     simp only[YU,Zs] at q9 ⊢;exact fin I9 q9
    |true =>
     simp only[Zc] at q9 ⊢;refine zB (pe _ s9 σ8 H9 _ I9 q9) λz s10 ⟨yv,H10,Vn,Vo,acc,Q3,Q4,nx⟩=>?_;exact Hw (X:=X.qJ s3 H3 scope ce fp) Vn Q3 Q4 Vo λs11 Vp=>fin Vp nx
 exact codeAny_compStart_list loop (T.self X.A 0 _ _ _ Sv loop)
theorem fA {elt tg iter:Expr}{ifs:List Expr}{scope:Scope}{own:List (Str×Nat)}{pos:Pos}{wi:TI}{g:TG}{tt:TT}{te:TE}(hc:X.calm=true)(hN:X.N.Nodup)(hi:PI X tg iter wi)(ok:uL X.N X.env.scope scope own)
  (hg:∀(s:Shared) (H:Hp) (C:Addr) (cl:List (Str×Addr)) (fp:List Addr),PG (X.qJ s H scope (compEnvC scope cl C X.env) fp) tg g)(ht:∀(s:Shared) (H:Hp) (C:Addr) (cl:List (Str×Addr)) (fp:List Addr),IC (X.qJ s H scope (compEnvC scope cl C X.env) fp) ifs tt)
  (he:∀(s:Shared) (H:Hp) (C:Addr) (cl:List (Str×Addr)) (fp:List Addr),PE (X.qJ s H scope (compEnvC scope cl C X.env) fp) elt te)(hs:∀x,foldedSetIterable iter X.env x=pure x:=by intro _;rfl) :
  PE X (.ListComp elt [⟨tg,iter,ifs,0⟩] scope pos) (G2 wi g tt te (own.map (·.2))):=by
 intro pins s σ H Q I h;rw[eval_ListComp];refine yg hc hN I hi ok hg ht he hs h λD C s' m H' I' q hn f=>⟨m,hn,λNp sb=>?_⟩;obtain⟨f0,f1,f2,f3,f4,f5⟩:=f;exact⟨.ref D,H',I'.turned (t':=s'.toks) (λb o hb e=>(sb.2 b hb).trans e) f0 f1 f3 f4 f5,rfl,q⟩
theorem pK {i:Nat}{y:Str}{py:Pos}{elt tg iter:Expr}{ifs:List Expr}{scope:Scope}{own:List (Str×Nat)}{pos ON:Pos}{wi:TI}{g:TG}{tt:TT}{te:TE}(hc:X.calm=true)(hN:X.N.Nodup)(hy:X.N[i]?=some y)(Sx:X.env.scope.names.lookup y=some .local)
  (Vq:swapsWith (.ListComp elt [⟨tg,iter,ifs,0⟩] scope pos) (some (.Name y py)) ON.line X.env=pure true)(hi:PI X tg iter wi)(ok:uL X.N X.env.scope scope own)
  (hg:∀(s:Shared) (H:Hp) (C:Addr) (cl:List (Str×Addr)) (fp:List Addr),PG (X.qJ s H scope (compEnvC scope cl C X.env) fp) tg g)(ht:∀(s:Shared) (H:Hp) (C:Addr) (cl:List (Str×Addr)) (fp:List Addr),IC (X.qJ s H scope (compEnvC scope cl C X.env) fp) ifs tt)
  (he:∀(s:Shared) (H:Hp) (C:Addr) (cl:List (Str×Addr)) (fp:List Addr),PE (X.qJ s H scope (compEnvC scope cl C X.env) fp) elt te)(hs:∀x,foldedSetIterable iter X.env x=pure x:=by intro _;rfl) :
  PS X (.Assign [.Name y py] (.ListComp elt [⟨tg,iter,ifs,0⟩] scope pos) ON) (zX (G2 wi g tt te (own.map (·.2))) (fL i)):=by
 intro pins s σ H D I h;rw[exec_Assign_Name_used _ _ _ _ Vq];refine Xr (wpAny_standAt (Xr ?_));show wpAny _ X.A (do let _ ←comprehension (.ListComp elt [⟨tg,iter,ifs,0⟩] scope pos) scope X.env (firstIterPos [⟨tg,iter,ifs,0⟩] pos) (newList []) false (eval iter X.env) (some (assign (.Name y py) X.env))) _ _ s;have h:G2 wi g tt te (own.map (·.2)) σ H (λx H1=>fL i x σ H1 D.nx):=h;refine Xr (bA (yg (Qf:=λ_ s'=>SP X pins D .next s') hc hN I hi ok hg ht he hs h λL C s' m H' I' q hn f=>?_) λ_ s' hq=>Xz (Xz hq));show wpAny _ _ (assign (.Name y py) X.env (.ref L)) _ _ _;refine wpAny_assign_Name (sF (v:=V.ref L) I' hN hy (.inl Sx) rfl (λs2 I2 ⟨a,sb,ha⟩=>?_) (.inr Sx));obtain⟨f0,f1,f2,f3,f4,f5⟩:=f;have Vr:C≠a:=by
  rcases ha with z|z
  · rw[z];exact f1
  · exact λe=>f4 y a z e.symm
 refine⟨m,hn.sameBut sb Vr,λh3 Vs=>?_⟩;exact⟨_,H',I2.turned (t':=s2.toks) (λb o hb e=>(Vs.2 b hb).trans e) f0 f1 f3 f4 f5,q⟩
theorem tP {elt:Expr}{gs:List Comprehension}{scope:Scope}{pos py:Pos}{y:Str}{l:Nat}{env:Env}(hk:env.scope.kind=.function)(hy:env.scope.names.lookup y=some .local)(hl:(py.line==pos.line)=true)
  (ha:(scope.names.any λ(n,k)=>n==y&&(k==.local||k==.cell))=false):swapsWith (.ListComp elt gs scope pos) (some (.Name y py)) l env=pure true:=by
 have ky:env.kindOf y=some .local:=hy;have hb:env.blockKind=.function:=by unfold Env.blockKind;rw[hk];rfl
 unfold swapsWith;simp only[hb,ky,ha,Expr.pos,hl];rfl
end
theorem lT {lo:Int}{n:Nat}{g:TG}{tt:TT}{te:TE}{vs:aae}{σ:St}{H1:Hp}{D:Addr}{Qd:Hp->Prop}(Pv:Nat->Hp->Prop)(h0:Pv 0 (upd H1 D (.lst [])))
  (hs:∀i H,i < n->Pv i H->g (.int (lo+i)) (wipe σ vs) H λσ2 H2=>wipe σ2 vs=wipe σ vs/\tt σ2 H2 λb H3 =>
   if b=true then te σ2 H3 λy H4=>∃acc,H4 D=some (.lst acc)/\acc.length < sizeLine/\Pv (i+1) (upd H4 D (.lst (acc++[y]))) else Pv (i+1) H3) (hd:∀H,Pv n H->Qd H) :
  ∃W:Nat->Nat->Hp->Prop,(∃m,W 0 m (upd H1 D (.lst [])))/\∀i m H,W i m H ->
   ((Az lo n).stop i H/\Qd H)∨((Az lo n).go i H/\∃Nx:Hp->Prop,(∀H',Nx H'->∃m',m' < m/\W (i+1) m' H')/\∀x H',(Az lo n).vZ i H x H'->g x (wipe σ vs) H' λσ2 H2=>wipe σ2 vs=wipe σ vs/\tt σ2 H2 λb H3 =>
    if b=true then te σ2 H3 λy H4=>∃acc,H4 D=some (.lst acc)/\acc.length < sizeLine/\Nx (upd H4 D (.lst (acc++[y]))) else Nx H3):=by
 refine⟨λi m H=>m=n - i/\i<=n/\Pv i H,⟨n,by simp,X1 _,h0⟩,?_⟩;rintro i m H ⟨rfl,hi,p⟩;by_cases LI:i < n
 · refine .inr ⟨LI,Pv (i+1),λH' p'=>⟨n - (i+1),by omega,rfl,LI,p'⟩,λx H' y=>?_⟩;obtain⟨e,y⟩:=y;subst e y;exact hs i _ LI p
 · have e:i=n:=by omega
   subst e;exact .inl ⟨XC _,hd H p⟩
theorem iH {K:aaf}{a:Addr}{xs:List V}{g:TG}{tt:TT}{te:TE}{vs:aae}{σ:St}{H1:Hp}{D:Addr}{Qd:Hp->Prop}(Pv:Nat->Hp->Prop)(h0:Pv 0 (upd H1 D (.lst [])))(hl:∀i H,i<=xs.length->Pv i H->aP K H a xs)
  (hs:∀i x H,xs[i]?=some x->Pv i H->g x (wipe σ vs) H λσ2 H2=>wipe σ2 vs=wipe σ vs/\tt σ2 H2 λb H3 =>
   if b=true then te σ2 H3 λy H4=>∃acc,H4 D=some (.lst acc)/\acc.length < sizeLine/\Pv (i+1) (upd H4 D (.lst (acc++[y]))) else Pv (i+1) H3) (hd:∀H,Pv xs.length H->Qd H) :
  ∃W:Nat->Nat->Hp->Prop,(∃m,W 0 m (upd H1 D (.lst [])))/\∀i m H,W i m H ->
   ((AD K a).stop i H/\Qd H)∨((AD K a).go i H/\∃Nx:Hp->Prop,(∀H',Nx H'->∃m',m' < m/\W (i+1) m' H')/\∀x H',(AD K a).vZ i H x H'->g x (wipe σ vs) H' λσ2 H2=>wipe σ2 vs=wipe σ vs/\tt σ2 H2 λb H3 =>
    if b=true then te σ2 H3 λy H4=>∃acc,H4 D=some (.lst acc)/\acc.length < sizeLine/\Nx (upd H4 D (.lst (acc++[y]))) else Nx H3):=by
 refine⟨λi m H=>m=xs.length - i/\i<=xs.length/\Pv i H,⟨xs.length,by simp,X1 _,h0⟩,?_⟩;rintro i m H ⟨rfl,hi,p⟩;have q:=hl i H hi p;by_cases LI:i < xs.length
 · refine .inr ⟨⟨xs,xs[i],q,by simp[LI]⟩,Pv (i+1),λH' p'=>⟨xs.length - (i+1),by omega,rfl,LI,p'⟩,λx H' y=>?_⟩;obtain⟨e,y⟩:=y;subst e;exact hs i x _ (y xs q) p
 · have e:i=xs.length:=by omega
   subst e;exact .inl ⟨⟨xs,q,XC _⟩,hd H p⟩
theorem G3 {K:aaf}{a:Addr}{xs:List V}{g:TG}{tt:TT}{te:TE}{vs:aae}{σ:St}{H1:Hp}{D:Addr}{Qd:Hp->Prop}(Pv:Nat->Hp->Prop)(h0:Pv 0 (upd H1 D (.lst [])))(hl:∀i H,i<=xs.length->Pv i H->bZ K H a xs)
  (hs:∀i x H,xs[i]?=some x->Pv i H->g x (wipe σ vs) H λσ2 H2=>wipe σ2 vs=wipe σ vs/\tt σ2 H2 λb H3 =>
   if b=true then te σ2 H3 λy H4=>∃acc,H4 D=some (.lst acc)/\acc.length < sizeLine/\Pv (i+1) (upd H4 D (.lst (acc++[y]))) else Pv (i+1) H3) (hd:∀H,Pv xs.length H->Qd H) :
  ∃W:Nat->Nat->Hp->Prop,(∃m,W 0 m (upd H1 D (.lst [])))/\∀i m H,W i m H ->
   ((JA K a).stop i H/\Qd H)∨((JA K a).go i H/\∃Nx:Hp->Prop,(∀H',Nx H'->∃m',m' < m/\W (i+1) m' H')/\∀x H',(JA K a).vZ i H x H'->g x (wipe σ vs) H' λσ2 H2=>wipe σ2 vs=wipe σ vs/\tt σ2 H2 λb H3 =>
    if b=true then te σ2 H3 λy H4=>∃acc,H4 D=some (.lst acc)/\acc.length < sizeLine/\Nx (upd H4 D (.lst (acc++[y]))) else Nx H3):=by
 refine⟨λi m H=>m=xs.length - i/\i<=xs.length/\Pv i H,⟨xs.length,by simp,X1 _,h0⟩,?_⟩;rintro i m H ⟨rfl,hi,p⟩;have q:=hl i H hi p;by_cases LI:i < xs.length
 · refine .inr ⟨⟨xs,xs[i],q,by simp[LI]⟩,Pv (i+1),λH' p'=>⟨xs.length - (i+1),by omega,rfl,LI,p'⟩,λx H' y=>?_⟩;obtain⟨e,y⟩:=y;subst e;exact hs i x _ (y xs q) p
 · have e:i=xs.length:=by omega
   subst e;exact .inl ⟨⟨xs,q,XC _⟩,hd H p⟩
def IK (N:List Str)(sc scope:Scope)(own:List (Str×Nat)):Bool :=
 (match scope.kind with|.function=>true|_=>false)&&(scope.names.all λy=>decide (scope.names.lookup y.1=some y.2))&&(own.all λp=>decide (N[p.2]?=some p.1)) &&
  (scope.names.all λy=>match y.2 with
   |.free=>(match sc.names.lookup y.1 with|some .cell=>true|some .free=>true|_=>false)
   |.local=>decide (y.1∈own.map (·.1))||decide (y.1∉N)
   |.cell=>decide (y.1∈own.map (·.1))||decide (y.1∉N)
   |_=>true)
theorem bz {N:List Str}{sc scope:Scope}{own:List (Str×Nat)}(h:IK N sc scope own=true):uL N sc scope own:=by
 unfold IK at h;simp only[XA,X0,XB] at h;obtain⟨⟨⟨h1,h2⟩,h3⟩,h4⟩:=h;refine⟨?_,h2,h3,λy hy e=>?_,λy hy e=>?_⟩
 · split at h1
   · assumption
   · cases h1
 · have q:=h4 y hy;simp only[e] at q;split at q <;> first|exact .inl (by assumption)|exact .inr (by assumption)|cases q
 · have q:=h4 y hy;rcases e with e|e <;> (simp only[e,Yu,XB] at q;exact q)
section
variable {prog:Program}{w:World}{A:Around}{R:Result->Shared->Prop}{s:Shared}{elt t0 i0 t1 i1:Expr}{ifs0 ifs1:List Expr}{scope:Scope}{pos:Pos}{it acc:Value}{env:Env}
end
section
variable {X:Cx}
end
section
variable {κ:Type} [DecidableEq κ]
def cR (LC:List (κ×V)) (k:κ):Option V:=(LC.find? λkv=>decide (kv.1=k)).map (·.2)
def putK (LC:List (κ×V))(k:κ)(v:V):List (κ×V) :=
 if (LC.any λkv=>decide (kv.1=k))=true then LC.map (λkv=>if kv.1=k then (kv.1,v) else kv) else LC++[(k,v)]
theorem c_ {p:κ×V}{r:List (κ×V)}{k:κ}(e:p.1=k):cR (p::r) k=some p.2:=by simp[cR,Y8,e]
theorem dj {p:κ×V}{r:List (κ×V)}{k:κ}(e:¬p.1=k):cR (p::r) k=cR r k:=by simp[cR,Y8,e]
theorem mE (k:κ):∀LC:List (κ×V),(LC.any λkv=>decide (kv.1=k))=(cR LC k).isSome
 |[]=>rfl
 |p::r=>by
  rw[Y2];by_cases e:p.1=k
  · simp only[c_ e,X9 e,Bool.true_or,Option.isSome_some]
  · rw[dj e,Yi e,Bool.false_or];exact mE k r
theorem vG (k j:κ)(y:V):∀LC:List (κ×V),cR (LC.map λkv=>if kv.1=k then (kv.1,y) else kv) j=(cR LC j).map λx=>if j=k then y else x
 |[]=>rfl
 |p::r=>by
  have ih:=vG k j y r;rw[XM];by_cases h:p.1=k
  · rw[Xv h];by_cases e:p.1=j
    · rw[c_ (p:=(p.1,y)) e,c_ e,Option.map_some,Xv (e.symm.trans h)]
    · rw[dj (p:=(p.1,y)) e,dj e,ih]
  · rw[Xu h];by_cases e:p.1=j
    · rw[c_ (p:=p) e,c_ e,Option.map_some,Xu (λz=>h (e.trans z))]
    · rw[dj (p:=p) e,dj e,ih]
theorem rN (k j:κ)(y:V):∀LC:List (κ×V),cR LC k=none->cR (LC++[(k,y)]) j=if j=k then some y else cR LC j
 |[],_=>by
  by_cases e:k=j
  · rw[Xv e.symm];exact c_ (p:=(k,y)) e
  · rw[Xu (λz=>e z.symm)];exact dj (p:=(k,y)) e
 |p::r,hn=>by
  rw[ZC];have hk:¬p.1=k:=λz=>by rw[c_ z] at hn;cases hn
  rw[dj hk] at hn;have ih:=rN k j y r hn;by_cases e:p.1=j
  · rw[c_ e,c_ e,Xu (λz=>hk (e.trans z))]
  · rw[dj e,dj e,ih]
theorem oU (LC:List (κ×V))(k j:κ)(y:V):cR (putK LC k y) j=if j=k then some y else cR LC j:=by
 unfold putK;by_cases a:(LC.any λkv=>decide (kv.1=k))=true
 · rw[Xv a,vG];rw[mE] at a;by_cases e:j=k
   · obtain⟨x,hx⟩:=ZG.mp a;rw[Xv e,e,hx,Option.map_some,Xv rfl]
   · rw[Xu e];cases cR LC j with
     |none=>rfl
     |some x=>rw[Option.map_some,Xu e]
 · rw[Xu a];refine rN k j y LC ?_;rw[mE] at a;cases q:cR LC k with
   |none=>rfl
   |some x=>rw[q] at a;exact (a rfl).elim
theorem gM (LC:List (κ×V))(k:κ)(v:V):(putK LC k v).length<=LC.length+1:=by
 unfold putK;split
 · rw[Xs];omega
 · rw[XS,XE,Y4];omega
theorem jc.iC {o:Option V}{u:Option Value}(r:jc o u):o.isSome=u.isSome:=by
 cases o with
 |none=>cases u with
  |none=>rfl
  |some _=>exact (show False from r).elim
 |some _=>cases u with
  |none=>exact (show False from r).elim
  |some _=>rfl
theorem jc.getD {o:Option V}{u:Option Value}{d:V}{d':Value}(r:jc o u)(rd:RelV d d'):RelV (o.getD d) (u.getD d'):=by
 cases o with
 |none=>cases u with
  |none=>exact rd
  |some _=>exact (show False from r).elim
 |some _=>cases u with
  |none=>exact (show False from r).elim
  |some _=>exact r
theorem KV.val {LC:List (κ×V)}{vs:List (κ×Value)}(r:KV LC vs)(k:κ):jc (cR LC k) (valueAt vs k):=by
 unfold KV at r
 induction r with
 |nil=>exact True.intro
 |@cons p q ps qs h t ih =>
  obtain⟨h1,h2⟩:=h;by_cases e:p.1=k
  · have e':q.1=k:=h1.symm.trans e;have b:valueAt (q::qs) k=some q.2:=by simp[valueAt,Y8,e']
    rw[c_ e,b];exact h2
  · have e':¬q.1=k:=λz=>e (h1.trans z);have b:valueAt (q::qs) k=valueAt qs k:=by simp[valueAt,Y8,e']
    rw[dj e,b];exact ih
theorem KV.any {LC:List (κ×V)}{vs:List (κ×Value)}(r:KV LC vs)(k:κ):(LC.any λkv=>decide (kv.1=k))=vs.any λkv=>decide (kv.1=k):=by
 unfold KV at r
 induction r with
 |nil=>rfl
 |cons h t ih=>rw[Y2,Y2,ih,h.1]
theorem KV.Hx {LC:List (κ×V)}{vs:List (κ×Value)}(r:KV LC vs)(k:κ){y:V}{u:Value}(ry:RelV y u) :
  KV (LC.map λkv=>if kv.1=k then (kv.1,y) else kv) (vs.map λkv=>if kv.1=k then (kv.1,u) else kv):=by
 unfold KV at r ⊢
 induction r with
 |nil=>exact .nil
 |@cons p q ps qs h t ih =>
  rw[XM,XM];refine .cons ?_ ih;obtain⟨h1,h2⟩:=h;by_cases e:p.1=k
  · rw[Xv e,Xv (h1.symm.trans e)];exact⟨h1,ry⟩
  · rw[Xu e,Xu (λz=>e (h1.trans z))];exact⟨h1,h2⟩
theorem KV.put {LC:List (κ×V)}{vs:List (κ×Value)}(r:KV LC vs)(k:κ){y:V}{u:Value}(ry:RelV y u):KV (putK LC k y) (stored vs k u):=by
 unfold putK stored;rw[r.any k];by_cases e:(vs.any λkv=>decide (kv.1=k))=true
 · rw[Xv e,Xv e];exact r.Hx k ry
 · rw[Xu e,Xu e];exact Paired.snoc r ⟨rfl,ry⟩
theorem KV.length {LC:List (κ×V)}{vs:List (κ×Value)}(r:KV LC vs):LC.length=vs.length:=Paired.length r
end
theorem pS {P:Program}{w:World}{k:Key}{u:Value}(r:RelV (kV k) u):(cy P w).is k u=true:=by
 cases k with
 |inl i=>obtain⟨t,e⟩:=(show ∃t,u=Value.int i t from r);subst e;exact u5 P w i t
 |inr x=>obtain⟨t,e⟩:=(show ∃t,u=Value.str x t from r);subst e;exact uU P w x t
theorem rL {P:Program}{w:World}:∀{ks:List Key} {us:aaj},Vals (ks.map kV) us->ItemsAre (cy P w) ks us
 |[],_,r=>by rw[YT] at r;cases r;exact .nil
 |k::ks,_,r=>by
  rw[XM] at r;cases r with
  |cons h t=>exact .cons (pS h) (rL t)
abbrev KT (H:Hp):List (List Key×V)->List (List Key×Addr×Value)->Prop:=Paired λp q=>p.1=q.1/\H q.2.1=some (.tup (p.1.map kV))/\RelV p.2 q.2.2
theorem KT.val {H:Hp}{LC:List (List Key×V)}{xs:List (List Key×Addr×Value)}(r:KT H LC xs)(k:List Key):jc (cR LC k) ((atKey xs k).map (·.2)):=by
 induction r with
 |nil=>exact True.intro
 |@cons p q ps qs h t ih =>
  obtain⟨h1,_,h2⟩:=h;by_cases e:p.1=k
  · have e':q.1=k:=h1.symm.trans e;have b:atKey (q::qs) k=some q.2:=by simp[atKey,Y8,e']
    rw[c_ e,b];exact h2
  · have e':¬q.1=k:=λz=>e (h1.trans z);have b:atKey (q::qs) k=atKey qs k:=by simp[atKey,Y8,e']
    rw[dj e,b];exact ih
theorem KT.Hx {H:Hp}{LC:List (List Key×V)}{xs:List (List Key×Addr×Value)}(r:KT H LC xs)(k:List Key){y:V}{u:Value}(ry:RelV y u) :
  KT H (LC.map λkv=>if kv.1=k then (kv.1,y) else kv) (xs.map (putAt k u)):=by
 induction r with
 |nil=>exact .nil
 |@cons p q ps qs h t ih =>
  rw[XM,XM];refine .cons ?_ ih;obtain⟨h1,h2,h3⟩:=h;unfold putAt;by_cases e:p.1=k
  · rw[Xv e,Xv (h1.symm.trans e)];exact⟨h1,h2,ry⟩
  · rw[Xu e,Xu (λz=>e (h1.trans z))];exact⟨h1,h2,h3⟩
theorem KT.put {H:Hp}{LC:List (List Key×V)}{xs:List (List Key×Addr×Value)}(r:KT H LC xs)(k:List Key){b:Addr}{y:V}{u:Value}(hb:H b=some (.tup (k.map kV)))(ry:RelV y u) :
  KT H (putK LC k y) (storedH xs k b u):=by
 have e:(LC.any λkv=>decide (kv.1=k))=(atKey xs k).isSome:=by
  rw[mE,(r.val k).iC,Option.isSome_map]
 unfold putK storedH;rw[e];by_cases q:(atKey xs k).isSome=true
 · rw[Xv q,Xv q];exact r.Hx k ry
 · rw[Xu q,Xu q];exact Paired.snoc r ⟨rfl,hb,ry⟩
theorem KT.keeps {H H':Hp}{LC:List (List Key×V)}{xs:List (List Key×Addr×Value)}(r:KT H LC xs)(ht:∀b ys,H b=some (.tup ys)->H' b=some (.tup ys)):KT H' LC xs :=
 Paired.d9 r λ_ _ z=>⟨z.1,ht _ _ z.2.1,z.2.2⟩
section
variable {P:Program}{w:World}{H:Hp}{h:Heap}{a:Addr}
theorem FJ {u:HO} (ok:iu P w H h) (e:Rd H a u):bK P w H h a u:=e.ok ok
theorem vQ {LC:List (Key×V)}(ok:iu P w H h)(e:Rd H a (.dK LC)):LC.length<=sizeLine/\(a==sysModules)=false/\∃vs,KV LC vs/\h.DictOf (cy P w) a vs :=
 show bK P w H h a (.dK LC) from FJ ok e
theorem Im {LC:List (Key×V)}(ok:iu P w H h)(e:H a=some (.dK LC)):LC.length<=sizeLine/\(a==sysModules)=false/\∃vs,KV LC vs/\h.DictOf (cy P w) a vs:=vQ ok (.inl e)
theorem oY {ks:List Key}(ok:iu P w H h)(e:H a=some (.tup (ks.map kV))):(tupleKind (cy P w)).is h ks a:=by
 obtain⟨_,LD,r,o,h1,h2,n,h3⟩:=(show bK P w H h a (.tup (ks.map kV)) from ok a _ e);exact⟨o,LD.toArray,n,h1,h2,h3,by simpa using rL r⟩
theorem vf {LC:List (List Key×V)}(ok:iu P w H h)(e:Rd H a (.dT LC)):LC.length<=sizeLine/\(a==sysModules)=false /\
  ∃xs,KT H LC xs/\h.DictOfH (tupleKind (cy P w)) a xs:=by
 obtain⟨z,y,xs,r,o,es,ep,h1,h2,h3,h4,h5⟩:=(show bK P w H h a (.dT LC) from FJ ok e);refine⟨z,y,xs,r,o,es,ep,h1,h2,h3,h4,λx hx=>?_,h5⟩;have all:∀{l:List (List Key×V)} {m:List (List Key×Addr×Value)},KT H l m->∀x∈m,(tupleKind (cy P w)).is h x.1 x.2.1:=by
  intro l m q
  induction q with
  |nil=>intro x hx;exact nomatch hx
  |@cons p q ps qs hq t ih =>
   intro x hx;rcases Xx.mp hx with e|hx
   · subst e;exact oY ok (by rw[←hq.1];exact hq.2.1)
   · exact ih x hx
 exact all r x hx
theorem IM {LC:List (List Key×V)}(ok:iu P w H h)(e:H a=some (.dT LC)):LC.length<=sizeLine/\(a==sysModules)=false /\
  ∃xs,KT H LC xs/\h.DictOfH (tupleKind (cy P w)) a xs:=vf ok (.inl e)
end
def gu (H:Hp)(a:Addr)(y:V)(r:Option V):Prop :=
 (∃LC k,Rd H a (.dK LC)/\y=kV k/\r=cR LC k)∨∃LC k b,Rd H a (.dT LC)/\y=.ref b/\H b=some (.tup (k.map kV))/\r=cR LC k
def Jt (H:Hp)(a:Addr)(y v:V)(H':Hp):Prop :=
 (∃LC k,H a=some (.dK LC)/\y=kV k/\LC.length < sizeLine/\H'=upd H a (.dK (putK LC k v))) ∨
 ∃LC k b,H a=some (.dT LC)/\y=.ref b/\H b=some (.tup (k.map kV))/\LC.length < sizeLine/\H'=upd H a (.dT (putK LC k v))
theorem gu.k {H:Hp}{a:Addr}{LC:List (Key×V)}{k:Key}(e:H a=some (.dK LC)):gu H a (kV k) (cR LC k):=.inl ⟨LC,k,.inl e,rfl,rfl⟩
theorem gu.t {H:Hp}{a b:Addr}{LC:List (List Key×V)}{k:List Key}(e:H a=some (.dT LC))(eb:H b=some (.tup (k.map kV))):gu H a (.ref b) (cR LC k):=.inr ⟨LC,k,b,.inl e,rfl,eb,rfl⟩
section
variable {X:Cx}{pins:aai}{σ:St}{H:Hp}{s:Shared}{a:Addr}{y v:V}{u r:Value}{o:Option V}{A:Around}{E:aag}
theorem Inv.big (I:Inv X pins σ H s):sysModules < s.heap.objs.size:=by
 have h:mainGlobals < s.heap.objs.size:=(I.mod.glob.keeps I.bk).lt;exact Nat.lt_trans (by decide) h
theorem Ka {Q:aag}(hu:A.units+1 < cLine)(I:Inv X pins σ H s)(g:gu H a y o)(ry:RelV y u)(h:∀s',Inv X pins σ H s'->Q (.bool o.isSome) s') :
  wpAny (model X.prog X.w) A (compareOp .In u (.ref a)) Q E s:=by
 rcases g with ⟨LC,k,e,ey,l⟩|⟨LC,k,b,e,ey,eb,l⟩
 · subst ey;obtain⟨z,hd,vs,rel,dd⟩:=vQ I.bu e;refine wpAny_in_of (pS ry) hd dd.mapOf ?_;rw[←(rel.val k).iC,←l];exact h _ (I.tok _)
 · subst ey;cases (show u=Value.ref b from ry);obtain⟨z,hd,xs,rel,dd⟩:=vf I.bu e;refine wpAny_in_heap (Z9 hu) (oY I.bu eb) hd dd ?_;have q:=(rel.val k).iC;rw[Option.isSome_map] at q;rw[←q,←l];exact h _ (I.tok _)
theorem DZ {Q:aag}(hu:A.units+1 < cLine)(I:Inv X pins σ H s)(g:gu H a y o)(ry:RelV y u)(h:∀s',Inv X pins σ H s'->Q (.bool (!o.isSome)) s') :
  wpAny (model X.prog X.w) A (compareOp .NotIn u (.ref a)) Q E s:=by
 rcases g with ⟨LC,k,e,ey,l⟩|⟨LC,k,b,e,ey,eb,l⟩
 · subst ey;obtain⟨z,hd,vs,rel,dd⟩:=vQ I.bu e;refine wpAny_notIn_of (pS ry) hd dd.mapOf ?_;rw[←(rel.val k).iC,←l];exact h _ (I.tok _)
 · subst ey;cases (show u=Value.ref b from ry);obtain⟨z,hd,xs,rel,dd⟩:=vf I.bu e;refine wpAny_notIn_heap (Z9 hu) (oY I.bu eb) hd dd ?_;have q:=(rel.val k).iC;rw[Option.isSome_map] at q;rw[←q,←l];exact h _ (I.tok _)
theorem yH {h':Heap}{t':Nat}{ob:HO}(I:Inv X pins σ H s)(mu:JE (H a))(hs:Heap.SameBut a s.heap h')(he:∃q,h'.get? a=some q)(new:bK X.prog X.w (upd H a ob) h' a ob) :
  Inv X pins σ (upd H a ob) {s with heap:=h',toks:=t'} :=
 I.write (x:=a) (e:=a) mu (.inl rfl) (λb q hb z=>(hs.2 b hb).trans z) he new
theorem HW {P:Program}{w:World}{H':Hp}{h':Heap}{LC:List (Key×V)}{vs:List (Key×Value)}(z:LC.length<=sizeLine)(hd:(a==sysModules)=false)(rel:KV LC vs)(dd:h'.DictOf (cy P w) a vs) :
  bK P w H' h' a (.dK LC):=⟨z,hd,vs,rel,dd⟩
theorem zD {H':Hp}{Q:Unit->Shared->Prop}(hu:A.units+1 < cLine)(I:Inv X pins σ H s)(g:Jt H a y v H')(ry:RelV y u)(rv:RelV v r)(h:∀s',Inv X pins σ H' s'->Q () s') :
  wpAny (model X.prog X.w) A (setItem (.ref a) u r) Q E s:=by
 rcases g with ⟨LC,k,e,ey,l,eH⟩|⟨LC,k,b,e,ey,eb,l,eH⟩
 · subst ey eH;obtain⟨z,hd,vs,rel,dd⟩:=Im I.bu e;have hz:vs.length<=sizeLine:=by rw[←rel.length];exact z
   have hl:(putK LC k v).length<=sizeLine:=by have:=gM LC k v;omega
   refine wpAny_setItem_pairs (hsz:=hz) (pS ry) dd λh' PR hs=>h _ ?_;have he:∃q,h'.get? a=some q:=let ⟨q,_,_,hq,_⟩:=PR;⟨q,hq⟩;exact yH I (by rw[e];exact True.intro) hs he (HW hl hd (rel.put k rv) PR)
 · subst ey eH;cases (show u=Value.ref b from ry);obtain⟨z,hd,xs,rel,dd⟩:=IM I.bu e;have hz:xs.length<=sizeLine:=by rw[←Paired.length rel];exact z
   have hl:(putK LC k v).length<=sizeLine:=by have:=gM LC k v;omega
   refine wpAny_setItem_heap (hsz:=hz) (Z9 hu) (oY I.bu eb) dd λh' PR hs=>h _ ?_;obtain⟨q,es,ep,hq,h2,h3,h4,_,h5⟩:=PR;refine yH I (by rw[e];exact True.intro) hs ⟨q,hq⟩ ⟨hl,hd,_,(rel.put k eb rv).keeps λc ys ec=>?_,q,es,ep,hq,h2,h3,h4,h5⟩;rw[aq (dE ec e (λz=>nomatch z))];exact ec
end
section
variable {X:Cx}{pins:aai}{σ:St}{H:Hp}{s:Shared}{a:Addr}{LC:List (Key×V)}{k:Key}{u:Value}{A:Around}{E:aag}
end
def Jz (i:Expr):Prop:=∀ov iv,subscripted i false ov iv=operate [ov,iv] (getItem ov iv)
theorem Dj {prog:Program}{w:World}{A:Around}{E:aag}{s:Shared}{env:Env}{value slice:Expr}{pos:Pos}{T id:String}{Q:aag}
  (hl:typeLookup (.type T) "__getitem__"=pure (some (.builtin id)))(hs:Jz slice)
  (h:wpAny (model prog w) A (eval value env) (λo s₁=>wpAny (model prog w) A (eval slice env) (λi s₂=>s₂.TypeIs o T/\wpAny (model prog w) A (getItem o i) Q E s₂) E s₁) E s) :
  wpAny (model prog w) A (eval (.Subscript value slice pos) env) Q E s:=by
 refine Subscript_ (YL h (λo s₁ h₁=>YL h₁ (λi s₂ h₂=>?_) λ_ _ x=>x) λ_ _ x=>x);obtain⟨hT,h₂⟩:=h₂;unfold subscriptTail;refine Xr ?_;rw[getitemInPython_of_ne hT.not_modules];refine Xr (wpAny_specialOf hT hl ?_);have fin:wpAny (model prog w) A (subscripted slice false o i) (λr s₃=>wpAny (model prog w) A (letTemporaryGo value o r >>= λ_=>pure r) Q E s₃) E s₂:=by
  rw[hs o i];exact wpAny_operating (YL h₂ (λr s₃ h₃=>Xr (wpAny_letTemporaryGo (Xz h₃))) λ_ _ x=>x)
 first
  |exact Xz (Xr fin)
  |exact Xr (Xz (Xr fin))
  |exact Xr fin
def IF (ty td:TE):TE:=λσ H Q=>ty σ H λy H1=>td σ H1 λx H2=>∃a o,x=.ref a/\gu H2 a y o/\Q (.bl o.isSome) H2
def E2 (ty td:TE):TE:=λσ H Q=>ty σ H λy H1=>td σ H1 λx H2=>∃a o,x=.ref a/\gu H2 a y o/\Q (.bl (!o.isSome)) H2
def JR (td ty tv:TE):TS:=λD σ H=>tv σ H λv H1=>td σ H1 λx H2=>ty σ H2 λy H3=>∃a H4,x=.ref a/\Jt H3 a y v H4/\D.nx σ H4
section
variable {X:Cx}{o i e value:Expr}{pos pos' LV:Pos}{td ty tv:TE}
theorem tK (hu:X.A.units+1 < cLine) (hi:PE X i ty) (ho:PE X o td):PC X .In i o (IF ty td):=by
 intro pins s σ H Q I h;refine bA (hi pins s σ H _ I h) λiv s1 ⟨y,H1,I1,ry,q1⟩=>bA (ho pins s1 σ H1 _ I1 q1) λu s2 ⟨x,H2,I2,rx,a,ov,ex,g,q2⟩=>?_;subst ex;obtain rfl:u=Value.ref a:=rx;exact Ka hu I2 g ry λs3 I3=>⟨.bl ov.isSome,H2,I3,rfl,q2⟩
theorem Ag (hu:X.A.units+1 < cLine)(hi:PE X i ty)(ho:PE X o td):PC X .NotIn i o (E2 ty td):=by
 intro pins s σ H Q I h;refine bA (hi pins s σ H _ I h) λiv s1 ⟨y,H1,I1,ry,q1⟩=>bA (ho pins s1 σ H1 _ I1 q1) λu s2 ⟨x,H2,I2,rx,a,ov,ex,g,q2⟩=>?_;subst ex;obtain rfl:u=Value.ref a:=rx;exact DZ hu I2 g ry λs3 I3=>⟨.bl (!ov.isSome),H2,I3,rfl,q2⟩
theorem mL (hu:X.A.units+1 < cLine)(ho:PE X o td)(hi:PE X i ty)(hv:PE X value tv)(hs:swapsWith value (some (.Subscript o i pos')) pos.line X.env=pure false) :
  PS X (.Assign [.Subscript o i pos'] value pos) (JR td ty tv):=by
 intro pins s σ H D I h;refine wpAny_Assign_Subscript (bA (hv pins s σ H _ I h) λr s1 ⟨v,H1,I1,rv,q1⟩=>bA (ho pins s1 σ H1 _ I1 q1) λu s2 ⟨x,H2,I2,rx,q2⟩=>bA (hi pins s2 σ H2 _ I2 q2) λiv s3 ⟨y,H3,I3,ry,a,H4,ex,g,q3⟩=>?_) hs;subst ex;obtain rfl:u=Value.ref a:=rx;exact zD hu I3 g ry rv λs4 I4=>⟨σ,H4,I4,q3⟩
end
theorem A1 {P:Program}{w:World}{H:Hp}(h:Heap)(hb:sysModules < h.objs.size):bK P w H (h.push {cls:=.type "dict",data:=.dict #[]}) h.objs.size (.dK []) :=
 ⟨X1 _,X2.mpr (Z7 (X6 hb)),[],.nil,Heap.DictOf.new h⟩
theorem B2 {P:Program}{w:World}{H:Hp}(h:Heap)(hb:sysModules < h.objs.size):bK P w H (h.push {cls:=.type "dict",data:=.dict #[]}) h.objs.size (.dT []) :=
 ⟨X1 _,X2.mpr (Z7 (X6 hb)),[],.nil,_,#[],0,XJ _ rfl,⟨rfl,rfl,rfl⟩,rfl,rfl,List.nodup_nil⟩
def Ia:TE:=λ_ H Q=>∀p,H p=none->Q (.ref p) (upd H p (.dK []))
def GR:TE:=λ_ H Q=>∀p,H p=none->Q (.ref p) (upd H p (.dT []))
section
variable {X:Cx}{pos:Pos}
theorem pJ:PE X (.Dict [] [] pos) Ia:=λpins s σ H Q I h =>
 wpAny_Dict_empty ⟨.ref s.heap.objs.size,_,I.laid (a:=s.heap.objs.size) (o:=.dK []) (t':=s.toks) (λ_ _ q=>Xw _ q) (XC _) (A1 s.heap I.big),rfl,h _ (I.bu.fresh (XC _))⟩
theorem pN:PE X (.Dict [] [] pos) GR:=λpins s σ H Q I h =>
 wpAny_Dict_empty ⟨.ref s.heap.objs.size,_,I.laid (a:=s.heap.objs.size) (o:=.dT []) (t':=s.toks) (λ_ _ q=>Xw _ q) (XC _) (B2 s.heap I.big),rfl,h _ (I.bu.fresh (XC _))⟩
end
structure M2 (X:Cx)(o:Expr)(m:Str)(apos:Pos)(e f:Expr)(LJ:Pos):Prop where
 base:attributeBase o m X.env (eval o X.env)=eval o X.env
 v9:((backTo LJ (starEach [e,f] X.env)).all (λx=>!x.1)&&(backToKw LJ (keywordEach [] X.env)).all (λx=>x.1.isSome)
  && decide (([e,f]:List Expr).length+([]:List Keyword).length+(if ([]:List Keyword).isEmpty then 0 else 1) < 30))=true
 line:(apos.endLine==LJ.line)=true
 trees:backTo LJ (starEach [e,f] X.env)=[(false,eval e X.env),(false,eval f X.env)]
def Lc (H:Hp)(a:Addr):Prop:=(∃LC,Rd H a (.dK LC))∨∃LC,Rd H a (.dT LC)
theorem HX {X:Cx}{pins:aai}{σ:St}{H:Hp}{s:Shared}{a:Addr}(I:Inv X pins σ H s)(d:Lc H a) :
  s.TypeIs (.ref a) "dict"/\(∀b,Value.ref a=.ref b->∃ob,s.heap.get? b=some ob/\ob.dict=none)/\(a==sysModules)=false:=by
 rcases d with ⟨LC,e⟩|⟨LC,e⟩
 · obtain⟨_,hd,vs,_,dd⟩:=vQ I.bu e;refine⟨dd.typeIs,λb q=>?_,hd⟩;cases q;obtain⟨ob,_,_,h1,h2,_⟩:=dd;exact⟨ob,h1,h2.2.1⟩
 · obtain⟨_,hd,xs,_,dd⟩:=vf I.bu e;refine⟨dd.typeIs,λb q=>?_,hd⟩;cases q;obtain⟨ob,_,_,h1,h2,_⟩:=dd;exact⟨ob,h1,h2.2.1⟩
section
variable {X:Cx}{pins:aai}{σ:St}{H:Hp}{s:Shared}{a:Addr}{y d:V}{u r:Value}{o:Option V}{A:Around}{E:aag}
theorem HJ {Q:aag} (hu:A.units+1 < cLine) (I:Inv X pins σ H s) (g:gu H a y o) (ry:RelV y u) (rd:RelV d r) (h:∀w' s',Inv X pins σ H s'->RelV (o.getD d) w'->Q w' s') :
  wpAny (model X.prog X.w) A (call (.builtin "dict.get") [.ref a,u,r]) Q E s:=by
 rcases g with ⟨LC,k,e,ey,l⟩|⟨LC,k,b,e,ey,eb,l⟩
 · subst ey;obtain⟨z,hd,vs,rel,dd⟩:=vQ I.bu e;refine call_meetsIn PySem.F.slot_dict_get dd.typeIs PySem.F.entry_dict_get (PySem.F.args_dict_get_3 _ _ _) (meets_dict_get_default (cy X.prog X.w) a (pS ry) hd r) ⟨_,dd.mapOf,h _ _ (I.tok _) ?_⟩;rw[l];exact (rel.val k).getD rd
 · subst ey;cases (show u=Value.ref b from ry);obtain⟨z,hd,xs,rel,dd⟩:=vf I.bu e;refine call_meetsIn PySem.F.slot_dict_get dd.typeIs PySem.F.entry_dict_get (PySem.F.args_dict_get_3 _ _ _) (meetsH_dict_get_default (tupleKind (cy X.prog X.w)) a b hd r) ⟨Z9 hu,k,xs,oY I.bu eb,dd,h _ _ (I.tok _) ?_⟩;rw[l];exact (rel.val k).getD rd
end
def HQ (td ty tx:TE):TE:=λσ H Q=>td σ H λx H1=>∃a,x=.ref a/\Lc H1 a/\ty σ H1 λy H2=>tx σ H2 λz H3=>∃o,gu H3 a y o/\Q (o.getD z) H3
section
variable {X:Cx}{o e f:Expr}{apos LJ:Pos}{td ty tx:TE}
theorem vS (hu:X.A.units+1 < cLine) (ho:PE X o td) (he:PE X e ty) (hf:PE X f tx) (m:M2 X o "get" apos e f LJ):PE X (.Call (.Attribute o "get" apos) [e,f] [] LJ) (HQ td ty tx):=by
 intro pins s σ H Q I h;refine wpAny_Call_method m.base m.v9 m.line PySem.F.plainAttrs_dict PySem.F.slot_dict_get PySem.F.type_dict_get (bA (ho pins s σ H _ I h) λu s1 ⟨x,H1,I1,rx,a,ex,d,q1⟩=>?_);subst ex;obtain rfl:u=Value.ref a:=rx;obtain⟨t1,t2,_⟩:=HX I1 d;refine⟨t1,t2,?_⟩;rw[m.trees];refine ZT rfl (Calls.evalArgs_plain (aac (bA (he pins s1 σ H1 _ I1 q1) λiv s2 ⟨y,H2,I2,ry,q2⟩ =>
  aac (bA (hf pins s2 σ H2 _ I2 q2) λfv s3 ⟨z,H3,I3,rz,ov,g,q3⟩=>Calls.spliced_nil ?_))))
 exact HJ hu I3 g ry rz λw' s4 I4 NN=>⟨_,H3,I4,NN,q3⟩
end
section
variable {X:Cx}{pins:aai}{σ:St}{H:Hp}{s:Shared}{a:Addr}{LC:List (Key×V)}{A:Around}{E:aag}
end
section
variable {X:Cx}{pins:aai}{σ:St}{H:Hp}{s:Shared}{a:Addr}{y:V}{u:Value}{A:Around}{E:aag}
end
section
variable {prog:Program}{w:World}{A:Around}{E:aag}
end
section
variable {X:Cx}
end
section
variable {X:Cx}{pins:aai}{σ:St}{H:Hp}{s:Shared}{h':Heap}
theorem Inv.Dd {t':Nat} {ch:List Addr} (I:Inv X pins σ H s) (k:∀b o,b∉ch->s.heap.get? b=some o->h'.get? b=some o) (hf:∀b∈ch,nj X pins H b):Inv X pins σ H {s with heap:=h',toks:=t'}:=by
 have Nj:∀b u,H b=some u->b∉ch:=λb u e z=>by
  have q:=(hf b z).1;rw[q] at e;cases e
 refine I.step (g':=s.gens) (d':=s.drawn) (ch:=ch) (λb hb=>⟨(hf b hb).2.2.2.1,(hf b hb).2.1,(hf b hb).2.2.2.2.1,(hf b hb).2.2.2.2.2⟩) (λb o _ _ hc e _=>k b o hc e) (λb o _ _ hc e _=>⟨o.slots,k b o hc e⟩)
  (λ_ _ _ _ n=>n) (λb o hc e=>⟨o,k b o hc e⟩) (λ_ _ e=>e) (λ_ _ _ e=>e) (λb ps e=>⟨#[],by rw[e];simp⟩) (λm hm=>?_) (λb u e=>?_) I.bare
 · obtain⟨o,es,ep,ho,r⟩:=hm;exact⟨o,es,ep,k _ o (λz=>(hf _ z).2.1 rfl) ho,r⟩
 · refine (I.bu b u e).kI (λc v hc q=>k c v ?_ q) (λ_ q=>q) λ_ _ q=>q;rcases hc with z|z
   · rw[z];exact Nj b u e
   · exact Nj c _ z
theorem Inv.sC {t':Nat}{ch:List Addr}{T:Addr}{ob:HO}(I:Inv X pins σ H s)(k:∀b o,b∉ch->s.heap.get? b=some o->h'.get? b=some o)(hf:∀b∈ch,nj X pins H b)(hT:s.heap.objs.size<=T)
  (new:bK X.prog X.w (upd H T ob) h' T ob):Inv X pins σ (upd H T ob) {s with heap:=h',toks:=t'}:=by
 have hn:H T=none:=I.bu.fresh hT;have Nj:∀b u,H b=some u->b∉ch:=λb u e z=>by
  have q:=(hf b z).1;rw[q] at e;cases e
 refine I.step (g':=s.gens) (d':=s.drawn) (ch:=ch) (λb hb=>⟨(hf b hb).2.2.2.1,(hf b hb).2.1,(hf b hb).2.2.2.2.1,(hf b hb).2.2.2.2.2⟩) (λb o _ _ hc e _=>k b o hc e) (λb o _ _ hc e _=>⟨o.slots,k b o hc e⟩)
  (λb o _ e n=>?_) (λb o hc e=>⟨o,k b o hc e⟩) (λb xs e=>?_) (λb o u e=>?_) (λb ps e=>⟨#[],?_⟩) (λm hm=>?_) (λb u e=>?_) I.bare
 · rw[aq (X6 (X_ (XG e) hT))];exact n
 · rw[aq (ao e hn)];exact e
 · rw[aq (ao e hn)];exact e
 · rw[aq (ao e hn),e];simp
 · obtain⟨o,es,ep,ho,r⟩:=hm;exact⟨o,es,ep,k _ o (λz=>(hf _ z).2.1 rfl) ho,r⟩
 · by_cases hb:b=T
   · subst hb;rw[ae] at e;cases e;exact new
   · rw[aq hb] at e;refine (I.bu b u e).kI (λc v hc q=>k c v ?_ q) (λc q=>by rw[aq (ao q hn)];exact q) λc xs q=>by rw[aq (ao q hn)];exact q
     rcases hc with z|z
     · rw[z];exact Nj b u e
     · exact Nj c _ z
end
section
variable {X:Cx}
theorem wO {tg:Expr} {pins:aai} {σ:St} {H:Hp} {s:Shared} {R:It->Hp->Prop} {J:It} {tn:Nat->Heap->Prop} {tk:Nat} (I:Inv X pins σ H s) (o:Obj)
  (T:Turn X.prog X.w X.K tg J [s.heap.objs.size] s.heap.objs.size tn) (st:tn 0 (s.heap.push o)) (q:R J H):J5 X pins σ tg R (.ref s.heap.objs.size) {s with heap:=s.heap.push o,toks:=tk}:=by
 refine⟨s.heap.objs.size,[s.heap.objs.size],tn,J,H,rfl,I.kept λb ob e=>Xw _ e,T,st,λb hb=>?_,q⟩;have e:b=s.heap.objs.size:=by simpa using hb
 subst e;exact I.xq (XC _) (I.bu.fresh (XC _))
end
def Ie (lo c:Int)(n:Nat):It:=⟨λi _=>i < n,λi H x H'=>H'=H/\x=.int (lo+(i:Nat)*c),λi _=>n<=i⟩
theorem vg {P:Program}{w:World}{K:aaf}{tg:Expr}(it:Addr)(lo c:Int)(n:Nat):Turn P w K tg (Ie lo c n) [it] it (λi h=>IsRangeIter h it (lo+(i:Nat)*c) ((n:Int) - (i:Nat)) c) where
 mem:=by simp
 obj:=λi h st b hb=>by
  have e:b=it:=by simpa using hb
  subst e;exact⟨_,st,λv z=>nomatch z⟩
 keep:=λi h h' st k=>k it (by simp) _ st
 item:=by
  intro X hP hw hK hc i pins s σ H E I hf st hg;subst hP hw hK;obtain⟨f0,f1,f2,f3,f4,f5⟩:=hf it (by simp);have W:=Walks.range (prog:=X.prog) (w:=X.w) (I.ok.hd hc) it lo c n;refine W.item i s _ _ hg st λv h' tk hv Mp kk=>?_;obtain⟨t,rfl⟩:=hv;have I1:Inv X pins σ H {s with heap:=h',toks:=tk}:=I.turned (λb o hb e=>kk b o (by simpa using hb) e) f0 f1 f3 f4 f5;exact⟨_,rfl,vE (s:={s with heap:=h',toks:=tk}) (n:="range_iterator") Mp rfl rfl (by decide) ⟨.int (lo+(i:Nat)*c),H,I1,⟨t,rfl⟩,⟨rfl,rfl⟩,Mp,λb hb=>(hf b hb).1⟩⟩
 done:=by
  intro X hP hw hK hc i pins s σ H E I hf st hg;subst hP hw hK;obtain⟨f0,f1,f2,f3,f4,f5⟩:=hf it (by simp);exact wpAny_pyNext_range_end (I.ok.hd hc) st (by have:n<=i:=hg;omega) λh' eb=>⟨rfl,I.turned (t':=s.toks) (λb o hb e=>eb b o hb e) f0 f1 f3 f4 f5⟩
 self:=λA i s Q E st h=>wpAny_pyIter_rangeiter st h
def Jf (i j c:Int)(n:Nat):Prop:=c≠0/\c.natAbs < 1073741824/\Builtin.Range.small i j c=true/\Builtin.Range.rangeSize i j c=n
theorem Jf.neg {i j:Int}(ha:-(2 ^ 62)<=i)(Q5:i < 2 ^ 62)(hb:-(2 ^ 62)<=j)(PU:j < 2 ^ 62):Jf i j (-1) (i - j).toNat :=
 ⟨by decide,by decide,PySem.W.small_down ha Q5 hb PU,PySem.W.rangeSize_downNat i j⟩
def Fv (ta:TA):TI:=λσ H R=>ta σ H λvs H1=>∃(i j c:Int) (n:Nat),vs=[.int i,.int j,.int c]/\Jf i j c n/\R (Ie i c n) H1
section
variable {X:Cx}{tg:Expr}
theorem rb {a b c:Expr} {ta:TA} {p pos:Pos} (hg:Gl X "range") (hm:X.mg "range"=none) (ha:PA X [a,b,c] ta)
  (hs:starEach [a,b,c] X.env=(false,eval a X.env)::starEach [b,c] X.env:=by rfl) (LN:(backTo pos (starEach [b,c] X.env)).any (·.1)=false:=by rfl) :
  PI X tg (.Call (.Name "range" p) [a,b,c] [] pos) (Fv ta):=by
 intro pins s σ H R I h;refine Call_ (lh I hg hm boot_range (YV (bA (ha pos pins s σ H _ I h) λus s1 ⟨vs,H1,I1,r1,q1⟩=>?_) hs LN));obtain⟨i,j,k,n,e,⟨c0,c1,c2,c3⟩,q⟩:=q1;subst e;cases r1 with
 |cons r rr =>
  cases rr with
  |cons r' rr =>
   cases rr with
   |cons Vt rr =>
    cases rr;obtain⟨t,rfl⟩:=r;obtain⟨t',rfl⟩:=r';obtain⟨Vu,rfl⟩:=Vt;refine call_range_3 c0 ?_ (.inl (PyProof.noPylong_small c1));refine wpAny_pyIter_range (IsRange.new ..) c2 ?_;have I2:Inv X pins σ H1 {s1 with heap:=s1.heap.push {cls:=.type "range",data:=.fields #[.int i t,.int j t',.int k Vu]}}:=I1.kept (t':=s1.toks) λb o e=>Xw _ e;refine wO (tk:=s1.toks) I2 _ (vg _ i k n) ?_ q;have e1:i+((0:Nat):Int)*k=i:=by simp
    have e2:(n:Int) - ((0:Nat):Int)=Builtin.Range.rangeSize i j k:=by rw[c3];simp
    show IsRangeIter _ _ (i+((0:Nat):Int)*k) ((n:Int) - ((0:Nat):Int)) k;rw[e1,e2];exact XJ _ rfl
end
theorem pE {lo c:Int}{n:Nat}{g:TG}{tb:TS}{D:Ends}{σ:St}{H:Hp}(Pv:Nat->St->Hp->Prop)(h0:Pv 0 σ H)
  (hs:∀i σ H,i < n->Pv i σ H->g (.int (lo+(i:Nat)*c)) σ H λσ2 H2=>tb {D with nx:=Pv (i+1),ct:=Pv (i+1),bk:=D.nx} σ2 H2)(hd:∀σ H,Pv n σ H->D.nx σ H) :
  ∃W:Nat->Nat->St->Hp->Prop,(∃m,W 0 m σ H)/\∀i m σ H,W i m σ H ->
   ((Ie lo c n).stop i H/\D.nx σ H)∨((Ie lo c n).go i H/\∃N:St->Hp->Prop,(∀σ' H',N σ' H'->∃m',m' < m/\W (i+1) m' σ' H')/\∀x H',(Ie lo c n).vZ i H x H'->g x σ H' λσ2 H2=>tb {D with nx:=N,ct:=N,bk:=D.nx} σ2 H2):=by
 refine⟨λi m σ H=>m=n - i/\i<=n/\Pv i σ H,⟨n,by simp,X1 _,h0⟩,?_⟩;rintro i m σ H ⟨rfl,hi,p⟩;by_cases LI:i < n
 · refine .inr ⟨LI,Pv (i+1),λσ' H' p'=>⟨n - (i+1),by omega,rfl,LI,p'⟩,λx H' y=>?_⟩;obtain⟨e,y⟩:=y;subst e y;exact hs i σ _ LI p
 · have e:i=n:=by omega
   subst e;exact .inl ⟨XC _,hd σ H p⟩
section
variable {X:Cx}{tg:Expr}
end
def Jw (x:Str):It:=⟨λi _=>i < x.cps.size,λi H v H'=>H'=H/\∃c,x.cps[i]?=some c/\v=.str ⟨#[c]⟩,λi _=>x.cps.size<=i⟩
theorem vj {P:Program}{w:World}{K:aaf}{tg:Expr}(it:Addr)(x:Str)(t:Tok)(ty:String)(Oa:ty="str_ascii_iterator"∨ty="str_iterator") :
  Turn P w K tg (Jw x) [it] it (λi h=>h.IsStrIter it ty x t i) where
 mem:=by simp
 obj:=λi h st b hb=>by
  have e:b=it:=by simpa using hb
  subst e;obtain⟨o,e,c,d⟩:=st;exact⟨o,e,λv z=>by rw[d] at z;cases z⟩
 keep:=λi h h' st k=>let ⟨o,ho,r⟩:=st;⟨o,k it (by simp) o ho,r⟩
 item:=by
  intro X hP hw hK hc i pins s σ H E I hf st hg;subst hP hw hK;obtain⟨f0,f1,f2,f3,f4,f5⟩:=hf it (by simp);have W:Walks X.prog X.w X.A it [it] [it] x.cps.size (SignAt x) (λi h=>h.IsStrIter it ty x t i):=by
   rcases Oa with e|e
   · rw[e];exact Walks.strAscii (I.ok.hd hc) it x t
   · rw[e];exact Walks.strWide (I.ok.hd hc) it x t
  have MU:["enumerate","zip","dict_itemiterator","dict_reverseitemiterator","odict_iterator","itertools.zip_longest","itertools.pairwise"].contains ty=false:=by
   rcases Oa with e|e
   · rw[e];decide
   · rw[e];decide
  refine W.item i s _ _ hg st λv h' tk hv Mp kk=>?_;obtain⟨c,u,Vv,rfl⟩:=hv;have I1:Inv X pins σ H {s with heap:=h',toks:=tk}:=I.turned (λb o hb e=>kk b o (by simpa using hb) e) f0 f1 f3 f4 f5;obtain⟨oi,e,cc,dd⟩:=id Mp;exact⟨_,rfl,vE (s:={s with heap:=h',toks:=tk}) e cc dd MU ⟨.str ⟨#[c]⟩,H,I1,⟨u,rfl⟩,⟨rfl,c,Vv,rfl⟩,Mp,λb hb=>(hf b hb).1⟩⟩
 done:=by
  intro X hP hw hK hc i pins s σ H E I hf st hg;subst hP hw hK;obtain⟨f0,f1,f2,f3,f4,f5⟩:=hf it (by simp);have hx:x.cps[i]?=none:=Array.getElem?_eq_none hg;rcases Oa with e|e
  · rw[e] at st;exact wpAny_pyNext_ascii_end (I.ok.hd hc) st hx λh' eb=>⟨rfl,I.turned (t':=s.toks) (λb o hb e=>eb b o hb e) f0 f1 f3 f4 f5⟩
  · rw[e] at st;exact wpAny_pyNext_wide_end (I.ok.hd hc) st hx λh' eb=>⟨rfl,I.turned (t':=s.toks) (λb o hb e=>eb b o hb e) f0 f1 f3 f4 f5⟩
 self:=λA i s Q E st h=>by
  rcases Oa with e|e
  · rw[e] at st;exact wpAny_pyIter_striter_ascii st h
  · rw[e] at st;exact wpAny_pyIter_striter_wide st h
def J6 (te:TE):TI:=λσ H R=>te σ H λv H1=>∃x,v=.str x/\R (Jw x) H1
theorem HA {X:Cx}{tg e:Expr}{te:TE}(he:PE X e te):PI X tg e (J6 te):=by
 intro pins s σ H R I h;refine bA (he pins s σ H _ I h) λv s1 ⟨y,H1,I1,r1,x,ex,q⟩=>?_;subst ex;obtain⟨t,rfl⟩:=r1;cases ha:x.cps.all (· < 128)
 · exact wpAny_pyIter_wide ha (wO (tk:=s1.toks) I1 _ (vj _ x t "str_iterator" (.inr rfl)) ⟨_,XJ _ rfl,rfl,rfl⟩ q)
 · exact wpAny_pyIter_ascii ha (wO (tk:=s1.toks) I1 _ (vj _ x t "str_ascii_iterator" (.inl rfl)) ⟨_,XJ _ rfl,rfl,rfl⟩ q)
section
variable {prog:Program}{w:World}{A:Around}{E:aag}{s:Shared}
theorem Ah {d:Addr} {o:Obj} {es:Array DictEntry} {ep:Nat} {Q:aag} (hd:(d==sysModules)=false) (ho:s.heap.get? d=some o) (hc:o.ExactDict) (OO:o.data=.dict es ep)
  (hQ:Q (.ref s.heap.objs.size) {s with heap:=s.heap.push {cls:=.type "dict_keyiterator",data:=.fields #[.ref d,.int 0 0,.int es.size 0,.int ep 0]}}) :
  wpAny (model prog w) A (pyIter (.ref d)) Q E s:=by
 have hT:s.TypeIs (.ref d) "dict":=⟨o,ho,hc.1⟩;refine wpAny_pyIter_slot hT F.slot_dict_iter (YQ F.slot_dict_iter hT F.entry_dict_iter ?_ (F.args_dict_iter_1 _));unfold Builtin.«dict.__iter__»;refine Xr ?_;unfold Builtin.Dict.dictSlotNone;refine Xr (wpAny_notOrdered_dict hT ?_);show wpAny _ _ (pure (Value.ref d)) _ _ s;refine Xz ?_;show wpAny _ _ (Builtin.Dict.showsAll d >>= _) _ _ s;unfold Builtin.Dict.showsAll;rw[Xu (by rw[hd];exact XU)];refine Xr (Xz ?_);refine Xr (wpAny_dictEntries ho OO ?_);refine Xr (wpAny_dictEpoch ho OO ?_);refine Xr (YW (Xz ⟨_,rfl,"dict_keyiterator",_,⟨_,XJ _ rfl,rfl⟩,Y5.lookup,?_⟩));simpa [rawInt] using hQ
theorem qO {it d:Addr}{i n ep:Nat}{od:Obj}{es:Array DictEntry}{en:DictEntry}{Q:Option Value->Shared->Prop}(hit:s.heap.IsKeyIter it d i n ep)(OP:s.heap.get? d=some od)(OQ:od.data=.dict es ep)
  (hsz:es.size=n)(hx:es[i]?=some en)(hQ:∀h',h'.IsKeyIter it d (i+1) n ep->Heap.SameBut it s.heap h'->Q (some en.key) {s with heap:=h'}):wpAny (model prog w) A (pyNext (.ref it)) Q E s:=by
 obtain⟨o,ho,hc,hd⟩:=id hit;unfold pyNext;refine Xr (wpAny_attempt (YJ (name:=Str.ofString "__next__") hit.typeIs Y5
  (YQ Y5 hit.typeIs F.entry_dict_keyiterator_next ?_ (F.args_dict_keyiterator_next_1 _))))
 refine Xr (Xz ?_);refine Xr ?_;refine Xr ?_
 first|refine Xr (Zm hit.typeIs (Xz ?_))|refine Xr (ZF hit.typeIs (Xz ?_))
 refine Xr (wpAny_fieldsOf ho hd ?_);have NR:Builtin.Dict_items.ownsTuple "dict_keyiterator"=false:=by decide
 simp only[NR,YU,Zs];show wpAny _ _ (if (Value.ref d==Value.none)=true then _ else _) _ _ s;rw[Xu (show ¬((Value.ref d==Value.none)=true) from XU)];refine Xr (Xz ?_);refine Xr (wpAny_dictEntries OP OQ ?_);rw[Xu (by rw[hsz];simp)];refine Xr (Xz ?_);refine Xr (wpAny_dictEpoch OP OQ ?_);rw[Xu (by simp)];refine Xz ?_;obtain⟨Q6,Oc⟩:=Array.getElem?_eq_some_iff.mp hx;simp only[show ¬((i:Int) < 0) from by omega,Zs,Ye,Array.getElem?_eq_getElem Q6];refine Xr ?_
 first|refine Xr (Zm hit.typeIs (Xz ?_))|refine Xr (ZF hit.typeIs (Xz ?_))
 refine Xr (wpAny_isOneOf_keyiter hit.typeIs ?_);show wpAny _ _ (setField (.ref it) 1 (rawInt ((i:Int)+1)) >>= _) _ _ s;refine Xr (wpAny_setField ho hd (by simp) ?_);have M5:(s.heap.update it (Obj.mapFields (·.setIfInBounds 1 (rawInt ((i:Int)+1))))).IsKeyIter it d (i+1) n ep :=
  ⟨_,Yt _ ho (Obj.isFreed_of_fields (Obj.data_mapFields hd _)),(Obj.cls_mapFields ..).trans hc,by rw[Obj.data_mapFields hd];simp[rawInt]⟩
 refine Xr (Zv ?_);refine Xr (wpAny_isOneOf_keyiter (s:={s with heap:=s.heap.update it (Obj.mapFields (·.setIfInBounds 1 (rawInt ((i:Int)+1))))}) M5.typeIs ?_);show wpAny _ _ (pure es[i].key) _ _ _;rw[Oc];exact Xz (Xz ⟨_,rfl,Xz (hQ _ M5 (XW ..))⟩)
theorem sY {it d:Addr}{i n ep:Nat}{od:Obj}{es:Array DictEntry}{Q:Option Value->Shared->Prop}(hh:A.handled=none)(hit:s.heap.IsKeyIter it d i n ep)(OP:s.heap.get? d=some od)(OQ:od.data=.dict es ep)
  (hsz:es.size=n)(Vw:n<=i)(hQ:∀h',Heap.ExtBut it s.heap h'->Q none {s with heap:=h'}):wpAny (model prog w) A (pyNext (.ref it)) Q E s:=by
 obtain⟨o,ho,hc,hd⟩:=id hit;unfold pyNext;refine Xr (wpAny_attempt (YJ (name:=Str.ofString "__next__") hit.typeIs Y5
  (YQ Y5 hit.typeIs F.entry_dict_keyiterator_next ?_ (F.args_dict_keyiterator_next_1 _))))
 refine Xr (Xz ?_);refine Xr ?_;refine Xr ?_
 first|refine Xr (Zm hit.typeIs (Xz ?_))|refine Xr (ZF hit.typeIs (Xz ?_))
 refine Xr (wpAny_fieldsOf ho hd ?_);have NR:Builtin.Dict_items.ownsTuple "dict_keyiterator"=false:=by decide
 simp only[NR,YU,Zs];show wpAny _ _ (if (Value.ref d==Value.none)=true then _ else _) _ _ s;rw[Xu (show ¬((Value.ref d==Value.none)=true) from XU)];refine Xr (Xz ?_);refine Xr (wpAny_dictEntries OP OQ ?_);rw[Xu (by rw[hsz];simp)];refine Xr (Xz ?_);refine Xr (wpAny_dictEpoch OP OQ ?_);rw[Xu (by simp)];refine Xz ?_;have Q7:es.size<=i:=by rw[hsz];exact Vw
 simp only[show ¬((i:Int) < 0) from by omega,Zs,Ye,Array.getElem?_eq_none Q7];refine Xr ?_
 first|refine Xr (Zm hit.typeIs (Xz ?_))|refine Xr (ZF hit.typeIs (Xz ?_))
 show wpAny _ _ (setField (.ref it) 0 .none >>= _) _ _ s;refine Xr (wpAny_setField ho hd (by simp) ?_);show wpAny _ _ (newExc (.type "StopIteration") [] >>= _) _ _ _;refine Xr ?_;simp only[newExc,newTuple];refine Xr (YW ?_ (by size_fits));refine Xr (m:=firstArgMember _ _) (wpAny_of_eq (a:=Value.none) (by first|rfl|(simp only[firstArgMember];rfl)) ?_);refine YW ?_ (by size_fits);simp only[raiseNew];refine Xr (wpAny_handled ?_);rw[show A.in1.handled=none from hh];refine Xr (Xz (wpAny_throw ?_));refine Xr (wpAny_isInstance (T:="StopIteration") (b:=true) ⟨_,XJ _ rfl,rfl⟩ isSubtype_stop ?_);exact Xz (hQ _ (((XW ..).extBut.push _).push _))
end
theorem xg {α β:Type}{G:α->β->Prop}{l₁:List α}{l₂:List β}(h:Paired G l₁ l₂):∀{i:Nat} {a:α},l₁[i]?=some a->∃b,l₂[i]?=some b/\G a b:=by
 induction h with
 |nil=>intro i a e;simp at e
 |@cons a b l₁ l₂ r t ih =>
  intro i a' e;cases i with
  |zero =>
   simp only[List.getElem?_cons_zero,Option.some.injEq] at e;subst e;exact⟨b,rfl,r⟩
  |succ j =>
   simp only[List.getElem?_cons_succ] at e ⊢;exact ih e
section
variable {X:Cx}{pins:aai}{σ:St}{H:Hp}{s:Shared}{d:Addr}{o:Obj}
end
section
variable {P:Program}{w:World}{K:aaf}{tg:Expr}{d:Addr}{o:Obj}{es:Array DictEntry}{ep:Nat}
end
section
variable {X:Cx}{tg e:Expr}{td:TE}{apos LJ:Pos}
end
def FU (K:aaf)(a:Addr):It :=
 ⟨λi H=>∃(xs:List V) (x:V),aP K H a xs/\xs[i]?=some x,λi H v H'=>∃T x,v=.ref T/\H T=none/\H'=upd H T (.tup [.int (i:Nat),x])/\∀xs,aP K H a xs->xs[i]?=some x,λi H=>∃xs:List V,aP K H a xs/\xs.length<=i⟩
theorem Ad {P:Program}{w:World}{K:aaf}{elts:List Expr}{kk:Nat}{LV:Pos}(a e it:Addr) :
  Turn P w K (.Tuple elts kk LV) (FU K a) [e,it] e (λi h=>(∃old,IsEnum h e it ((i:Nat):Int) old)/\h.IsListIter it a i/\e≠it) where
 mem:=by simp
 obj:=λi h st b hb=>by
  obtain⟨⟨old,he⟩,⟨o,ho,hc,hd⟩,_⟩:=st;have e':b=e∨b=it:=by simpa using hb
  rcases e' with z|z
  · rw[z];exact⟨_,he,λv q=>nomatch q⟩
  · rw[z];exact⟨o,ho,λv q=>by rw[hd] at q;cases q⟩
 keep:=λi h h' st k=>let ⟨⟨old,he⟩,hi,LP⟩:=st;⟨⟨old,k e (by simp) _ he⟩,hi.at λo q=>k it (by simp) o q,LP⟩
 item:=by
  intro X hP hw hK hc i pins s σ H E I hf st hg;subst hP hw hK;obtain⟨⟨old,he⟩,hit,LP⟩:=st;obtain⟨xs,x,hq,hx⟩:=hg;obtain⟨LD,rv,p,hz⟩:=I.list hq;obtain⟨u,hu,ru⟩:=rv.get hx;have Sy:e < s.heap.objs.size:=XG he;have LM:it < s.heap.objs.size:=by obtain⟨_,q,_⟩:=hit;exact XG q
  refine wpAny_pyNext_enum_item he hit p.isList (x:=u) (by simpa using hu) LP λh' ho M5 hT hsz hk=>?_;refine⟨_,rfl,wpAny_letOwnedTupleGo_enum (s:={s with heap:=h',toks:=s.toks+1}) ho λNp Vx sb=>?_⟩;have MC:Np.get? s.heap.objs.size=some {cls:=.type "tuple",data:=.seq #[.int i s.toks,u]}:=(sb.2 _ (Nat.ne_of_gt Sy)).trans hT;have new:bK X.prog X.w (upd H s.heap.objs.size (.tup [.int (i:Nat),x])) Np s.heap.objs.size (.tup [.int (i:Nat),x]) :=
   ⟨by show 2<=sizeLine;decide,[.int i s.toks,u],.cons ⟨_,rfl⟩ (.cons ru .nil),⟨_,MC,rfl,_,rfl⟩⟩
  have I1:Inv X pins σ (upd H s.heap.objs.size (.tup [.int (i:Nat),x])) {s with heap:=Np,toks:=s.toks+1} :=
   I.sC (ch:=[e,it]) (λb ob hb q=>(sb.2 b (λz=>hb (by simp[z]))).trans (hk b ob (λz=>hb (by simp[z])) (λz=>hb (by simp[z])) q)) hf (XC _) new
  refine⟨.ref s.heap.objs.size,_,I1,rfl,⟨_,x,rfl,I.bu.fresh (XC _),rfl,λys hy=>by rw[I.qF hy hq];exact hx⟩,⟨⟨u,?_⟩,M5.at λo q=>(sb.2 it (Z7 LP)).trans q,LP⟩,λb hb=>?_⟩
  · have e1:((i+1:Nat):Int)=(i:Int)+1:=by omega
    rw[e1];exact Vx
  · have PU:b < s.heap.objs.size:=by
     have e':b=e∨b=it:=by simpa using hb
     rcases e' with z|z
     · rw[z];exact Sy
     · rw[z];exact LM
    rw[aq (X6 PU)];exact (hf b hb).1
 done:=by
  intro X hP hw hK hc i pins s σ H E I hf st hg;subst hP hw hK;obtain⟨⟨old,he⟩,hit,LP⟩:=st;obtain⟨xs,hq,hx⟩:=hg;obtain⟨LD,rv,p,hz⟩:=I.list hq;obtain⟨f0,f1,f2,f3,f4,f5⟩:=hf it (by simp);have hl:=rv.length;exact wpAny_pyNext_enum_end (I.ok.hd hc) he hit p.isList (by simp;omega) λh' eb=>⟨rfl,I.turned (t':=s.toks) (λb o hb q=>eb b o hb q) f0 f1 f3 f4 f5⟩
 self:=λA i s Q E st h=>let ⟨⟨_,he⟩,_⟩:=st;wpAny_pyIter_enum he h
def IX (K:aaf)(ta:TA):TI:=λσ H R=>ta σ H λvs H1=>∃a xs,vs=[.ref a]/\aP K H1 a xs/\R (FU K a) H1
theorem tT {X:Cx}{e:Expr}{ta:TA}{p pos LV:Pos}{elts:List Expr}{kk:Nat}(hg:Gl X "enumerate")(hm:X.mg "enumerate"=none)(ha:PA X [e] ta)(hs:starEach [e] X.env=[(false,eval e X.env)]:=by rfl) :
  PI X (.Tuple elts kk LV) (.Call (.Name "enumerate" p) [e] [] pos) (IX X.K ta):=by
 intro pins s σ H R I h;refine Call_ (lh I hg hm boot_enumerate (YV (bA (ha pos pins s σ H _ I h) λus s1 ⟨vs,H1,I1,r1,q1⟩=>?_) hs rfl));obtain⟨a,xs,ex,hq,q⟩:=q1;subst ex;cases r1 with
 |cons r rr =>
  cases rr;cases r;obtain⟨LD,rv,p',hz⟩:=I1.list hq;refine call_enumerate_list p'.isList λh' he hit hsz hk=>wpAny_pyIter_enum he ?_;have I2:Inv X pins σ H1 {s1 with heap:=h'}:=I1.kept (t':=s1.toks) hk;refine⟨s1.heap.objs.size+1,[s1.heap.objs.size+1,s1.heap.objs.size],_,_,H1,rfl,I2,Ad a (s1.heap.objs.size+1) s1.heap.objs.size,⟨⟨.none,he⟩,hit,Nat.succ_ne_self _⟩,λb hb=>?_,q⟩;have e':b=s1.heap.objs.size+1∨b=s1.heap.objs.size:=by simpa using hb
  have hle:s1.heap.objs.size<=b:=by
   rcases e' with z|z
   · rw[z];exact ZX _ _
   · rw[z];exact XC _
  exact I1.xq hle (I1.bu.fresh hle)
theorem zy:bootBuiltins "zip"=some (.type "zip"):=by decide +kernel
end L2
section
namespace Q8
open PySem PyProof.Rows
end Q8
end
section
namespace TL
open PySem PySem.Builtin PySem.Builtin.Str PySem.StrLaws
abbrev tl (x:Str):aae:=x.cps.toList
theorem k8 (x:Str):x.length=(tl x).length:=by simp[tl,Str.length]
theorem wM {x y:Str}(h:tl x=tl y):x=y:=Str.ext' (Array.toList_inj.mp h)
theorem rY (x y:Str):tl (x++y)=tl x++tl y:=by
 show (x++y).cps.toList=_;rw[Str.cps_append,Array.toList_append]
theorem o6:∀{l m:List Str},l.map tl=m.map tl->l=m
 |[],[],_=>rfl
 |[],_::_,h=>by simp at h
 |_::_,[],h=>by simp at h
 |x::l,y::m,h=>by
  rw[XM,XM] at h;injection h with h1 h2;rw[wM h1,o6 h2]
theorem gL (s:String):tl (Str.ofString s)=s.toList.map Char.toNat:=PyProof.Rows.signs_ofString s
def pre (S l:aae):Bool:=l.take S.length==S
def nN (S:aae):Nat->aae->aae->aad
 |_,acc,[]=>[acc]
 |0,acc,c::r=>if pre S (c::r)=true then acc::nN S (S.length - 1) [] r else nN S 0 (acc++[c]) r
 |k+1,acc,_::r=>nN S k acc r
theorem oH (S:aae)(k:Nat)(acc:aae):nN S k acc []=[acc]:=by cases k <;> rfl
theorem yn {S acc r:aae}{c:Nat}(h:pre S (c::r)=true):nN S 0 acc (c::r)=acc::nN S (S.length - 1) [] r:=by
 show (if pre S (c::r)=true then acc::nN S (S.length - 1) [] r else nN S 0 (acc++[c]) r)=_;rw[Xv h]
theorem uV {S acc r:aae}{c:Nat}(h:pre S (c::r)=false):nN S 0 acc (c::r)=nN S 0 (acc++[c]) r:=by
 show (if pre S (c::r)=true then acc::nN S (S.length - 1) [] r else nN S 0 (acc++[c]) r)=_;rw[Xu (by rw[h];exact XU)]
theorem uJ (S:aae):∀(k:Nat) (acc l:aae),nN S k acc l=nN S 0 acc (l.drop k)
 |0,_,_=>by rw[List.drop_zero]
 |k+1,acc,[]=>by rw[List.drop_nil,oH,oH]
 |k+1,acc,c::r=>by
  show nN S k acc r=nN S 0 acc (r.drop k);exact uJ S k acc r
theorem mm {S:aae}(hS:S≠[]):pre S []=false:=by
 cases S with
 |nil=>exact absurd rfl hS
 |cons s S=>rfl
theorem vw {s c:Nat}(S r:aae)(h:c≠s):pre (s::S) (c::r)=false:=by
 cases hp:pre (s::S) (c::r) with
 |false=>rfl
 |true =>
  have e:(c::r).take (s::S).length=s::S:=YY hp;rw[XE,List.take_succ_cons] at e;injection e with e1 e2;exact absurd e1 h
theorem lX {L:aae}{a:Nat}(h:a < L.length):∃c,L.drop a=c::L.drop (a+1):=⟨L[a],YR h⟩
theorem uo (S L:aae):∀(m a:Nat) (acc:aae),a+m<=L.length->(∀k,a<=k->k < a+m->pre S (L.drop k)=false) ->
  nN S 0 acc (L.drop a)=nN S 0 (acc++(L.drop a).take m) (L.drop (a+m))
 |0,a,acc,_,_=>by rw[List.take_zero,Yw,Nat.add_zero]
 |m+1,a,acc,h,hn=>by
  have LI:a < L.length:=by omega
  obtain⟨c,e⟩:=lX LI;have h0:=hn a (XC _) (by omega);have ih:=uo S L m (a+1) (acc++[c]) (by omega) (λk h1 h2=>hn k (by omega) (by omega));have e2:a+1+m=a+(m+1):=by omega
  rw[e2] at ih;rw[e] at h0;rw[e,uV h0,ih,List.take_succ_cons,YX] <;> rfl
theorem CY (L:aae)(a b:Nat):(L.drop a).drop b=L.drop (a+b):=by
 first
  |rw[List.drop_drop]
  |rw[List.drop_drop,Nat.add_comm]
theorem GX {S L:aae}(hS:S≠[]){c:Nat}{acc:aae}(h:pre S (L.drop c)=true):nN S 0 acc (L.drop c)=acc::nN S 0 [] (L.drop (c+S.length)):=by
 rw[←CY];cases e:L.drop c with
 |nil=>rw[e,mm hS] at h;cases h
 |cons d r =>
  rw[e] at h;rw[yn h,uJ];cases S with
  |nil=>exact absurd rfl hS
  |cons s S=>rfl
theorem Be {x y:Str}(hy:tl y≠[])(i:Nat):At x y x.length i↔pre (tl y) ((tl x).drop i)=true:=by
 have hx:=k8 x;have hl:=k8 y;constructor
 · intro h;have h2:=h.2;rw[subAt_eq,hl] at h2;exact h2
 · intro h;have e:((tl x).drop i).take (tl y).length=tl y:=YY h;have e1:=YA List.length e;rw[XT,Ym] at e1;have e2:0 < (tl y).length:=Yy.mpr hy;refine⟨by omega,?_⟩;rw[subAt_eq,hl];exact h
theorem F7 {x y:Str}(hy:tl y≠[]){i:Nat}(h:¬At x y x.length i):pre (tl y) ((tl x).drop i)=false:=by
 cases hp:pre (tl y) ((tl x).drop i) with
 |false=>rfl
 |true=>exact absurd ((Be hy i).mpr hp) h
theorem K4 {y:Str}(hy:tl y≠[]):1<=y.length:=by
 have e2:0 < (tl y).length:=Yy.mpr hy;rw[k8 y];exact e2
theorem rk (x:Str)(i j:Nat):tl (strSub x i j)=((tl x).drop i).take (j - i):=strSub_toList x i j
theorem qT (x:Str)(i:Nat):tl (strSub x i x.length)=(tl x).drop i:=by
 rw[rk,k8 x];exact Yq (by rw[Ym] <;> omega)
theorem rP {x y:Str}(hy:tl y≠[]):∀(OR:aae) (a f:Nat),a<=(tl x).length->ChainG x y x.length a OR f->(∀k,f<=k->¬At x y x.length k) ->
  (partsFrom x y.length a OR).map tl=nN (tl y) 0 [] ((tl x).drop a)
 |[],a,f,ha,h,hn=>by
  have e:f=a:=h;subst e;show [tl (strSub x f x.length)]=_;have run:=uo (tl y) (tl x) ((tl x).length - f) f [] (by omega) (λk h1 _=>F7 hy (hn k h1));have e2:f+((tl x).length - f)=(tl x).length:=by omega
  rw[e2,Zl,oH,Yp,Yq (by rw[Ym] <;> omega)] at run;rw[run,qT]
 |c::r,a,f,ha,h,hn=>by
  obtain⟨h1,h2,h3,h4⟩:=h;have hc:c+y.length<=x.length:=h2.1;have hx:=k8 x;have hl:=k8 y;have ih:=rP hy r (c+y.length) f (by omega) h4 hn;show tl (strSub x a c)::(partsFrom x y.length (c+y.length) r).map tl=_;have run:=uo (tl y) (tl x) (c - a) a [] (by omega) (λk k1 k2=>F7 hy (h3 k k1 (by omega)));have e2:a+(c - a)=c:=by omega
  rw[e2,Yp,GX hy ((Be hy c).mp h2)] at run;rw[run,ih,rk,hl]
theorem Ab (x y:Str)(hy:tl y≠[])(hk:¬Builtin.Str.strKind x < Builtin.Str.strKind y):(Txt.split x y).map tl=nN (tl y) 0 [] (tl x):=by
 obtain⟨f,g,hn⟩:=occ_tight x y (K4 hy);have key:=rP hy _ 0 f (X1 _) g hn;rw[List.drop_zero] at key;have L4:occurrences x y 0 x.length (x.length+1)=[]->[x].map tl=nN (tl y) 0 [] (tl x):=λho=>by
  rw[ho] at key;rw[←key];show [tl x]=[tl (strSub x 0 x.length)];rw[sub_whole]
 unfold Txt.split;by_cases h1:(decide (x.length < y.length)||decide (Builtin.Str.strKind x < Builtin.Str.strKind y))=true
 · rw[Xv h1];have LI:x.length < y.length:=by
    simp only[Yu,XB] at h1;rcases h1 with h|h
    · exact h
    · exact absurd h hk
   refine L4 ?_;cases ho:occurrences x y 0 x.length (x.length+1) with
   |nil=>rfl
   |cons c r =>
    rw[ho] at g;have hc:c+y.length<=x.length:=g.2.1.1;omega
 · rw[Xu h1];by_cases h2:(occurrences x y 0 x.length (x.length+1)).isEmpty=true
   · rw[Xv h2];exact L4 (Y6.mp h2)
   · rw[Xu h2,partsBetween_eq];exact key
theorem DF {x y:Str}(h:y.cps.all (· < 256)=true):¬Builtin.Str.strKind x < Builtin.Str.strKind y:=by
 have e:Builtin.Str.strKind y=1:=by unfold PySem.Builtin.Str.strKind;rw[Xv h]
 rw[e];unfold PySem.Builtin.Str.strKind;split
 · omega
 · split <;> omega
def dM (S:aae):aad->aae
 |[]=>[]
 |[p]=>p
 |p::q::r=>p++(S++dM S (q::r))
theorem zh (y:Str):∀parts:List Str,tl (Str.join y parts)=dM (tl y) (parts.map tl)
 |[]=>rfl
 |[_]=>rfl
 |x::z::r=>by
  show tl (x++y++Str.join y (z::r))=tl x++(tl y++dM (tl y) ((z::r).map tl));rw[rY,rY,zh y (z::r),YX]
theorem join_eq (y:Str)(parts:List Str):Txt.join y parts=Str.join y parts:=glued_eq_join y parts
end TL
end
namespace L2
open PySem PySem.Spec PyProof.Rows
theorem rS:∀l:List (Str×Tok),Vals ((l.map (·.1)).map V.str) (strValues l)
 |[]=>.nil
 |p::r=>.cons ⟨p.2,rfl⟩ (rS r)
theorem ja:∀{ys:List Str} {us:aaj},Vals (ys.map V.str) us->StrsAre us ys
 |[],_,.nil=>.nil
 |y::ys,_,.cons r t=>by
  obtain⟨k,rfl⟩:=r;exact .cons y k (ja t)
def pG (ys:List Str):Hp->VK->Prop:=λH Q=>∀p,H p=none->Q (.ref p) (upd H p (.lst (ys.map V.str)))
section
variable {X:Cx}{pins:aai}{σ:St}{H:Hp}{s:Shared}{Q:VK}
theorem mR {l:List (Str×Tok)} {ys:List Str} {k:Nat} (I:Inv X pins σ H s) (e:l.map (·.1)=ys) (hz:ys.length<=sizeLine) (h:pG ys H Q) :
  EP X pins σ Q (.ref s.heap.objs.size) {s with toks:=k,heap:=s.heap.push {cls:=.type "list",data:=.seq (strValues l).toArray}}:=by
 have hp:=I.bu.fresh (XC _);refine⟨.ref s.heap.objs.size,upd H s.heap.objs.size (.lst (ys.map V.str)),I.laid (λb u q=>Xw _ q) (XC _) ⟨by rw[Xs];exact hz,strValues l,_,?_,XJ _ rfl⟩,rfl,h _ hp⟩;rw[←e];exact rS l
end
section
variable {X:Cx}
theorem BG:BW X "str.split" (λx xs H Q=>∃a b,x=.str a/\xs=[.str b]/\(b.length==0)=false/\a.length+2<=sizeLine/\pG (Txt.split a b) H Q):=by
 intro pins s σ H x xs v us Q I rx rs h;obtain⟨a,b,rfl,rfl,hb,hz,h⟩:=h;obtain⟨t,rfl⟩:=rx;cases rs with
 |cons r1 rs =>
  cases rs;obtain⟨u,rfl⟩:=r1;have hl:(Txt.split a b).length<=sizeLine:=Yh (PyProof.Rows.split_le a b) hz;have hn:(Builtin.Str.partsBetween a (Builtin.Str.occurrences a b 0 a.length (a.length+1)) b.length).length<=sizeLine:=by
   have e1:=StrLaws.occ_length_le a b 0 a.length (a.length+1);rw[length_partsBetween];omega
  cases h1:(decide (a.length < b.length)||decide (Builtin.Str.strKind a < Builtin.Str.strKind b))
  · cases hf:(Builtin.Str.occurrences a b 0 a.length (a.length+1)).isEmpty
    · refine call_meets F.slot_str_split (ZV _ _ _) F.entry_str_split (F.args_str_split_2 _ _) (meets_str_split_sep a b t u h1 hb hf (by omega) hn) ?_;show EP X pins σ Q (.ref s.heap.objs.size) {s with toks:=_,heap:=s.heap.push {cls:=.type "list",data:=.seq (strsFrom s.toks (Builtin.Str.partsBetween a (Builtin.Str.occurrences a b 0 a.length (a.length+1)) b.length)).toArray}};rw[strsFrom_eq];exact mR (ys:=Txt.split a b) I ((numbered_texts _ _).trans ((Xu (ne_true_of_eq_false h1)).trans (Xu (ne_true_of_eq_false hf))).symm) hl h
    · refine call_meets F.slot_str_split (ZV _ _ _) F.entry_str_split (F.args_str_split_2 _ _) (meets_str_split_not_found a b t u h1 hb hf) ?_;exact mR (l:=[(a,t)]) (ys:=Txt.split a b) (k:=s.toks) I ((Xu (ne_true_of_eq_false h1)).trans (Xv hf)).symm hl h
  · refine call_meets F.slot_str_split (ZV _ _ _) F.entry_str_split (F.args_str_split_2 _ _) (meets_str_split_cannot_occur a b t u h1) ?_;exact mR (l:=[(a,t)]) (ys:=Txt.split a b) (k:=s.toks) I (Xv h1).symm hl h
theorem Ew:BW X "str.join" (λx xs H Q=>∃a p,∃ys:List Str,x=.str a/\xs=[.ref p]/\(aP X.K H p (ys.map V.str)∨bZ X.K H p (ys.map V.str)) /\
  (ys.map (·.length)).sum+ys.length*a.length<=16777216/\Q (.str (Txt.join a ys)) H):=by
 intro pins s σ H x xs v us Q I rx rs h;obtain⟨a,p,ys,rfl,rfl,hp,hz,h⟩:=h;obtain⟨t,rfl⟩:=rx;cases rs with
 |cons r1 rs =>
  cases rs;cases r1;rcases hp with hp|hp
  · obtain⟨LD,r,⟨o,n,ho,hc,_,hd⟩,_⟩:=I.list hp;exact PyProof.Rows.join_list (items:=LD.toArray) ⟨o,ho,hc,n,hd⟩ (by rw[List.toList_toArray];exact ja r) hz λt' k=>⟨.str _,H,I.tok k,⟨t',rfl⟩,h⟩
  · obtain⟨LD,r,ht,_⟩:=I.tuple hp;exact PyProof.Rows.join_tuple (items:=LD.toArray) ht (by rw[List.toList_toArray];exact ja r) hz λt' k=>⟨.str _,H,I.tok k,⟨t',rfl⟩,h⟩
theorem Lg {id:String}{C:Str->Prop}{g:Str->V}(rule:∀(a:Str) (t:Tok) (s:Shared) (Q:aag),C a->(∀(u:Value) (k:Nat),RelV (g a) u->Q u {s with toks:=k}) ->
  wpAny (model X.prog X.w) X.A (call (.builtin id) [.str a t]) Q X.xe s):BW X id (λx xs H Q=>∃a,x=.str a/\xs=[]/\C a/\Q (g a) H):=by
 intro pins s σ H x xs v us Q I rx rs h;obtain⟨a,rfl,rfl,hc,h⟩:=h;obtain⟨t,rfl⟩:=rx;cases rs;exact rule a t s _ hc λu k r=>⟨g a,H,I.tok k,r,h⟩
theorem wq:BW X "str.isdigit" (λx xs H Q=>∃a,x=.str a/\xs=[]/\True/\Q (.bl (Txt.isdigit a)) H) :=
 Lg (C:=λ_=>True) (g:=λa=>.bl (Txt.isdigit a)) λ_ _ s _ _ h=>PySem.SC.isdigit (h _ s.toks rfl)
theorem Lu {id:String}{g:Str->Str->V}(rule:∀(a b:Str) (t u:Tok) (s:Shared) (Q:aag),(∀(v:Value) (k:Nat),RelV (g a b) v->Q v {s with toks:=k}) ->
  wpAny (model X.prog X.w) X.A (call (.builtin id) [.str a t,.str b u]) Q X.xe s):BW X id (λx xs H Q=>∃a b,x=.str a/\xs=[.str b]/\Q (g a b) H):=by
 intro pins s σ H x xs v us Q I rx rs h;obtain⟨a,b,rfl,rfl,h⟩:=h;obtain⟨t,rfl⟩:=rx;cases rs with
 |cons r1 rs =>
  cases rs;obtain⟨u,rfl⟩:=r1;exact rule a b t u s _ λv k r=>⟨g a b,H,I.tok k,r,h⟩
theorem uO:BW X "str.endswith" (λx xs H Q=>∃a b,x=.str a/\xs=[.str b]/\Q (.bl (Txt.endswith a b)) H) :=
 Lu (g:=λa b=>.bl (Txt.endswith a b)) λ_ _ _ _ s _ h=>PySem.SC.endswith (h _ s.toks rfl)
theorem tR:ir X (.type "int") (λxs H Q=>∃a n,xs=[.str a]/\PySem.intText? a=some n/\a.length<=640/\Q (.int n) H):=by
 intro pins s σ H xs us Q I rs h;obtain⟨a,n,rfl,hn,hl,h⟩:=h;cases rs with
 |cons r1 rs =>
  cases rs;obtain⟨t,rfl⟩:=r1;exact PySem.W.KIN.call_text hn hl ⟨.int n,H,I.tok _,⟨_,rfl⟩,h⟩
end
section
variable {X:Cx}{o e:Expr}{to te:TE}
def K_ (r:V->List V->Hp->VK->Prop) (to:TE):TE:=λσ H Q=>to σ H λx H1=>(∃a,x=.str a)/\r x [] H1 Q
def KI (r:V->List V->Hp->VK->Prop)(to te:TE):TE:=λσ H Q=>to σ H λx H1=>(∃a,x=.str a)/\te σ H1 λy H2=>r x [y] H2 Q
theorem Ji {id:String}{name:Str}{apos pos:Pos}{r:V->List V->Hp->VK->Prop}(slot:Slot "str" name id)(ty:typeOf (.builtin id)=pure (.type "method_descriptor"))(rule:BW X id r)(ho:PE X o to)
  (LR:attributeBase o name X.env (eval o X.env)=eval o X.env:=by rfl)(LU:(apos.endLine==pos.line)=true:=by rfl):PE X (.Call (.Attribute o name apos) [] [] pos) (K_ r to):=by
 intro pins s σ H Q I h;refine PySem.Call_method0 LR LU (bA (ho pins s σ H _ I h) λv s1 ⟨x,H1,I1,r1,q1⟩=>?_);obtain⟨⟨a,rfl⟩,q1⟩:=q1;obtain⟨t,rfl⟩:=_root_.id r1;exact⟨"str",_,F.plainAttrs_str,slot,ty,ZV _ _ _,(λ_ e=>nomatch e),ZT rfl (PySem.evalArgs_none (rule pins s1 σ H1 _ [] _ [] Q I1 r1 .nil q1))⟩
theorem Cb {id:String}{name:Str}{apos pos:Pos}{r:V->List V->Hp->VK->Prop}(slot:Slot "str" name id)(ty:typeOf (.builtin id)=pure (.type "method_descriptor"))(rule:BW X id r)(ho:PE X o to)(he:PE X e te)
  (hs:starEach [e] X.env=[(false,eval e X.env)]:=by rfl)(LR:attributeBase o name X.env (eval o X.env)=eval o X.env:=by rfl)(LU:(apos.endLine==pos.line)=true:=by rfl) :
  PE X (.Call (.Attribute o name apos) [e] [] pos) (KI r to te):=by
 intro pins s σ H Q I h;refine PySem.Call_method1 LR hs LU (bA (ho pins s σ H _ I h) λv s1 ⟨x,H1,I1,r1,q1⟩=>?_);obtain⟨⟨a,rfl⟩,q1⟩:=q1;obtain⟨t,rfl⟩:=_root_.id r1;refine⟨"str",_,F.plainAttrs_str,slot,ty,ZV _ _ _,(λ_ e=>nomatch e),ZT rfl (Calls.evalArgs_plain (aac ?_))⟩;exact bA (he pins s1 σ H1 _ I1 q1) λu s2 ⟨y,H2,I2,r2,q2⟩=>Calls.spliced_nil (rule pins s2 σ H2 _ [y] _ [u] Q I2 r1 (.cons r2 .nil) q2)
theorem mq {apos pos:Pos}(ho:PE X o to)(he:PE X e te)(hs:starEach [e] X.env=[(false,eval e X.env)]:=by rfl)(LR:attributeBase o "split" X.env (eval o X.env)=eval o X.env:=by rfl)(LU:(apos.endLine==pos.line)=true:=by rfl) :
  PE X (.Call (.Attribute o "split" apos) [e] [] pos) (KI (λx xs H Q=>∃a b,x=.str a/\xs=[.str b]/\(b.length==0)=false/\a.length+2<=sizeLine/\pG (Txt.split a b) H Q) to te) :=
 Cb F.slot_str_split F.type_str_split BG ho he hs LR LU
theorem DN {apos pos:Pos}(ho:PE X o to)(he:PE X e te)(hs:starEach [e] X.env=[(false,eval e X.env)]:=by rfl)(LR:attributeBase o "join" X.env (eval o X.env)=eval o X.env:=by rfl)(LU:(apos.endLine==pos.line)=true:=by rfl) :
  PE X (.Call (.Attribute o "join" apos) [e] [] pos) (KI (λx xs H Q=>∃a p,∃ys:List Str,x=.str a/\xs=[.ref p]/\(aP X.K H p (ys.map V.str)∨bZ X.K H p (ys.map V.str)) /\
   (ys.map (·.length)).sum+ys.length*a.length<=16777216/\Q (.str (Txt.join a ys)) H) to te) :=
 Cb F.slot_str_join F.type_str_join Ew ho he hs LR LU
end
section
variable {X:Cx}
theorem qB:jT X (compareOp .In) (λx y H Q=>∃(c:Nat) (z:Str),x=.str ⟨#[c]⟩/\y=.str z/\Q (.bl (decide (c∈z.cps.toList))) H):=by
 intro pins s σ H x y v u Q I rx ry h;obtain⟨c,z,rfl,rfl,q⟩:=h;obtain⟨t,rfl⟩:=rx;obtain⟨t',rfl⟩:=ry;exact PyProof.Rows.in_str (bt I q (PySem.StrLaws.found_one z c).symm)
theorem qQ:jT X (compareOp .NotIn) (λx y H Q=>∃(c:Nat) (z:Str),x=.str ⟨#[c]⟩/\y=.str z/\Q (.bl (!decide (c∈z.cps.toList))) H):=by
 intro pins s σ H x y v u Q I rx ry h;obtain⟨c,z,rfl,rfl,q⟩:=h;obtain⟨t,rfl⟩:=rx;obtain⟨t',rfl⟩:=ry;exact PyProof.Rows.notIn_str (bt I q (YA Bool.not (PySem.StrLaws.found_one z c).symm))
end
theorem IsPart.raw {v:Value}{o:Option Int}(p:IsPart v o):∃l:Option (Int×Tok),v=partValue l/\l.map (·.1)=o:=by
 cases p with
 |none=>exact⟨none,rfl,rfl⟩
 |int i t=>exact⟨some (i,t),rfl,rfl⟩
def vT (n d:Nat):Option Int->Int
 |none=>(d:Int)
 |some i=>max 0 (min (if i < 0 then i+(n:Int) else i) (n:Int))
theorem uQ (n d:Nat)(o:Option Int):vT n d o=((HT.cf n d o:Nat):Int):=by
 cases o with
 |none=>rfl
 |some v =>
  show max (0:Int) (min (if v < 0 then v+(n:Int) else v) (n:Int))=(((if v < 0 then (v+(n:Int)).toNat else min v.toNat n):Nat):Int);by_cases hv:v < 0
  · simp only[Xv hv];omega
  · simp only[Xu hv];omega
theorem Av (a b:Option Int)(n:Nat):Builtin.Str.strSliceIndices a b 1 n=sliceRange (vT n 0 a) (vT n n b) 1:=by
 have h1:((1:Int) > 0)=True:=by simp
 cases a <;> cases b <;> first
  |rfl
  |(simp only[Builtin.Str.strSliceIndices,vT,h1,Zc];rfl)
  |simp[Builtin.Str.strSliceIndices,vT]
theorem Kd (a b:Option Int)(n:Nat):Builtin.Str.strSliceIndices a b 1 n=(List.range (HT.cf n n b - HT.cf n 0 a)).map (λk=>HT.cf n 0 a+k):=by
 rw[Av,uQ,uQ];generalize HT.cf n 0 a=p;generalize HT.cf n n b=q;simp only[sliceRange,show ((1:Int) > 0)=True from by simp,Zc];by_cases LI:(p:Int) < q
 · have e3:(((q:Int) - p+1 - 1) / 1).toNat=q - p:=by first|omega|(simp;done)|(simp;omega)
   simp only[LI,Zc,e3];refine Yn λk _=>?_;omega
 · have:q - p=0:=by omega
   simp[LI,this]
def zJ (z:Str)(lo hi:Option Int):Str :=
 ⟨((z.cps.toList.drop (HT.cf z.length 0 lo)).take (HT.cf z.length z.length hi - HT.cf z.length 0 lo)).toArray⟩
theorem kN (z:Str)(lo hi:Option Int):PySem.StrLaws.sliceText z lo hi=zJ z lo hi:=by
 have h1:HT.cf z.length 0 lo<=z.length:=HT.w8 _ _ (X1 _) _;have h2:HT.cf z.length z.length hi<=z.length:=HT.w8 _ _ (XC _) _;have hp:HT.cf z.length 0 lo<=max (HT.cf z.length 0 lo) (HT.cf z.length z.length hi):=Nat.le_max_left _ _;have hq:max (HT.cf z.length 0 lo) (HT.cf z.length z.length hi)<=z.length:=Nat.max_le.mpr ⟨h1,h2⟩;have hd:max (HT.cf z.length 0 lo) (HT.cf z.length z.length hi) - HT.cf z.length 0 lo=HT.cf z.length z.length hi - HT.cf z.length 0 lo:=by omega
 have e:Builtin.Str.strSliceIndices lo hi 1 z.length =
   Builtin.Str.strSliceIndices (some ((HT.cf z.length 0 lo:Nat):Int)) (some ((max (HT.cf z.length 0 lo) (HT.cf z.length z.length hi):Nat):Int)) 1 z.length:=by
  rw[PySem.StrLaws.strSliceIndices_plain hp hq,hd,Kd]
 have e2:PySem.StrLaws.sliceText z lo hi =
   PySem.StrLaws.sliceText z (some ((HT.cf z.length 0 lo:Nat):Int)) (some ((max (HT.cf z.length 0 lo) (HT.cf z.length z.length hi):Nat):Int)):=by
  unfold PySem.StrLaws.sliceText;rw[e]
 rw[e2,PySem.StrLaws.sliceText_nat z hp hq,hd];rfl
theorem n8 (z:Str)(lo hi:Option Int):(zJ z lo hi).length<=z.length:=by
 show (((z.cps.toList.drop (HT.cf z.length 0 lo)).take (HT.cf z.length z.length hi - HT.cf z.length 0 lo)).toArray).size<=z.cps.size;rw[XR,XT,Ym,Ze];omega
def J8:V->Option Int->Option Int->Hp->VK->Prop:=λx lo hi H Q=>∃z,x=.str z/\z.length<=sizeLine/\Q (.str (zJ z lo hi)) H
theorem Hb {X:Cx}:Je X J8:=by
 intro pins s σ H x v vl vu lo hi sl Q I rx hs pl pu h;obtain⟨z,rfl,hz,q⟩:=h;obtain⟨t,rfl⟩:=rx;obtain⟨os,M4,NL,NM⟩:=hs;obtain⟨l,rfl,rfl⟩:=IsPart.raw pl;obtain⟨u,rfl,rfl⟩:=IsPart.raw pu;refine⟨"str",_,F.slot_str_getitem.lookup,ZV _ _ _,?_⟩;refine wpAny_getItem_str_slice (l:=l) (u:=u) (st:=none) ⟨os,M4,NL,NM⟩ rfl ?_;have hl:(PySem.StrLaws.sliceText z (l.map (·.1)) (u.map (·.1))).length<=sizeLine:=by
  rw[kN];exact Yh (n8 z _ _) hz
 rw[←kN] at q;unfold PySem.StrLaws.sliceText at q hl;show Made.post (if ((1:Int)==1&&(Builtin.Str.strSliceIndices (l.map (·.1)) (u.map (·.1)) 1 z.length).length==z.length)=true then Made.val (.str z t)
  else Made.str ⟨((Builtin.Str.strSliceIndices (l.map (·.1)) (u.map (·.1)) 1 z.length).filterMap (z.cps[·]?)).toArray⟩) (EP X pins σ Q) s
 by_cases c:((1:Int)==1&&(Builtin.Str.strSliceIndices (l.map (·.1)) (u.map (·.1)) 1 z.length).length==z.length)=true
 · rw[Xv c] at q ⊢;exact⟨.str z,H,I,⟨t,rfl⟩,q⟩
 · rw[Xu c] at q hl ⊢;exact⟨hl,.str _,H,I.tok _,⟨_,rfl⟩,q⟩
end L2
namespace Att
open PySem PySem.W PySem.Calls PyProof.Rows
section
variable {prog:Program}{w:World}{A:Around}{E:aag}{s:Shared}{K:Frag}
end
end Att
namespace L2
open PySem PySem.Spec PyProof.Rows
end L2
section
set_option Elab.async false
set_option linter.all false
set_option maxRecDepth 100000
set_option maxHeartbeats 2000000
namespace L2
open PySem PySem.Spec PyProof.Rows
open PySem.W (WData Codec OpenSpec Well WellAll ReadsW ReadsAllW)
mutual
inductive Dw (K:aaf)(H:Hp):V->WData->Prop
 |cb:Dw K H .cb .none
 |bl (b:Bool):Dw K H (.bl b) (.bool b)
 |int (i:Int):Dw K H (.int i) (.int i)
 |str (x:Str):Dw K H (.str x) (.str x)
 |v8 (b:Array UInt8):Dw K H (.v8 b) (.bytes b.toList)
 |lst {a:Addr} {xs:List V} {ds:List WData}:aP K H a xs->iy K H xs ds->Dw K H (.ref a) (.list ds)
 |tup {a:Addr} {xs:List V} {ds:List WData}:bZ K H a xs->iy K H xs ds->Dw K H (.ref a) (.tuple ds)
inductive iy (K:aaf)(H:Hp):List V->List WData->Prop
 |nil:iy K H [] []
 |cons {v:V} {vs:List V} {d:WData} {ds:List WData}:Dw K H v d->iy K H vs ds->iy K H (v::vs) (d::ds)
end
theorem yE {K:aaf}{H:Hp}:∀ns:List Int,iy K H (ns.map V.int) (ns.map WData.int)
 |[]=>.nil
 |n::r=>.cons (.int n) (yE r)
theorem tH {K:aaf}{H:Hp}:∀(ns:List Int) (xs:List V),iy K H xs (ns.map WData.int)->xs=ns.map V.int
 |[],xs,h=>by
  cases h;rfl
 |n::r,xs,h=>by
  cases h with
  |cons h1 h2 =>
   cases h1;rw[tH r _ h2] <;> rfl
section
variable {P:Program}{w:World}{K:aaf}{H:Hp}{h:Heap}{R:PySem.W.WRecords}{cl:Str->Option Addr}
theorem F_ {a:Addr} {xs:List V} (bu:iu P w H h) (KX:K.In h) (q:aP K H a xs):∃(LD:aaj) (o:Obj) (n:Nat),Vals xs LD/\h.get? a=some o/\o.cls=.type "list"/\o.data=.seq LD.toArray n:=by
 rcases q with q|⟨o,LD,n,e,hc,_,hd,_,hv⟩
 · obtain⟨_,LD,n,hv,e⟩:=(show bK P w H h a (.lst xs) from q.ok bu);exact⟨LD,_,n,hv,e,rfl,rfl⟩
 · exact⟨LD.toList,o,n,hv,KX _ _ e,hc,by simp[hd]⟩
theorem Gk {a:Addr}{xs:List V}(bu:iu P w H h)(KX:K.In h)(q:bZ K H a xs):∃(LD:aaj) (o:Obj) (n:Nat),Vals xs LD/\h.get? a=some o/\o.cls=.type "tuple"/\o.data=.seq LD.toArray n:=by
 rcases q with q|⟨o,LD,n,e,hc,hd,_,hv⟩
 · obtain⟨_,LD,hv,o,e,hc,n,hd⟩:=(show bK P w H h a (.tup xs) from q.ok bu);exact⟨LD,o,n,hv,e,hc,hd⟩
 · exact⟨LD.toList,o,n,hv,KX _ _ e,hc,by simp[hd]⟩
mutual
theorem Dw.reads (bu:iu P w H h)(KX:K.In h):∀(d:WData) (v:V) (u:Value),Dw K H v d->RelV v u->∃as,ReadsW R cl h u d as
 |.none,_,_,x,r=>by
  cases x;cases r;exact⟨_,ReadsW.none⟩
 |.bool b,_,_,x,r=>by
  cases x;cases r;exact⟨_,ReadsW.bool b⟩
 |.int i,_,_,x,r=>by
  cases x;obtain⟨t,rfl⟩:=r;exact⟨_,ReadsW.int i t⟩
 |.str s,_,_,x,r=>by
  cases x;obtain⟨t,rfl⟩:=r;exact⟨_,ReadsW.str s t⟩
 |.bytes b,_,_,x,r=>by
  cases x;obtain⟨t,rfl⟩:=r;exact⟨_,ReadsW.bytes _ t⟩
 |.list ds,_,_,x,r=>by
  cases x with
  |lst hs ha =>
   cases r;obtain⟨LD,o,n,rv,ho,hc,hd⟩:=F_ bu KX hs;obtain⟨as,hr⟩:=Dw.readsAll bu KX ds _ LD ha rv;exact⟨_,ReadsW.list ho hc hd hr⟩
 |.tuple ds,_,_,x,r=>by
  cases x with
  |tup hs ha =>
   cases r;obtain⟨LD,o,n,rv,ho,hc,hd⟩:=Gk bu KX hs;obtain⟨as,hr⟩:=Dw.readsAll bu KX ds _ LD ha rv;exact⟨_,ReadsW.tuple ho hc hd hr⟩
 |.float _,_,_,x,_=>by cases x
 |.dict _,_,_,x,_=>by cases x
 |.bytearray _,_,_,x,_=>by cases x
 |.set _,_,_,x,_=>by cases x
 |.frozenset _,_,_,x,_=>by cases x
 |.obj _ _,_,_,x,_=>by cases x
theorem Dw.readsAll (bu:iu P w H h)(KX:K.In h):∀(ds:List WData) (vs:List V) (us:aaj),iy K H vs ds->Vals vs us->∃as,ReadsAllW R cl h us ds as
 |[],_,_,x,r=>by
  cases x;cases r;exact⟨_,ReadsAllW.nil⟩
 |d::ds,_,_,x,r=>by
  cases x with
  |cons h1 h2 =>
   cases r with
   |cons r1 r2 =>
    obtain⟨as,q1⟩:=Dw.reads bu KX d _ _ h1 r1;obtain⟨bs,q2⟩:=Dw.readsAll bu KX ds _ _ h2 r2;exact⟨_,ReadsAllW.cons q1 q2⟩
end
end
mutual
def yJ:WData->Bool
 |.none=>true
 |.bool _=>true
 |.int _=>true
 |.str _=>true
 |.bytes _=>true
 |.list xs=>n_ xs
 |.tuple xs=>n_ xs
 |_=>false
def n_:List WData->Bool
 |[]=>true
 |x::r=>yJ x&&n_ r
end
theorem uH {α:Type}{f:α->WData}(h:∀a,yJ (f a)=true):∀l:List α,n_ (l.map f)=true
 |[]=>rfl
 |x::r=>by
  show (yJ (f x)&&n_ (r.map f))=true;rw[h x,uH h r] <;> rfl
theorem jD:∀(c:Codec) (a:c.denote),yJ (c.enc a)=true
 |.unit,_=>rfl
 |.bool,_=>rfl
 |.int _ _,_=>rfl
 |.nat _ _,_=>rfl
 |.u8,_=>rfl
 |.bytes _ _,_=>rfl
 |.text _ _ _ _,_=>rfl
 |.list _ _ c,a=>uH (λx=>jD c x) a
 |.pair c d,a=>by
  show (yJ (c.enc a.1)&&(yJ (d.enc a.2)&&true))=true;rw[jD c a.1,jD d a.2] <;> rfl
 |.triple c d e,a=>by
  show (yJ (c.enc a.1)&&(yJ (d.enc a.2.1)&&(yJ (e.enc a.2.2)&&true)))=true;rw[jD c a.1,jD d a.2.1,jD e a.2.2] <;> rfl
 |.option c,none=>rfl
 |.option c,some x=>jD c x
theorem r8:∀(cs:List Codec) (a:Codec.denoteAll cs),n_ (Codec.encAll cs a)=true
 |[],_=>rfl
 |c::cs,a=>by
  show (yJ (c.enc a.1)&&n_ (Codec.encAll cs a.2))=true;rw[jD c a.1,r8 cs a.2] <;> rfl
theorem lq:∀{xs:List WData} {d:WData},d∈xs->d.weight<=WData.weightAll xs
 |[],d,h=>absurd h (by simp)
 |x::r,d,h=>by
  show d.weight<=x.weight+1+WData.weightAll r;rcases Xx.mp h with e|m
  · rw[e];omega
  · have z:=lq m;omega
def toV:Value->V
 |.none=>.cb
 |.bool b=>.bl b
 |.int i _=>.int i
 |.str x _=>.str x
 |.bytes b _=>.v8 b
 |.ref a=>.ref a
 |_=>.cb
def Af (A:List Addr):Value->Prop
 |.none=>True
 |.bool _=>True
 |.int _ _=>True
 |.str _ _=>True
 |.bytes _ _=>True
 |.ref a=>a∈A
 |_=>False
theorem Af.mono {A B:List Addr}(h:∀a∈A,a∈B):∀{u:Value},Af A u->Af B u:=λ{u} x=>by
 cases u with
 |ref a=>exact h a x
 |none=>trivial
 |bool b=>trivial
 |int i t=>trivial
 |str s t=>trivial
 |bytes b t=>trivial
 |_=>exact False.elim x
theorem BK {A:List Addr}{u:Value}(x:Af A u):RelV (toV u) u:=by
 cases u with
 |ref a=>rfl
 |none=>rfl
 |bool b=>rfl
 |int i t=>exact⟨t,rfl⟩
 |str s t=>exact⟨t,rfl⟩
 |bytes b t=>exact⟨t,rfl⟩
 |_=>exact False.elim x
theorem iA {A:List Addr}:∀{vs:aaj},(∀u∈vs,Af A u)->Vals (vs.map toV) vs
 |[],_=>.nil
 |u::r,h=>.cons (BK (h u (Yg ..))) (iA λx hx=>h x (XN _ hx))
def jj (h:Heap)(A:List Addr)(a:Addr):Prop:=∃vs:aaj,vs.length<=sizeLine/\(∀u∈vs,Af A u) /\
 (h.get? a=some {cls:=.type "list",data:=.seq vs.toArray}∨h.get? a=some {cls:=.type "tuple",data:=.seq vs.toArray})
theorem jj.mono {h:Heap}{A B:List Addr}{a:Addr}(k:∀a∈A,a∈B)(x:jj h A a):jj h B a:=by
 obtain⟨vs,h1,h2,h3⟩:=x;exact⟨vs,h1,λu hu=>(h2 u hu).mono k,h3⟩
theorem gX {P:Params}{h:Heap}:∀{vs:aaj} {ds:List WData},WellAll P h vs ds->vs.length=ds.length
 |_,_,.nil=>rfl
 |_,_,.cons _ b=>by
  show _+1=_+1;rw[gX b]
theorem rf {P:Params}{h:Heap}{v:Value}{ds:List WData}(x:Well P h v (.list ds)):∃(a:Addr) (vs:aaj),v=.ref a/\h.get? a=some {cls:=.type "list",data:=.seq vs.toArray}/\WellAll P h vs ds:=by
 cases x with
 |list ho LQ=>exact⟨_,_,rfl,ho,LQ⟩
theorem pR {P:Params}{h:Heap}{v:Value}{ds:List WData}(x:Well P h v (.tuple ds)):∃(a:Addr) (vs:aaj),v=.ref a/\h.get? a=some {cls:=.type "tuple",data:=.seq vs.toArray}/\WellAll P h vs ds:=by
 cases x with
 |tuple ho LQ=>exact⟨_,_,rfl,ho,LQ⟩
theorem rW {P:Params}{h:Heap}{us:aaj}{d:WData}{ds:List WData}(x:WellAll P h us (d::ds)):∃(v:Value) (vs:aaj),us=v::vs/\Well P h v d/\WellAll P h vs ds:=by
 cases x with
 |cons a b=>exact⟨_,_,rfl,a,b⟩
theorem zi {n:Nat}(h:n<=1048576):n<=sizeLine:=Yh h (by decide)
section
variable {P:Params}{h:Heap}
mutual
theorem A5:∀(d:WData) (v:Value),Well P h v d->yJ d=true->d.weight<=1048576->∃A:List Addr,Af A v/\∀a∈A,jj h A a
 |.none,_,x,_,_=>by
  cases x;exact⟨[],trivial,λa m=>absurd m (by simp)⟩
 |.bool b,_,x,_,_=>by
  cases x;exact⟨[],trivial,λa m=>absurd m (by simp)⟩
 |.int i,_,x,_,_=>by
  cases x;exact⟨[],trivial,λa m=>absurd m (by simp)⟩
 |.str s,_,x,_,_=>by
  cases x;exact⟨[],trivial,λa m=>absurd m (by simp)⟩
 |.bytes b,_,x,_,_=>by
  cases x;exact⟨[],trivial,λa m=>absurd m (by simp)⟩
 |.list ds,_,x,p,z=>by
  obtain⟨a,vs,rfl,ho,LQ⟩:=rf x;have z2:WData.weightAll ds<=1048576:=z;obtain⟨A,h1,h2⟩:=mM ds _ LQ p λd hd=>Yh (lq hd) z2;have k:∀b∈A,b∈a::A:=λb hb=>XN _ hb;refine⟨a::A,Yg ..,λb hb=>?_⟩;rcases Xx.mp hb with e|m
  · rw[e];exact⟨vs,zi (by rw[gX LQ];exact Yh (PySem.W.length_le_weightAllW ds) z2),λu hu=>(h1 u hu).mono k,.inl ho⟩
  · exact (h2 b m).mono k
 |.tuple ds,_,x,p,z=>by
  obtain⟨a,vs,rfl,ho,LQ⟩:=pR x;have z2:WData.weightAll ds<=1048576:=z;obtain⟨A,h1,h2⟩:=mM ds _ LQ p λd hd=>Yh (lq hd) z2;have k:∀b∈A,b∈a::A:=λb hb=>XN _ hb;refine⟨a::A,Yg ..,λb hb=>?_⟩;rcases Xx.mp hb with e|m
  · rw[e];exact⟨vs,zi (by rw[gX LQ];exact Yh (PySem.W.length_le_weightAllW ds) z2),λu hu=>(h1 u hu).mono k,.inr ho⟩
  · exact (h2 b m).mono k
 |.float _,_,_,p,_=>Bool.noConfusion (show false=true from p)
 |.dict _,_,_,p,_=>Bool.noConfusion (show false=true from p)
 |.bytearray _,_,_,p,_=>Bool.noConfusion (show false=true from p)
 |.set _,_,_,p,_=>Bool.noConfusion (show false=true from p)
 |.frozenset _,_,_,p,_=>Bool.noConfusion (show false=true from p)
 |.obj _ _,_,_,p,_=>Bool.noConfusion (show false=true from p)
theorem mM:∀(ds:List WData) (vs:aaj),WellAll P h vs ds->n_ ds=true->(∀d∈ds,d.weight<=1048576)->∃A:List Addr,(∀u∈vs,Af A u)/\∀a∈A,jj h A a
 |[],_,x,_,_=>by
  cases x;exact⟨[],λu m=>absurd m (by simp),λa m=>absurd m (by simp)⟩
 |d::ds,_,x,p,z=>by
  obtain⟨v,vs,rfl,x1,x2⟩:=rW x;have q:yJ d=true/\n_ ds=true:=Z1.mp p;obtain⟨A,a1,a2⟩:=A5 d v x1 q.1 (z d (Yg ..));obtain⟨B,b1,b2⟩:=mM ds vs x2 q.2 λe he=>z e (XN _ he);have kA:∀b∈A,b∈A++B:=λb hb=>Yj.mpr (.inl hb);have kB:∀b∈B,b∈A++B:=λb hb=>Yj.mpr (.inr hb);refine⟨A++B,λu hu=>?_,λb hb=>?_⟩
  · rcases Xx.mp hu with e|m
    · rw[e];exact a1.mono kA
    · exact (b1 u m).mono kB
  · rcases Yj.mp hb with m|m
    · exact (a2 b m).mono kA
    · exact (b2 b m).mono kB
end
end
def Ds (o:Obj):Option HO:=match o.data with
 |.seq vs _=>if (o.cls==Value.type "list")=true then some (.frz o (.lst (vs.toList.map toV))) else some (.frz o (.tup (vs.toList.map toV)))
 |_=>none
def iK (K:aaf)(h:Heap)(A:List Addr):Hp:=λb=>if b∈A then (if (K.lookup b).isNone=true then (h.get? b).bind Ds else none) else none
def u6 (H:Hp):Prop:=∀b,H b=none∨∃o u,H b=some (.frz o u)
theorem vP (vs:aaj):Ds {cls:=.type "list",data:=.seq vs.toArray}=some (.frz {cls:=.type "list",data:=.seq vs.toArray} (.lst (vs.map toV))):=by
 show (if (Value.type "list"==Value.type "list")=true then some (HO.frz {cls:=.type "list",data:=.seq vs.toArray} (.lst (vs.toArray.toList.map toV))) else some (HO.frz {cls:=.type "list",data:=.seq vs.toArray} (.tup (vs.toArray.toList.map toV))))=_;rw[Xv (beq_self_eq_true _)]
theorem vz (vs:aaj):Ds {cls:=.type "tuple",data:=.seq vs.toArray}=some (.frz {cls:=.type "tuple",data:=.seq vs.toArray} (.tup (vs.map toV))):=by
 show (if (Value.type "tuple"==Value.type "list")=true then some (HO.frz {cls:=.type "tuple",data:=.seq vs.toArray} (.lst (vs.toArray.toList.map toV))) else some (HO.frz {cls:=.type "tuple",data:=.seq vs.toArray} (.tup (vs.toArray.toList.map toV))))=_;rw[Xu (by decide)]
section
variable {P:Program}{w:World}{K:aaf}{h:Heap}{A:List Addr}
theorem oG {b:Addr} {o:Obj} (hb:b∈A) (hk:K.lookup b=none) (e:h.get? b=some o):iK K h A b=Ds o:=by
 unfold iK;rw[Xv hb,hk,Xv (show (none:Option Obj).isNone=true from rfl),e] <;> rfl
theorem Dn {b:Addr}{u:HO}(q:iK K h A b=some u):b∈A/\K.lookup b=none:=by
 unfold iK at q;by_cases hb:b∈A
 · rw[Xv hb] at q;cases hk:K.lookup b with
   |none=>exact⟨hb,rfl⟩
   |some o =>
    rw[hk,Xu (by simp)] at q;cases q
 · rw[Xu hb] at q;cases q
theorem ox (ar:∀a∈A,jj h A a){b:Addr}{u:HO}(q:iK K h A b=some u):K.lookup b=none/\∃vs:aaj,vs.length<=sizeLine/\(∀u∈vs,Af A u) /\
  ((h.get? b=some {cls:=.type "list",data:=.seq vs.toArray}/\u=.frz {cls:=.type "list",data:=.seq vs.toArray} (.lst (vs.map toV))) ∨
   (h.get? b=some {cls:=.type "tuple",data:=.seq vs.toArray}/\u=.frz {cls:=.type "tuple",data:=.seq vs.toArray} (.tup (vs.map toV)))):=by
 obtain⟨hb,hk⟩:=Dn q;obtain⟨vs,h1,h2,h3⟩:=ar b hb;refine⟨hk,vs,h1,h2,?_⟩;rcases h3 with e|e
 · rw[oG hb hk e,vP] at q;exact .inl ⟨e,(X7 q).symm⟩
 · rw[oG hb hk e,vz] at q;exact .inr ⟨e,(X7 q).symm⟩
theorem zU (ar:∀a∈A,jj h A a):u6 (iK K h A):=λb=>by
 cases q:iK K h A b with
 |none=>exact .inl rfl
 |some u =>
  obtain⟨_,vs,_,_,⟨_,e⟩|⟨_,e⟩⟩:=ox ar q
  · exact .inr ⟨_,_,by rw[e]⟩
  · exact .inr ⟨_,_,by rw[e]⟩
theorem Es (ar:∀a∈A,jj h A a):iu P w (iK K h A) h:=λb u q=>by
 obtain⟨_,vs,h1,h2,⟨e,rfl⟩|⟨e,rfl⟩⟩:=ox ar q
 · exact⟨e,by rw[Xs];exact h1,vs,_,iA h2,e⟩
 · exact⟨e,by rw[Xs];exact h1,vs,iA h2,_,e,rfl,_,rfl⟩
theorem oq {c c':Value}{vs us:aaj}(e:(some {cls:=c,data:=.seq vs.toArray}:Option Obj)=some {cls:=c',data:=.seq us.toArray}):c=c'/\vs=us:=by
 have e1:=X7 e;have e2:c=c':=YA Obj.cls e1;have e3:Data.seq vs.toArray=Data.seq us.toArray:=YA Obj.data e1;injection e3 with e4;refine⟨e2,?_⟩;have e5:=YA Array.toList e4;simpa using e5
theorem KD (KX:K.In h)(ar:∀a∈A,jj h A a){a:Addr}{vs:aaj}(ha:a∈A)(e:h.get? a=some {cls:=.type "list",data:=.seq vs.toArray}):(∀u∈vs,Af A u)/\aP K (iK K h A) a (vs.map toV):=by
 obtain⟨us,h1,h2,h3⟩:=ar a ha;have hu:us=vs:=by
  rcases h3 with q|q
  · rw[e] at q;exact (oq q).2.symm
  · rw[e] at q;exact absurd (Value.type.inj (oq q).1) (by decide)
 subst hu;refine⟨h2,?_⟩;cases hk:K.lookup a with
 |none=>exact .inl (.inr ⟨_,by rw[oG ha hk e,vP]⟩)
 |some o =>
  have e2:=KX a o hk;rw[e] at e2;obtain rfl:=X7 e2;exact .inr ⟨_,us.toArray,_,hk,rfl,rfl,rfl,by rw[XR];exact h1,by simpa using iA h2⟩
theorem KW (KX:K.In h)(ar:∀a∈A,jj h A a){a:Addr}{vs:aaj}(ha:a∈A)(e:h.get? a=some {cls:=.type "tuple",data:=.seq vs.toArray}):(∀u∈vs,Af A u)/\bZ K (iK K h A) a (vs.map toV):=by
 obtain⟨us,h1,h2,h3⟩:=ar a ha;have hu:us=vs:=by
  rcases h3 with q|q
  · rw[e] at q;exact absurd (Value.type.inj (oq q).1) (by decide)
  · rw[e] at q;exact (oq q).2.symm
 subst hu;refine⟨h2,?_⟩;cases hk:K.lookup a with
 |none=>exact .inl (.inr ⟨_,by rw[oG ha hk e,vz]⟩)
 |some o =>
  have e2:=KX a o hk;rw[e] at e2;obtain rfl:=X7 e2;exact .inr ⟨_,us.toArray,_,hk,rfl,rfl,by rw[XR];exact h1,by simpa using iA h2⟩
mutual
theorem HU {Pm:Params}(KX:K.In h)(ar:∀a∈A,jj h A a):∀(d:WData) (v:Value),Well Pm h v d->yJ d=true->Af A v->Dw K (iK K h A) (toV v) d
 |.none,_,x,_,_=>by
  cases x;exact .cb
 |.bool b,_,x,_,_=>by
  cases x;exact .bl b
 |.int i,_,x,_,_=>by
  cases x;exact .int i
 |.str s,_,x,_,_=>by
  cases x;exact .str s
 |.bytes b,_,x,_,_=>by
  cases x;have z:=Dw.v8 (K:=K) (H:=iK K h A) b.toArray;exact z
 |.list ds,_,x,p,hu=>by
  obtain⟨a,vs,rfl,ho,LQ⟩:=rf x;obtain⟨h2,hs⟩:=KD KX ar hu ho;exact .lst hs (tY KX ar ds _ LQ p h2)
 |.tuple ds,_,x,p,hu=>by
  obtain⟨a,vs,rfl,ho,LQ⟩:=pR x;obtain⟨h2,hs⟩:=KW KX ar hu ho;exact .tup hs (tY KX ar ds _ LQ p h2)
 |.float _,_,_,p,_=>Bool.noConfusion (show false=true from p)
 |.dict _,_,_,p,_=>Bool.noConfusion (show false=true from p)
 |.bytearray _,_,_,p,_=>Bool.noConfusion (show false=true from p)
 |.set _,_,_,p,_=>Bool.noConfusion (show false=true from p)
 |.frozenset _,_,_,p,_=>Bool.noConfusion (show false=true from p)
 |.obj _ _,_,_,p,_=>Bool.noConfusion (show false=true from p)
theorem tY {Pm:Params}(KX:K.In h)(ar:∀a∈A,jj h A a):∀(ds:List WData) (vs:aaj),WellAll Pm h vs ds->n_ ds=true->(∀u∈vs,Af A u)->iy K (iK K h A) (vs.map toV) ds
 |[],_,x,_,_=>by
  cases x;exact .nil
 |d::ds,_,x,p,hu=>by
  obtain⟨v,vs,rfl,x1,x2⟩:=rW x;have q:yJ d=true/\n_ ds=true:=Z1.mp p;exact .cons (HU KX ar d v x1 q.1 (hu _ (Yg ..))) (tY KX ar ds vs x2 q.2 λu m=>hu u (XN _ m))
end
end
theorem An {P:Program}{w:World}{K:aaf}{mg mb:aah}{CX:mH}{k:Nat}{fa:Addr}{fd:FuncData}{ps:List Str}{sp:Sp}{s₁:Shared}{vals:aaj}{ds:List WData}{R:PySem.W.WRecords}{cl:Str->Option Addr}{d0:WData}
  (KX:K.In s₁.heap)(OS:s₁.heap.Ns mainGlobals mg)(hb:s₁.heap.Ns builtinsNs mb)(Vy:∀x:Str,x≠"__name__"->mb x=bootBuiltins x)(Q9:s₁.heap.NoLimit)(hg:s₁.gens=#[])
  (MV:WellAll w.params s₁.heap vals ds)(LN:n_ ds=true)(Vz:∀d∈ds,d.weight<=1048576)(hr:cK k callerA)
  (F:∀base:Heap,K.In base->base.Ns mainGlobals mg->a8 P w K mg base CX k fa fd ps sp)(OT:∀(s:Shared) (us:aaj),us.length=ps.length->BindsTo s fd ⟨us,[]⟩ (ps.zip us))(hlen:ds.length=ps.length)
  (Mg:∀(H:Hp) (xs:List V),u6 H->iy K H xs ds->sp xs H (λv H'=>Dw K H' v d0) λ_ _ _=>False)
  (OU:∀H e s',CX [] H s₁ (λ_ _ _=>False) e s'->False) :
  codeAny (model P w) callerA (.call (.ref fa) ⟨vals,[]⟩) (λr s'=>∃u as,r=.ok (.ret u)/\ReadsW R cl s'.heap u d0 as/\OldK s₁.heap s'.heap/\s'.os=s₁.os/\AllBare s'.gens) s₁:=by
 obtain⟨A,ho,ar⟩:=mM ds vals MV LN Vz;have hO:u6 (iK K s₁.heap A):=zU ar;have bu:iu P w (iK K s₁.heap A) s₁.heap:=Es ar;have hS:=tY KX ar ds vals MV LN ho;have hV:=iA ho;have hK:∀b u,iK K s₁.heap A b=some u->K.lookup b=none:=λb u q=>(ox ar q).1;have N_:∀{b:Addr} {o:Obj} {es:Array DictEntry} {ep:Nat},s₁.heap.get? b=some o->o.data=.dict es ep->iK K s₁.heap A b=none:=λ{b o es ep} e d=>by
  cases q:iK K s₁.heap A b with
  |none=>rfl
  |some u =>
   obtain⟨_,vs,_,_,⟨e2,_⟩|⟨e2,_⟩⟩:=ox ar q
   · rw[e2] at e;cases e;have d':Data.seq vs.toArray _=Data.dict es ep:=d;cases d'
   · rw[e2] at e;cases e;have d':Data.seq vs.toArray _=Data.dict es ep:=d;cases d'
 generalize iK K s₁.heap A=H at hO bu hS hK N_;have Mr:∀{b:Addr} {o:Obj},s₁.heap.get? b=some o->H b=none->(tw s₁.heap H).get? b=some o:=λe n=>Cn e n;have C1:∀{b:Addr} {m:aah},s₁.heap.Ns b m->(tw s₁.heap H).Ns b m:=λ{b m} ⟨o,es,ep,e,d,r⟩=>⟨o,es,ep,Mr e (N_ e d),d,r⟩;have nK:∀b o,K.lookup b=some o->H b=none:=λb o e=>by
  cases q:H b with
  |none=>rfl
  |some u =>
   rw[hK b u q] at e;cases e
 have Sz:K.In (tw s₁.heap H):=λb o e=>Mr (KX b o e) (nK b o e);have hM:Mod K mg (tw s₁.heap H):=⟨Sz,C1 OS,⟨mb,C1 hb,Vy⟩,let ⟨mc,h1,h2⟩:=Q9;⟨mc,C1 h1,h2⟩⟩;have e0:wD P w K mg (tw s₁.heap H) callerA [] s₁ H:=⟨rfl,hM,λb o e=>Dc e,Z8 (zN _ _),trivial,λb hb=>absurd (show b∈([]:List Addr) from hb) (by simp),bu,.of_eq hg⟩;have hl:vals.length=ps.length:=by rw[gX MV];exact hlen
 refine Z6 ((F _ Sz (C1 OS)).run callerA [] s₁ H ⟨vals,[]⟩ vals (vals.map toV) _ _ hr e0 (OT s₁ vals hl) hV (Mg H _ hO hS)) λr s' x=>?_;cases r with
 |error e=>exact (OU H e s' x).elim
 |ok fl =>
  cases fl with
  |next=>exact False.elim x
  |brk=>exact False.elim x
  |cont=>exact False.elim x
  |ret u =>
   obtain⟨v,H',os,bare,un,OV,r',q⟩:=x;have kept:∀b o,s₁.heap.get? b=some o->s'.heap.get? b=some o:=λb o e=>by
    cases q2:H b with
    |none=>exact un.keep b o e q2 (by intro z;exact absurd (show b∈([]:List Addr) from z) (by simp)) (by simp)
    |some u2 =>
     rcases hO b with z|⟨ob,u3,z⟩
     · rw[q2] at z;cases z
     · have z2:=un.m_ b ob _ z;obtain⟨e1,_⟩:=bu b _ z;obtain⟨e2,_⟩:=OV b _ z2;rw[e] at e1;cases e1;exact e2
   have VA:K.In s'.heap:=λb o e=>kept b o (KX b o e);obtain⟨as,SA⟩:=Dw.reads (R:=R) (cl:=cl) OV VA d0 v u q r';exact⟨u,as,rfl,SA,OldK.of_keep kept,os,bare⟩
theorem pM {ds:List WData}(h:WData.layableAll ds=true):∀d∈ds,d.weight<=1048576:=λd hd =>
 (PySem.W.layableW_iff.mp (X0.mp h d hd)).2.2
theorem qo:∀(cs:List Codec) (a:Codec.denoteAll cs),(Codec.encAll cs a).length=cs.length
 |[],_=>rfl
 |c::cs,a=>by
  show (Codec.encAll cs a.2).length+1=cs.length+1;rw[qo cs a.2]
theorem Ax {r:OpenSpec}{k:Nat}{q:Program}{loose:List Str}{XP:(Str->Option Value)->Heap->Prop}{YP:World->Heap->Prop}{d:DefRec}{K:Params->aaf}{CX:World->mH}{ps:List Str}{sp:World->Sp}
  (MI:r.wellSaid=true)(SD:d.params.defaults=[])(hlen:r.args.length=ps.length)(hr:cK k callerA)
  (hY:∀(w:World) (h:Heap),YP w h->(K w.params).In h)
  (F:∀(w:World) (mg:aah) (fa:Addr) (h:Heap),YP w h->(K w.params).In h->h.Ns mainGlobals mg->mg d.name=some (.ref fa) ->
   ∃fd:FuncData,(∀(s:Shared) (us:aaj),us.length=ps.length->BindsTo s fd ⟨us,[]⟩ (ps.zip us)) /\
    ∀base:Heap,(K w.params).In base->base.Ns mainGlobals mg->a8 r.prog w (K w.params) mg base (CX w) k fa fd ps (sp w))
  (Mg:∀(w:World) (H:Hp) (xs:List V) (a:Codec.denoteAll r.args),u6 H->Codec.withinAll r.args a=true->Codec.app r.args r.asked a=true->iy (K w.params) H xs (Codec.encAll r.args a) ->
   sp w xs H (λv H'=>Dw (K w.params) H' v (r.ret.enc (Codec.app r.args r.f a))) λ_ _ _=>False)
  (OU:∀(w:World) (H:Hp) (s:Shared) (e:Value) (s':Shared),CX w [] H s (λ_ _ _=>False) e s'->False) :
  PySem.W.WalkOS q loose XP YP r d [] (λf vs=>PySem.call f vs):=by
 intro w kJ s₁ mg mb G Y fa o pm cd doc dV kV ho hd Mf hD OW hg args vals as Q_ Ra SA MV QF;obtain⟨a,e1,e2⟩:=PySem.W.os_pre_some Q_;obtain⟨e3,Od⟩:=Codec.encAll_of_decAll r.args args a e1;subst e3;have KX:=hY w _ Y;obtain⟨fd,hb,hF⟩:=F w mg fa _ Y KX G.T.g OW;refine PySem.W.enter_call (Z6 (An (R:=[]) (cl:=classAt kJ.heap) (d0:=r.ret.enc (Codec.app r.args r.f a)) KX G.T.g G.T.b G.T.builtins G.T.nolimit hg MV (r8 _ _) (pM Ra) hr hF hb (by rw[qo];exact hlen)
  (λH xs hO hS=>Mg w H xs a hO Od e2 hS) λH e s'=>OU w H s₁ e s') λr' s' hq=>?_)
 obtain⟨u,VB,rfl,h1,h2,h3,h4⟩:=hq;exact⟨.inl ⟨u,_,VB,rfl,λ_=>rfl,h1,(OpenSpec.post_iff MI Od _ _).mpr rfl,λz=>Bool.noConfusion (show false=true from z)⟩,h2,h3,h4⟩
theorem xP {r:OpenSpec}{k:Nat}{q:Program}{loose:List Str}{XP:(Str->Option Value)->Heap->Prop}{YP:World->Heap->Prop}{d:DefRec}{K:Params->aaf}{CX:mH}{ps:List Str}{sp:aaf->Sp}
  (MI:r.wellSaid=true)(SD:d.params.defaults=[])(hlen:r.args.length=ps.length)(hr:cK k callerA)
  (hY:∀(w:World) (h:Heap),YP w h->(K w.params).In h)
  (F:∀(w:World) (mg:aah) (fa:Addr) (h:Heap),YP w h->(K w.params).In h->h.Ns mainGlobals mg->mg d.name=some (.ref fa) ->
   ∃fd:FuncData,(∀(s:Shared) (us:aaj),us.length=ps.length->BindsTo s fd ⟨us,[]⟩ (ps.zip us)) /\
    ∀base:Heap,(K w.params).In base->base.Ns mainGlobals mg->a8 r.prog w (K w.params) mg base CX k fa fd ps (sp (K w.params)))
  (Mg:∀(K:aaf) (H:Hp) (xs:List V) (a:Codec.denoteAll r.args),u6 H->Codec.withinAll r.args a=true->Codec.app r.args r.asked a=true->iy K H xs (Codec.encAll r.args a) ->
   sp K xs H (λv H'=>Dw K H' v (r.ret.enc (Codec.app r.args r.f a))) λ_ _ _=>False)
  (OU:∀(H:Hp) (s:Shared) (e:Value) (s':Shared),CX [] H s (λ_ _ _=>False) e s'->False) :
  PySem.W.WalkOS q loose XP YP r d [] (λf vs=>PySem.call f vs) :=
 Ax (K:=K) (CX:=λ_=>CX) (sp:=λw=>sp (K w.params)) MI SD hlen hr hY F (λw H xs a h1 h2 h3 h4=>Mg (K w.params) H xs a h1 h2 h3 h4) λ_ H s e s'=>OU H s e s'
end L2
end
namespace L2
open PySem PySem.Spec PyProof.Rows
abbrev bC:mH:=λ_ _ _ _ _ _=>False
abbrev E0:XK:=λ_ _ _=>False
theorem bb {X:Cx}:Passes bC X E0:=λ_ _ _ _ _ _ _ h=>h.elim
structure di (K:aaf)(x qual:Str)(st:Stmt)(f:Addr)(fd:FuncData):Prop where
 ex:∃(oc:Value) (od:Option Addr) (kV doc pm:Value) (an:Option Addr) (LF ct:Value) (Mx:Array (Option Value)),
  fd=PySem.W.fnOf x qual (cX st) (b7 st) (aw st) .none kV doc pm an LF ct/\K.lookup f=some ⟨oc,od,.func fd,Mx⟩/\PySem.W.codeIn K LF qual=true
 kp:PySem.W.keepIn K (.ref f)=true
section
variable {P:Program}{w:World}{K:aaf}{mg:aah}{base:Heap}
theorem di.ok {x qual:Str} {st:Stmt} {f:Addr} {fd:FuncData} {N ps:List Str} {k:Nat} {sp:Sp} (F:di K x qual st f fd) (S:aG N ps (aw st)) (len:∀vs H Q E,sp vs H Q E->vs.length=ps.length)
  (LK:∀(LF:Value) (A:Around) (outer:List Env) (s:Shared) (H:Hp) (vs:List V) (Q:VK) (E:XK),cK k (A.deeper (envOfC qual (aw st) s.heap.objs.size f LF))->sp vs H Q E ->
   ∃t,qP (mO bC P w K mg base N qual (aw st) f LF A outer s H E).Ib (b7 st) t/\t {nx:=λ_ H'=>Q .cb H',rt:=Q} (start N vs) H):a8 P w K mg base bC (k+1) f fd ps sp:=by
 obtain⟨oc,od,kV,doc,pm,an,LF,ct,Mx,rfl,lk,Mf⟩:=F.ex;refine FZ lk Mf S len λA outer s H vs Q E hr Mg=>?_;obtain⟨t,h,q⟩:=LK LF A outer s H vs Q E hr Mg;exact⟨t,h.Ib,q⟩
theorem di.binds {x qual:Str}{st:Stmt}{f:Addr}{fd:FuncData}{ps:List Str}(F:di K x qual st f fd)
  (h:∀(kV doc pm:Value) (an:Option Addr) (LF ct:Value) (us:aaj),us.length=ps.length->bindArgs (PySem.W.fnOf x qual (cX st) (b7 st) (aw st) .none kV doc pm an LF ct) ⟨us,[]⟩=pure (ps.zip us)):Binds K fd ps []:=by
 obtain⟨oc,od,kV,doc,pm,an,LF,ct,Mx,rfl,lk,Mf⟩:=F.ex;exact .all (h kV doc pm an LF ct)
theorem ur {x qual:Str}{st:Stmt}{f:Addr}{oc:Value}{od an:Option Addr}{Mx:Array (Option Value)}{kV doc pm LF ct:Value}(l:K.lookup f=some ⟨oc,od,.func (PySem.W.fnOf x qual (cX st) (b7 st) (aw st) .none kV doc pm an LF ct),Mx⟩)
  (c:PySem.W.codeIn K LF qual=true)(k:PySem.W.keepIn K (.ref f)=true):di K x qual st f (PySem.W.fnOf x qual (cX st) (b7 st) (aw st) .none kV doc pm an LF ct):=⟨⟨oc,od,kV,doc,pm,an,LF,ct,Mx,rfl,l,c⟩,k⟩
end
theorem vO {A:Around}{k:Nat}(hr:cK k A):A.units+1 < cLine:=Nat.lt_of_le_of_lt (Nat.add_le_add_left (by decide:1<=64) _) hr.units
section
variable {X:Cx}
theorem pv (i:Nat) {x:Str} {pos:Pos} (hN:X.N[i]?=some x:=by rfl) (hv:Ic X.env.scope x:=by first|exact Or.inl rfl|exact Or.inr (Or.inl rfl)|exact Or.inr (Or.inr rfl)) (hd:(x==("__debug__":Str))=false:=by decide)
  (Mf:(x==("__classdict__":Str))=false:=by decide):PE X (.Name x pos) (cI i):=GP hN hv hd Mf
end
theorem vt {A B:Prop}(h:B):if false=true then A else B:=by
 rw[Xu XU];exact h
theorem pQ {A B:Prop}(h:A):if true=true then A else B:=by
 rw[Xv rfl];exact h
theorem gH {c A B:Prop} [Decidable c] (h1:c->A)(h2:¬c->B):if c then A else B:=by
 by_cases h:c
 · rw[Xv h];exact h1 h
 · rw[Xu h];exact h2 h
def au (H H':Hp):Prop:=∀b o,H b=some o->H' b=some o
theorem au.refl (H:Hp):au H H:=λ_ _ h=>h
theorem au.trans {H H1 H2:Hp}(a:au H H1)(b:au H1 H2):au H H2:=λc o h=>b c o (a c o h)
theorem au.free {H H':Hp}(e:au H H'){l:Addr}(h:H' l=Option.none):H l=Option.none:=by
 cases q:H l with
 |none=>rfl
 |some o =>
  rw[e l o q] at h;cases h
theorem au.seq {K:aaf}{H H':Hp}{a:Addr}{xs:List V}(e:au H H')(h:aP K H a xs):aP K H' a xs:=by
 rcases h with (h|⟨o,h⟩)|h
 · exact .inl (.inl (e _ _ h))
 · exact .inl (.inr ⟨o,e _ _ h⟩)
 · exact .inr h
section
variable {κ:Type} [DecidableEq κ]
end
end L2
end
set_option autoImplicit false
set_option linter.all false
set_option maxRecDepth 100000
set_option maxHeartbeats 2000000
namespace BwX
open PySem PySem.Calls PySem.Spec PyProof.Rows
structure Nt (fs ch:List Addr)(h g:Heap):Prop where
 keep:∀b o,h.get? b=some o->b∉fs->b∉ch->g.get? b=some o
 slot:∀b o,h.get? b=some o->b∉ch->∃sl,g.get? b=some {o with slots:=sl}
section
variable {fs ch Ma SE:List Addr}{h g k:Heap}
theorem Nt.refl (fs ch:List Addr) (h:Heap):Nt fs ch h h:=⟨λ_ _ e _ _=>e,λ_ o e _=>⟨o.slots,e⟩⟩
theorem Nt.trans (a:Nt fs ch h g)(b:Nt fs ch g k):Nt fs ch h k where
 keep:=λc o e hf hc=>b.keep c o (a.keep c o e hf hc) hf hc
 slot:=λc o e hc=>by
  obtain⟨_,e1⟩:=a.slot c o e hc;obtain⟨sl,e2⟩:=b.slot c _ e1 hc;exact⟨sl,e2⟩
theorem Nt.mono (a:Nt fs ch h g)(hf:∀b∈fs,b∈Ma)(hc:∀b∈ch,b∈SE):Nt Ma SE h g :=
 ⟨λb o e n m=>a.keep b o e (λz=>n (hf b z)) λz=>m (hc b z),λb o e m=>a.slot b o e λz=>m (hc b z)⟩
theorem Nt.push (o:Obj):Nt fs ch h (h.push o):=⟨λ_ _ e _ _=>Xw o e,λ_ u e _=>⟨u.slots,Xw o e⟩⟩
theorem Nt.upd {a:Addr}{f:Obj->Obj}(ha:a∈ch):Nt fs ch h (h.update a f):=by
 have kI:∀b,b∉ch->(h.update a f).get? b=h.get? b:=λb m=>Zq _ _ λz=>m (z ▸ ha);exact⟨λb o e _ m=>(kI b m).trans e,λb o e m=>⟨o.slots,(kI b m).trans e⟩⟩
theorem Nt.slots (so:Heap.SlotsOnly fs h g):Nt fs ch h g:=⟨λb o e n _=>(so.2.1 b n).trans e,λb o e _=>so.2.2 b o e⟩
end
def Rec (h:Heap)(a:Addr)(k:Value)(d:Option Addr)(vs:Array Value):Prop:=∃o,h.get? a=some o/\(o.cls=k/\o.dict=d)/\o.data=.fields vs
section
variable {M:Model}{A:Around}{E:aag}{s:Shared}{h g:Heap}{a:Addr}{k x:Value}{d:Option Addr}{vs:Array Value}{i:Nat}
theorem Rec.put (r:Rec h a k d vs):Rec (h.update a (Obj.mapFields (·.setIfInBounds i x))) a k d (vs.setIfInBounds i x):=by
 obtain⟨⟨oc,od,dt,sl⟩,e,c,dd⟩:=r;cases dd;exact⟨_,Yt _ e rfl,c,rfl⟩
theorem Rec.over {fs ch:List Addr}(r:Rec h a k d vs)(N:Nt fs ch h g)(m:a∉ch):Rec g a k d vs:=by
 obtain⟨o,e,c,dd⟩:=r;obtain⟨sl,e'⟩:=N.slot a o e m;exact⟨_,e',c,dd⟩
theorem Rec.read {Q:aag}(r:Rec s.heap a k d vs)(hi:vs[i]?=some x)(q:Q x s):wpAny M A (field (.ref a) i) Q E s:=by
 obtain⟨o,e,_,dd⟩:=r;exact wpAny_field e dd hi q
theorem Rec.write {Q:Unit->Shared->Prop}(r:Rec s.heap a k d vs)(hi:i < vs.size)(q:Q () {s with heap:=s.heap.update a (Obj.mapFields (·.setIfInBounds i x))}):wpAny M A (setField (.ref a) i x) Q E s:=by
 obtain⟨o,e,_,dd⟩:=r;exact wpAny_setField e dd hi q
end
def ku (h0 h:Heap)(e:Addr)(k:Value)(dx:Addr)(p:Option (Addr×Value)):Prop :=
 ∃vs,(Rec h e k (some dx) vs/\h0.get? e=none) /\
  match p with
  |none=>vs[1]?=some .none
  |some (T,fl)=>vs[1]?=some (.ref T)/\T≠e/\h0.get? T=none/\∃c d ts,Rec h T c d ts/\ts[3]?=some fl
def jH (e:Addr)(p:Option (Addr×Value)):List Addr:=e::p.toList.map (·.1)
section
variable {h0 h1 h:Heap}{e dx:Addr}{k:Value}{p:Option (Addr×Value)}
theorem ku.y9 (F:ku h0 h e k dx p):∀b∈jH e p,h0.get? b=none/\∃c d vs,Rec h b c d vs:=by
 obtain⟨vs,⟨r,n⟩,q⟩:=F;intro b hb;cases p with
 |none =>
  obtain rfl:b=e:=by simpa [jH] using hb
  exact⟨n,_,_,_,r⟩
 |some p =>
  obtain⟨_,_,nT,c,d,ts,rT,_⟩:=q;have hb:b=e∨b=p.1:=by simpa [jH] using hb
  rcases hb with rfl|rfl
  · exact⟨n,_,_,_,r⟩
  · exact⟨nT,c,d,ts,rT⟩
theorem ku.low (F:ku h0 h e k dx p)(hm:∀b,h0.get? b=none->h1.get? b=none):ku h1 h e k dx p:=by
 obtain⟨vs,⟨r,n⟩,q⟩:=F;cases p with
 |none=>exact⟨vs,⟨r,hm _ n⟩,q⟩
 |some p =>
  obtain⟨q1,q2,q3,q4⟩:=q;exact⟨vs,⟨r,hm _ n⟩,q1,q2,hm _ q3,q4⟩
end
section
variable {M:Model}{A:Around}{E:aag}{s:Shared}{base:Heap}{env:Env}{outer:List Env}{L e dx:Addr}{k:Value}{h0:Heap}
theorem entry {vs:Array Value} {Rb:Value} {nx:Bool} {Q:Unit->Shared->Prop} (fr:A.frames=some (env::outer)) (ff:s.heap.FunFrames base (env::outer)) (hf:env.frame=some L) (r:Rec s.heap e k (some dx) vs) (hz:1 < vs.size)
  (fin:∀g T c d ts,s.heap.objs.size<=T->T≠e->Nt ((env::outer).filterMap (·.frame)) [e] s.heap g->Rec g e k (some dx) (vs.setIfInBounds 1 (.ref T))->Rec g T c d ts->ts[3]?=some (rawInt L)->Q () {s with heap:=g}) :
  wpAny M A (frameOf env >>= λa=>entryPlaceOf L nx >>= λpl=>EntryCells.newEntry Rb a .none (rawInt L) .none pl >>= λb=>setField (.ref e) 1 b) Q E s:=by
 refine Xr (wpAny_frameOf_fun fr ff hf λg so=>Xr (wpAny_entryPlaceOf λpl ip=>Xr ?_));simp only[EntryCells.newEntry,newFields];refine YW ?_ (ip.sizeOk5 _ _ _ _ _);have h3:(([Rb,Value.ref L,Value.none,rawInt L,Value.none]++(if pl.isEmpty then List.replicate 6 Value.none else pl)).toArray)[3]?=some (rawInt L):=by simp
 generalize ([Rb,Value.ref L,Value.none,rawInt L,Value.none]++(if pl.isEmpty then List.replicate 6 Value.none else pl)).toArray=ts at h3;have r2:Rec (g.push {cls:=.type "traceback",dict:=none,data:=.fields ts}) e k (some dx) vs:=r.over ((Nt.slots so).trans (Nt.push _):Nt _ [] _ _) (by simp);have ne:g.objs.size≠e:=by
  obtain⟨o,eo,_⟩:=r.over (Nt.slots so:Nt _ [] _ _) (by simp);exact Nat.ne_of_gt (XG eo)
 have rT:Rec (g.push {cls:=.type "traceback",dict:=none,data:=.fields ts}) g.objs.size (.type "traceback") none ts:=⟨_,XJ g rfl,⟨rfl,rfl⟩,rfl⟩;have up:Nt ((env::outer).filterMap (·.frame)) [e] (g.push {cls:=.type "traceback",dict:=none,data:=.fields ts}) _:=Nt.upd (f:=Obj.mapFields (·.setIfInBounds 1 (Value.ref g.objs.size))) (XI.mpr rfl);exact Rec.write (s:={s with heap:=g.push {cls:=.type "traceback",dict:=none,data:=.fields ts}}) r2 hz
  (fin _ g.objs.size _ _ ts (Z8 so.1.symm) ne (((Nt.slots so).trans (Nt.push _)).trans up) r2.put (rT.over up λz=>ne (XI.mp z)) h3)
theorem fb {vs:Array Value}{i:Nat}{x:Value}(h:vs[i]?=some x):i < vs.size:=(Array.getElem?_eq_some_iff.mp h).1
theorem xl {p:Option (Addr×Value)}{Q:Unit->Shared->Prop}(fr:A.frames=some (env::outer))(ff:s.heap.FunFrames base (env::outer))(hf:env.frame=some L)(F:ku h0 s.heap e k dx p)(Mi:∀b,s.heap.get? b=none->h0.get? b=none)
  (hp:∀T fl,p=some (T,fl)->fl=.none∨fl=rawInt L)
  (fin:∀g T,ku h0 g e k dx (some (T,rawInt L))->(T∈jH e p∨s.heap.objs.size<=T)->Nt ((env::outer).filterMap (·.frame)) (jH e p) s.heap g->Q () {s with heap:=g}):wpAny M A (noteFrame (.ref e) env) Q E s:=by
 obtain⟨vs,⟨r,n⟩,q⟩:=F;have made:∀(h:Heap),h.objs.size=s.heap.objs.size->∀g T c d ts,h.objs.size<=T->T≠e->Rec g e k (some dx) (vs.setIfInBounds 1 (.ref T))->Rec g T c d ts->ts[3]?=some (rawInt L)->1 < vs.size->ku h0 g e k dx (some (T,rawInt L)):=λh hs g T c d ts hT ne r1 rT h3 hz =>
  ⟨_,⟨r1,n⟩,by simp[hz],ne,Mi T (Heap.get?_none_of_le (hs ▸ hT)),c,d,ts,rT,h3⟩
 simp only[noteFrame,hf];cases p with
 |none =>
  refine Xr (r.read q ?_);exact entry fr ff hf r (fb q) λg T c d ts hT ne N r1 rT h3=>fin g T (made _ rfl g T c d ts hT ne r1 rT h3 (fb q)) (.inr hT) N
 |some p =>
  obtain⟨T,fl⟩:=p;obtain⟨h1,ne,nT,c,d,ts,rT,h3⟩:=q;refine Xr (r.read h1 (Xr (rT.read h3 ?_)));rcases hp T fl rfl with rfl|rfl
  · have N1:Nt ((env::outer).filterMap (·.frame)) [T] s.heap _:=Nt.upd (f:=Obj.mapFields (·.setIfInBounds 3 Value.none)) (XI.mpr rfl);have r1:=r.over N1 λz=>ne (XI.mp z).symm;have hs:(s.heap.update T (Obj.mapFields (·.setIfInBounds 3 Value.none))).objs.size=s.heap.objs.size:=Heap.size_after_update ..;have f1:(s.heap.update T (Obj.mapFields (·.setIfInBounds 3 Value.none))).FunFrames base (env::outer):=ff.of_keeps λb o eb nb=>by
     obtain⟨sl,z⟩:=N1.slot b o eb λz=>by
      obtain⟨u,eu,_,du⟩:=rT;rw[XI.mp z,eu] at eb;cases eb;exact nb ts du
     exact⟨_,z,rfl⟩
    refine Xr (rT.write (fb h3) ?_);refine entry (s:={s with heap:=s.heap.update T (Obj.mapFields (·.setIfInBounds 3 Value.none))}) fr f1 hf r1 (fb h1) λg T' c' d' VC hT ne' N r2 VD VE=>?_;refine fin g T' (made _ hs g T' c' d' VC hT ne' r2 VD VE (fb h1)) (.inr (Yh (Z8 hs.symm) hT)) ?_;exact (N1.mono (λ_ z=>z) λb z=>by simp at z;simp[jH,z]).trans (N.mono (λ_ z=>z) λb z=>by simp at z;simp[jH,z])
  · have same:(rawInt L==rawInt L)=true:=by first|exact beq_self_eq_true _|simp
    rw[Xv same];exact Xz (fin s.heap T ⟨vs,⟨r,n⟩,h1,ne,nT,c,d,ts,rT,h3⟩ (.inl (by simp[jH])) (Nt.refl _ _ _))
theorem xE {T:Addr}{fl:Value}{v:Option Addr}{fs:List Addr}{Q:Unit->Shared->Prop}(F:ku h0 s.heap e k dx (some (T,fl)))
  (fin:∀g,ku h0 g e k dx (some (T,v.elim .none λf=>rawInt f))->Nt fs (jH e (some (T,fl))) s.heap g->Q () {s with heap:=g}) :
  wpAny M A (setFlight (.ref e) v) Q E s:=by
 obtain⟨vs,⟨r,n⟩,h1,ne,nT,c,d,ts,rT,h3⟩:=F;have N1:Nt fs [T] s.heap _:=Nt.upd (f:=Obj.mapFields (·.setIfInBounds 3 (v.elim Value.none λf=>rawInt f))) (XI.mpr rfl);simp only[setFlight];refine Xr (r.read h1 (rT.write (fb h3) (fin _ ⟨vs,⟨r.over N1 λz=>ne (XI.mp z).symm,n⟩,h1,ne,nT,c,d,_,rT.put,by simp[fb h3]⟩ ?_)));exact N1.mono (λ_ z=>z) λb z=>by simp at z;simp[jH,z]
end
end BwX
namespace BwX
open PySem PySem.Calls PySem.W Builtin Builtin.ObjectAttr
abbrev sh:aaj:=[.type "Exception",.type "BaseException",.type "object"]
def cM (o:Obj)(C N:Addr):Prop:=∃nm q bs sn sub ab col dd k0 k1 k2 k3 k5,o=excClassObj nm q C N bs sh true sn sub ab col dd k0 k1 k2 k3 k5 "Exception.__new__"
section
variable {M:Model}{h:Heap}{a C N:Addr}{oC:Obj}{d:Option Addr}{vs:Array Value}
theorem Rec.type {k:Value} (r:Rec h a k d vs):Looks M h (typeOf (.ref a)) k:=by
 obtain⟨o,e,⟨c,_⟩,_⟩:=r;exact c ▸ (Looks.ld e).andThen .now
theorem cM.data (Z:cM oC C N)(e:h.get? C=some oC):∃cd:ClassData,Looks M h (classData C) cd/\cd.mro=.ref C::sh/\cd.hasDict=true:=by
 obtain⟨nm,q,bs,sn,sub,ab,col,dd,k0,k1,k2,k3,k5,rfl⟩:=Z;exact⟨_,(Looks.ld (part:=none) e).andThen .now,rfl,rfl⟩
theorem cM.mro (Z:cM oC C N)(e:h.get? C=some oC):Looks M h (mroOf (.ref C)) (.ref C::sh):=by
 obtain⟨cd,l,m,_⟩:=Z.data (M:=M) e;exact l.andThen (m ▸ .now)
theorem cM.sub (Z:cM oC C N)(e:h.get? C=some oC){b:Value}{r:Bool}(hb:(Value.ref C::sh).contains b=r):Looks M h (isSubtype (.ref C) b) r:=by
 unfold isSubtype;refine (Z.mro e).andThen ?_;dsimp only;rw[hb];exact .now
theorem cM.meta (Z:cM oC C N)(e:h.get? C=some oC):Looks M h (typeOf (.ref C)) (.type "type"):=by
 obtain⟨nm,q,bs,sn,sub,ab,col,dd,k0,k1,k2,k3,k5,rfl⟩:=Z;exact (Looks.ld e).andThen .now
theorem Rec.Ik {k:Value}(r:Rec h a k d vs):Looks M h (isType (.ref a)) false:=by
 obtain⟨o,e,_,dt⟩:=r;refine (Looks.ld e).andThen ?_;rw[dt];exact .now
end
section
variable {M:Model}{A:Around}{E:aag}{s:Shared}{env:Env}
theorem xU {x:Sem Value} {Q:Flow->Shared->Prop} (hh:A.handled=none)
  (h:wpAny M A x (λv s1=>∃e C N oC d vs,v=.ref e/\Rec s1.heap e (.ref C) d vs/\vs[1]?=some .none/\s1.heap.get? C=some oC/\cM oC C N/\E (.ref e) s1) E s) :
  wpAny M A (raiseStmt env (some x) none) Q E s:=by
 refine Xr (YL h (λv s1 q=>?_) λ_ _ z=>z);obtain⟨e,C,N,oC,d,vs,rfl,r,h1,eC,Z,hE⟩:=q;obtain⟨hp,g,dr,tk,os⟩:=s1;have r:Rec hp e (.ref C) d vs:=r;have eC:hp.get? C=some oC:=eC;have l0:=r.type (M:=M);have l1:=Z.sub (M:=M) eC (b:=.type "BaseException") (r:=true) (by rw[List.contains_cons];exact Bool.or_eq_true_iff.mpr (.inr (by decide)));have l2:=Z.meta (M:=M) eC;have l3:=r.Ik (M:=M);have lE:Looks M hp (isExcClass (.ref e)) false:=l3.andThen .now;have lI:Looks M hp (isInstance (.ref e) (.type "BaseException")) true:=l0.andThen l1;have l4:Looks M hp (excFromValue (.ref e) "exceptions must derive from BaseException") (.ref e):=lE.andThen (lI.andThen .now);have l5:Looks M hp (raisedInstance (.ref e)) (.ref e):=l0.andThen (l2.andThen .now);refine Xr (Xz (Xr (Zv (l4.at ?_))));refine Xr (l3.at (Xr (l5.at (Xr ?_))));refine Xr (r.read (s:=⟨hp,g,dr,tk,os⟩) h1 (Xz ?_));exact wpAny_raiseNew_none hh hE
end
theorem DE {o:Obj}{es:Array DictEntry}{ep:Nat}{f:Str}{v:Value}(d:o.data=.dict es ep)(e:nsFind es f=some v):lookIn f o=some (some v):=by
 unfold lookIn;rw[d];unfold nsFind findBy at e;rw[←Array.find?_toList] at e;dsimp only;split
 · rename_i en he;rw[he] at e;exact YA some e
 · rename_i he;rw[he] at e;cases e
section
variable {prog:Program}{w:World}{A:Around}{E:aag}{K:Frag}{h:Heap}{g:Array GenState}{dr:Drawn}{tk:Nat}{os:OsState}{a C N dx:Addr}{oC:Obj}{vs:Array Value}{f:Str}{v:Value}{mA:aah}{b:Bool}
theorem vy {Q:aag} (X:K.In h) (eC:K.lookup C=some oC) (Z:cM oC C N) (ga:findIn K (.ref C) "__getattribute__"=some (some (.builtin "BaseException.__getattribute__"))) (gt:findIn K (.ref C) "__getattr__"=some none) (nf:findIn K (.ref C) f=some none)
  (r:Rec h a (.ref C) (some dx) vs) (n:h.Ns1 dx mA) (hv:mA f=some v) (hh:handedOut v=pure v) (q:Q v ⟨h,g,dr,tk+1,os⟩):wpAny (model prog w) A (getAttr (.ref a) f b) Q E ⟨h,g,dr,tk,os⟩:=by
 obtain⟨o,e,⟨c,d⟩,dt⟩:=id r;obtain⟨od,es,ep,e1,e2,_,_,e3⟩:=n;obtain⟨nm,q',bs,sn,sub,ab,col,dd,k0,k1,k2,k3,k5,rfl⟩:=id Z;have I:InstAt h a o C (some od):=⟨e,c,by unfold notCls;rw[dt],by rw[d];exact e1⟩;have fo:findObj K C (some od) f=some (.value v):=by
  obtain⟨cd,hc,hd⟩:∃cd,clsIn K C=some cd/\cd.hasDict=true:=⟨_,by unfold clsIn;rw[eC],rfl⟩;have ho:ownOf cd (some od) f=some (some v):=(Xv hd).trans (DE e2 ((e3 f).trans hv));unfold findObj;rw[hc,nf];show (ownOf cd (some od) f).bind _=_;rw[ho];rfl
 have FB:=F.attrBase_Exception;have l0:=I.type (M:=model prog w);have l1:=looks_findIn (M:=model prog w) X ga;have l2:=looks_findIn (M:=model prog w) X gt;have l3:=looks_find (M:=model prog w) X I fo;refine Xr (wpAny_mkText (Zv (Xr (l0.at (Xr (l1.at ?_))))));show wpAny _ _ (getAttrByItsOwn (.ref a) (.str f tk) (.ref C) (.builtin "BaseException.__getattribute__") true b) _ _ _;refine Xr (l2.at (Xr (wpAny_attempt (Zv ?_))));have OX:callGetattribute (.ref a) (.str f tk) (.builtin "BaseException.__getattribute__") b=call (.builtin "BaseException.__getattribute__") [.ref a,.str f tk]:=by
  have hb:callGetattribute (.ref a) (.str f tk) (.builtin "BaseException.__getattribute__") b=boundAndCalled (.builtin "BaseException.__getattribute__") (.ref a) (.str f tk):=by cases b <;> rfl
  rw[hb];unfold boundAndCalled;rw[FB.ga.bind];rfl
 rw[OX];refine wpAny_call (codeAny_call_builtin FB.ga.plain F.entry_bexc_ga (wpAny_check_ga_own FB (X _ _ eC) .base e c ?_));refine Xr (Xz (Xr (Xz (Xr (l0.at (Xr (l3.at (Xz ?_))))))));show wpAny _ _ (handedOut v) _ _ _;rw[hh];exact Xz q
theorem vJ {sl:Array (Option Value)}{Q:Unit->Shared->Prop}(X:K.In h)(eC:K.lookup C=some oC)(Z:cM oC C N)(sa:findIn K (.ref C) "__setattr__"=some (some (.builtin "object.__setattr__")))(nf:findIn K (.ref C) f=some none)
  (e:h.get? a=some ⟨.ref C,none,.fields vs,sl⟩)
  (fin:∀g' My,g'.get? a=some ⟨.ref C,some h.objs.size,.fields vs,sl⟩->g'.Ns1 h.objs.size (λy=>if y=f then some v else none)->(∀b o,b≠a->h.get? b=some o->g'.get? b=some o)->Q () ⟨g',g,dr,My,os⟩) :
  wpAny (model prog w) A (setAttr (.ref a) f v) Q E ⟨h,g,dr,tk,os⟩:=by
 have SF:=F.store_Exception;have r:Rec h a (.ref C) none vs:=⟨_,e,⟨rfl,rfl⟩,rfl⟩;have Rc:=X _ _ eC;have l0:=r.type (M:=model prog w);have l1:=looks_findIn (M:=model prog w) X sa;have l2:=looks_findIn (M:=model prog w) X nf;have l3:=Z.mro (M:=model prog w) Rc;obtain⟨cd,l4,_,hd⟩:=Z.data (M:=model prog w) Rc;have ne:a≠h.objs.size:=X6 (XG e);obtain⟨nm,q',bs,sn,sub,ab,col,dd,k0,k1,k2,k3,k5,rfl⟩:=id Z;refine Xr (wpAny_mkText (Xr (Xr (Xr (l0.at (l1.at ?_))))));refine Zv (Xr ?_);rw[SF.slot.bind];refine Xz (Xr (wpAny_call ?_));refine codeAny_call_builtin SF.slot.plain SF.entry ?_;show wpAny _ _ (checkBuiltinCall "object.__setattr__" ⟨[.ref a,.str f tk,v],[]⟩) _ _ _;refine PySem.wpAny_check_sa (sa:="object.__setattr__") (owner:="object") (B:="Exception") (bm:=sh) SF (x:=a) (C:=C) Rc e rfl ?_;show wpAny _ _ (Builtin.«object.__setattr__» ⟨[.ref a,.str f tk,v],[]⟩) _ _ _;rw[osa_eq,refuse_eq];refine Xr (Xr (l0.at (Xr (l3.at ?_))));rw[refuseLoop_ref,SF.passes];refine Xz (Xr (l0.at (Xr (l2.at (Xr (Xz ?_))))));show wpAny _ _ (storeInOwnDict (.ref a) (.ref C) (.str f tk) f v false) _ _ _;have dic:∀(A':Around) (E':aag) (Q':Option Addr->Shared->Prop) (My:Nat),Q' (some h.objs.size) ⟨(h.push {cls:=.type "dict",data:=.dict #[]}).update a λo=>{o with dict:=some h.objs.size},g,dr,My,os⟩ ->
   wpAny (model prog w) A' (ownDictForStores (.ref a)) Q' E' ⟨h,g,dr,My,os⟩:=λA' E' Q' My z=>by
  refine Xr (wpAny_loadPart e (Xr (l4.at ?_)));rw[hd];exact Xr (wpAny_alloc (Xr (wpAny_update (Xw _ e) (Xz z))))
 refine Xr (Xz (Xr (dic _ _ _ _ ?_)));have SG:((h.push {cls:=.type "dict",data:=.dict #[]}).update a λo=>{o with dict:=some h.objs.size}).get? a=some ⟨.ref C,some h.objs.size,.fields vs,sl⟩:=Yt _ (Xw _ e) rfl;have SI:((h.push {cls:=.type "dict",data:=.dict #[]}).update a λo=>{o with dict:=some h.objs.size}).get? h.objs.size=some {cls:=.type "dict",data:=.dict #[]}:=(Zq _ _ ne).trans (XJ h rfl);have old:∀b o,b≠a->h.get? b=some o->((h.push {cls:=.type "dict",data:=.dict #[]}).update a λo=>{o with dict:=some h.objs.size}).get? b=some o:=λb o n eb=>(Zq _ _ (Z7 n)).trans (Xw _ eb);generalize ((h.push {cls:=.type "dict",data:=.dict #[]}).update a λo=>{o with dict:=some h.objs.size})=h1 at SG SI old;have n1:h1.Ns1 h.objs.size (λ_=>none):=⟨_,#[],_,SI,rfl,λy hy=>by simp at hy,by unfold UniqKeys;simp,λ_=>rfl⟩;show wpAny _ _ (storeInDict h.objs.size (.str f tk) f v) _ _ _;refine Xr (Xz (Xr (wpAny_nsSet1 n1 λh2 n2 same=>?_)));obtain⟨oD,U5,U6,QR,QS,v9⟩:=n2.count (Within.cons f v Within.nil);refine Xr (wpAny_lookBehind QR (by rw[QS];exact pastItsLine_dict (Yh v9 (by show 1<=sizeLine+1;decide))) (Xz ?_));refine Xz (Xz (fin h2 _ ((same.2 a ne).trans SG) n2 λb o n eb=>(same.2 b (X6 (XG eb))).trans (old b o n eb)))
end
end BwX
namespace L2
open PySem PySem.Spec PyProof.Rows BwX
def ff (k p:Int):List (Str×V):=[("kind",.int k),("place",.int p)]
def sx (dx:Addr)(fs:List (Str×V)):HO:=.ext λh=>∃mA,h.Ns1 dx mA/\∀f,jc (fs.lookup f) (mA f)
def Rz (C:Addr)(E:XK)(k p:Int):Prop:=∀(H:Hp) (dx:Addr),H dx=some (sx dx (ff k p))->E (.ref C) (some dx) H
def eW (P:Program)(w:World)(C:Addr):mH:=λouter H s E e s' =>
 ∃(a dx T:Addr) (H':Hp) (k p:Int),(e=.ref a/\s'.os=s.os/\AllBare s'.gens/\Un (v_ outer) [] H H' s.heap s'.heap/\iu P w H' s'.heap) /\
  ku s.heap s'.heap a (.ref C) dx (some (T,.none))/\(∀b∈jH a (some (T,Value.none)),H' b=none)/\H' dx=some (sx dx (ff k p))/\Rz C E k p
def XF (X:Cx)(C:Addr)(E:XK):Value->Shared->Prop:=λe s' =>
 ∃(σ:St) (H:Hp) (a dx:Addr) (t:Option (Addr×Value)) (k p:Int),(e=.ref a/\Inv X [] σ H s')/\ku X.kJ.heap s'.heap a (.ref C) dx t/\(∀b∈jH a t,H b=none) /\
  (∀T fl,t=some (T,fl)->fl=.none∨fl=rawInt X.env.locals)/\H dx=some (sx dx (ff k p))/\Rz C E k p
structure l_ (X:Cx):Prop where
 Fs:X.stack=X.env::X.outer
 frame:X.env.frame=some X.env.locals
 pn:X.pn=[]
 ex:X.ex=[]
section
variable {X:Cx}{pins:aai}{σ:List (Option V)}{H H':Hp}{s:Shared}{h':Heap}
theorem Inv.gone (I:Inv X pins σ H s) (O:l_ X):∀b,s.heap.get? b=none->X.kJ.heap.get? b=none:=λb e=>by
 cases q:X.kJ.heap.get? b with
 |none=>rfl
 |some o =>
  obtain⟨o',z⟩:=I.base.there b o q (by rw[O.ex];simp);rw[e] at z;cases z
end
section
variable {X:Cx}{σ:St}{H:Hp}{s:Shared}{C a dx:Addr}{E:XK}{M:Model}
theorem Inv.FG {g:Heap} {ch:List Addr} (I:Inv X [] σ H s) (O:l_ X) (nt:Nt (v_ X.stack) ch s.heap g) (L1:∀b∈ch,X.kJ.heap.get? b=none/\∃c d vs,Rec s.heap b c d vs) (hH:∀b∈ch,H b=none):Inv X [] σ H {s with heap:=g}:=by
 refine I.Fw (s':={s with heap:=g}) (ch:=ch) rfl ⟨λb o e _ hb hc=>nt.keep b o e hb hc,λb o e _ _ hc=>nt.slot b o e hc,λ_ _ _ n _=>n,λb o e hc=>(let ⟨_,z⟩:=nt.slot b o e hc;⟨_,z⟩),λ_ _ e=>e,λ_ _ _ e=>e,λb ps e=>⟨#[],by rw[e];simp⟩⟩ (λb u e=>?_) I.bare (λb hb=>?_)
 · refine (I.bu b u e).kI (λc v hc q=>?_) (λ_ q=>q) λ_ _ q=>q;have tr:H c≠none:=by
    rcases hc with rfl|hc
    · rw[e];simp
    · rw[hc];simp
   exact nt.keep c v q (λz=>tr (I.uB c z)) λz=>tr (hH c z)
 · obtain⟨h1,c,d,vs,o,ho,_,hd⟩:=L1 b hb;refine⟨.inr h1,?_,?_,?_⟩
   · rintro rfl;obtain⟨m,⟨o',es,ep,L0,Mc,_⟩,_⟩:=I.loc;rw[L0] at ho;cases ho;rw[Mc] at hd;cases hd
   · rintro x c e rfl;obtain⟨v,o',L0,Mc⟩:=I.cell x c e;rw[L0] at ho;cases ho;rw[Mc] at hd;cases hd
   · intro p hp;rw[O.pn] at hp;simp at hp
theorem ya {t:Option (Addr×Value)}{k:Value}{E':aag}{Q:Unit->Shared->Prop}(O:l_ X)(I:Inv X [] σ H s)(F:ku X.kJ.heap s.heap a k dx t)(hH:∀b∈jH a t,H b=none)
  (Nq:∀T fl,t=some (T,fl)->fl=.none∨fl=rawInt X.env.locals)
  (fin:∀g T,Inv X [] σ H {s with heap:=g}->ku X.kJ.heap g a k dx (some (T,rawInt X.env.locals))->(∀b∈jH a (some (T,rawInt X.env.locals)),H b=none)->Q () {s with heap:=g}) :
  wpAny M X.A (noteFrame (.ref a) X.env) Q E' s:=by
 have fr:=I.ok.frames;have ff:=I.stack;rw[O.Fs] at fr ff;refine xl (base:=X.base) fr ff O.frame F (I.gone O) Nq λg T F' hT N=>fin g T (I.FG O (by rw[O.Fs];exact N) F.y9 hH) F' λb hb=>?_;rcases Xx.mp hb with rfl|hb
 · exact hH _ (Yg ..)
 · have:b=T:=by simpa using hb
   subst this;rcases hT with hT|hT
   · exact hH _ hT
   · exact I.bu.fresh hT
theorem lZ {T:Addr}{fl k:Value}{v:Option Addr}{E':aag}{Q:Unit->Shared->Prop}{A:Around}(O:l_ X)(I:Inv X [] σ H s)(F:ku X.kJ.heap s.heap a k dx (some (T,fl)))(hH:∀b∈jH a (some (T,fl)),H b=none)
  (fin:∀g,Inv X [] σ H {s with heap:=g}->ku X.kJ.heap g a k dx (some (T,v.elim .none λf=>rawInt f))->Q () {s with heap:=g}) :
  wpAny M A (setFlight (.ref a) v) Q E' s :=
 xE (fs:=v_ X.stack) F λg F' N=>fin g (I.FG O N F.y9 hH) F'
theorem Dt {P:Program}{w:World}{e:Value}{Q:Unit->Shared->Prop}{E':aag}(O:l_ X)(hP:X.prog=P)(hw:X.w=w)(h:XF X C E e s)(fin:∀s',eW P w C X.outer X.Ig X.kJ E e s'->Q () s'):wpAny M X.A (leaving X.env e) Q E' s:=by
 obtain⟨σ,H,a,dx,t,k,p,⟨rfl,I⟩,F,hH,Nq,hx,hz⟩:=h;unfold leaving;refine Xr (ya O I F hH Nq λg T I1 F1 H1=>lZ O I1 F1 H1 λg2 I2 F2=>fin _ ?_);have b:=I2.base;rw[O.ex] at b;exact⟨a,dx,T,H,k,p,⟨rfl,I2.os,I2.bare,b,hP ▸ hw ▸ I2.bu⟩,F2,H1,hx,hz⟩
theorem yR (O:l_ X):PassesOwn M X.A X.env (XF X C E):=by
 rintro e s' ⟨σ,H,a,dx,t,k,p,⟨rfl,I⟩,F,hH,Nq,hx,hz⟩;refine ya O I F hH Nq λg T I1 F1 H1=>?_;unfold cameBackBy;obtain⟨vs,⟨r,_⟩,h1,_⟩:=id F1;refine Xr (Rec.read (s:={s' with heap:=g}) r h1 ?_);rw[Xu (by simp)];refine lZ O I1 F1 H1 λg2 I2 F2=>?_;refine⟨σ,H,a,dx,_,k,p,⟨rfl,I2⟩,F2,H1,λT' VF q=>?_,hx,hz⟩;rw[O.frame] at q;injection q with q;injection q with _ q;exact .inr q.symm
theorem bQ {P:Program}{w:World}(O:l_ X)(hP:X.prog=P)(hw:X.w=w):Passes (eW P w C) (X.iq (XF X C E)) E:=by
 rintro pins σ H s e s' I ⟨a,dx,T,H',k,p,⟨rfl,os,bare,un,bu⟩,F,hH,hx,hz⟩;subst hP hw;have I1:Inv X pins σ H s:=I.dk;have I2:Inv X pins σ H' s':=I1.Fl (ch:=[]) os un bu bare (λb z=>absurd z (by simp));refine⟨σ,H',a,dx,_,k,p,⟨rfl,I2.ml (pins':=[]) (λp hp=>absurd hp (by simp))⟩,F.low (I1.gone O),hH,λT' VF q=>?_,hx,hz⟩;injection q with q;injection q with _ q;exact .inl q.symm
end
section
variable {P:Program}{w:World}{K:aaf}{mg:aah}{base:Heap}
theorem aH {CX:mH} {N:List Str} {qual:Str} {scope:Scope} {f:Addr} {cd:Value} {A:Around} {outer:List Env} {s:Shared} {H:Hp} {E:XK}:l_ (mO CX P w K mg base N qual scope f cd A outer s H E):=⟨rfl,rfl,rfl,rfl⟩
abbrev K8 (C:Addr)(P:Program)(w:World)(K:aaf)(mg:aah)(base:Heap)(N:List Str)(qual:Str)(scope:Scope)(f:Addr)(cd:Value)(A:Around)(outer:List Env)(s:Shared)(H:Hp)(E:XK):Cx :=
 (mO (eW P w C) P w K mg base N qual scope f cd A outer s H E).iq (XF (mO (eW P w C) P w K mg base N qual scope f cd A outer s H E) C E)
theorem di.LA {x qual:Str}{st:Stmt}{f C:Addr}{fd:FuncData}{N ps:List Str}{k:Nat}{sp:Sp}(F:di K x qual st f fd)(S:aG N ps (aw st))(len:∀vs H Q E,sp vs H Q E->vs.length=ps.length)
  (LK:∀(LF:Value) (A:Around) (outer:List Env) (s:Shared) (H:Hp) (vs:List V) (Q:VK) (E:XK),cK k (A.deeper (envOfC qual (aw st) s.heap.objs.size f LF))->sp vs H Q E ->
   ∃t,qP (K8 C P w K mg base N qual (aw st) f LF A outer s H E) (b7 st) t/\t {nx:=λ_ H'=>Q .cb H',rt:=Q} (start N vs) H):a8 P w K mg base (eW P w C) (k+1) f fd ps sp:=by
 obtain⟨oc,od,kV,doc,pm,an,LF,ct,Mx,rfl,lk,Mf⟩:=F.ex;refine FZ lk Mf S len λA outer s H vs Q E hr Mg=>?_;obtain⟨t,h,q⟩:=LK LF A outer s H vs Q E hr Mg;refine⟨t,λpins s1 σ H1 D I hw=>?_,q⟩;refine YL (h pins s1 σ H1 D (I.iq _) hw) (λ_ _ q=>q.dk) λe s' z=>?_;exact Dt aH rfl rfl z λPL z=>z
end
def il (K:aaf)(N:Addr):Bool:=match K.lookup N with
 |some ⟨_,_,.dict es _,_⟩=>es.toList.all λe=>match e.key with
  |.str _ _=>true
  |_=>false
 |_=>false
def C1 (K:aaf)(N:Addr)(x:Str):Option Value:=match K.lookup N with
 |some ⟨_,_,.dict es _,_⟩=>nsFind es x
 |_=>none
theorem Cg {K:aaf}{N:Addr}{h:Heap}(X:K.In h)(e:il K N=true):h.Ns N (C1 K N):=by
 unfold il at e;split at e
 · rename_i c d es n sl q;refine⟨_,es,n,X _ _ q,rfl,λy hy=>?_,λname=>?_⟩
   · have z:=X0.mp e y (Array.mem_toList_iff.mpr hy);split at z
     · rename_i a b w;exact⟨a,b,w⟩
     · cases z
   · unfold C1;rw[q]
 · cases e
theorem tE {K:aaf}{N:Addr}{x:Str}{r:Option Value}(e:PySem.W.nsIn K N x=some r):C1 K N x=r:=by
 unfold PySem.W.nsIn at e;unfold C1;split at e
 · rename_i c d es n sl q;rw[q];show nsFind es x=r;unfold nsFind findBy;rw[←Array.find?_toList];split at e
   · rename_i y w;rw[w];exact X7 e
   · rename_i w;rw[w];split at e
     · cases e
     · exact X7 e
 · cases e
structure pW (K:aaf)(C N fI:Addr):Prop where
 cls:∃oC,K.lookup C=some oC/\cM oC C N
 keys:il K N=true
 init:PySem.W.nsIn K N "__init__"=some (some (.ref fI))
 fn:PySem.W.isFn K (.ref fI)=true
 kp:PySem.W.keepIn K (.ref C)=true
 AV:PySem.W.nsIn K N "__setattr__"=some none
 KS:PySem.W.nsIn K N "kind"=some none
 K1:PySem.W.nsIn K N "place"=some none
 sa:PySem.W.findIn K (.ref C) "__setattr__"=some (some (.builtin "object.__setattr__"))
 ga:PySem.W.findIn K (.ref C) "__getattribute__"=some (some (.builtin "BaseException.__getattribute__"))
 gt:PySem.W.findIn K (.ref C) "__getattr__"=some none
 fK:PySem.W.findIn K (.ref C) "kind"=some none
 fP:PySem.W.findIn K (.ref C) "place"=some none
theorem Lo:typeLookup (.type "Exception") "kind"=pure none:=by rw[typeLookup_type,builtinLookup_eq_fast];kernel_rfl
theorem Lq:typeLookup (.type "Exception") "place"=pure none:=by rw[typeLookup_type,builtinLookup_eq_fast];kernel_rfl
def uk (a C t:Addr)(od:Option Addr):HO:=.ext λh=>h.get? a=some {cls:=.ref C,dict:=od,data:=.fields #[.ref t,.none,.none,.none,.bool false,.none]}
theorem bK.there {P:Program}{w:World}{H:Hp}{h:Heap}{a:Addr}{o:HO}(x:bK P w H h a o):∃u,h.get? a=some u:=by
 cases o with
 |lst xs=>obtain⟨_,_,_,_,e⟩:=x;exact⟨_,e⟩
 |tup xs=>obtain⟨_,_,_,o,e,_⟩:=x;exact⟨_,e⟩
 |dK LC=>obtain⟨_,_,_,_,o,_,_,e,_⟩:=x;exact⟨_,e⟩
 |dT LC=>obtain⟨_,_,_,_,o,_,_,e,_⟩:=x;exact⟨_,e⟩
 |set S n=>obtain⟨o,_,_,_,e,_⟩:=x;exact⟨_,e⟩
 |ins C dx fs=>obtain⟨_,_,_,e,_⟩:=x;exact⟨_,e⟩
 |own y=>exact x
 |xd fs=>obtain⟨_,⟨_,_,_,e,_⟩,_⟩:=x;exact⟨_,e⟩
 |rng lo hi=>obtain⟨_,_,_,e⟩:=x;exact⟨_,e⟩
 |frz ob u=>obtain⟨e,_⟩:=x;exact⟨_,e⟩
 |tbl ps=>exact⟨_,show h.get? a=some _ from x⟩
 |met f y=>exact⟨_,show h.get? a=some _ from x⟩
 |ext φ=>obtain⟨_,e,_⟩:=x;exact e
theorem iu.gone {P:Program}{w:World}{H:Hp}{h:Heap}{a:Addr}(x:iu P w H h)(e:h.get? a=none):H a=none:=by
 cases q:H a with
 |none=>rfl
 |some o =>
  obtain⟨u,z⟩:=(x a o q).there;rw[e] at z;cases z
theorem Ba {P:Program}{w:World}{H:Hp}{h:Heap}{dx:Addr}{fs:List (Str×V)}{mA:aah}(n:h.Ns1 dx mA)(r:∀f,jc (fs.lookup f) (mA f)):bK P w H h dx (sx dx fs):=by
 obtain⟨o,es,ep,e,c⟩:=id n;refine⟨⟨mA,n,r⟩,⟨o,e⟩,?_⟩;rintro h1 h2 ⟨m,⟨o,es,ep,e,c⟩,r⟩ k;exact⟨m,⟨o,es,ep,k _ e,c⟩,r⟩
theorem AQ {P:Program}{w:World}{H:Hp}{h:Heap}{a C t:Addr}{od:Option Addr}(e:h.get? a=some {cls:=.ref C,dict:=od,data:=.fields #[.ref t,.none,.none,.none,.bool false,.none]}):bK P w H h a (uk a C t od) :=
 ⟨e,⟨_,e⟩,λ_ _ e k=>k _ e⟩
section
variable {X:Cx}{pins:aai}{σ:St}{H:Hp}{s:Shared}{a C N fI t dx:Addr}{fs:List (Str×V)}{f:Str}{v:V}{u:Value}{A:Around}{E':aag}{Q:Unit->Shared->Prop}
theorem JQ (I:Inv X pins σ H s) (Z:pW X.K C N fI) (nf:PySem.W.findIn X.K (.ref C) f=some none) (ea:H a=some (uk a C t none)) (r:RelV v u)
  (h:∀s' dx,H dx=none->dx≠a->Inv X pins σ (upd (upd H dx (sx dx [(f,v)])) a (uk a C t (some dx))) s'->Q () s'):wpAny (model X.prog X.w) A (setAttr (.ref a) f u) Q E' s:=by
 obtain⟨oC,hC,hF⟩:=Z.cls;obtain⟨φ,_,_⟩:=I.bu a _ ea;have hK:=I.mW;obtain⟨hp,ga,d,tk,os⟩:=s;refine vJ hK hC hF Z.sa nf φ λg My h1 h2 h3=>?_;have fr:H hp.objs.size=none:=I.bu.fresh (XC _);have ne:hp.objs.size≠a:=λz=>by rw[z,ea] at fr;cases fr
 refine h ⟨g,ga,d,My,os⟩ hp.objs.size fr ne ?_;have at_:∀b o,H b=some o->b≠a->(upd (upd H hp.objs.size (sx hp.objs.size [(f,v)])) a (uk a C t (some hp.objs.size))) b=some o:=λb o e n=>by
  rw[aq n,aq (λz=>by rw[z,fr] at e;cases e)];exact e
 have no:∀b o,H b=some o->(∀φ,o≠.ext φ)->b≠a:=λb o e n z=>by
  rw[z,ea] at e;exact n _ (X7 e).symm
 refine I.un (h':=g) (t':=My) ⟨λb o e n _ _=>?_,λb o e n _ _=>?_,λb o e n _=>?_,λb o e _=>?_,λb xs e=>at_ b _ e (no b _ e λ_ z=>by cases z),λb o u e=>at_ b _ e (no b _ e λ_ z=>by cases z),λb ps e=>⟨#[],by rw[at_ b _ e (no b _ e λ_ z=>by cases z)];simp⟩⟩ (λb u e=>?_)
 · exact h3 b o (λz=>by rw[z,ea] at n;cases n) e
 · exact⟨o.slots,h3 b o (λz=>by rw[z,ea] at n;cases n) e⟩
 · rw[aq (λz=>by rw[z,ea] at n;cases n),aq (X6 (XG e))];exact n
 · by_cases z:b=a
   · exact⟨_,z ▸ h1⟩
   · exact⟨o,h3 b o z e⟩
 · by_cases z:b=a
   · subst z;rw[ae] at e;cases e;exact AQ h1
   · rw[aq z] at e;by_cases z2:b=hp.objs.size
     · subst z2;rw[ae] at e;cases e;refine Ba h2 λy=>?_;by_cases hy:y=f
       · subst hy;simp only[List.lookup,beq_self_eq_true,Zc];exact r
       · have hb:(y==f)=false:=X2.mpr hy;simp only[List.lookup,hb,Xu hy]
         trivial
     · rw[aq z2] at e;refine (I.bu b u e).kI (λc w' hc q=>h3 c w' ?_ q) (λc q=>at_ c _ q (no c _ q λ_ z=>by cases z)) λc xs q=>at_ c _ q (no c _ q λ_ z=>by cases z);rcases hc with rfl|hc
       · exact z
       · exact no c _ hc λ_ z=>by cases z
theorem Jo (I:Inv X pins σ H s)(Z:pW X.K C N fI)(hn:PySem.W.nsIn X.K N f=some none)(hB:typeLookup (.type "Exception") f=pure none)(ea:H a=some (uk a C t (some dx)))(ed:H dx=some (sx dx fs))(ne:dx≠a)(hl:fs.length < 1000)(r:RelV v u)
  (h:∀s',Inv X pins σ (upd H dx (sx dx (eN f v fs))) s'->Q () s'):wpAny (model X.prog X.w) A (setAttr (.ref a) f u) Q E' s:=by
 obtain⟨_,hC,nm,q,bs,sn,sub,ab,col,dd,k0,k1,k2,k3,k5,rfl⟩:=Z.cls;have VG:=I.mW _ _ hC;have hN:=Cg I.mW Z.keys;have nC:a≠C:=λz=>by
  have:=(I.bs C _ (I.ok.mod.Fj _ _ hC)).2;rw[←z,ea] at this;cases this
 obtain⟨φ,_,_⟩:=I.bu a _ ea;obtain⟨⟨mA,n1,rl⟩,_,_⟩:=I.bu dx _ ed;obtain⟨hp,ga,d,tk,os⟩:=s;have wi:Within mA (fs.map (·.1)):=λy hy=>by
  have q:=rl y;cases e:fs.lookup y with
  |none =>
   rw[e] at q;cases e2:mA y with
   |none=>exact absurd e2 hy
   |some w'=>rw[e2] at q;exact q.elim
  |some w'=>exact X3.mpr ⟨(y,w'),PySem.mem_of_lookup e,rfl⟩
 refine store_attr F.store_Exception VG hN (tE Z.AV) (tE hn) hB nC ⟨_,φ,rfl,(λc q=>by cases q),Or.inr ⟨dx,rfl,ne,n1⟩⟩ (λh' My J keep same=>?_) wi (by rw[Xs,XY];omega);obtain⟨o1,e1,c1,d1,s1,x1⟩:=same _ φ;have x1:o1.dict=some dx:=x1 dx rfl;obtain⟨o2,e2,_,_,r2⟩:=J;rw[e1] at e2;cases e2;have n2:h'.Ns1 dx (λy=>if y=f then some u else mA y):=by
  rcases r2 with ⟨z,_⟩|⟨d',z,_,w'⟩
  · rw[x1] at z;cases z
  · rw[x1] at z;cases z;exact w'
 refine h ⟨h',ga,d,My,os⟩ (I.write (h':=h') (t':=My) (x:=dx) (e:=dx) (by rw[ed];trivial) (.inl rfl) (λb o hb e=>?_) ?_ (Ba n2 λy=>?_))
 · by_cases z:b=a
   · subst z;rw[φ] at e;cases e;rw[e1];obtain⟨p1,p2,p3,p4⟩:=o1;simp only at c1 d1 s1 x1;rw[c1,d1,s1,x1]
   · exact keep b o z (λo₀ MB w0 w1=>by
      rw[φ] at w0;cases w0;cases w1;exact hb) e
 · obtain⟨o,_,_,e,_⟩:=n2;exact⟨o,e⟩
 · rw[jE];by_cases hy:y=f
   · simp only[Xv hy];exact r
   · simp only[Xu hy];exact rl y
end
def Jp (C:Addr)(ta tv:TE)(f:Str):TS:=λD σ H=>tv σ H λy H1=>ta σ H1 λx H2=>∃a t,x=.ref a /\
 ((H2 a=some (uk a C t none)/\∀dx,H2 dx=none->dx≠a->D.nx σ (upd (upd H2 dx (sx dx [(f,y)])) a (uk a C t (some dx)))) ∨
  ∃dx fs,H2 a=some (uk a C t (some dx))/\H2 dx=some (sx dx fs)/\dx≠a/\fs.length < 1000/\D.nx σ (upd H2 dx (sx dx (eN f y fs))))
theorem y4 {X:Cx}{C N fI:Addr}{o value:Expr}{f:Str}{pos pos':Pos}{ta tv:TE}(Z:pW X.K C N fI)(nf:PySem.W.findIn X.K (.ref C) f=some none)(hn:PySem.W.nsIn X.K N f=some none)(hB:typeLookup (.type "Exception") f=pure none)(ha:PE X o ta)(hv:PE X value tv)
  (hs:swapsWith value (some (.Attribute o f pos')) pos.line X.env=pure false):PS X (.Assign [.Attribute o f pos'] value pos) (Jp C ta tv f):=by
 intro pins s σ H D I h;refine plainObj_wpAny_Assign_Attribute (bA (hv pins s σ H _ I h) λu s1 ⟨y,H1,I1,ry,q⟩=>bA (ha pins s1 σ H1 _ I1 q) λov s2 ⟨x,H2,I2,rx,a,t,ex,q2⟩=>?_) hs;subst ex;obtain rfl:ov=Value.ref a:=rx;rcases q2 with ⟨ea,q2⟩|⟨dx,fs,ea,ed,ne,hl,q2⟩
 · exact JQ I2 Z nf ea ry λs3 dx fr ne I3=>⟨σ,_,I3,q2 dx fr ne⟩
 · exact Jo I2 Z hn hB ea ed ne hl ry λs3 I3=>⟨σ,_,I3,q2⟩
def Hc (C:Addr):Sp:=λvs H Q _=>∃(a t:Addr) (k p:Int),vs=[.ref a,.int k,.int p]/\H a=some (uk a C t none) /\
 ∀(dx:Addr),H dx=none->dx≠a->Q .cb (upd (upd H dx (sx dx (ff k p))) a (uk a C t (some dx)))
section
variable {X:Cx}{pins:aai}{σ:St}{H:Hp}{s:Shared}
theorem Inv.grown {a:Addr} {o:HO} {h':Heap} {t':Nat} (I:Inv X pins σ H s) (k:∀b u,s.heap.get? b=some u->h'.get? b=some u) (hp:s.heap.get? a=none) (new:bK X.prog X.w (upd H a o) h' a o):Inv X pins σ (upd H a o) {s with heap:=h',toks:=t'}:=by
 have fr:H a=none:=I.bu.gone hp;have at_:∀b u,H b=some u->(upd H a o) b=some u:=λb u e=>by rw[aq (ao e fr)];exact e
 refine I.un (h':=h') (t':=t') ⟨λb u e n _ _=>k b u e,λb u e n _ _=>⟨u.slots,k b u e⟩,λb u e n _=>?_,λb u e _=>⟨u,k b u e⟩,λb xs e=>at_ b _ e,λb u v e=>at_ b _ e,λb ps e=>⟨#[],by rw[at_ b _ e];simp⟩⟩ λb u e=>?_
 · rw[aq (λz=>by rw[z,hp] at e;cases e)];exact n
 · by_cases z:b=a
   · subst z;rw[ae] at e;cases e;exact new
   · rw[aq z] at e;exact (I.bu b u e).kI (λc v _ q=>k c v q) (λc q=>at_ c _ q) λc xs q=>at_ c _ q
def J3 (H:Hp)(a:Addr):Hp:=λb=>if b=a then none else H b
theorem pX {a:Addr}:J3 H a a=none:=Xv rfl
theorem sH {a b:Addr}(h:b≠a):J3 H a b=H b:=Xu h
theorem Inv.dropped {a:Addr}{φ:Heap->Prop}(I:Inv X pins σ H s)(e:H a=some (.ext φ)):Inv X pins σ (J3 H a) s:=by
 have at_:∀b u,H b=some u->(∀ψ,u≠.ext ψ)->J3 H a b=some u:=λb u q n=>by
  rw[sH (λz=>by rw[z,e] at q;exact n _ (X7 q).symm)];exact q
 refine I.un (h':=s.heap) (t':=s.toks) ⟨λb u q n _ _=>q,λb u q n _ _=>⟨u.slots,q⟩,λb u q n _=>?_,λb u q _=>⟨u,q⟩,λb xs q=>at_ b _ q (λ_ z=>by cases z),λb u v q=>at_ b _ q (λ_ z=>by cases z),λb ps q=>⟨#[],by rw[at_ b _ q (λ_ z=>by cases z)];simp⟩⟩ λb u q=>?_
 · by_cases z:b=a
   · rw[z];exact pX
   · rw[sH z];exact n
 · by_cases z:b=a
   · rw[z,pX] at q;cases q
   · rw[sH z] at q;exact (I.bu b u q).kI (λc v _ w=>w) (λc w=>at_ c _ w λ_ z=>by cases z) λc xs w=>at_ c _ w λ_ z=>by cases z
theorem Inv.seen {a:Addr}{φ:Heap->Prop}(I:Inv X pins σ H s)(O:l_ X)(h0:X.kJ.heap.get? a=none)(fr:H a=none)(nL:a≠X.env.locals)(nC:∀x c,X.env.cells.lookup x=some c->c≠a)(VH:pins=[])(nf:a∉X.fs)(new:bK X.prog X.w (upd H a (.ext φ)) s.heap a (.ext φ)) :
  Inv X pins σ (upd H a (.ext φ)) s:=by
 have at_:∀b u,H b=some u->(upd H a (.ext φ)) b=some u:=λb u q=>by rw[aq (ao q fr)];exact q
 refine⟨I.ok,I.os,I.bare,⟨I.base.keep,I.base.slot,λb o q n hx=>?_,I.base.there,λb xs q=>at_ b _ (I.base.oj b xs q),λb u v q=>at_ b _ (I.base.m_ b u v q),λb ps q=>?_⟩,I.loc,I.cell,?_,λx c q=>?_,λp hp=>?_,λb u q=>?_,I.len⟩
 · rw[aq (λz=>by rw[z,h0] at q;cases q)];exact I.base.free b o q n hx
 · obtain⟨m,w⟩:=I.base.oo b ps q;exact⟨m,at_ b _ w⟩
 · rw[aq nL.symm];exact I.free
 · rw[aq (nC x c q)];exact I.gC x c q
 · rw[O.pn,VH] at hp;simp at hp
 · by_cases z:b=a
   · subst z;rw[ae] at q;cases q;exact new
   · rw[aq z] at q;exact (I.bu b u q).kI (λc v _ w=>w) (λc w=>at_ c _ w) λc xs w=>at_ c _ w
end
def Ks (C:Addr)(E:XK)(t:TA):TS:=λ_ σ H=>t σ H λvs _=>∃k p,vs=[.int k,.int p]/\Rz C E k p
theorem AZ {X:Cx}{C N fI:Addr}{E:XK}{x:Str}{np LJ pos:Pos}{e:Expr}{es:List Expr}{t:TA}{j:Nat}{SJ:FuncData}(O:l_ X)(Z:pW X.K C N fI)(FI:a8 X.prog X.w X.K X.mg X.base bC j fI SJ ["self","kind","place"] (Hc C))(hr:cK (j+1) X.A)
  (bI:Binds X.K SJ ["self","kind","place"] [])(hg:Gl X x)(hm:X.mg x=some (.ref C))(ha:PA (X.iq (XF X C E)) (e::es) t)(Mj:(x==("__debug__":Str))=false:=by decide)
  (he:starEach (e::es) X.env=(false,eval e X.env)::starEach es X.env:=by rfl)(LN:(backTo LJ (starEach es X.env)).any (·.1)=false:=by rfl) :
  PS (X.iq (XF X C E)) (.Raise (some (.Call (.Name x np) (e::es) [] LJ)) none pos) (Ks C E t):=by
 intro pins s σ H D I h;obtain⟨oC,hC,hF⟩:=Z.cls;rw[arm_exec_Raise];refine Xr (wpAny_standAt (xU hr.hd (Xr (YL ?_ (λv s1 q=>Xr (wpAny_standAt (Xz q))) λ_ _ z=>z))));refine ZJ (lN (X:=X) I.dk hg hm ?_ Mj);refine PySem.W.callWith_K (h₀:=X.base) I.ok.mod.Fj Z.kp (bA (ha LJ pins s σ H _ I h) λus s2 ⟨vs,H1,I1,r,k,p,ev,hz⟩=>⟨I1.mW,?_⟩) he LN;subst ev;have I1:Inv X pins σ H1 s2:=I1.dk;obtain⟨u1,u2,rfl,r1,r2⟩:=vals2 r;obtain⟨oI,PV,VI⟩:∃oI,s2.heap.get? fI=some oI/\oI.cls=.type "function":=by
  have z:=Yk.mp Z.fn;unfold PySem.W.typeIn at z;cases q:X.K.lookup fI with
  |none=>simp[q] at z
  |some o =>
   simp[q] at z;exact⟨o,I1.mW _ _ q,z⟩
 obtain⟨nm,q,bs,sn,sub,ab,col,dd,k0,k1,k2,k3,k5,Oe⟩:=id hF;obtain⟨hp,ga,d,tk,os⟩:=s2;refine wpAny_call_exc_init F.excBase_Exception (Oe ▸ I1.mW _ _ hC) (Cg I1.mW Z.keys) (tE Z.init) PV VI (λh' a M=>?_) (by show 2<=sizeLine;decide);obtain⟨keep,fresh,t0,Rf,_,_⟩:=M;have I2:Inv X pins σ (upd H1 a (uk a C t0 none)) (⟨h',ga,d,tk,os⟩:Shared):=I1.grown keep fresh (AQ Rf);have rv:Vals [V.ref a,V.int k,V.int p] [Value.ref a,u1,u2]:=.cons rfl r;refine wpAny_call (Z6 (FI.run _ X.stack _ _ ⟨[Value.ref a,u1,u2],[]⟩ [Value.ref a,u1,u2] [V.ref a,V.int k,V.int p]
  (λv H'=>v=.cb/\∃dx,(upd H1 a (uk a C t0 none)) dx=none/\dx≠a/\H'=upd (upd (upd H1 a (uk a C t0 none)) dx (sx dx (ff k p))) a (uk a C t0 (some dx))) E0 (hr.make C [u1,u2] []) (I2.Ht.make C [u1,u2] []) ?_ rv ⟨a,t0,k,p,rfl,ae,λdx h1 h2=>⟨rfl,dx,h1,h2,rfl⟩⟩) λr s3 hq=>?_)
 · have z:=bI (⟨h',ga,d,tk,os⟩:Shared) [Value.ref a,u1,u2] I2.mW rfl;rw[Yw] at z;exact z
 cases r with
 |error e=>exact False.elim hq
 |ok fl =>
  cases fl with
  |next=>exact False.elim hq
  |brk=>exact False.elim hq
  |cont=>exact False.elim hq
  |ret u =>
   obtain⟨v,H',I3,rv,ev,dx,Mm,ne,eH⟩:=I2.after hq;subst ev eH;have ea:(upd (upd (upd H1 a (uk a C t0 none)) dx (sx dx (ff k p))) a (uk a C t0 (some dx))) a=some (uk a C t0 (some dx)):=ae;obtain⟨φ,_,_⟩:=I3.bu a _ ea;refine⟨rv,a,C,N,oC,some dx,_,rfl,⟨_,φ,⟨rfl,rfl⟩,rfl⟩,rfl,I3.mW _ _ hC,hF,σ,_,a,dx,none,k,p,⟨rfl,(I3.dropped ea).ml (pins':=[]) λp hp=>absurd hp (by simp)⟩,⟨_,⟨⟨_,φ,⟨rfl,rfl⟩,rfl⟩,I1.gone O a fresh⟩,rfl⟩,λb hb=>?_,λT fl z=>(nomatch z),?_,hz⟩
   · have:b=a:=by simpa [jH] using hb
     rw[this];exact pX
   · rw[sH ne,aq ne,ae]
section
variable {X:Cx}{st:Stmt}{rest:List Stmt}{t u:TS}
theorem PS.zero (h:PS X st t):KO X st t:=λs σ H D I q=>h [] s σ H D I q
theorem qP.zero (h:qP X rest t):Cd X rest t:=λs σ H D I q=>h [] s σ H D I q
theorem ig (h1:KO X st t)(h2:Cd X rest u):Cd X (st::rest) (GZ t u):=by
 intro s σ H D I h;refine wpAny_execs_cons (bA (h1 s σ H {D with nx:=u D} I h) λf s1 q=>?_);cases f with
 |next =>
  obtain⟨σ',H',I',q⟩:=q;exact h2 s1 σ' H' D I' q
 |ret v=>exact q
 |brk=>exact q
 |cont=>exact q
end
section
variable {P:Program}{w:World}{K:aaf}{mg:aah}{base:Heap}
theorem di.KL {x qual:Str} {st:Stmt} {f:Addr} {fd:FuncData} {N ps:List Str} {k:Nat} {sp:Sp} (F:di K x qual st f fd) (S:aG N ps (aw st)) (len:∀vs H Q E,sp vs H Q E->vs.length=ps.length)
  (LK:∀(LF:Value) (A:Around) (outer:List Env) (s:Shared) (H:Hp) (vs:List V) (Q:VK) (E:XK),cK k (A.deeper (envOfC qual (aw st) s.heap.objs.size f LF))->sp vs H Q E ->
   ∃t,Cd (mO bC P w K mg base N qual (aw st) f LF A outer s H E).Ib (b7 st) t/\t {nx:=λ_ H'=>Q .cb H',rt:=Q} (start N vs) H):a8 P w K mg base bC (k+1) f fd ps sp:=by
 obtain⟨oc,od,kV,doc,pm,an,LF,ct,Mx,rfl,lk,Mf⟩:=F.ex;refine Cm lk Mf S len λA outer s H vs Q E hr Mg=>?_;obtain⟨t,h,q⟩:=LK LF A outer s H vs Q E hr Mg;exact⟨t,λs1 σ H1 D I hw=>YL (h s1 σ H1 D (I.iq _) hw) (λ_ _ q=>q.dk) λ_ _ z=>False.elim z,q⟩
end
def J4 (a C dx:Addr):HO:=.ext λh=>∃(oe:Obj) (vs:Array Value),h.get? a=some oe/\oe.cls=.ref C/\oe.dict=some dx/\oe.data=.fields vs
theorem HK {P:Program}{w:World}{H:Hp}{h:Heap}{a C dx:Addr}{oe:Obj}{vs:Array Value}(e:h.get? a=some oe)(c:oe.cls=.ref C)(x:oe.dict=some dx)(d:oe.data=.fields vs):bK P w H h a (J4 a C dx) :=
 ⟨⟨oe,vs,e,c,x,d⟩,⟨_,e⟩,λh1 h2 ⟨o,vs,e,r⟩ k=>⟨o,vs,k _ e,r⟩⟩
def JD (C:Addr)(ta:TE)(f:Str):TE:=λσ H Q=>ta σ H λx H1=>∃a dx fs v,x=.ref a/\H1 a=some (J4 a C dx)/\H1 dx=some (sx dx fs)/\fs.lookup f=some v/\Q v H1
theorem yO {X:Cx}{C N fI:Addr}{e:Expr}{f:Str}{pos:Pos}{ta:TE}(Z:pW X.K C N fI)(nf:PySem.W.findIn X.K (.ref C) f=some none)(he:PE X e ta)(hb:attributeBase e f X.env (eval e X.env)=eval e X.env):PE X (.Attribute e f pos) (JD C ta f):=by
 intro pins s σ H Q I h;obtain⟨oC,hC,hF⟩:=Z.cls;refine yx hb (bA (he pins s σ H _ I h) λu s1 ⟨x,H1,I1,rx,a,dx,fs,v,ex,ea,ed,l,q⟩=>?_);subst ex;obtain rfl:u=Value.ref a:=rx;obtain⟨⟨oe,vs,e1,c1,x1,d1⟩,_,_⟩:=I1.bu a _ ea;obtain⟨⟨mA,n1,rl⟩,_,_⟩:=I1.bu dx _ ed;have rv:=rl f;rw[l] at rv;obtain⟨u,hu,ru⟩:=jc.some_of rv;have hK:=I1.mW;obtain⟨hp,ga,d,tk,os⟩:=s1;exact vy hK hC hF Z.ga Z.gt nf ⟨oe,e1,⟨c1,x1⟩,d1⟩ n1 hu (PySem.W.handedOut_of (su ru)) ⟨v,H1,I1.tok _,ru,q⟩
def EE (R:Int->Int->Prop):XK:=λ_ VJ H=>∃dx k p,VJ=some dx/\H dx=some (sx dx (ff k p))/\R k p
theorem Js {C:Addr}{R:Int->Int->Prop}{k p:Int}(h:R k p):Rz C (EE R) k p:=λ_ dx e=>⟨dx,k,p,rfl,e,h⟩
abbrev Cx.Fo (X:Cx)(a:Addr):Cx:={X with A:=X.A.mark (some (.ref a)),calm:=false,xe:=λ_ _=>False}
section
variable {X:Cx}{pins:aai}{σ:St}{H:Hp}{s:Shared}
theorem Inv.Fo (I:Inv X pins σ H s) (a:Addr):Inv (X.Fo a) pins σ H s :=
 ⟨⟨I.ok.mod,I.ok.kind,I.ok.glob,I.ok.blt,I.ok.above,I.ok.inj,I.ok.has,I.ok.Ii,λz=>(by cases z),I.ok.frames,I.ok.Fs,I.ok.Io,I.ok.bs,I.ok.C2,I.ok.zT,I.ok.zY,I.ok.mw,I.ok.FE⟩,I.os,I.bare,I.base,I.loc,I.cell,I.free,I.gC,I.pin,I.bu,I.len⟩
theorem Inv.JB {a:Addr}(I:Inv (X.Fo a) pins σ H s)(ok:X.Ok):Inv X pins σ H s:=⟨ok,I.os,I.bare,I.base,I.loc,I.cell,I.free,I.gC,I.pin,I.bu,I.len⟩
theorem Inv.Gx {h':Heap}{m':aah}{t':Nat}(I:Inv X [] σ H s)(O:l_ X)(hn:h'.Ns X.env.locals m')(sb:Heap.SameBut X.env.locals s.heap h'):Inv X [] (List.replicate X.N.length none) H {s with heap:=h',toks:=t'}:=by
 refine⟨I.ok,I.os,I.bare,⟨λb o e n hb hx=>?_,λb o e n hb hx=>?_,I.base.free,λb o e hx=>?_,I.base.oj,I.base.m_,I.base.oo⟩,⟨m',hn,λi x v e1 e2 _=>?_⟩,λx c e=>?_,I.free,I.gC,λp hp=>?_,λb u e=>?_,by simp⟩
 · exact (sb.2 b (X6 (X_ (XG e) I.ok.above))).trans (I.base.keep b o e n hb hx)
 · obtain⟨sl,z⟩:=I.base.slot b o e n hb hx;exact⟨sl,(sb.2 b (X6 (X_ (XG e) I.ok.above))).trans z⟩
 · obtain⟨o',z⟩:=I.base.there b o e hx;exact⟨o',(sb.2 b (X6 (X_ (XG e) I.ok.above))).trans z⟩
 · rw[List.getElem?_replicate] at e2;split at e2 <;> cases e2
 · obtain⟨v,z⟩:=I.cell x c e;exact⟨v,z.sameBut sb (I.Ft x c e)⟩
 · rw[O.pn] at hp;simp at hp
 · refine (I.bu b u e).kI (λc v hc q=>(sb.2 c ?_).trans q) (λ_ q=>q) λ_ _ q=>q;rintro rfl;have fr:=I.free;rcases hc with rfl|hc
   · rw[fr] at e;cases e
   · rw[fr] at hc;cases hc
end
def Lz (X:Cx)(pins:aai)(D:Ends)(f:Flow)(s':Shared):Prop:=match f with
 |.ret u=>SP X [] D (.ret u) s'
 |f=>SP X pins D f s'
def K6 (X:Cx)(st:Stmt)(t:TS):Prop:=∀(pins:aai) (s:Shared) (σ:St) (H:Hp) (D:Ends),Inv X pins σ H s->t D σ H->wpAny (model X.prog X.w) X.A (exec st X.env) (Lz X pins D) X.xe s
theorem D6 {X:Cx}{tg iter:Expr}{st:Stmt}{wi:TI}{g:TG}{tb:TS}{pos:Pos}(hp:PassesOwn (model X.prog X.w) X.A X.env X.xe)(hc:X.calm=true)(hi:PI X tg iter wi)(hg:PG X tg g)(hb:K6 X st tb)
  (hs:∀x,foldedSetIterable iter X.env x=pure x:=by intro _;rfl):KO X (.For tg iter [st] [] pos) (GH wi g tb):=by
 intro s σ H D I h;refine wpAny_For (bA (hi [] s σ H _ I h) λv s1 h1=>bA h1 λPJ s2 h2=>?_) hs;obtain⟨it,fp,tn,J,H2,e,I2,T,N9,f2,W,⟨m0,w0⟩,turn⟩:=h2;subst e;have LY:∀{H':Hp},(∀b∈fp,H' b=none)->∀b∈fp,nj X [] H' b:=λhn b hb=>⟨hn b hb,(f2 b hb).2⟩;refine codeAny_forLoop_any (λn s'=>∃i σ' H',Inv X [] σ' H' s'/\tn i s'.heap/\(∀b∈fp,H' b=none)/\W i n σ' H') ?_ m0 ⟨0,σ,H2,I2,N9,λb hb=>(f2 b hb).1,w0⟩;rintro n s3 ⟨i,σ3,H3,I3,NK,OJ,w3⟩;rcases turn i n σ3 H3 w3 with ⟨stop,qn⟩|⟨go,N,hN,step⟩
 · refine YN hp (bA (T.done X rfl rfl rfl hc i [] s3 σ3 H3 X.xe I3 (LY OJ) NK stop) λr s4 ⟨hr,I4⟩=>?_);subst hr;exact Zr ⟨σ3,H3,I4,qn⟩
 · refine YN hp (bA (T.item X rfl rfl rfl hc i [] s3 σ3 H3 X.xe I3 (LY OJ) NK go) λr s4 ⟨u,hr,h4⟩=>?_);subst hr;refine YN hp (bA h4 λ_ s5 ⟨x,H5,I5,r5,y5,MS,QN⟩=>?_);have QO:=I5.pinned (LY QN) (T.obj _ _ MS);refine YN hp (bA (hg _ s5 σ3 H5 x u _ QO r5 (step x H5 y5)) λ_ s6 ⟨σ6,H6,I6,q6⟩=>?_);refine YN hp (wpAny_execs_cons (bA (hb _ s6 σ6 H6 _ I6 q6) λf s7 q7=>?_));have again:∀{σ7:St} {H7:Hp},Inv X ([]++mN fp s5.heap) σ7 H7 s7->N σ7 H7->∃m,m < n/\∃i σ' H',Inv X [] σ' H' s7/\tn i s7.heap/\(∀b∈fp,H' b=none)/\W i m σ' H':=λ{σ7 H7} I7 n7=>by
    obtain⟨m',hm,w7⟩:=hN σ7 H7 n7;refine⟨m',hm,i+1,σ7,H7,I7.iF,T.keep _ _ _ MS λb hb o e=>(I7.pin (b,o) (Ys _ (Ys _ (gE hb e)))).1,λb hb=>?_,w7⟩;obtain⟨o,e,d⟩:=T.obj _ _ MS b hb;exact (I7.pin (b,o) (Ys _ (Ys _ (gE hb e)))).2.1
   cases f with
   |next=>obtain⟨σ7,H7,I7,n7⟩:=q7;exact Zr (again I7 n7)
   |cont=>obtain⟨σ7,H7,I7,n7⟩:=q7;exact again I7 n7
   |brk=>obtain⟨σ7,H7,I7,q7⟩:=q7;exact⟨σ7,H7,I7.iF,q7⟩
   |ret v=>exact q7
def Ke (C:Addr)(i:Nat)(R:Int->Int->Prop)(tb th:TS):TS:=λD σ H=>tb D σ H /\
 ∀(σ':St) (H':Hp) (a dx:Addr) (k p:Int),R k p->σ'[i]?=some (some (.ref a))->H' a=some (J4 a C dx)->H' dx=some (sx dx (ff k p))->th {nx:=λ_ _=>False,rt:=D.rt} σ' H'
theorem Hm {X:Cx}{C N fI:Addr}{R:Int->Int->Prop}{x n:Str}{np Rg pos:Pos}{body Nr:List Stmt}{b0:Stmt}{i:Nat}{tb th:TS}(O:l_ X)(Z:pW X.K C N fI)(hg:Gl X x)(hm:X.mg x=some (.ref C))(hN:X.N.Nodup)(hi:X.N[i]?=some n)
  (hl:X.env.scope.names.lookup n=some .local)(hb:qP (X.iq (XF X C (EE R))) body tb)(hh:∀a,qP (X.Fo a) (b0::Nr) th)(Mj:(x==("__debug__":Str))=false:=by decide) :
  K6 X (.Try body [.ExceptHandler (some (.Name x np)) (some n) (b0::Nr) Rg] [] [] pos) (Ke C i R tb th):=by
 rintro pins s σ H D I ⟨hq,VL⟩;obtain⟨oC,hC,hF⟩:=Z.cls;refine wpAny_Try_except (YL (hb pins s σ H D (I.iq _) hq) (λf s1 q=>?_) λe s1 z=>?_)
 · cases f with
   |next=>exact Zr q.dk
   |brk=>exact q.dk
   |cont=>exact q.dk
   |ret u =>
    obtain⟨v,σ',H',I',r⟩:=q.dk;exact⟨v,σ',H',I'.ml (pins':=[]) λp hp=>absurd hp (by simp),r⟩
 obtain⟨σ1,H1,a,dx,t,k,p,⟨rfl,I1⟩,F1,hH,Nq,hx,hz⟩:=z;obtain⟨MB,k',p',e1,e2,hR⟩:=hz H1 dx hx;cases e1;refine ya O I1 F1 hH Nq λg T I2 F2 H2=>?_;refine lZ (v:=none) O I2 F2 H2 λg2 I3 F3=>?_;obtain⟨vs3,⟨⟨oe3,VM,⟨VN,xe3⟩,de3⟩,_⟩,_⟩:=id F3;obtain⟨_,_,_,_,_,_,_,_,_,_,_,_,_,Oe⟩:=id hF;refine wpAny_handleBy_cons (codeAny_handlers_test (lN (X:=X.Fo a) (I3.Fo a) hg hm ?_ Mj)) (by intro z;cases z);refine wpAny_excMatches_sub_self (Oe ▸ I3.mW _ _ hC) VM VN (by decide) (codeAny_handlers_suite_as ?_);have H3:∀b∈jH a (some (T,(none:Option Addr).elim Value.none λf=>rawInt f)),H1 b=none:=H2;refine lZ (v:=none) O I3 F3 H3 λg4 I4 F4=>?_;obtain⟨vs4,⟨⟨oe4,NS,⟨VO,VP⟩,Of⟩,z4⟩,_⟩:=id F4;have nL:a≠X.env.locals:=by
  rintro rfl;obtain⟨m,⟨o',es,ep,L0,Mc,_⟩,_⟩:=I4.loc;rw[L0] at NS;cases NS;rw[Mc] at Of;cases Of
 have nC:∀x c,X.env.cells.lookup x=some c->c≠a:=by
  rintro x c e rfl;obtain⟨v,o',L0,Mc⟩:=I4.cell x c e;rw[L0] at NS;cases NS;rw[Mc] at Of;cases Of
 have nf:a∉X.fs:=λz=>by
  obtain⟨_,o',L0,Mc⟩:=I4.mw.mem z;rw[L0] at NS;cases NS;exact Mc _ Of
 have I5:Inv X [] σ1 (upd H1 a (J4 a C dx)) _:=I4.seen O z4 (hH a (Yg ..)) nL nC rfl nf (HK NS VO VP Of);have nd:dx≠a:=λz=>by
  have:=hH a (Yg ..);rw[←z,hx] at this;cases this
 refine mf (X:=X.Fo a) (v:=V.ref a) (I5.Fo a) hN hi (.inl hl) rfl (λs6 I6=>?_) (.inr hl);have li:i < σ1.length:=by rw[I4.len];exact (XH.mp hi).1
 refine YL (hh a [] s6 _ _ {nx:=λ_ _=>False,rt:=D.rt} I6 (VL _ _ a dx k' p' hR (ZO li) ae (by rw[aq nd];exact e2))) (λf s7 z=>?_) λ_ _ z=>False.elim z;cases f with
 |next=>obtain⟨_,_,_,z⟩:=z;exact False.elim z
 |brk=>obtain⟨_,_,_,z⟩:=z;exact False.elim z
 |cont=>obtain⟨_,_,_,z⟩:=z;exact False.elim z
 |ret u =>
  obtain⟨v,σ8,H8,I8,rv,z⟩:=z;have I8:Inv X [] σ8 H8 s7:=I8.JB I.ok;obtain⟨m,hn,_⟩:=id I8.loc;refine wpAny_nameGoes hl hn (by rw[I.ok.kind];rfl) λh' m' MQ sb=>?_;exact⟨v,_,H8,I8.Gx O MQ sb,rv,z⟩
end L2
namespace L2
open PySem PySem.Spec PyProof.Rows
section
variable {X:Cx}
theorem xa:ir X (.builtin "sorted") (λxs H Q=>∃(t:Addr) (ns:List Int),xs=[.ref t]/\bZ X.K H t (ns.map V.int)/\ns.length < 64 /\
  ∀(ms:List Int) (p:Addr),ms.Perm ns->ms.Pairwise (·<=·)->H p=none->Q (.ref p) (upd H p (.lst (ms.map V.int)))):=by
 rintro pins s σ H xs us Q I r ⟨t,ns,rfl,ht,MZ,q⟩;rw[Vals.wA r];obtain⟨LD,rv,⟨o,ho,hc,n,hd⟩,hz⟩:=I.tuple ht;have hi:=rv.ints;have v9:LD.length < 64:=by rw[hi.length];exact MZ
 have line:LD.length<=sizeLine:=yw v9;refine PySem.Calls.call_function_entry kind_sorted plain_sorted entry_sorted (args_sorted1 _) ?_;show wpAny _ _ (checkCount "sorted" 1 1 1 >>= λ_=>collect (.ref t) >>= λvs=>newList vs >>= λl=>holding [l] (call (.builtin "list.sort") [l] []) >>= λ_=>ret l) _ _ _;refine Xr (Xz (Xr (wpAny_collect_seq t (.inr rfl) ho hc hd (λh1 k1=>Xr (wpAny_newList (Xr (Zv ?_)) ?_)) ?_)))
 ·
  have new:(h1.push {cls:=.type "list",data:=.seq LD.toArray.toList.toArray}).get? h1.objs.size=some (seqObj "list" LD.toArray 0):=XJ h1 rfl;refine YQ slot_list_sort ⟨_,new,rfl⟩ entry_list_sort (list_sort_tree new hi v9 λout ms p1 p2 p3=>⟨.none,rfl,Xz ⟨_,rfl,?_⟩⟩) (args_list_sort _);have MJ:s.heap.get? h1.objs.size=none:=by
   cases z:s.heap.get? h1.objs.size with
   |none=>rfl
   |some u=>exact absurd (XG (k1 _ _ z)) (YO _)
  obtain⟨ep,at_⟩:=sortedHeap_at (vs:=LD) (out:=out) new;have keep:∀b u,s.heap.get? b=some u->(sortedHeap (h1.push {cls:=.type "list",data:=.seq LD.toArray.toList.toArray}) h1.objs.size LD out).get? b=some u:=λb u e=>by
   have e1:=Xw {cls:=.type "list",data:=.seq LD.toArray.toList.toArray} (k1 b u e);rw[sortedHeap_old (λz=>by rw[z,MJ] at e;cases e) (XG e1)];exact e1
  have len:(ms.map V.int).length<=sizeLine:=by rw[Xs,p2.length_eq];exact yw MZ
  exact⟨.ref _,upd H h1.objs.size (.lst (ms.map V.int)),I.grown (t':=s.toks) keep MJ ⟨len,out.toList,ep,lY p1,at_⟩,rfl,q ms _ p2 p3 (I.bu.gone MJ)⟩
 · simpa using line
 · simpa using line
end
end L2
namespace BwX
open PySem
section
variable {P:Program}{w:World}{A:Around}{E:aag}{s:Shared}
theorem Cc {it t:Addr} {k:Nat} {LD:Array Value} {x:Value} {Q:aag} (hi:s.heap.IsTupleIter it t k) (ht:s.heap.IsTuple t LD) (hx:LD[k]?=some x)
  (q:∀h',h'.IsTupleIter it t (k+1)->Heap.SameBut it s.heap h'->Q x {s with heap:=h'}):wpAny (model P w) A (Builtin.SmallTypes.nextOf (.ref it)) Q E s:=by
 have ty:=hi.typeIs;obtain⟨⟨c1,d1,f1,l1⟩,g1,rfl,rfl⟩:=hi;obtain⟨⟨c2,d2,f2,l2⟩,g2,rfl,n,rfl⟩:=ht;unfold Builtin.SmallTypes.nextOf;refine Xr (YJ (name:=Str.ofString "__next__") ty Zx (YQ Zx ty F.entry_tuple_iterator_next ?_ (F.args_tuple_iterator_next_1 _)));obtain⟨hp,ga,d,tk,os⟩:=s;show wpAny _ _ (Builtin.«tuple_iterator.__next__» _) _ _ _
 wp_walk
 rw[Ye,hx];refine Xr (wpAny_setField g1 rfl (by simp) (Xz ⟨x,rfl,Xz (q _ ⟨_,Yt _ g1 rfl,rfl,?_⟩ (XW ..))⟩));simp[Obj.mapFields,rawInt]
theorem Br {it t:Addr}{k:Nat}{LD:Array Value}{Q:aag}(hh:A.handled=none)(hi:s.heap.IsTupleIter it t k)(ht:s.heap.IsTuple t LD)(hx:LD[k]?=none)
  (q:∀h' e,Heap.ExtBut it s.heap h'->(∃o,h'.get? e=some o/\o.cls=.type "StopIteration")->E (.ref e) {s with heap:=h'}):wpAny (model P w) A (Builtin.SmallTypes.nextOf (.ref it)) Q E s:=by
 have ty:=hi.typeIs;obtain⟨⟨c1,d1,f1,l1⟩,g1,rfl,rfl⟩:=hi;obtain⟨⟨c2,d2,f2,l2⟩,g2,rfl,n,rfl⟩:=ht;unfold Builtin.SmallTypes.nextOf;refine Xr (YJ (name:=Str.ofString "__next__") ty Zx (YQ Zx ty F.entry_tuple_iterator_next ?_ (F.args_tuple_iterator_next_1 _)));obtain⟨hp,ga,d,tk,os⟩:=s;have h1:A.in1.handled=none:=hh;show wpAny _ _ (Builtin.«tuple_iterator.__next__» _) _ _ _
 wp_walk
 rw[Ye,hx]
 wp_walk
 unfold raiseNew
 wp_walk
 exact q _ _ (((XW ..).extBut.push _).push _) ⟨_,XJ _ rfl,rfl⟩
end
structure Src (P:Program)(w:World)(i:Addr)(T:Nat->Heap->Prop)(xs:Array Value)(fp:List Addr):Prop where
 item:∀(A:Around) (k:Nat) (x:Value) (s:Shared) (Q:aag) (E:aag),T k s.heap->xs[k]?=some x->(∀h',T (k+1) h'->Heap.SameBut i s.heap h'->Q x {s with heap:=h'})->wpAny (model P w) A (Builtin.SmallTypes.nextOf (.ref i)) Q E s
 stop:∀(A:Around) (k:Nat) (s:Shared) (Q:aag) (E:aag),A.handled=none->T k s.heap->xs[k]?=none->(∀h' e,Heap.ExtBut i s.heap h'->(∃o,h'.get? e=some o/\o.cls=.type "StopIteration")->E (.ref e) {s with heap:=h'})->wpAny (model P w) A (Builtin.SmallTypes.nextOf (.ref i)) Q E s
 keep:∀k h h',T k h->(∀b∈fp,∀o,h.get? b=some o->h'.get? b=some o)->T k h'
 mem:i∈fp
theorem yD {P:Program}{w:World}{it t:Addr}{LD:Array Value}(ne:t≠it):Src P w it (λk h=>h.IsTupleIter it t k/\h.IsTuple t LD) LD [it,t] where
 item:=λA k x s Q E st hx q=>Cc st.1 st.2 hx λh' z sb=>q h' ⟨z,st.2.extBut sb.extBut ne⟩ sb
 stop:=λA k s Q E hh st hx q=>Br hh st.1 st.2 hx q
 keep:=λk h h' st z=>⟨st.1.at λo e=>z it (by simp) o e,by
  obtain⟨o,e,r⟩:=st.2;exact⟨o,z t (by simp) o e,r⟩⟩
 mem:=by simp
theorem yj {P:Program}{w:World}{it t:Addr}{LD:Array Value}(ne:t≠it):Src P w it (λk h=>h.IsListIter it t k/\h.IsList t LD) LD [it,t] where
 item:=λA k x s Q E st hx q=>wpAny_nextOf_list_item st.1 st.2 hx λh' z sb=>q h' ⟨z,st.2.extBut sb.extBut ne⟩ sb
 stop:=λA k s Q E hh st hx q=>wpAny_nextOf_list_end hh st.1 st.2 hx q
 keep:=λk h h' st z=>⟨st.1.at λo e=>z it (by simp) o e,st.2.at λo e=>z t (by simp) o e⟩
 mem:=by simp
structure Zp (z TI TO i1 i2:Addr)(p1 p2:List Addr)(T1 T2:Nat->Heap->Prop)(f0:Value)(k1 k2:Nat)(h:Heap):Prop where
 zp:IsZip h z TI TO f0
 ti:IsPair h TI (.ref i1) (.ref i2)
 to:∃a b,IsPair h TO a b
 s1:T1 k1 h
 s2:T2 k2 h
 n1:¬z∈p1/\¬TO∈p1/\¬i2∈p1
 n2:¬z∈p2/\¬TO∈p2/\¬i1∈p2
 nz:TI≠z/\TO≠z/\TI≠TO/\TI≠i1/\TI≠i2/\TO≠i1/\TO≠i2/\i1≠z/\i2≠z
section
variable {P:Program}{w:World}{A:Around}{E:aag}{s:Shared}{z TI TO i1 i2:Addr}{p1 p2:List Addr}{T1 T2:Nat->Heap->Prop}{k1 k2:Nat}{xs ys:Array Value}
theorem Ei {x y:Value} {Q:aag} (S1:Src P w i1 T1 xs p1) (S2:Src P w i2 T2 ys p2) (Z:Zp z TI TO i1 i2 p1 p2 T1 T2 .none k1 k2 s.heap) (hx:xs[k1]?=some x) (hy:ys[k2]?=some y)
  (q:∀h',Zp z TI TO i1 i2 p1 p2 T1 T2 (rawInt s.heap.objs.size) (k1+1) (k2+1) h'->IsPair h' s.heap.objs.size x y->(∀c o,c≠z->c≠TO->c≠i1->c≠i2->s.heap.get? c=some o->h'.get? c=some o)->Q (.ref s.heap.objs.size) {s with heap:=h'}) :
  wpAny (model P w) A (Builtin.«zip.__next__» ⟨[.ref z],[]⟩) (λfin s'=>∃v,fin=.done (.ret v)/\Q v s') E s:=by
 obtain⟨hz,MK,⟨a,b,Ms⟩,t1,t2,n1,n2,nz⟩:=Z;obtain⟨hp,ga,d,tk,os⟩:=s;have d1:∀(h:Heap) (Q:aag) (E:aag),(∀h',T1 (k1+1) h'->Heap.SameBut i1 h h'->Q x ⟨h',ga,d,tk,os⟩)->T1 k1 h->wpAny (model P w) A (Builtin.SmallTypes.nextOf (.ref i1)) Q E ⟨h,ga,d,tk,os⟩:=λh Q E c t=>S1.item A k1 x ⟨h,ga,d,tk,os⟩ Q E t hx c;have d2:∀(h:Heap) (Q:aag) (E:aag),(∀h',T2 (k2+1) h'->Heap.SameBut i2 h h'->Q y ⟨h',ga,d,tk,os⟩)->T2 k2 h->wpAny (model P w) A (Builtin.SmallTypes.nextOf (.ref i2)) Q E ⟨h,ga,d,tk,os⟩:=λh Q E c t=>S2.item A k2 y ⟨h,ga,d,tk,os⟩ Q E t hy c;obtain⟨z1,z2,z3,z4,z5,z6,z7,z8,z9⟩:=nz;have o1:∀b∈p1,b≠z/\b≠TO/\b≠i2:=λb hb=>⟨λe=>n1.1 (e ▸ hb),λe=>n1.2.1 (e ▸ hb),λe=>n1.2.2 (e ▸ hb)⟩;have o2:∀b∈p2,b≠z/\b≠TO/\b≠i1:=λb hb=>⟨λe=>n2.1 (e ▸ hb),λe=>n2.2.1 (e ▸ hb),λe=>n2.2.2 (e ▸ hb)⟩;have z12:i1≠i2:=(o1 i1 S1.mem).2.2
 wp_walk using wpAny_onRaise,d1
 rotate_left
 · exact S1.keep k1 _ _ t1 λb hb o e=>((XW ..).2 b (o1 b hb).1).trans e
 intro h1 SK M6;have Rh:∀b,b≠z->(hp.update z (Obj.mapFields λx=>x.setIfInBounds 0 Value.ellipsis)).get? b=hp.get? b:=λb n=>(XW ..).2 b n;have OY:IsZip h1 z TI TO .ellipsis:=(M6.2 z z8.symm).trans (Yt _ hz rfl);have OZ:IsPair h1 TO a b:=(M6.2 TO z6).trans ((Rh TO z2).trans Ms);have Og:∀b o,b≠z->b≠i1->hp.get? b=some o->h1.get? b=some o:=λb o n m e=>(M6.2 b m).trans ((Rh b n).trans e);have l1:h1.objs.size=hp.objs.size:=M6.1.trans (XW ..).1;clear Rh M6 d1
 wp_walk using wpAny_onRaise,d2
 rotate_left
 · exact S2.keep k2 _ _ t2 λb hb o e=>((XW ..).2 b (o2 b hb).2.1).trans (Og b o (o2 b hb).1 (o2 b hb).2.2 e)
 intro h2 VQ O0;have up1:∀b,b≠TO->(h1.update TO (Obj.mapSeq λv=>v.setIfInBounds 0 x)).get? b=h1.get? b:=λb n=>(XW ..).2 b n;have Ri:IsZip h2 z TI TO .ellipsis:=(O0.2 z z9.symm).trans ((up1 z z2.symm).trans OY);have Rj:IsPair h2 TO x b:=(O0.2 TO z7).trans (Yt _ OZ rfl);have PX:∀b o,b≠TO->b≠i2->h1.get? b=some o->h2.get? b=some o:=λb o n m e=>(O0.2 b m).trans ((up1 b n).trans e);have l2:h2.objs.size=hp.objs.size:=(O0.1.trans (XW ..).1).trans l1;clear up1 O0 d2
 wp_walk
 have O1:IsPair (h2.update TO (Obj.mapSeq λx=>x.setIfInBounds (0+1) y)) TO x y:=Yt _ Rj rfl;have O2:∀b o,b≠TO->h2.get? b=some o->(h2.update TO (Obj.mapSeq λx=>x.setIfInBounds (0+1) y)).get? b=some o:=λb o n e=>((XW ..).2 b n).trans e;have l3:(h2.update TO (Obj.mapSeq λx=>x.setIfInBounds (0+1) y)).objs.size=hp.objs.size:=(XW ..).1.trans l2;refine⟨_,rfl,?_⟩;generalize h2.update TO (Obj.mapSeq λx=>x.setIfInBounds (0+1) y)=h3 at O1 O2 l3 ⊢;dsimp only at q;rw[←l3] at q;have zn:z≠h3.objs.size:=X6 (by rw[l3];exact XG hz);have g4:∀b o,h3.get? b=some o->(h3.push {cls:=.type "tuple",data:=.seq #[x,y]}).get? b=some o:=λb o e=>Xw _ e;have gn:(h3.push {cls:=.type "tuple",data:=.seq #[x,y]}).get? h3.objs.size=some {cls:=.type "tuple",data:=.seq #[x,y]}:=XJ _ rfl;show Q _ ⟨((h3.push {cls:=.type "tuple",data:=.seq #[x,y]}).update z _).update z _,ga,d,tk,os⟩;generalize h3.push {cls:=.type "tuple",data:=.seq #[x,y]}=h4 at g4 gn ⊢;have VR:IsZip h4 z TI TO .ellipsis:=g4 _ _ (O2 _ _ z2.symm Ri);have kz:∀b o,b≠z->h4.get? b=some o->((h4.update z (Obj.mapFields λv=>v.setIfInBounds 0 (rawInt (h3.objs.size:Nat)))).update z (Obj.mapFields λv=>v.setIfInBounds 1 (.bool false))).get? b=some o:=λb o n e=>((XW ..).2 b n).trans (((XW ..).2 b n).trans e);have kp:∀b o,b≠z->b≠TO->b≠i1->b≠i2->hp.get? b=some o->((h4.update z (Obj.mapFields λv=>v.setIfInBounds 0 (rawInt (h3.objs.size:Nat)))).update z (Obj.mapFields λv=>v.setIfInBounds 1 (.bool false))).get? b=some o:=λb o n1 n2 n3 n4 e=>kz b o n1 (g4 b o (O2 b o n2 (PX b o n2 n4 (Og b o n1 n3 e))));have VS:IsZip (h4.update z (Obj.mapFields λv=>v.setIfInBounds 0 (rawInt (h3.objs.size:Nat)))) z TI TO (rawInt (h3.objs.size:Nat)):=Yt _ VR rfl;refine q _ ⟨Yt _ VS rfl,kp _ _ z1 z3 z4 z5 MK,⟨x,y,kz _ _ z2 (g4 _ _ O1)⟩,S1.keep _ _ _ SK λb hb o e=>kz b o (o1 b hb).1 (g4 b o (O2 b o (o1 b hb).2.1 (PX b o (o1 b hb).2.1 (o1 b hb).2.2 e))),S2.keep _ _ _ VQ λb hb o e=>kz b o (o2 b hb).1 (g4 b o (O2 b o (o2 b hb).2.1 e)),n1,n2,⟨z1,z2,z3,z4,z5,z6,z7,z8,z9⟩⟩ (kz _ _ zn.symm gn) kp
theorem EL {Q:Fin->Shared->Prop}(hh:A.handled=none)(S1:Src P w i1 T1 xs p1)(S2:Src P w i2 T2 ys p2)(Z:Zp z TI TO i1 i2 p1 p2 T1 T2 .none k1 k2 s.heap)(he:xs[k1]?=none∨ys[k2]?=none)
  (q:∀h' e,(∀c o,c≠z->c≠TO->c≠i1->c≠i2->s.heap.get? c=some o->h'.get? c=some o)->(∃o,h'.get? e=some o/\o.cls=.type "StopIteration")->E (.ref e) {s with heap:=h'}) :
  wpAny (model P w) A (Builtin.«zip.__next__» ⟨[.ref z],[]⟩) Q E s:=by
 obtain⟨hz,MK,⟨a,b,Ms⟩,t1,t2,n1,n2,nz⟩:=Z;obtain⟨hp,ga,d,tk,os⟩:=s;obtain⟨z1,z2,z3,z4,z5,z6,z7,z8,z9⟩:=nz;have o1:∀b∈p1,b≠z:=λb hb e=>n1.1 (e ▸ hb);have o2:∀b∈p2,b≠z/\b≠TO/\b≠i1:=λb hb=>⟨λe=>n2.1 (e ▸ hb),λe=>n2.2.1 (e ▸ hb),λe=>n2.2.2 (e ▸ hb)⟩;have zs:∀(h:Heap) (e:Addr),IsZip h z TI TO .ellipsis->(∃o,h.get? e=some o/\o.cls=.type "StopIteration")->∃o,(h.update z (Obj.mapFields λv=>v.setIfInBounds 0 .none)).get? e=some o/\o.cls=.type "StopIteration":=λh e hz ⟨o,ho,hc⟩=>by
  refine⟨o,((XW ..).2 e ?_).trans ho,hc⟩;rintro rfl;rw[hz] at ho;cases ho;simp at hc
 cases hx:xs[k1]? with
 |none =>
  have d1:∀(h:Heap) (Q:aag) (E:aag),(∀h' e,Heap.ExtBut i1 h h'->(∃o,h'.get? e=some o/\o.cls=.type "StopIteration")->E (.ref e) ⟨h',ga,d,tk,os⟩)->T1 k1 h->wpAny (model P w) A (Builtin.SmallTypes.nextOf (.ref i1)) Q E ⟨h,ga,d,tk,os⟩:=λh Q E c t=>S1.stop A k1 ⟨h,ga,d,tk,os⟩ Q E hh t hx c
  wp_walk using wpAny_onRaise,d1
  rotate_left
  · exact S1.keep k1 _ _ t1 λb hb o e=>((XW ..).2 b (o1 b hb)).trans e
  intro h1 e eb st;have OY:IsZip h1 z TI TO .ellipsis:=eb z _ z8.symm (Yt _ hz rfl);have kp:∀b o,b≠z->b≠i1->hp.get? b=some o->h1.get? b=some o:=λb o n m q=>eb b o m (((XW ..).2 b n).trans q)
  wp_walk
  exact q _ e (λc o c1 c2 c3 c4 w=>((XW ..).2 c c1).trans (kp c o c1 c3 w)) (zs h1 e OY st)
 |some x =>
  have hy:ys[k2]?=none:=he.resolve_left (by rw[hx];simp);have d1:∀(h:Heap) (Q:aag) (E:aag),(∀h',T1 (k1+1) h'->Heap.SameBut i1 h h'->Q x ⟨h',ga,d,tk,os⟩)->T1 k1 h->wpAny (model P w) A (Builtin.SmallTypes.nextOf (.ref i1)) Q E ⟨h,ga,d,tk,os⟩:=λh Q E c t=>S1.item A k1 x ⟨h,ga,d,tk,os⟩ Q E t hx c;have d2:∀(h:Heap) (Q:aag) (E:aag),(∀h' e,Heap.ExtBut i2 h h'->(∃o,h'.get? e=some o/\o.cls=.type "StopIteration")->E (.ref e) ⟨h',ga,d,tk,os⟩)->T2 k2 h->wpAny (model P w) A (Builtin.SmallTypes.nextOf (.ref i2)) Q E ⟨h,ga,d,tk,os⟩:=λh Q E c t=>S2.stop A k2 ⟨h,ga,d,tk,os⟩ Q E hh t hy c
  wp_walk using wpAny_onRaise,d1
  rotate_left
  · exact S1.keep k1 _ _ t1 λb hb o e=>((XW ..).2 b (o1 b hb)).trans e
  intro h1 SK M6;have OY:IsZip h1 z TI TO .ellipsis:=(M6.2 z z8.symm).trans (Yt _ hz rfl);have Og:∀b o,b≠z->b≠i1->hp.get? b=some o->h1.get? b=some o:=λb o n m e=>(M6.2 b m).trans (((XW ..).2 b n).trans e);have OZ:IsPair h1 TO a b:=Og _ _ z2 z6 Ms;clear M6 d1
  wp_walk using wpAny_onRaise,d2
  rotate_left
  · exact S2.keep k2 _ _ t2 λb hb o e=>((XW ..).2 b (o2 b hb).2.1).trans (Og b o (o2 b hb).1 (o2 b hb).2.2 e)
  intro h2 e eb st;have Ri:IsZip h2 z TI TO .ellipsis:=eb z _ z9.symm (((XW ..).2 z z2.symm).trans OY);have PX:∀b o,b≠TO->b≠i2->h1.get? b=some o->h2.get? b=some o:=λb o n m q=>eb b o m (((XW ..).2 b n).trans q)
  wp_walk
  exact q _ e (λc o c1 c2 c3 c4 w=>((XW ..).2 c c1).trans (PX c o c2 c4 (Og c o c1 c3 w))) (zs h2 e Ri st)
abbrev Zt (z TI TO i1 i2 t l:Addr)(xs ys:Array Value)(f0:Value)(k:Nat)(h:Heap):Prop:=Zp z TI TO i1 i2 [i1,t] [i2,l] (λk h=>h.IsTupleIter i1 t k/\h.IsTuple t xs) (λk h=>h.IsListIter i2 l k/\h.IsList l ys) f0 k k h
theorem Hn (t l:Addr)(xs ys:Array Value):Meets (Builtin.«zip.__new__» ⟨[.type "zip",.ref t,.ref l],[]⟩) (λ_ R s=>s.heap.IsTuple t xs/\s.heap.IsList l ys /\
  ∀h',Zt (s.heap.objs.size+4) (s.heap.objs.size+2) (s.heap.objs.size+3) s.heap.objs.size (s.heap.objs.size+1) t l xs ys .none 0 h'->(∀c o,s.heap.get? c=some o->h'.get? c=some o)->R (.ok (.ret (.ref (s.heap.objs.size+4)))) {s with heap:=h'}):=by
 refine .of_wp λP w A R s c=>?_;obtain⟨ht,hl,q⟩:=c;obtain⟨hp,ga,d,tk,os⟩:=s;have sz:=sub_zip;have t0:(Shared.heap ⟨hp,ga,d,tk,os⟩).IsTuple t xs:=ht;have l0:(Shared.heap ⟨hp.push {cls:=.type "tuple_iterator",data:=.fields #[.ref t,.int 0 0]},ga,d,tk,os⟩).IsList l ys:=hl.push _;have nt:@LT.lt Nat _ t hp.objs.size:=by obtain⟨_,e,_⟩:=ht;exact XG e
 have nl:@LT.lt Nat _ l hp.objs.size:=by obtain⟨_,e,_⟩:=hl;exact XG e
 wp_walk using wpAny_pyIter_tuple t0,wpAny_pyIter_list l0
 refine⟨_,rfl,?_⟩;have z1:(hp.push {cls:=.type "tuple_iterator",data:=.fields #[.ref t,.int 0 0]}).objs.size=hp.objs.size+1:=YC ..;have g1:(hp.push {cls:=.type "tuple_iterator",data:=.fields #[.ref t,.int 0 0]}).get? hp.objs.size=some {cls:=.type "tuple_iterator",data:=.fields #[.ref t,.int 0 0]}:=XJ _ rfl;have k1:∀c o,hp.get? c=some o->(hp.push {cls:=.type "tuple_iterator",data:=.fields #[.ref t,.int 0 0]}).get? c=some o:=λc o e=>Xw _ e;dsimp only;generalize hp.push {cls:=.type "tuple_iterator",data:=.fields #[.ref t,.int 0 0]}=h1 at z1 g1 k1 ⊢;have z2:(h1.push {cls:=.type "list_iterator",data:=.fields #[.ref l,.int 0 0]}).objs.size=hp.objs.size+2:=(YC ..).trans (by rw[z1]);have g2:(h1.push {cls:=.type "list_iterator",data:=.fields #[.ref l,.int 0 0]}).get? h1.objs.size=some {cls:=.type "list_iterator",data:=.fields #[.ref l,.int 0 0]}:=XJ _ rfl;have k2:∀c o,h1.get? c=some o->(h1.push {cls:=.type "list_iterator",data:=.fields #[.ref l,.int 0 0]}).get? c=some o:=λc o e=>Xw _ e;generalize h1.push {cls:=.type "list_iterator",data:=.fields #[.ref l,.int 0 0]}=h2 at z2 g2 k2 ⊢;rw[z1] at g2 ⊢;show R (.ok (.ret (.ref ((h2.push {cls:=.type "tuple",data:=.seq #[.ref hp.objs.size,.ref (hp.objs.size+1)]}).push {cls:=.type "tuple",data:=.seq #[.none,.none]}).objs.size))) ⟨((h2.push {cls:=.type "tuple",data:=.seq #[.ref hp.objs.size,.ref (hp.objs.size+1)]}).push {cls:=.type "tuple",data:=.seq #[.none,.none]}).push {cls:=.type "zip",data:=.fields #[.none,.bool false,.bool false,.ref h2.objs.size,.ref (h2.push {cls:=.type "tuple",data:=.seq #[.ref hp.objs.size,.ref (hp.objs.size+1)]}).objs.size]},ga,d,tk,os⟩;have z3:(h2.push {cls:=.type "tuple",data:=.seq #[.ref hp.objs.size,.ref (hp.objs.size+1)]}).objs.size=hp.objs.size+3:=(YC ..).trans (by rw[z2]);have g3:(h2.push {cls:=.type "tuple",data:=.seq #[.ref hp.objs.size,.ref (hp.objs.size+1)]}).get? h2.objs.size=some {cls:=.type "tuple",data:=.seq #[.ref hp.objs.size,.ref (hp.objs.size+1)]}:=XJ _ rfl;have k3:∀c o,h2.get? c=some o->(h2.push {cls:=.type "tuple",data:=.seq #[.ref hp.objs.size,.ref (hp.objs.size+1)]}).get? c=some o:=λc o e=>Xw _ e;generalize h2.push {cls:=.type "tuple",data:=.seq #[.ref hp.objs.size,.ref (hp.objs.size+1)]}=h3 at z3 g3 k3 ⊢;rw[z2] at g3 ⊢;have z4:(h3.push {cls:=.type "tuple",data:=.seq #[.none,.none]}).objs.size=hp.objs.size+4:=(YC ..).trans (by rw[z3]);have g4:(h3.push {cls:=.type "tuple",data:=.seq #[.none,.none]}).get? h3.objs.size=some {cls:=.type "tuple",data:=.seq #[.none,.none]}:=XJ _ rfl;have k4:∀c o,h3.get? c=some o->(h3.push {cls:=.type "tuple",data:=.seq #[.none,.none]}).get? c=some o:=λc o e=>Xw _ e;generalize h3.push {cls:=.type "tuple",data:=.seq #[.none,.none]}=h4 at z4 g4 k4 ⊢;rw[z3] at g4 ⊢;have g5:∀o:Obj,o.isFreed=false->(h4.push o).get? (hp.objs.size+4)=some o:=λo f=>by rw[←z4];exact XJ _ f
 rw[z4];have k5:∀c o u,h4.get? c=some o->(h4.push u).get? c=some o:=λc o u e=>Xw _ e;refine q _ ⟨g5 _ rfl,k5 _ _ _ (k4 _ _ g3),⟨_,_,k5 _ _ _ g4⟩,⟨⟨_,k5 _ _ _ (k4 _ _ (k3 _ _ (k2 _ _ g1))),rfl,rfl⟩,?_⟩,⟨⟨_,k5 _ _ _ (k4 _ _ (k3 _ _ g2)),rfl,rfl⟩,?_⟩,?_,?_,?_⟩ λc o e=>k5 _ _ _ (k4 _ _ (k3 _ _ (k2 _ _ (k1 _ _ e))))
 · obtain⟨o,e,r⟩:=ht;exact⟨o,k5 _ _ _ (k4 _ _ (k3 _ _ (k2 _ _ (k1 _ _ e)))),r⟩
 · exact hl.at λo e=>k5 _ _ _ (k4 _ _ (k3 _ _ (k2 _ _ (k1 _ _ e))))
 · refine⟨?_,?_,?_⟩ <;> simp only[Xx,Zg,or_false,not_or] <;> exact⟨by intro e;have e:(_:Nat)=_:=e;omega,by intro e;have e:(_:Nat)=_:=e;omega⟩
 · refine⟨?_,?_,?_⟩ <;> simp only[Xx,Zg,or_false,not_or] <;> exact⟨by intro e;have e:(_:Nat)=_:=e;omega,by intro e;have e:(_:Nat)=_:=e;omega⟩
 · refine⟨?_,?_,?_,?_,?_,?_,?_,?_,?_⟩ <;> intro e <;> have e:(_:Nat)=_:=e <;> omega
theorem Eh {t l:Addr}{xs ys:Array Value}{Q:aag}(ht:s.heap.IsTuple t xs)(hl:s.heap.IsList l ys)
  (q:∀h',Zt (s.heap.objs.size+4) (s.heap.objs.size+2) (s.heap.objs.size+3) s.heap.objs.size (s.heap.objs.size+1) t l xs ys .none 0 h'->(∀c o,s.heap.get? c=some o->h'.get? c=some o)->Q (.ref (s.heap.objs.size+4)) {s with heap:=h'}):wpAny (model P w) A (call (.type "zip") [.ref t,.ref l]) Q E s :=
 callType_new F.called_zip (by decide) (F.typeCall_zip_2 _ _) (F.newCall_zip_2 _ _) (λo=>F.args_object_init_3 o _ _) F.entry_zip_new (Hn t l xs ys) ⟨ht,hl,λh' Z k=>⟨⟨_,Z.zp,rfl⟩,q h' Z k⟩⟩
theorem t7 {t l:Addr}{xs ys:Array Value}{k:Nat}{x y:Value}{Q:Option Value->Shared->Prop}(n1:t≠i1)(n2:l≠i2)(Z:Zt z TI TO i1 i2 t l xs ys .none k s.heap)(hx:xs[k]?=some x)(hy:ys[k]?=some y)
  (q:∀h',Zt z TI TO i1 i2 t l xs ys (rawInt s.heap.objs.size) (k+1) h'->IsPair h' s.heap.objs.size x y->(∀c o,c≠z->c≠TO->c≠i1->c≠i2->s.heap.get? c=some o->h'.get? c=some o)->Q (some (.ref s.heap.objs.size)) {s with heap:=h'}):wpAny (model P w) A (pyNext (.ref z)) Q E s:=by
 have ty:s.TypeIs (.ref z) "zip":=⟨_,Z.zp,rfl⟩;unfold pyNext;exact Xr (wpAny_attempt (YJ (name:=Str.ofString "__next__") ty F.slot_zip_next (YQ F.slot_zip_next ty F.entry_zip_next (Ei (yD n1) (yj n2) Z hx hy λh' a b c=>Xz (q h' a b c)) (F.args_zip_next_1 _))))
theorem ue {t l:Addr}{xs ys:Array Value}{k:Nat}{Q:Option Value->Shared->Prop}(hh:A.handled=none)(n1:t≠i1)(n2:l≠i2)(Z:Zt z TI TO i1 i2 t l xs ys .none k s.heap)(he:xs[k]?=none∨ys[k]?=none)
  (q:∀h',(∀c o,c≠z->c≠TO->c≠i1->c≠i2->s.heap.get? c=some o->h'.get? c=some o)->Q none {s with heap:=h'}):wpAny (model P w) A (pyNext (.ref z)) Q E s:=by
 have ty:s.TypeIs (.ref z) "zip":=⟨_,Z.zp,rfl⟩;unfold pyNext;refine Xr (wpAny_attempt (YJ (name:=Str.ofString "__next__") ty F.slot_zip_next (YQ F.slot_zip_next ty F.entry_zip_next (EL hh (yD n1) (yj n2) Z he λh' e kp st=>?_) (F.args_zip_next_1 _))));obtain⟨o,e1,e2⟩:=st;exact Xr (wpAny_isInstance (T:="StopIteration") (b:=true) ⟨o,e1,e2⟩ isSubtype_stop (Xz (q _ kp)))
end
end BwX
namespace BwX
open PySem PyProof.Rows
section
variable {P:Program}{w:World}{A:Around}{E:aag}{s:Shared}
theorem B5 {S t:Addr} {LD:Array Value} {ns:List Int} {R:Result->Shared->Prop} {led:Bool} (hh:A.handled=none) (ht:s.heap.IsTuple t LD) (hi:IntsAre LD.toList ns) (hb:LD.size+1 < scanBound) (ne:t≠S)
  (hS:s.heap.get? S=some {cls:=.type "set",dict:=none,data:=.set #[] 0 (.fresh 0 0 led)})
  (q:∀(h':Heap) (tk:Nat),h'.SetOf (intKind P w) S (λk=>(firstMet (λi=>ns.getD i 0) LD.size).any (·==k)) (firstMet (λi=>ns.getD i 0) LD.size).length->(∀b o,b≠S->s.heap.get? b=some o->h'.get? b=some o)->R (.ok (.ret .none)) {s with heap:=h',toks:=tk}) :
  codeAny (model P w) A (.builtin "set.__init__" ⟨[.ref S,.ref t],[]⟩) R s:=by
 have ty:=ht.typeIs;have hT:s.TypeIs (.ref S) "set":=⟨_,hS,rfl⟩;have b1:=F.sub_tuple_set;have b2:=F.sub_tuple_frozenset;have pl:plainId "set.__init__"=true:=by decide +kernel
 refine codeAny_builtin F.entry_set_init ?_;rw[Around.under_plainId pl _];obtain⟨hp,ga,d,tk,os⟩:=s;have t0:(Shared.heap ⟨hp,ga,d,tk,os⟩).IsTuple t LD:=ht
 wp_walk using wpAny_pyIter_tuple t0
 have lt:t < hp.objs.size:=by obtain⟨_,e,_⟩:=ht;exact XG e
 have lS:S < hp.objs.size:=XG hS;have VT:A.in1.in1.handled=none:=by simp[hh]
 refine codeAny_set_update_loopS ((Walks.tuple VT hp.objs.size t (X6 lt) LD).toS) S (by simp only[Xx,Zg,or_false,not_or];exact⟨X6 lS,ne.symm⟩) (λi=>ns.getD i 0) (λi v hv=>IntsAre.int_at hi i v (by rw[Array.getElem?_toList];exact hv)) hb LD.size 0 _ (by omega) (X1 _) ?_ ?_ ?_
 · exact⟨⟨_,XJ _ rfl,rfl,rfl⟩,ht.push _⟩
 · exact SetOf_congr ((setObjOf_fresh led).setOf (Xw _ hS) (by decide)) (λ_=>rfl) rfl
 · rintro⟨h',g',d',My,QT⟩ mv hq;obtain rfl:g'=ga:=mv.gens;obtain rfl:d'=d:=mv.drawn;obtain rfl:QT=os:=mv.os
   wp_walk
   refine q h' My hq λb o n e=>mv.heap b o ?_ (Xw _ e);simp only[Xx,Zg,or_false,not_or];exact⟨n,X6 (XG e)⟩
def HI (o:Obj):Prop:=∃led:Bool,o={cls:=.type "set",dict:=none,data:=.set #[] 0 (.fresh 0 0 led)}
theorem zS {t:Addr}{LD:Array Value}{ns:List Int}{Q:aag}(hh:A.handled=none)(ht:s.heap.IsTuple t LD)(hi:IntsAre LD.toList ns)(hb:LD.size+1 < scanBound)
  (q:∀(h':Heap) (tk:Nat),h'.SetOf (intKind P w) s.heap.objs.size (λk=>(firstMet (λi=>ns.getD i 0) LD.size).any (·==k)) (firstMet (λi=>ns.getD i 0) LD.size).length->(∀b o,s.heap.get? b=some o->h'.get? b=some o)->Q (.ref s.heap.objs.size) {s with heap:=h',toks:=tk}) :
  wpAny (model P w) A (call (.type "set") [.ref t]) Q E s:=by
 have c1:=ZS.notType;have c2:=ZS.canCreate;have c3:=ZS.made;have c4:=ZS.sub;have c5:=F.typeCall_set_1 (.ref t);obtain⟨_,_,c6⟩:=ZS.mro;refine wpAny_call (codeAny_of_tree (Xz ⟨Code.quiet_builtin _ (by decide +kernel),codeAny_builtin F.entry_type_call ?_⟩));rw[Around.under_plain (weight_type_call_type "set" [.ref t] []) rfl]
 wp_walk
 refine Z6 (code_set_new_1 (.ref t) (E:=E) (Q₁:=λv s1=>∃g o,v=.ref s.heap.objs.size/\s1={s with heap:=g}/\g.get? s.heap.objs.size=some o/\HI o/\∀b u,s.heap.get? b=some u->g.get? b=some u) λled=>⟨_,_,rfl,rfl,XJ _ rfl,⟨led,rfl⟩,λb u e=>Xw _ e⟩) λr s1 z=>?_
 match r,z with
 |.error e,z=>exact z
 |.ok (.ret v),z =>
  obtain⟨g,_,rfl,rfl,PY,⟨led,rfl⟩,kept⟩:=z;have ty:Shared.TypeIs {s with heap:=g} (.ref s.heap.objs.size) "set":=⟨_,PY,rfl⟩;have c7:=ZS.init.lookup;have c8:=ZS.init.bind (.ref s.heap.objs.size)
  wp_walk
  have there:g.IsTuple t LD:=ht.at λo e=>kept t o e;have apart:t≠s.heap.objs.size:=by obtain⟨_,e,_⟩:=ht;exact X6 (XG e)
  refine codeAny_call_builtin_code (plainId_quiet (by decide +kernel) _) (check_set_init_1 ty (B5 (A:=A.in1) (ns:=ns) (by simp[hh]) there hi hb apart PY λh' tk hq kp=>?_))
  wp_walk
  exact q h' tk hq λb o e=>kp b o (X6 (XG e)) (kept b o e)
end
end BwX
namespace L2
open PySem PySem.Spec PyProof.Rows
section
variable {P:Program}{w:World}{K:aaf}{mg:aah}{base:Heap}{x qual:Str}{st:Stmt}{f C:Addr}{fd:FuncData}{N ps:List Str}{k:Nat}{sp:Sp}
theorem di.oa (F:di K x qual st f fd) (S:aG N ps (aw st))
  (LK:∀(LF:Value) (A:Around) (outer:List Env) (s:Shared) (H:Hp) (vs:List V) (Q:VK) (E:XK),cK k (A.deeper (envOfC qual (aw st) s.heap.objs.size f LF))->sp vs H Q E ->
   ∃t,qP (mO bC P w K mg base N qual (aw st) f LF A outer s H E).Ib (b7 st) t/\t {nx:=λ_ H'=>Q .cb H',rt:=Q} (start N vs) H)
  (len:∀vs H Q E,sp vs H Q E->vs.length=ps.length:=by intro _ _ _ _ h;repeat (first|(obtain⟨rfl,_⟩:=h;exact rfl)|obtain⟨_,h⟩:=h)):a8 P w K mg base bC (k+1) f fd ps sp:=F.ok S len LK
theorem di.lM (F:di K x qual st f fd)(S:aG N ps (aw st))
  (LK:∀(LF:Value) (A:Around) (outer:List Env) (s:Shared) (H:Hp) (vs:List V) (Q:VK) (E:XK),cK k (A.deeper (envOfC qual (aw st) s.heap.objs.size f LF))->sp vs H Q E ->
   ∃t,qP (K8 C P w K mg base N qual (aw st) f LF A outer s H E) (b7 st) t/\t {nx:=λ_ H'=>Q .cb H',rt:=Q} (start N vs) H)
  (len:∀vs H Q E,sp vs H Q E->vs.length=ps.length:=by intro _ _ _ _ h;repeat (first|(obtain⟨rfl,_⟩:=h;exact rfl)|obtain⟨_,h⟩:=h)):a8 P w K mg base (eW P w C) (k+1) f fd ps sp:=F.LA S len LK
end
end L2
namespace Bw
open PySem PySem.Spec PyProof.Rows L2
section
variable {X:Cx}{x:Str}{e:Expr}{te:TE}{p pos pos':Pos}
theorem a7 (i:Nat) (hN:X.N.Nodup) (he:PE X e te) (hi:X.N[i]?=some x:=by rfl) (hx:Loc X.env.scope x:=by exact Or.inl rfl) (hs:swapsWith e (some (.Name x pos')) pos.line X.env=pure false:=by rfl) (hf:X.fn x=true∨X.env.scope.names.lookup x=some .local:=by first|exact .inl rfl|exact .inr rfl):PS X (.Assign [.Name x pos'] e pos) (zX te (fL i)):=qj hN hi hx he hs hf
theorem bo (i:Nat)(hN:X.N.Nodup)(hi:X.N[i]?=some x:=by rfl)(hx:Loc X.env.scope x:=by exact Or.inl rfl)(hf:X.fn x=true∨X.env.scope.names.lookup x=some .local:=by first|exact .inl rfl|exact .inr rfl):PG X (.Name x pos) (fL i):=sS hN hi hx hf
theorem bh (hm:X.mg "len"=none)(h:PE X e te)(hg:Gl X "len":=by rfl)(he:starEach [e] X.env=(false,eval e X.env)::starEach [] X.env:=by rfl):PE X (.Call (.Name "len" p) [e] [] pos) (G_ (λxs H Q=>∃p ys,xs=[.ref p]/\(aP X.K H p ys∨bZ X.K H p ys)/\Q (.int ys.length) H) (cO te eV)):=bY sO hg hm PySem.boot_len (aa h ah (hs:=he)) (he:=he)
end
theorem Lp {p:aaj->Prop}(h:p [])(us:aaj)(e:us.length=0):p us:=by
 cases us with
 |nil=>exact h
 |cons a us=>cases e
theorem JV {p:aaj->Prop}(h:∀a,p [a])(us:aaj)(e:us.length=1):p us:=by
 cases us with
 |nil=>cases e
 |cons a us=>exact Lp (p:=λus=>p (a::us)) (h a) us (Nat.succ.inj e)
theorem JN {p:aaj->Prop}(h:∀a b,p [a,b])(us:aaj)(e:us.length=2):p us:=by
 cases us with
 |nil=>cases e
 |cons a us=>exact JV (p:=λus=>p (a::us)) (h a) us (Nat.succ.inj e)
theorem Jn {p:aaj->Prop}(h:∀a b c,p [a,b,c])(us:aaj)(e:us.length=3):p us:=by
 cases us with
 |nil=>cases e
 |cons a us=>exact JN (p:=λus=>p (a::us)) (h a) us (Nat.succ.inj e)
theorem JU {p:aaj->Prop}(h:∀a b c d,p [a,b,c,d])(us:aaj)(e:us.length=4):p us:=by
 cases us with
 |nil=>cases e
 |cons a us=>exact Jn (p:=λus=>p (a::us)) (h a) us (Nat.succ.inj e)
theorem JW {p:aaj->Prop}(h:∀a b c d e,p [a,b,c,d,e])(us:aaj)(e:us.length=5):p us:=by
 cases us with
 |nil=>cases e
 |cons a us=>exact JU (p:=λus=>p (a::us)) (h a) us (Nat.succ.inj e)
theorem Lk {p:aaj->Prop}(h:∀a b c d e f,p [a,b,c,d,e,f])(us:aaj)(e:us.length=6):p us:=by
 cases us with
 |nil=>cases e
 |cons a us=>exact JW (p:=λus=>p (a::us)) (h a) us (Nat.succ.inj e)
theorem KJ {p:aaj->Prop}(h:∀a b c d e f g,p [a,b,c,d,e,f,g])(us:aaj)(e:us.length=7):p us:=by
 cases us with
 |nil=>cases e
 |cons a us=>exact Lk (p:=λus=>p (a::us)) (h a) us (Nat.succ.inj e)
def Fn (P:Program)(w:World)(K:aaf)(mg:aah)(base:Heap)(CX:mH)(k:Nat)(x:Str)(ps:List Str)(sp:Sp):Prop :=
 ∃(f:Addr) (fd:FuncData),mg x=some (.ref f)/\PySem.W.keepIn K (.ref f)=true/\Binds K fd ps []/\a8 P w K mg base CX k f fd ps sp
def gZ (K:aaf)(mg:aah)(x:Str)(st:Stmt):Prop:=∃(f:Addr) (fd:FuncData),mg x=some (.ref f)/\di K x x st f fd
section
variable {X:Cx}{CX:mH}{k:Nat}{x:Str}{ps:List Str}{sp:Sp}{E:XK}{p pos:Pos}{e:Expr}{es:List Expr}{t:TA}
theorem aR (F:Fn X.prog X.w X.K X.mg X.base CX k x ps sp) (hr:cK k X.A) (hx:Passes CX X E) (ha:PA X (e::es) t) (hg:Gl X x:=by rfl) (Mj:(x==("__debug__":Str))=false:=by decide) (he:starEach (e::es) X.env=(false,eval e X.env)::starEach es X.env:=by rfl) (LN:(backTo pos (starEach es X.env)).any (·.1)=false:=by rfl) :
  PE X (.Call (.Name x p) (e::es) [] pos) (nH sp [] E t):=by
 obtain⟨f,fd,hm,hk,hb,F⟩:=F;exact DT F hr hg hm hk hb .nil hx ha Mj he LN
end
section
variable {P:Program}{w:World}{K:aaf}{mg:aah}{base:Heap}
theorem gZ.mk {CX:mH} {x:Str} {st:Stmt} {ps:List Str} {k:Nat} {sp:Sp} (D:gZ K mg x st)
  (ok:∀f fd,di K x x st f fd->a8 P w K mg base CX k f fd ps sp) (hb:∀(kV doc pm:Value) (an:Option Addr) (LF ct:Value) (us:aaj),us.length=ps.length->bindArgs (PySem.W.fnOf x x (cX st) (b7 st) (aw st) .none kV doc pm an LF ct) ⟨us,[]⟩=pure (ps.zip us):=by intro _ _ _ _ _ _;first|exact JV (λ_=>rfl)|exact JN (λ_ _=>rfl)|exact Jn (λ_ _ _=>rfl)|exact JU (λ_ _ _ _=>rfl)|exact JW (λ_ _ _ _ _=>rfl)|exact KJ (λ_ _ _ _ _ _ _=>rfl)):Fn P w K mg base CX k x ps sp:=by
 obtain⟨f,fd,hm,F⟩:=D;exact⟨f,fd,hm,F.kp,F.binds hb,ok f fd F⟩
theorem Fn.mono {CX:mH}{x:Str}{ps:List Str}{j k:Nat}{sp:Sp}(F:Fn P w K mg base CX j x ps sp)(h:j<=k):Fn P w K mg base CX k x ps sp:=by
 obtain⟨f,fd,hm,hk,hb,F⟩:=F;exact⟨f,fd,hm,hk,hb,F.mono h⟩
end
def st (w:W):Str:=⟨w.toArray⟩
theorem pH (w:W):TL.tl (st w)=w:=rfl
theorem b8 (w:W):(st w).length=w.length:=by rw[TL.k8,pH]
theorem jM {v w:W}:st v=st w↔v=w:=⟨λh=>by have:=YA TL.tl h;exact this,λh=>by rw[h]⟩
theorem kW {s:String}:Str.ofString s=st (cd s):=TL.wM (by rw[TL.gL,pH];rfl)
def Gv (mg:aah)(x:Str)(v:V):Prop:=∃u,mg x=some u/\RelV v u
theorem a_ {X:Cx}{x:Str}{v:V}{pos:Pos}(h:Gv X.mg x v)(hg:Gl X x:=by rfl)(hd:(x==("__debug__":Str))=false:=by decide):PE X (.Name x pos) (tC v):=by
 obtain⟨u,hm,r⟩:=h;exact Ey hg hm r hd
theorem fs {N P:List Str}{sc:Scope}(a:sc.kind=.function:=by rfl)(b:sc.isCoroutine=false:=by rfl)(c:sc.isGenerator=false:=by rfl)(d:N.Nodup:=by decide +kernel)(e:N.take P.length=P:=by rfl)(f:∀x∈P,sc.names.lookup x=some .local∨sc.names.lookup x=some .cell:=by decide +kernel)(g:∀y∈sc.names,y.2≠.free:=by decide +kernel):aG N P sc:=⟨a,b,c,d,e,f,g⟩
end Bw
namespace L2
open PySem PySem.Spec PyProof.Rows
def Ev (t:TE)(σ:St)(H:Hp)(v:V):Prop:=∀R:VK,R v H->t σ H R
def Tv (t:TT)(σ:St)(H:Hp)(b:Bool):Prop:=∀R:Bool->Hp->Prop,R b H->t σ H R
section
variable {σ:St}{H:Hp}{ta tb tc te:TE}{t u:TT}{x y v:V}{i j k:Int}{b c:Bool}{K:aaf}{a p:Addr}{xs ys:List V}
theorem ag {n:Nat} (h:σ[n]?=some (some v)):Ev (cI n) σ H v:=λ_ r=>⟨v,h,r⟩
theorem aD:Ev (tC v) σ H v:=λ_ r=>r
theorem mI {f:Int->Int->V}(ha:Ev ta σ H (.int i))(hb:Ev tb σ H (.int j)):Ev (kK (qI f) ta tb) σ H (f i j):=λ_ r=>ha _ (hb _ ⟨i,j,rfl,rfl,r⟩)
theorem ze {C:Int->Int->Prop}{f:Int->Int->V}(ha:Ev ta σ H (.int i))(hb:Ev tb σ H (.int j))(h:C i j):Ev (kK (rI C f) ta tb) σ H (f i j):=λ_ r=>ha _ (hb _ ⟨i,j,rfl,rfl,h,r⟩)
theorem cj (ha:Ev ta σ H x)(hb:Ev tb σ H y)(s:Ep x y=true:=by rfl):Ev (kK JZ ta tb) σ H (.bl (decide (x=y))):=λ_ r=>ha _ (hb _ ⟨s,r⟩)
theorem qk (ha:Ev ta σ H x)(hb:Ev tb σ H y)(s:Ep x y=true:=by rfl):Ev (kK La ta tb) σ H (.bl (!decide (x=y))):=λ_ r=>ha _ (hb _ ⟨s,r⟩)
theorem tX (ha:Ev ta σ H x):Ev (kK (λx y H Q=>y=.cb/\Q (.bl (decide (x=.cb))) H) ta (tC .cb)) σ H (.bl (decide (x=.cb))):=λ_ r=>ha _ ⟨rfl,r⟩
theorem Bt {n:Nat}{z:Str}(ha:Ev ta σ H (.str ⟨#[n]⟩))(hb:Ev tb σ H (.str z)):Ev (kK (λx y H Q=>∃(c:Nat) (z:Str),x=.str ⟨#[c]⟩/\y=.str z/\Q (.bl (decide (c∈z.cps.toList))) H) ta tb) σ H (.bl (decide (n∈z.cps.toList))):=λ_ r=>ha _ (hb _ ⟨n,z,rfl,rfl,r⟩)
theorem ET {n:Nat}{z:Str}(ha:Ev ta σ H (.str ⟨#[n]⟩))(hb:Ev tb σ H (.str z)):Ev (kK (λx y H Q=>∃(c:Nat) (z:Str),x=.str ⟨#[c]⟩/\y=.str z/\Q (.bl (!decide (c∈z.cps.toList))) H) ta tb) σ H (.bl (!decide (n∈z.cps.toList))):=λ_ r=>ha _ (hb _ ⟨n,z,rfl,rfl,r⟩)
theorem mG {neg:Bool}(ha:Ev ta σ H x)(hb:Ev tb σ H (.ref p))(s:aP K H p xs∨bZ K H p xs)(f:dJ x=true)(fs:xs.all dJ=true):Ev (kK (Gy K neg) ta tb) σ H (.bl (if neg then !oh x xs else oh x xs)):=λ_ r=>ha _ (hb _ ⟨p,xs,rfl,s,f,fs,r⟩)
theorem t8 {z:Str}{n:Nat}(ha:Ev ta σ H (.str z))(hb:Ev tb σ H (.int i))(hz:z.length<=sizeLine)(e:nU z.cps.toList i=some n):Ev (kK ID ta tb) σ H (.str ⟨#[n]⟩):=λ_ r=>ha _ (hb _ ⟨z,i,n,rfl,rfl,hz,e,r⟩)
theorem aZ (ha:Ev ta σ H (.ref p))(hb:Ev tb σ H (.int i))(s:aP K H p xs)(e:nU xs i=some v):Ev (kK (Ao K) ta tb) σ H v:=λ_ r=>ha _ (hb _ ⟨p,xs,i,v,rfl,rfl,s,e,r⟩)
theorem Bp (ha:Ev ta σ H (.ref p))(hb:Ev tb σ H (.int i))(s:bZ K H p xs)(e:nU xs i=some v):Ev (kK (Jx K) ta tb) σ H v:=λ_ r=>ha _ (hb _ ⟨p,xs,i,v,rfl,rfl,s,e,r⟩)
theorem bf {C dx:Addr}{fs:List (Str×V)}{f:Str}(ha:Ev ta σ H (.ref a))(e:H a=some (.ins C dx fs))(c:yW K C)(n:g_ K C f)(l:fs.lookup f=some v):Ev (vn K ta f) σ H v:=λ_ r=>ha _ ⟨a,C,dx,fs,v,rfl,e,c,n,l,r⟩
theorem aU (ha:Ev ta σ H (.ref p))(s:aP K H p xs∨bZ K H p xs):Ev (G_ (λxs H Q=>∃p ys,xs=[.ref p]/\(aP K H p ys∨bZ K H p ys)/\Q (.int ys.length) H) (cO ta eV)) σ H (.int xs.length):=λ_ r=>ha _ ⟨p,xs,rfl,s,r⟩
theorem tf {z:Str}(ha:Ev ta σ H (.str z))(hz:z.length<=sizeLine):Ev (G_ (λxs H Q=>∃z,xs=[.str z]/\z.length<=sizeLine/\Q (.int z.length) H) (cO ta eV)) σ H (.int z.length):=λ_ r=>ha _ ⟨z,rfl,hz,r⟩
theorem Jj (ha:Ev ta σ H (.bl b))(hb:b=false->Ev tb σ H (.bl c)):Ev (II ta tb) σ H (.bl (b||c)):=λR r=>ha _ ⟨b,rfl,by
 cases b with
 |false=>exact vt (hb rfl _ r)
 |true=>exact pQ r⟩
theorem aI (h:Ev te σ H (.bl b)):Tv (qx te) σ H b:=λ_ r=>h _ ⟨b,rfl,r⟩
theorem J_ (h:Ev te σ H (.bl b)):Tv (tB te) σ H b:=λ_ r=>h _ ⟨b,rfl,r⟩
theorem AJ {p q:Int->Int->Bool}(ha:Ev ta σ H (.int i))(hb:Ev tb σ H (.int j))(hc:Ev tc σ H (.int k)):Ev (xN (qI λi j=>.bl (p i j)) (qI λi j=>.bl (q i j)) ta tb tc) σ H (.bl (p i j&&q j k)):=λR r=>ha _ (hb _ ⟨i,j,rfl,rfl,p i j,rfl,by
 cases h:p i j with
 |false=>rw[h] at r;exact vt r
 |true=>rw[h] at r;exact pQ (hc _ ⟨j,k,rfl,rfl,r⟩)⟩)
theorem cE {p q:Int->Int->Bool}(ha:Ev ta σ H (.int i))(hb:Ev tb σ H (.int j))(hc:Ev tc σ H (.int k)):Tv (qx (xN (qI λi j=>.bl (p i j)) (qI λi j=>.bl (q i j)) ta tb tc)) σ H (p i j&&q j k):=aI (AJ ha hb hc)
theorem jy {p:Int->Int->Bool}(ha:Ev ta σ H (.int i))(hb:Ev tb σ H (.int j)):Tv (qx (kK (qI λi j=>.bl (p i j)) ta tb)) σ H (p i j):=λ_ r=>ha _ (hb _ ⟨i,j,rfl,rfl,_,rfl,r⟩)
theorem eY (h:Tv t σ H b):Tv (IJ t) σ H (!b):=λ_ r=>h _ r
theorem qE (h:Tv t σ H b)(h2:b=true->Tv u σ H c):Tv (Ju t u) σ H (b&&c):=λR r=>h _ (by
 cases b with
 |false=>exact vt r
 |true=>exact pQ (h2 rfl _ r))
theorem gK (h:Tv t σ H b)(h2:b=false->Tv u σ H c):Tv (K9 t u) σ H (b||c):=λR r=>h _ (by
 cases b with
 |false=>exact vt (h2 rfl _ r)
 |true=>exact pQ r)
theorem tZ (ha:Ev ta σ H (.int i)):Ev (Lb (rU λi=>.int (-i)) ta) σ H (.int (-i)):=λ_ r=>ha _ ⟨i,rfl,r⟩
theorem Jg {z:Str}{r:V->List V->Hp->VK->Prop}(ha:Ev ta σ H (.str z))(h:∀R,R v H->r (.str z) [] H R):Ev (K_ r ta) σ H v:=λR q=>ha _ ⟨⟨z,rfl⟩,h R q⟩
theorem aS {D:Ends}{s1 s2:TS}(h:Tv t σ H b)(q1:b=true->s1 D σ H)(q2:b=false->s2 D σ H):Ja t s1 s2 D σ H:=h _ (by
 cases b with
 |false=>exact vt (q2 rfl)
 |true=>exact pQ (q1 rfl))
theorem bU {D:Ends}(h:Ev te σ H v)(q:D.rt v H):Ff te D σ H:=h _ q
theorem cB {D:Ends}{n:Nat}(h:Ev te σ H v)(q:D.nx (σ.set n (some v)) H):zX te (fL n) D σ H:=h _ q
theorem HY {D:Ends}{s1 s2:TS}(q:s1 {D with nx:=s2 D} σ H):GZ s1 s2 D σ H:=q
end
theorem au.laid {H H':Hp}{p:Addr}{o:HO}(e:au H H')(h:H p=none):au H (upd H' p o):=λb u q=>by
 rw[aq (ao q h)];exact e b u q
section
variable {σ:St}{H:Hp}{ta tb tc:TE}{i j c:Int}
theorem yA {n:Nat} {R:It->Hp->Prop} (ha:Ev ta σ H (.int i)) (hb:Ev tb σ H (.int j)) (hc:Ev tc σ H (.int c)) (rg:Jf i j c n) (q:R (Ie i c n) H):Fv (cO ta (cO tb (cO tc eV))) σ H R:=ha _ (hb _ (hc _ ⟨i,j,c,n,rfl,rg,q⟩))
theorem zb {R:It->Hp->Prop}(ha:Ev ta σ H (.int i))(hb:Ev tb σ H (.int j))(rg:-(2 ^ 62)<=i/\i < 2 ^ 62/\-(2 ^ 62)<=j/\j < 2 ^ 62)(q:R (Az i (j - i).toNat) H):FV (cO ta (cO tb eV)) σ H R:=ha _ (hb _ ⟨i,j,rfl,rg,q⟩)
theorem tU {R:It->Hp->Prop}(ha:Ev ta σ H (.int j))(h1:-(2 ^ 62)<=j)(h2:j < 2 ^ 62)(q:R (Az 0 j.toNat) H):A_ (cO ta eV) σ H R:=ha _ ⟨j,rfl,h1,h2,q⟩
theorem oP {wi:TI}{g:TG}{tb:TS}{D:Ends}(h:wi σ H λJ H1=>∃W:Nat->Nat->St->Hp->Prop,(∃m,W 0 m σ H1)/\∀i m σ H,W i m σ H ->
  (J.stop i H/\D.nx σ H)∨(J.go i H/\∃N:St->Hp->Prop,(∀σ' H',N σ' H'->∃m',m' < m/\W (i+1) m' σ' H')/\∀x H',J.vZ i H x H'->g x σ H' λσ2 H2=>tb {D with nx:=N,ct:=N,bk:=D.nx} σ2 H2)):GH wi g tb D σ H:=h
end
theorem Hl {z:Str}{g:TG}{tt:TT}{te:TE}{vs:aae}{σ:St}{H1:Hp}{D:Addr}{Qd:Hp->Prop}(Pv:Nat->Hp->Prop)(h0:Pv 0 (upd H1 D (.lst [])))
  (hs:∀i c H,z.cps.toList[i]?=some c->Pv i H->g (.str ⟨#[c]⟩) (wipe σ vs) H λσ2 H2=>wipe σ2 vs=wipe σ vs/\tt σ2 H2 λb H3 =>
   if b=true then te σ2 H3 λy H4=>∃acc,H4 D=some (.lst acc)/\acc.length < sizeLine/\Pv (i+1) (upd H4 D (.lst (acc++[y]))) else Pv (i+1) H3) (hd:∀H,Pv z.cps.toList.length H->Qd H) :
  ∃W:Nat->Nat->Hp->Prop,(∃m,W 0 m (upd H1 D (.lst [])))/\∀i m H,W i m H ->
   ((Jw z).stop i H/\Qd H)∨((Jw z).go i H/\∃Nx:Hp->Prop,(∀H',Nx H'->∃m',m' < m/\W (i+1) m' H')/\∀x H',(Jw z).vZ i H x H'->g x (wipe σ vs) H' λσ2 H2=>wipe σ2 vs=wipe σ vs/\tt σ2 H2 λb H3 =>
    if b=true then te σ2 H3 λy H4=>∃acc,H4 D=some (.lst acc)/\acc.length < sizeLine/\Nx (upd H4 D (.lst (acc++[y]))) else Nx H3):=by
 have sz:z.cps.toList.length=z.cps.size:=Ze;refine⟨λi m H=>m=z.cps.size - i/\i<=z.cps.size/\Pv i H,⟨z.cps.size,by simp,X1 _,h0⟩,?_⟩;rintro i m H ⟨rfl,hi,p⟩;by_cases LI:i < z.cps.size
 · refine .inr ⟨LI,Pv (i+1),λH' p'=>⟨z.cps.size - (i+1),by omega,rfl,LI,p'⟩,λx H' y=>?_⟩;obtain⟨e,c,hc,rfl⟩:=y;subst e;exact hs i c _ (by rw[Array.getElem?_toList];exact hc) p
 · have e:i=z.cps.size:=by omega
   subst e;exact .inl ⟨XC _,hd H (by rw[sz];exact p)⟩
end L2
namespace Bw
open PySem PySem.Spec PyProof.Rows L2
abbrev Al:Str:=Str.ofString "abcdefghijklmnopqrstuvwxyz"
abbrev z_:Str:=Str.ofString "0123456789"
structure GW (mg:aah):Prop where
 sT:Gv mg "LETTERS" (.str Al)
 digits:Gv mg "DIGITS" (.str z_)
 most:Gv mg "MOST_NAME" (.int 12)
 IU:Gv mg "MOST_DIGITS" (.int 7)
 len:mg "len"=none
 all:mg "all"=none
 int:mg "int"=none
theorem AU:TL.tl Al=(List.range 26).map (·+97):=by rw[TL.gL];decide +kernel
theorem Cf:TL.tl z_=(List.range 10).map (·+48):=by rw[TL.gL];decide +kernel
theorem HG {c:Nat}(h1:97<=c)(h2:c<=122):nU (Al.cps.toList) ((c:Int) - 97)=some c:=by
 have e:((c:Int) - 97)=((c - 97:Nat):Int):=by omega
 rw[e];refine cu ?_;have q:Al.cps.toList=(List.range 26).map (·+97):=AU;rw[q,Xy,Zd (by omega)];simp;omega
theorem HD {c:Nat}(h1:48<=c)(h2:c<=57):nU (z_.cps.toList) ((c:Int) - 48)=some c:=by
 have e:((c:Int) - 48)=((c - 48:Nat):Int):=by omega
 rw[e];refine cu ?_;have q:z_.cps.toList=(List.range 10).map (·+48):=Cf;rw[q,Xy,Zd (by omega)];simp;omega
theorem xK (c:Nat):decide (c∈Al.cps.toList)=isLet c:=by
 have q:Al.cps.toList=(List.range 26).map (·+97):=AU;rw[q,X8];unfold isLet;simp only[XB,XA,X3,Zh];constructor
 · rintro⟨x,hx,rfl⟩;omega
 · rintro⟨h1,h2⟩;exact⟨c - 97,by omega,by omega⟩
theorem HS (c:Nat):decide (c∈z_.cps.toList)=bX c:=by
 have q:z_.cps.toList=(List.range 10).map (·+48):=Cf;rw[q,X8];unfold bX;simp only[XB,XA,X3,Zh];constructor
 · rintro⟨x,hx,rfl⟩;omega
 · rintro⟨h1,h2⟩;exact⟨c - 48,by omega,by omega⟩
def AN:Sp:=λvs H Q _=>∃c:Nat,vs=[.int c]/\Q (.str (st [sg c])) H
theorem E6 {c:Nat}(h:97<=c/\c<=122):sg c=c:=by unfold sg ux isLet;simp[h]
theorem D9 {c:Nat}(h:48<=c/\c<=57):sg c=c:=by unfold sg ux bX;simp[h]
theorem IW {c:Nat}(h1:¬(97<=c/\c<=122))(h2:¬(48<=c/\c<=57))(h3:c≠32)(h4:c≠10)(h5:c≠44)(h6:c≠47):sg c=63:=by
 unfold sg ux isLet bX;have e1:(decide (97<=c)&&decide (c<=122))=false:=by simp;omega
 have e2:(decide (48<=c)&&decide (c<=57))=false:=by simp;omega
 rw[e1,e2];simp[h3,h4,h5,h6]
section
variable {P:Program}{w:World}{K:aaf}{mg:aah}{base:Heap}
theorem E9:aG ["code"] ["code"] (aw j4):=fs
theorem Dl (G:GW mg){f:Addr}{fd:FuncData}(F:di K "sign_of" "sign_of" j4 f fd):a8 P w K mg base bC 1 f fd ["code"] AN:=by
 refine F.ok E9 (λvs H Q E h=>?_) (λLF A outer s H vs Q E hr h=>?_)
 · obtain⟨c,rfl,_⟩:=h;rfl
 · obtain⟨c,rfl,q⟩:=h;refine⟨_,af (aO (cF b_ b_ ax (pv 0) ax) (ak (az (bp sQ (a_ G.sT) (bG fJ (pv 0) ax) (λ_ _=>rfl)))) aB)
    (af (aO (cF b_ b_ ax (pv 0) ax) (ak (az (bp sQ (a_ G.digits) (bG fJ (pv 0) ax) (λ_ _=>rfl)))) aB)
    (af (aO (aC cp (pv 0) ax (aJ _)) (ak (az bq)) aB)
    (af (aO (aC cp (pv 0) ax (aJ _)) (ak (az bq)) aB)
    (af (aO (aC cp (pv 0) ax (aJ _)) (ak (az bq)) aB)
    (af (aO (aC cp (pv 0) ax (aJ _)) (ak (az bq)) aB)
    (ak (az bq))))))),?_⟩
   refine aS (cE aD (ag rfl) aD) (λh=>?_) (λh1=>?_)
   · simp only[XA,XB] at h;refine bU (t8 aD (mI (ag rfl) aD) (by decide +kernel) (HG (c:=c) (by omega) (by omega))) ?_;rw[E6 (by omega)] at q;exact q
   refine aS (cE aD (ag rfl) aD) (λh=>?_) (λh2=>?_)
   · simp only[XA,XB] at h;refine bU (t8 aD (mI (ag rfl) aD) (by decide +kernel) (HD (c:=c) (by omega) (by omega))) ?_;rw[D9 (by omega)] at q;exact q
   have step:∀(n:Nat) (b:Bool),b=decide (V.int (c:Int)=V.int (n:Int))->(b=true->c=n)/\(b=false->c≠n):=λn b e=>by
    rw[aY] at e;subst e;constructor
    · intro z;have:=YY z;omega
    · intro z z2;subst z2;simp at z
   refine aS (aI (cj (ag rfl) aD)) (λh=>?_) (λh3=>?_)
   · have e:=(step 32 _ rfl).1 h;subst e;exact bU aD q
   refine aS (aI (cj (ag rfl) aD)) (λh=>?_) (λh4=>?_)
   · have e:=(step 10 _ rfl).1 h;subst e;exact bU aD q
   refine aS (aI (cj (ag rfl) aD)) (λh=>?_) (λh5=>?_)
   · have e:=(step 44 _ rfl).1 h;subst e;exact bU aD q
   refine aS (aI (cj (ag rfl) aD)) (λh=>?_) (λh6=>?_)
   · have e:=(step 47 _ rfl).1 h;subst e;exact bU aD q
   rw[IW (λz=>by simp at h1;omega) (λz=>by simp at h2;omega) ((step 32 _ rfl).2 h3) ((step 10 _ rfl).2 h4) ((step 44 _ rfl).2 h5) ((step 47 _ rfl).2 h6)] at q;exact q
def sI (K:aaf):Sp:=λvs H Q _=>∃(a:Addr) (cs:aae),vs=[.ref a]/\aP K H a (cs.map λc=>V.int (c:Nat))/\cs.length<=70000/\∀H',au H H'->Q (.str (st (cs.map sg))) H'
theorem take_snoc {α:Type}{l:List α}{i:Nat}{x:α}(h:l[i]?=some x):l.take (i+1)=l.take i++[x]:=by
 rw[List.take_add_one,h];rfl
theorem wF (l:aae):Txt.join (Str.ofString "") (l.map λc=>st [c])=st l:=by
 rw[TL.join_eq];refine TL.wM ?_;rw[TL.zh,TL.gL,pH];show TL.dM [] ((l.map λc=>st [c]).map TL.tl)=l;rw[XX]
 induction l with
 |nil=>rfl
 |cons c l ih =>
  cases l with
  |nil=>rfl
  |cons d l =>
   have ih:TL.dM [] ((d::l).map (TL.tl ∘ λc=>st [c]))=d::l:=ih;show [c]++([]++TL.dM [] ((d::l).map (TL.tl ∘ λc=>st [c])))=c::d::l;rw[ih];rfl
theorem uq:aG ["codes","code"] ["codes"] (aw j8):=fs
theorem Eu {k:Nat}(FS:Fn P w K mg base bC k "sign_of" ["code"] AN){f:Addr}{fd:FuncData}(F:di K "text_of" "text_of" j8 f fd):a8 P w K mg base bC (k+1) f fd ["codes"] (sI K):=by
 refine F.ok uq (λvs H Q E h=>?_) (λLF A outer s H vs Q E hr h=>?_)
 · obtain⟨a,cs,rfl,_⟩:=h;rfl
 · obtain⟨a,cs,rfl,hS,hl,q⟩:=h;refine⟨_,ak (az (DN bq (fA rfl uq.nd (bJ (pv 0)) (bz (own:=[("code",1)]) rfl) (λ_ _ _ _ _=>bo 1 uq.nd) (λ_ _ _ _ _=>cz)
    (λ_ _ _ _ _=>aR FS hr bb (aa (pv 1) ah))))),?_⟩
   refine⟨⟨_,rfl⟩,_,rfl,a,rfl,⟨_,hS⟩,λD hD=>iH (K:=K) (a:=a) (xs:=cs.map λc=>V.int (c:Nat)) (λi H'=>au H H'/\H' D=some (.lst ((cs.take i).map λc=>V.str (st [sg c]))))
    ⟨(au.refl H).laid hD,ae⟩ (λi H' _ h=>h.1.seq hS) ?_ ?_⟩
   · rintro i x H' hi ⟨h1,h2⟩;rw[Xy] at hi;obtain⟨c,hc,rfl⟩:=X5.mp hi;refine⟨rfl,_,rfl,c,rfl,_,h2,?_,?_⟩
     · rw[Xs,XT,XY];omega
     · refine⟨λb u z=>?_,?_⟩
       · rw[aq (ao z hD)];exact h1 b u z
       · rw[ae,take_snoc hc,XO];rfl
   · rintro H' ⟨h1,h2⟩;rw[Xs,Yr] at h2;refine⟨_,D,(cs.map sg).map (λc=>st [c]),rfl,rfl,.inl (aP.of ?_),?_,?_⟩
     · rw[h2,XX,XX];rfl
     · have e:(((cs.map sg).map (λc=>st [c])).map (·.length)).sum=cs.length:=by
        rw[XX,XX];clear h2 hS q hl
        induction cs with
        |nil=>rfl
        |cons c cs ih =>
         rw[XM,Y1,ih,XE];show 1+cs.length=_;omega
       have e2:(Str.ofString "").length=0:=by decide +kernel
       rw[e,e2];omega
     · rw[wF];exact q H' h1
def lK:Sp:=λvs H Q _=>∃wd:W,vs=[.str (st wd)]/\wd.length<=70000/\∀H',au H H'->Q (.bl (d_ wd)) H'
theorem yV {wd:W}(h:wd≠[]):nU (st wd).cps.toList ((0:Int))=some (wd.headD 0):=by
 refine cu (j:=0) ?_;show wd[0]?=some (wd.headD 0);cases wd with
 |nil=>exact absurd rfl h
 |cons c r=>rfl
theorem mP:aG ["word","sign"] ["word"] (aw ko):=fs
theorem Au (G:GW mg){f:Addr}{fd:FuncData}(F:di K "is_name" "is_name" ko f fd):a8 P w K mg base bC 1 f fd ["word"] lK:=by
 refine F.ok mP (λvs H Q E h=>?_) (λLF A outer s H vs Q E hr h=>?_)
 · obtain⟨a,rfl,_⟩:=h;rfl
 · obtain⟨wd,rfl,hl,q⟩:=h;have hz:(st wd).length<=sizeLine:=by rw[b8,XY];omega
   refine⟨_,af (aO (PW.pt (eG (cG (cF b_ b_ ax (bY f7 (by rfl) G.len PySem.boot_len (aa (pv 0) ah)) (a_ G.most)))
     (cQ (aC qQ (bp sQ (pv 0) ax (λ_ _=>rfl)) (a_ G.sT) (by with_unfolding_all rfl))))) (ak (az lU)) aB)
    (ak (az (bY (xW rfl) (by rfl) G.all PyProof.Rows.boot_all (aa (fA rfl mP.nd (HA (pv 0)) (bz (own:=[("sign",1)]) rfl) (λ_ _ _ _ _=>bo 1 mP.nd) (λ_ _ _ _ _=>cz)
     (λ_ _ _ _ _=>IZ (ft qB (pv 1) (a_ G.sT) (by with_unfolding_all rfl)) (xm (ft qB (pv 1) (a_ G.digits) (by with_unfolding_all rfl))))) ah)))),?_⟩
   refine aS (gK (eY (cE aD (tf (ag rfl) hz) aD)) λh0=>aI (ET (t8 (ag rfl) aD hz (yV ?_)) aD)) (λh=>?_) (λh=>?_)
   · rintro rfl;simp at h0;rw[b8] at h0;simp at h0
   · rw[xK] at h;refine bU aD ?_;have e:d_ wd=false:=by
      unfold d_;rw[b8] at h;simp only[Yu,Yl,YS,Yb] at h;rcases h with (h|h)|h
      · have:¬1<=wd.length:=λz=>h (by omega);simp[this]
      · have:¬wd.length<=12:=λz=>h (by omega);simp[this]
      · rw[h];simp
     rw[←e];exact q H (au.refl H)
   · rw[xK,b8] at h;simp only[YE,Yo,XA,XB] at h;obtain⟨⟨h1,h2⟩,h3⟩:=h;have e:d_ wd=wd.all λc=>isLet c||bX c:=by
      unfold d_;have z1:decide (1<=wd.length)=true:=X9 (by omega);have z2:decide (wd.length<=12)=true:=X9 (by omega);rw[z1,z2,h3];simp
     refine⟨_,rfl,_,rfl,λD hD=>Hl (z:=st wd) (λi H'=>au H H'/\H' D=some (.lst ((wd.take i).map λc=>V.bl (isLet c||bX c)))) ⟨(au.refl H).laid hD,ae⟩ ?_ ?_⟩
     · rintro i c H' hi ⟨k1,k2⟩;have hi:wd[i]?=some c:=hi;refine⟨rfl,?_⟩;refine (Jj (Bt (ag rfl) aD) λ_=>Bt (ag rfl) aD) _ ⟨_,k2,?_,?_⟩
       · rw[Xs,XT,XY];omega
       · rw[xK,HS];refine⟨λb u z=>?_,?_⟩
         · rw[aq (ao z hD)];exact k1 b u z
         · rw[ae,take_snoc hi,XO];rfl
     · rintro H' ⟨k1,k2⟩;have k2:H' D=some (.lst ((wd.take wd.length).map λc=>V.bl (isLet c||bX c))):=k2;rw[Yr] at k2;refine⟨D,wd.map λc=>isLet c||bX c,rfl,aP.of (by rw[k2,XX];rfl),?_⟩;have e2:((wd.map λc=>isLet c||bX c).all id)=d_ wd:=by rw[e,ZD];rfl
       rw[e2];exact q H' k1
def kO:Sp:=λvs H Q _=>∃wd:W,vs=[.str (st wd)]/\wd.length<=70000/\(∀c∈wd,c < 128)/\Q (.int (ay wd)) H
theorem yu:∀c:Nat,c < 128->Unicode.isDigit c=bX c:=by decide +kernel
theorem qt {wd:W}(h:∀c∈wd,c < 128):Txt.isdigit (st wd)=(!wd.isEmpty&&wd.all bX):=by
 unfold Txt.isdigit;have e:(st wd).cps.all Unicode.isDigit=wd.all bX:=by
  show wd.toArray.all Unicode.isDigit=_;rw[List.all_toArray,X8,X0,X0];exact⟨λz c hc=>by rw[←yu c (h c hc)];exact z c hc,λz c hc=>by rw[yu c (h c hc)];exact z c hc⟩
 rw[e,b8];cases wd with
 |nil=>rfl
 |cons c r=>simp
theorem wV (wd:W):NumText.digitsVal wd=xJ wd:=by
 unfold NumText.digitsVal xJ;congr 1;funext n c;omega
theorem G7 {wd:W}(h0:wd≠[])(h1:wd.all bX=true)(h2:wd.length<=7):intText? (st wd)=some ((xJ wd:Nat):Int):=by
 rw[←wV];refine intText_digits (x:=st wd) (λc hc=>?_) h0 (by rw[b8];omega);have:=X0.mp h1 c hc;unfold bX at this;simpa using this
theorem Gw:aG ["word"] ["word"] (aw gI):=fs
theorem Hv (G:GW mg){f:Addr}{fd:FuncData}(F:di K "number_of" "number_of" gI f fd):a8 P w K mg base bC 1 f fd ["word"] kO:=by
 refine F.ok Gw (λvs H Q E h=>?_) (λLF A outer s H vs Q E hr h=>?_)
 · obtain⟨a,rfl,_⟩:=h;rfl
 · obtain⟨wd,rfl,hl,ha,q⟩:=h;have hz:(st wd).length<=sizeLine:=by rw[b8,XY];omega
   refine⟨_,af (aO (PW.pt (eG (aC kX (bY f7 (by rfl) G.len PySem.boot_len (aa (pv 0) ah)) (a_ G.IU) (aJ _)) (cQ (cG (hU (Ji PySem.F.slot_str_isdigit PySem.F.type_str_isdigit wq (pv 0))))))) (ak (az (vX ql ax))) aB)
    (af (aO (PW.pt (tm (aC cp (bp sQ (pv 0) ax (λ_ _=>rfl)) bq (aJ _)) (oB (aC pO (pv 0) bq (aJ _))))) (ak (az (vX ql ax))) aB)
    (ak (az (j0 tR (by rfl) G.int PyProof.Rows.boot_int (aa (pv 0) ah))))),?_⟩
   refine aS (gK (aI (mI (tf (ag rfl) hz) aD)) λh0=>eY (J_ (Jg (ag rfl) λR r=>⟨_,rfl,rfl,trivial,r⟩))) (λh=>?_) (λh=>?_)
   · refine bU (tZ aD) ?_;have e:ay wd=-1:=by
      unfold ay;rw[Xv];rw[qt ha,b8] at h;simp only[Yu,Yl,YS,XB] at h;rcases h with h|h|h
      · exact .inl (by omega)
      · exact .inr (.inl (by cases wd with|nil=>rfl|cons c r=>simp at h))
      · exact .inr (.inr h)
     rw[e] at q;exact q
   · rw[qt ha,b8] at h;simp only[YE,Yo,XA,Yb] at h;obtain⟨h1,h2,h3⟩:=h;have LP:wd≠[]:=by rintro rfl;simp at h2
     have e0:ay wd=if wd.headD 0=48/\wd≠[48] then -1 else (xJ wd:Int):=by
      unfold ay;rw[Xu];rintro (z|z|z)
      · exact h1 (by omega)
      · exact LP z
      · rw[h3] at z;cases z
     refine aS (qE (aI (cj (t8 (ag rfl) aD hz (yV LP)) aD)) λh0=>aI (qk (ag rfl) aD)) (λh=>?_) (λh=>?_)
     · refine bU (tZ aD) ?_;rw[Xv] at e0
       · rw[e0] at q;exact q
       · simp only[XA,XB,Yl,Yb] at h;refine⟨?_,λz=>h.2 ?_⟩
         · have:=h.1;injection this with this;have:=YA TL.tl this;have:[wd.headD 0]=[48]:=this;injection this
         · rw[z];rfl
     · rw[Xu] at e0
       · rw[e0] at q;exact⟨_,rfl,_,_,rfl,G7 LP h3 (by omega),by rw[b8];omega,q⟩
       · rintro⟨z1,z2⟩;simp only[YS,Yb,Yo,XB] at h;rcases h with h|h
         · exact h (by rw[z1];rfl)
         · injection h with h;have h:=YA TL.tl h;exact z2 h
end
end Bw
namespace L2
open PySem PySem.Spec PyProof.Rows
structure yS (P:Program)(w:World)(K:aaf)(d:Addr)(vs:List (Key×Value)):Prop where
 dd:∀h:Heap,K.In h->h.DictOf (cy P w) d vs
 ne:(d==sysModules)=false
section
variable {X:Cx}{d:Addr}{vs:List (Key×Value)}{o i:Expr}{td ty:TE}{pos:Pos}
def GG (d:Addr) (vs:List (Key×Value)) (td ty:TE):TE:=λσ H Q=>td σ H λx H1=>ty σ H1 λy H2=>∃k v u,x=.ref d/\y=kV k/\valueAt vs k=some u/\RelV v u/\Q v H2
def Jc (d:Addr)(vs:List (Key×Value))(ty td:TE):TE:=λσ H Q=>ty σ H λy H1=>td σ H1 λx H2=>∃k,x=.ref d/\y=kV k/\Q (.bl (valueAt vs k).isSome) H2
theorem B_ (D:yS X.prog X.w X.K d vs)(ho:PE X o td)(hi:PE X i ty)(hs:Jz i):PE X (.Subscript o i pos) (GG d vs td ty):=by
 intro pins s σ H Q I h;refine Dj PySem.F.slot_dict_getitem.lookup hs (bA (ho pins s σ H _ I h) λu s1 ⟨x,H1,I1,rx,q1⟩=>bA (hi pins s1 σ H1 _ I1 q1) λiv s2 ⟨y,H2,I2,ry,k,v,u',ex,ey,hv,rv,q2⟩=>?_);subst ex ey;obtain rfl:u=Value.ref d:=rx;have dd:=D.dd s2.heap I2.mW;obtain⟨ob,es,ep,e1,e2,_⟩:=id dd;exact⟨⟨ob,e1,e2.1⟩,wpAny_getItem_of (pS ry) dd.mapOf hv ⟨v,H2,I2.tok _,rv,q2⟩⟩
theorem DC (D:yS X.prog X.w X.K d vs)(hi:PE X i ty)(ho:PE X o td):PC X .In i o (Jc d vs ty td):=by
 intro pins s σ H Q I h;refine bA (hi pins s σ H _ I h) λiv s1 ⟨y,H1,I1,ry,q1⟩=>bA (ho pins s1 σ H1 _ I1 q1) λu s2 ⟨x,H2,I2,rx,k,ex,ey,q2⟩=>?_;subst ex ey;obtain rfl:u=Value.ref d:=rx;have dd:=D.dd s2.heap I2.mW;exact wpAny_in_of (pS ry) D.ne dd.mapOf ⟨.bl _,H2,I2.tok _,rfl,q2⟩
end
theorem au.tup {K:aaf}{H H':Hp}{a:Addr}{xs:List V}(e:au H H')(h:bZ K H a xs):bZ K H' a xs:=by
 rcases h with (h|⟨o,h⟩)|h
 · exact .inl (.inl (e _ _ h))
 · exact .inl (.inr ⟨o,e _ _ h⟩)
 · exact .inr h
section
variable {α β γ:Type}{F G:α->β->Prop}
theorem Paired.qR:∀{l₁:List α} {l₂:List β} {i:Nat} {x:α},Paired F l₁ l₂->l₁[i]?=some x->∃y,l₂[i]?=some y/\F x y
 |_,_,_,_,.nil,e=>by simp at e
 |_,_,0,_,.cons r _,e=>by simp at e;subst e;exact⟨_,rfl,r⟩
 |_,_,i+1,x,.cons _ t,e=>by
  obtain⟨y,h1,h2⟩:=Paired.qR (i:=i) (x:=x) t (by simpa using e);exact⟨y,by simpa using h1,h2⟩
theorem Paired.at2:∀{l₁:List α} {l₂:List β} {i:Nat} {y:β},Paired F l₁ l₂->l₂[i]?=some y->∃x,l₁[i]?=some x/\F x y
 |_,_,_,_,.nil,e=>by simp at e
 |_,_,0,_,.cons r _,e=>by simp at e;subst e;exact⟨_,rfl,r⟩
 |_,_,i+1,y,.cons _ t,e=>by
  obtain⟨x,h1,h2⟩:=Paired.at2 (i:=i) (y:=y) t (by simpa using e);exact⟨x,by simpa using h1,h2⟩
theorem Paired.tk:∀{l₁:List α} {l₂:List β} (n:Nat),Paired F l₁ l₂->Paired F (l₁.take n) (l₂.take n)
 |_,_,0,_=>.nil
 |_,_,_+1,.nil=>.nil
 |_,_,n+1,.cons r t=>.cons r (Paired.tk n t)
theorem Paired.dp:∀{l₁:List α} {l₂:List β} (n:Nat),Paired F l₁ l₂->Paired F (l₁.drop n) (l₂.drop n)
 |_,_,0,r=>r
 |_,_,_+1,.nil=>.nil
 |_,_,n+1,.cons _ t=>Paired.dp n t
theorem Paired.rep {a:α}{b:β}(h:F a b):∀n:Nat,Paired F (List.replicate n a) (List.replicate n b)
 |0=>.nil
 |n+1=>.cons h (Paired.rep h n)
end
end L2
namespace Bw
open PySem PySem.Spec PyProof.Rows L2 Tote
def sV (ws:List W):List V:=ws.map λw=>V.str (st w)
def nV (ns:aae):List V:=ns.map λn=>V.int (n:Nat)
def hZ (K:aaf)(H:Hp)(a:Addr)(ns:aae):Prop:=aP K H a (nV ns)
def bD (K:aaf)(H:Hp)(a:Addr)(rs:aad):Prop:=∃as:List Addr,aP K H a (as.map V.ref)/\Paired (hZ K H) as rs
def lr (H:Hp)(a:Addr)(rs:aad):Prop:=∃as:List Addr,H a=some (.lst (as.map V.ref))/\Paired (λb ns=>H b=some (.lst (nV ns))) as rs
section
variable {K:aaf}{H H':Hp}{a:Addr}
theorem lr.lists {rs:aad} (h:lr H a rs):bD K H a rs:=by
 obtain⟨as,h1,h2⟩:=h;exact⟨as,aP.of h1,Paired.d9 h2 λ_ _ z=>aP.of z⟩
theorem lr.same {rs:aad}(h:lr H a rs)(e:au H H'):lr H' a rs:=by
 obtain⟨as,h1,h2⟩:=h;exact⟨as,e _ _ h1,Paired.d9 h2 λ_ _ z=>e _ _ z⟩
theorem hZ.same {ns:aae}(h:hZ K H a ns)(e:au H H'):hZ K H' a ns:=e.seq h
theorem iP {as:List Addr}{rs:aad}(h:Paired (hZ K H) as rs)(e:au H H'):Paired (hZ K H') as rs:=Paired.d9 h λ_ _ z=>z.same e
theorem bD.same {rs:aad}(h:bD K H a rs)(e:au H H'):bD K H' a rs:=by
 obtain⟨as,h1,h2⟩:=h;exact⟨as,e.seq h1,iP h2 e⟩
theorem dI (ws:List W):(sV ws).length=ws.length:=Xs ..
theorem aN (ws:aae):(nV ws).length=ws.length:=Xs ..
theorem BS {ws:List W}{i:Nat}{x:W}(h:ws[i]?=some x):(sV ws)[i]?=some (.str (st x)):=by
 unfold sV;rw[Xy,h];rfl
end
structure CK (K:aaf)(mg:aah)(x:Str)(fs:List Str)(C:Addr):Prop where
 cl:yW K C
 no:∀f∈fs,g_ K C f
 mg:mg x=some (.ref C)
def Dm (K:aaf)(C:Addr)(m qual:Str)(st:Stmt):Prop:=∃(f:Addr) (fd:FuncData),Meth K C m f/\di K m qual st f fd
def Di (K:aaf)(C:Addr)(qual:Str)(st:Stmt):Prop:=∃(f:Addr) (fd:FuncData),Mk K C f/\di K "__init__" qual st f fd
def xn (P:Program)(w:World)(K:aaf)(mg:aah)(base:Heap)(CX:mH)(k:Nat)(C:Addr)(ps:List Str)(sp:Sp):Prop :=
 ∃(f:Addr) (fd:FuncData),Mk K C f/\Binds K fd ps []/\a8 P w K mg base CX k f fd ps sp
def pD (P:Program)(w:World)(K:aaf)(mg:aah)(base:Heap)(CX:mH)(k:Nat)(C:Addr)(m:Str)(ps:List Str)(sp:Sp):Prop :=
 ∃(f:Addr) (fd:FuncData),Meth K C m f/\Binds K fd ps []/\a8 P w K mg base CX k f fd ps sp
section
variable {X:Cx}{CX:mH}{k:Nat}{x:Str}{ps:List Str}{sp:Sp}{E:XK}{p pos:Pos}{e:Expr}{es:List Expr}{t:TA}{C:Addr}
theorem pI (F:xn X.prog X.w X.K X.mg X.base CX k C ps sp) (hr:cK (k+1) X.A) (hm:X.mg x=some (.ref C)) (hx:Passes CX X E) (ha:PA X (e::es) t) (hg:Gl X x:=by rfl) (Mj:(x==("__debug__":Str))=false:=by decide) (he:starEach (e::es) X.env=(false,eval e X.env)::starEach es X.env:=by rfl)
  (LN:(backTo pos (starEach es X.env)).any (·.1)=false:=by rfl):PE X (.Call (.Name x p) (e::es) [] pos) (F5 C sp [] E t):=by
 obtain⟨f,fd,M,hb,F⟩:=F;exact D8 M F hr hg hm hb .nil hx ha Mj he LN
end
theorem bR {f:Str}{v:V}:eN f v []=[(f,v)]:=rfl
theorem bc {f g:Str}{v x:V}{r:List (Str×V)}(h:g≠f):eN f v ((g,x)::r)=(g,x)::eN f v r:=by
 show (if g=f then (g,v)::r else (g,x)::eN f v r)=_;rw[Xu h]
theorem bS {f:Str}{v:V}{r:List (Str×V)}:List.lookup f ((f,v)::r)=some v:=by simp[List.lookup]
theorem a9 {f g:Str}{v:V}{r:List (Str×V)}(h:f≠g):List.lookup f ((g,v)::r)=List.lookup f r:=by
 have:(f==g)=false:=X2.mpr h;simp[List.lookup,this]
def jn (nm kd fa u:V):List (Str×V):=[("name",nm),("kind",kd),("fields",fa),("unit",u)]
abbrev hX:List Str:=["name","kind","fields","unit"]
theorem lD {a b c d:V}:(jn a b c d).lookup ("name":Str)=some a:=bS
theorem iR {a b c d:V}:(jn a b c d).lookup ("kind":Str)=some b:=by unfold jn;rw[a9 (by decide +kernel)];exact bS
theorem mn {a b c d:V}:(jn a b c d).lookup ("fields":Str)=some c:=by unfold jn;rw[a9 (by decide +kernel),a9 (by decide +kernel)];exact bS
theorem wN {a b c d:V}:(jn a b c d).lookup ("unit":Str)=some d:=by unfold jn;rw[a9 (by decide +kernel),a9 (by decide +kernel),a9 (by decide +kernel)];exact bS
def dw (K:aaf)(C:Addr)(H:Hp)(a:Addr)(p:aK):Prop:=∃dx fa,H a=some (.ins C dx (jn (.str (st p.name)) (.str (st (cd (kindS p.kind)))) (.ref fa) (.int (p.unit:Nat))))/\bD K H fa p.fields
def cU (K:aaf)(C:Addr)(H:Hp)(a:Addr)(ps:List aK):Prop:=∃as:List Addr,aP K H a (as.map V.ref)/\Paired (dw K C H) as ps
section
variable {K:aaf}{H H':Hp}{C a:Addr}
theorem dw.same {p:aK} (h:dw K C H a p) (e:au H H'):dw K C H' a p:=by
 obtain⟨dx,fa,h1,h2⟩:=h;exact⟨dx,fa,e _ _ h1,h2.same e⟩
theorem o8 {as:List Addr}{ps:List aK}(h:Paired (dw K C H) as ps)(e:au H H'):Paired (dw K C H') as ps:=Paired.d9 h λ_ _ z=>z.same e
theorem cU.same {ps:List aK}(h:cU K C H a ps)(e:au H H'):cU K C H' a ps:=by
 obtain⟨as,h1,h2⟩:=h;exact⟨as,e.seq h1,o8 h2 e⟩
end
def uf (C:Addr):Sp:=λvs H Q _=>∃(x dx:Addr) (a b c d:V),vs=[.ref x,a,b,c,d]/\H x=some (.ins C dx [])/\Q .cb (upd H x (.ins C dx (jn a b c d)))
section
variable {P:Program}{w:World}{K:aaf}{mg:aah}{base:Heap}
theorem Bm:aG ["self","name","kind","fields","unit"] ["self","name","kind","fields","unit"] (aw gU):=fs
theorem AS {C:Addr}(T:CK K mg "Pool" hX C){f:Addr}{fd:FuncData}(F:di K "__init__" "Pool.__init__" gU f fd):a8 P w K mg base bC 1 f fd ["self","name","kind","fields","unit"] (uf C):=by
 refine F.ok Bm (λvs H Q E h=>?_) (λLF A outer s H vs Q E hr h=>?_)
 · obtain⟨x,dx,a,b,c,d,rfl,_⟩:=h;rfl
 · obtain⟨x,dx,a,b,c,d,rfl,hx,q⟩:=h;refine⟨_,af (cD (pv 0) (pv 1) rfl) (af (cD (pv 0) (pv 2) rfl) (af (cD (pv 0) (pv 3) rfl) (ak (cD (pv 0) (pv 4) rfl)))),?_⟩;refine⟨_,rfl,_,rfl,x,C,dx,[],rfl,hx,T.cl,T.no _ (by simp),(by show 0 < 1000;decide),?_⟩;refine⟨_,rfl,_,rfl,x,C,dx,_,rfl,ae,T.cl,T.no _ (by simp),(by show 1 < 1000;decide),?_⟩;refine⟨_,rfl,_,rfl,x,C,dx,_,rfl,ae,T.cl,T.no _ (by simp),(by repeat (first|rw[bR]|rw[bc (by decide +kernel)]);show 2 < 1000;decide),?_⟩;refine⟨_,rfl,_,rfl,x,C,dx,_,rfl,ae,T.cl,T.no _ (by simp),(by repeat (first|rw[bR]|rw[bc (by decide +kernel)]);show 3 < 1000;decide),?_⟩;rw[cJ,cJ,cJ]
   repeat (first|rw[bR]|rw[bc (by decide +kernel)])
   exact q
end
end Bw
namespace L2
open PySem PySem.Spec PyProof.Rows
theorem j9 {α β:Type}{F:α->β->Prop}:∀{l₁:List α} {l₂:List β},l₁.length=l₂.length->(∀(i:Nat) x y,l₁[i]?=some x->l₂[i]?=some y->F x y)->Paired F l₁ l₂
 |[],[],_,_=>.nil
 |x::l₁,y::l₂,h,g=>.cons (g 0 x y rfl rfl) (j9 (by simpa using h) λi a b h1 h2=>g (i+1) a b (by simpa using h1) (by simpa using h2))
 |[],_::_,h,_=>by simp at h
 |_::_,[],h,_=>by simp at h
section
variable {X:Cx}
end
end L2
namespace HT
open PySem PySem.Spec PyProof.Rows
theorem lO {P:Program}{w:World}{A:Around}{E:aag}{s:Shared}{t sl:Addr}{items:Array Value}{vl vu:Value}{lo hi:Option Int}{Q:aag}(ht:IsTup s.heap t items)(hs:s.heap.IsSliceOf sl vl vu .none)(pl:IsPart vl lo)(pu:IsPart vu hi)
  (hw:cf items.size 0 lo=0/\cf items.size items.size hi=items.size)(h:Q (.ref t) s):wpAny (model P w) A (getItem (.ref t) (.ref sl)) Q E s:=by
 obtain⟨os,M4,NL,NM⟩:=id hs;have ty:s.TypeIs (.ref sl) "slice":=⟨os,M4,NL⟩;unfold getItem
 try with_reducible refine Zv ?_
 first|refine Xr (Xz ?_)|skip
 refine Xr (wpAny_sequenceKey ht.typeIs (by decide) ?_);refine Xr (YJ (name:=Str.ofString "__getitem__") ht.typeIs YK (YQ YK ht.typeIs entry_tuple_getitem ?_ (args_tuple_getitem _ _)));show wpAny _ _ (Builtin.Tuple.tupleItemsOf (.ref t) >>= _) _ _ s;refine Xr (tupleItemsOf_ ht (Xr (wpAny_typeOf ty ?_)));rw[Xv (by decide)];refine Xr (ik hs pl pu ?_);rw[hw.1,hw.2];show wpAny _ _ (if (((0:Nat):Int)==0&&(1:Int)==1&&(items.size - 0)==items.size)=true then _ else _) _ _ s;rw[Xv (by simp)];have t0:s.heap.IsTuple t items:=ht;obtain⟨⟨c,dd,f,l⟩,g,rfl,n,rfl⟩:=ht;obtain⟨hp,ga,d,tk,os⟩:=s
 wp_walk
 exact⟨_,rfl,Xz h⟩
end HT
namespace L2
open PySem PySem.Spec PyProof.Rows
section
variable {X:Cx}
def KQ:V->Option Int->Option Int->Hp->VK->Prop:=λx lo hi H Q=>∃a xs,x=.ref a/\H a=some (.tup xs)/\∀p H',au H H'->H' p=some (.tup (fC xs lo hi))->Q (.ref p) H'
theorem EZ:Je X KQ:=by
 intro pins s σ H x v vl vu lo hi sl Q I rx hs pl pu h;obtain⟨a,xs,rfl,hx,q⟩:=h;by_cases hw:HT.cf xs.length 0 lo=0/\HT.cf xs.length xs.length hi=xs.length
 · cases rx;obtain⟨LD,r,ht,hz⟩:=I.tuple (bZ.of hx);have hlen:LD.toArray.size=xs.length:=by rw[XR];exact r.length.symm
   refine⟨"tuple",_,YK.lookup,ht.typeIs,HT.lO ht hs pl pu (by rw[hlen];exact hw) ⟨.ref a,H,I,rfl,q a H (au.refl H) ?_⟩⟩;rw[hx];unfold fC;rw[hw.1,hw.2];simp
 · exact G5 pins s σ H _ v vl vu lo hi sl Q I rx hs pl pu ⟨a,xs,rfl,bZ.of hx,hw,λp hp=>q p _ ((au.refl H).laid hp) ae⟩
theorem mV:∀(l acc:List Int),(l.foldl step_dedup acc).length<=acc.length+l.length/\((l.foldl step_dedup acc).length=acc.length+l.length↔l.Nodup/\∀x∈l,¬x∈acc)
 |[],acc=>by simp
 |v::l,acc=>by
  rw[YZ];by_cases h:v∈acc
  · have e:step_dedup acc v=acc:=by unfold step_dedup;rw[Xv (by simpa using h)]
    rw[e];have:=(mV l acc).1;rw[XE];refine⟨by omega,λz=>by omega,λz=>absurd h (z.2 v (by simp))⟩
  · have e:step_dedup acc v=acc++[v]:=by unfold step_dedup;rw[Xu (by simpa using h)]
    rw[e];obtain⟨i1,i2⟩:=mV l (acc++[v]);rw[XS,YH] at i1 i2;rw[XE];refine⟨by omega,?_⟩;rw[show acc.length+(l.length+1)=acc.length+1+l.length by omega,i2,YF,Z0];simp only[Yj,XI,not_or];constructor
    · rintro⟨a,b⟩;exact⟨⟨λm=>(b v m).2 rfl,a⟩,h,λx hx=>(b x hx).1⟩
    · rintro⟨⟨a,b⟩,_,c⟩;exact⟨b,λx hx=>⟨c x hx,λz=>a (z ▸ hx)⟩⟩
theorem DX (ns:List Int):firstMet (λi=>ns.getD i 0) ns.length=ns.foldl step_dedup []:=by
 unfold firstMet;congr 1;refine ZQ λi=>?_;rw[Xy];by_cases h:i < ns.length
 · rw[Zd h,XD h];simp[h]
 · rw[Yx (by simpa using h),Yx (by omega)];rfl
theorem D5 (hc:X.calm=true):ir X (.type "set") (λxs H Q=>∃(t:Addr) (ns:List Int),xs=[.ref t]/\bZ X.K H t (ns.map V.int)/\ns.length<=1000/\∀p S n,H p=none->n<=ns.length->(n=ns.length↔ns.Nodup)->Q (.ref p) (upd H p (.set S n))):=by
 intro pins s σ H xs us Q I r h;obtain⟨t,ns,rfl,ht,hl,q⟩:=h;rw[Vals.wA r];obtain⟨LD,rv,pt,_⟩:=I.tuple ht;have hn:LD.length=ns.length:=by rw[←rv.length,Xs]
 have hi:IntsAre LD.toArray.toList ns:=intsAre_of rv;obtain⟨d1,d2⟩:=mV ns [];rw[Y4,Nat.zero_add] at d1 d2;refine BwX.zS (I.ok.hd hc) (show s.heap.IsTuple t LD.toArray from pt) hi (by rw[XR,hn];show ns.length+1 < 4096;omega) λh' tk hS kp=>?_;have hz:LD.toArray.size=ns.length:=by rw[XR,hn]
 rw[hz,DX] at hS;refine⟨.ref s.heap.objs.size,_,I.laid (t':=tk) kp (XC _) (show bK X.prog X.w _ h' _ (.set _ _) from hS),rfl,q _ _ _ (I.bu.fresh (XC _)) d1 (d2.trans ⟨λz=>z.1,λz=>⟨z,by simp⟩⟩)⟩
theorem EG:ir X (.builtin "len") (λxs H Q=>∃p S n,xs=[.ref p]/\H p=some (.set S n)/\n<=1000/\Q (.int (n:Nat)) H):=by
 intro pins s σ H xs us Q I r h;obtain⟨p,S,n,rfl,hp,hn,q⟩:=h;rw[Vals.wA r];obtain⟨o,es,ep,t,ho,hx,hd,_,_,_,hf,rfl⟩:=I.bu p _ hp;exact call_len_set ho hx hd hf (by omega) ⟨.int _,H,I.tok _,⟨_,rfl⟩,q⟩
end
def Bj (K:aaf)(a b:Addr):It :=
 ⟨λi H=>∃(xs ys:List V) (x y:V),bZ K H a xs/\aP K H b ys/\xs[i]?=some x/\ys[i]?=some y,
  λi H v H'=>∃T x y,v=.ref T/\H T=none/\H'=upd H T (.tup [x,y])/\(∀xs,bZ K H a xs->xs[i]?=some x)/\∀ys,aP K H b ys->ys[i]?=some y,
  λi H=>∃xs ys:List V,bZ K H a xs/\aP K H b ys/\(xs.length<=i∨ys.length<=i)⟩
structure ZA (z TI TO i1 i2 a b:Addr):Prop where
 n1:¬z∈[i1,a]/\¬TO∈[i1,a]/\¬i2∈[i1,a]
 n2:¬z∈[i2,b]/\¬TO∈[i2,b]/\¬i1∈[i2,b]
 nz:TI≠z/\TO≠z/\TI≠TO/\TI≠i1/\TI≠i2/\TO≠i1/\TO≠i2/\i1≠z/\i2≠z
 na:a≠i1
 nb:b≠i2
theorem Du {P:Program}{w:World}{K:aaf}{elts:List Expr}{kk:Nat}{LV:Pos}{a b z TI TO i1 i2:Addr}(D:ZA z TI TO i1 i2 a b) :
  Turn P w K (.Tuple elts kk LV) (Bj K a b) [z,TI,TO,i1,i2] z (λi h=>IsZip h z TI TO .none/\IsPair h TI (.ref i1) (.ref i2)/\(∃x y,IsPair h TO x y)/\h.IsTupleIter i1 a i/\h.IsListIter i2 b i) where
 mem:=by simp
 obj:=λi h st c hc=>by
  obtain⟨hz,MK,⟨x,y,Ms⟩,⟨o1,e1,_,d1⟩,⟨o2,e2,_,d2⟩⟩:=st;have e':c=z∨c=TI∨c=TO∨c=i1∨c=i2:=by simpa using hc
  rcases e' with q|q|q|q|q
  · rw[q];exact⟨_,hz,λv q=>nomatch q⟩
  · rw[q];exact⟨_,MK,λv q=>nomatch q⟩
  · rw[q];exact⟨_,Ms,λv q=>nomatch q⟩
  · rw[q];exact⟨o1,e1,λv q=>by rw[d1] at q;cases q⟩
  · rw[q];exact⟨o2,e2,λv q=>by rw[d2] at q;cases q⟩
 keep:=λi h h' st k=>by
  obtain⟨hz,MK,⟨x,y,Ms⟩,h1,h2⟩:=st;exact⟨k z (by simp) _ hz,k TI (by simp) _ MK,⟨x,y,k TO (by simp) _ Ms⟩,h1.at λo q=>k i1 (by simp) o q,h2.at λo q=>k i2 (by simp) o q⟩
 item:=by
  intro X hP hw hK hc i pins s σ H E I hf st hg;subst hP hw hK;obtain⟨hz,MK,Ms,h1,h2⟩:=st;obtain⟨xs,ys,x,y,Oh,Oi,hx,hy⟩:=hg;obtain⟨LD,rv,p,_⟩:=I.tuple Oh;obtain⟨L6,PZ,p2,_⟩:=I.list Oi;obtain⟨u,hu,ru⟩:=rv.get hx;obtain⟨u2,QX,QY⟩:=PZ.get hy;have SM:z < s.heap.objs.size:=XG hz;refine BwX.t7 (x:=u) (y:=u2) D.na D.nb ⟨hz,MK,Ms,⟨h1,p⟩,⟨h2,p2.isList⟩,D.n1,D.n2,D.nz⟩ (by simpa using hu) (by simpa using QX) λh' Z hT hk=>?_;refine⟨_,rfl,wpAny_letOwnedTupleGo_zip (s:={s with heap:=h'}) Z.zp λNp VU sb=>?_⟩;have MC:Np.get? s.heap.objs.size=some {cls:=.type "tuple",data:=.seq #[u,u2]}:=(sb.2 _ (Nat.ne_of_gt SM)).trans hT;have new:bK X.prog X.w (upd H s.heap.objs.size (.tup [x,y])) Np s.heap.objs.size (.tup [x,y]) :=
   ⟨by show 2<=sizeLine;decide,[u,u2],.cons ru (.cons QY .nil),⟨_,MC,rfl,_,rfl⟩⟩
  have I1:Inv X pins σ (upd H s.heap.objs.size (.tup [x,y])) {s with heap:=Np} :=
   I.sC (t':=s.toks) (ch:=[z,TI,TO,i1,i2]) (λc o hb q=>(sb.2 c (λq'=>hb (by simp[q']))).trans (hk c o (λq'=>hb (by simp[q'])) (λq'=>hb (by simp[q'])) (λq'=>hb (by simp[q'])) (λq'=>hb (by simp[q'])) q)) hf (XC _) new
  obtain⟨z1,z2,z3,z4,z5,z6,z7,z8,z9⟩:=D.nz;obtain⟨x',y',Rk⟩:=Z.to;refine⟨.ref s.heap.objs.size,_,I1,rfl,⟨_,x,y,rfl,I.bu.fresh (XC _),rfl,λl hl=>by rw[I.rR hl Oh];exact hx,λl hl=>by rw[I.qF hl Oi];exact hy⟩,⟨VU,(sb.2 _ z1).trans Z.ti,⟨x',y',(sb.2 _ z2).trans Rk⟩,Z.s1.1.at λo q=>(sb.2 _ z8).trans q,Z.s2.1.at λo q=>(sb.2 _ z9).trans q⟩,λc P0=>?_⟩;have LI:c < s.heap.objs.size:=by
   have e':c=z∨c=TI∨c=TO∨c=i1∨c=i2:=by simpa using P0
   obtain⟨_,_,Ms⟩:=Ms;rcases e' with q|q|q|q|q
   · rw[q];exact SM
   · rw[q];exact XG MK
   · rw[q];exact XG Ms
   · rw[q];obtain⟨_,e1,_⟩:=h1;exact XG e1
   · rw[q];obtain⟨_,e2,_⟩:=h2;exact XG e2
  rw[aq (X6 LI)];exact (hf c P0).1
 done:=by
  intro X hP hw hK hc i pins s σ H E I hf st hg;subst hP hw hK;obtain⟨hz,MK,Ms,h1,h2⟩:=st;obtain⟨xs,ys,Oh,Oi,Rl⟩:=hg;obtain⟨LD,rv,p,_⟩:=I.tuple Oh;obtain⟨L6,PZ,p2,_⟩:=I.list Oi;have l1:=rv.length;have l2:=PZ.length;have he:LD.toArray[i]?=none∨L6.toArray[i]?=none:=by
   rcases Rl with q|q
   · exact .inl (by simp;omega)
   · exact .inr (by simp;omega)
  exact BwX.ue (I.ok.hd hc) D.na D.nb ⟨hz,MK,Ms,⟨h1,p⟩,⟨h2,p2.isList⟩,D.n1,D.n2,D.nz⟩ he λh' hk=>⟨rfl,I.Dd (t':=s.toks) (ch:=[z,TI,TO,i1,i2]) (λc o hb q =>
   hk c o (λq'=>hb (by simp[q'])) (λq'=>hb (by simp[q'])) (λq'=>hb (by simp[q'])) (λq'=>hb (by simp[q'])) q) hf⟩
 self:=λA i s Q E st h=>wpAny_pyIter_zip st.1 h
def JH (K:aaf)(ta:TA):TI:=λσ H R=>ta σ H λvs H1=>∃a b xs ys,vs=[.ref a,.ref b]/\bZ K H1 a xs/\aP K H1 b ys/\R (Bj K a b) H1
theorem Dr {X:Cx}{e e2:Expr}{ta:TA}{p pos LV:Pos}{elts:List Expr}{kk:Nat}(hg:Gl X "zip")(hm:X.mg "zip"=none)(ha:PA X [e,e2] ta)
  (hs:starEach [e,e2] X.env=(false,eval e X.env)::starEach [e2] X.env:=by rfl)(LN:(backTo pos (starEach [e2] X.env)).any (·.1)=false:=by rfl) :
  PI X (.Tuple elts kk LV) (.Call (.Name "zip" p) [e,e2] [] pos) (JH X.K ta):=by
 intro pins s σ H R I h;refine Call_ (lh I hg hm zy (YV (bA (ha pos pins s σ H _ I h) λus s1 ⟨vs,H1,I1,r1,q1⟩=>?_) hs LN));obtain⟨a,b,xs,ys,ex,Oh,Oi,q⟩:=q1;subst ex;cases r1 with
 |cons r rr =>
  cases rr with
  |cons r' rr =>
   cases rr;cases r;cases r';obtain⟨LD,rv,p1,_⟩:=I1.tuple Oh;obtain⟨L6,PZ,p2,_⟩:=I1.list Oi;refine BwX.Eh p1 p2.isList λh' Z hk=>wpAny_pyIter_zip Z.zp ?_;have I2:Inv X pins σ H1 {s1 with heap:=h'}:=I1.kept (t':=s1.toks) hk;have na:a≠s1.heap.objs.size:=by obtain⟨_,e,_⟩:=p1;exact X6 (XG e)
   have nb:b≠s1.heap.objs.size+1:=X6 (Nat.lt_succ_of_lt p2.lt);refine⟨s1.heap.objs.size+4,[s1.heap.objs.size+4,s1.heap.objs.size+2,s1.heap.objs.size+3,s1.heap.objs.size,s1.heap.objs.size+1],_,_,H1,rfl,I2,Du ⟨Z.n1,Z.n2,Z.nz,na,nb⟩,⟨Z.zp,Z.ti,Z.to,Z.s1.1,Z.s2.1⟩,λc P0=>?_,q⟩;have e':c=s1.heap.objs.size+4∨c=s1.heap.objs.size+2∨c=s1.heap.objs.size+3∨c=s1.heap.objs.size∨c=s1.heap.objs.size+1:=by simpa using P0
   have hle:s1.heap.objs.size<=c:=by
    rcases e' with z|z|z|z|z
    · rw[z];exact ZX _ _
    · rw[z];exact ZX _ _
    · rw[z];exact ZX _ _
    · rw[z];exact XC _
    · rw[z];exact ZX _ _
   exact I1.xq hle (I1.bu.fresh hle)
theorem IG {K:aaf}{a b:Addr}{xs ys:List V}{g:TG}{tt:TT}{te:TE}{vs:aae}{σ:St}{H1:Hp}{D:Addr}{Qd:Hp->Prop}(hle:xs.length<=ys.length)(Pv:Nat->Hp->Prop)(h0:Pv 0 (upd H1 D (.lst [])))(hl:∀i H,i<=xs.length->Pv i H->bZ K H a xs/\aP K H b ys)
  (hs:∀i x y H T,xs[i]?=some x->ys[i]?=some y->Pv i H->H T=none->g (.ref T) (wipe σ vs) (upd H T (.tup [x,y])) λσ2 H2=>wipe σ2 vs=wipe σ vs/\tt σ2 H2 λb H3 =>
   if b=true then te σ2 H3 λy H4=>∃acc,H4 D=some (.lst acc)/\acc.length < sizeLine/\Pv (i+1) (upd H4 D (.lst (acc++[y]))) else Pv (i+1) H3) (hd:∀H,Pv xs.length H->Qd H) :
  ∃W:Nat->Nat->Hp->Prop,(∃m,W 0 m (upd H1 D (.lst [])))/\∀i m H,W i m H ->
   ((Bj K a b).stop i H/\Qd H)∨((Bj K a b).go i H/\∃Nx:Hp->Prop,(∀H',Nx H'->∃m',m' < m/\W (i+1) m' H')/\∀x H',(Bj K a b).vZ i H x H'->g x (wipe σ vs) H' λσ2 H2=>wipe σ2 vs=wipe σ vs/\tt σ2 H2 λb H3 =>
    if b=true then te σ2 H3 λy H4=>∃acc,H4 D=some (.lst acc)/\acc.length < sizeLine/\Nx (upd H4 D (.lst (acc++[y]))) else Nx H3):=by
 refine⟨λi m H=>m=xs.length - i/\i<=xs.length/\Pv i H,⟨xs.length,by simp,X1 _,h0⟩,?_⟩;rintro i m H ⟨rfl,hi,p⟩;obtain⟨q1,q2⟩:=hl i H hi p;by_cases LI:i < xs.length
 · refine .inr ⟨⟨xs,ys,xs[i],ys[i],q1,q2,by simp[LI],by simp⟩,Pv (i+1),λH' p'=>⟨xs.length - (i+1),by omega,rfl,LI,p'⟩,λx H' w=>?_⟩;obtain⟨T,v,u,rfl,hT,rfl,hx,hy⟩:=w;exact hs i v u _ T (hx xs q1) (hy ys q2) p hT
 · have e:i=xs.length:=by omega
   subst e;exact .inl ⟨⟨xs,ys,q1,q2,.inl (XC _)⟩,hd H p⟩
section
variable {σ:St}{H:Hp}{ta tb te:TE}{t u:TT}{x y v:V}{b c:Bool}
theorem yL {Q:VK} (h:Ev ta σ H (.bl b)) (q1:b=true->tb σ H Q) (q2:b=false->Q (.bl false) H):Fm ta tb σ H Q:=h _ ⟨b,rfl,by
 cases b with
 |false=>exact vt (q2 rfl)
 |true=>exact pQ (q1 rfl)⟩
end
end L2
namespace Bw
open PySem PySem.Spec PyProof.Rows L2 Tote
def nE (ws:List W):Prop:=ws.length<=70000/\∀w∈ws,w.length<=70000/\∀c∈w,c < 128
theorem iY {w:W}{s:String}:decide (V.str (st w)=V.str (Str.ofString s))=decide (w=cd s):=by
 rw[Zf,kW];constructor
 · intro h;injection h with h;exact jM.mp h
 · intro h;rw[h]
theorem Fu {ws:List W}{i:Nat}(h:i < ws.length):ws[i]?=some (ws.getD i []):=by
 rw[Yc,XD h];rfl
theorem dH {ws:List W}{i:Nat}(h:i < ws.length):nU (sV ws) ((i:Nat):Int)=some (.str (st (ws.getD i []))):=cu (BS (Fu h))
theorem nE.getD {ws:List W}(o:nE ws)(i:Nat):(ws.getD i []).length<=70000/\∀c∈ws.getD i [],c < 128:=by
 by_cases h:i < ws.length
 · exact o.2 _ (XZ (Fu h))
 · rw[Yc,Yx (by omega)];exact⟨X1 _,λc hc=>by simp at hc⟩
abbrev fh:List (Nat×W):=[(0,cd "pool"),(4,cd "from"),(6,cd "take"),(8,cd "break"),(10,cd "least"),(12,cd "unit"),(14,cd "none")]
abbrev sizeOf:Tote.Kind->Int×Int
 |.place=>(1,4)
 |.order=>(2,4)
 |.any=>(2,3)
 |.legs=>(2,6)
structure GC (P:Program)(w:World)(K:aaf)(mg:aah)(dS aF:Addr):Prop where
 races:Gv mg "MOST_RACES" (.int 16)
 pools:Gv mg "MOST_POOLS" (.int 64)
 couples:Gv mg "MOST_COUPLES" (.int 8)
 runners:Gv mg "MOST_RUNNERS" (.int 24)
 words:Gv mg "POOL_WORDS" (.int 16)
 Fx:Gv mg "SIZES" (.ref dS)
 fixed:Gv mg "FIXED" (.ref aF)
 B1:∃ts:Tote.Kind->Addr,yS P w K dS [(.inr (st (cd "place")),.ref (ts .place)),(.inr (st (cd "order")),.ref (ts .order)),(.inr (st (cd "any")),.ref (ts .any)),(.inr (st (cd "legs")),.ref (ts .legs))]/\∀(k:Tote.Kind) (H:Hp),bZ K H (ts k) [.int (sizeOf k).1,.int (sizeOf k).2]
 HR:∃ts:List Addr,(∀H,bZ K H aF (ts.map V.ref))/\Paired (λt (p:Nat×W)=>∀H,bZ K H t [.int (p.1:Nat),.str (st p.2)]) ts fh
 range:mg "range"=none
section
variable {P:Program}{w:World}{K:aaf}{mg:aah}{base:Heap}
def Ct (K:aaf):Sp:=λvs H Q _=>∃(a:Addr) (ws:List W),vs=[.ref a]/\aP K H a (sV ws)/\nE ws/\∀H',au H H'->Q (.bl (ie ws)) H'
theorem G1:aG ["words"] ["words"] (aw lL):=fs
theorem Hz (G:GW mg){k:Nat}(FN:Fn P w K mg base bC k "is_name" ["word"] lK){f:Addr}{fd:FuncData}(F:di K "is_day" "is_day" lL f fd):a8 P w K mg base bC (k+1) f fd ["words"] (Ct K):=by
 refine F.ok G1 (λvs H Q E h=>?_) (λLF A outer s H vs Q E hr h=>?_)
 · obtain⟨a,ws,rfl,_⟩:=h;rfl
 · obtain⟨a,ws,rfl,hS,ok,q⟩:=h;refine⟨_,ak (az (xc (ft cp (bh G.len (pv 0)) ax (aJ _)) (xc (ft cp (bp aM (pv 0) ax (λ_ _=>rfl)) bq (aJ _))
    (xm (aR FN hr bb (aa (bp aM (pv 0) ax (λ_ _=>rfl)) ah)))))),?_⟩
   refine yL (cj (aU (ag rfl) (.inl hS)) aD) (λh=>?_) (λh=>?_)
   · rw[aY,dI] at h;have hl:ws.length=2:=by have:=YY h;omega
     refine yL (cj (aZ (ag rfl) aD hS (dH (i:=0) (by omega))) aD) (λh=>?_) (λh=>?_)
     · rw[iY] at h;refine (aZ (ag rfl) aD hS (dH (i:=1) (by omega))) _ ⟨_,rfl,(ok.getD 1).1,λH' e=>?_⟩;have:ie ws=d_ (ws.getD 1 []):=by
        unfold ie;rw[hl,XQ h];simp
       rw[←this];exact q H' e
     · rw[iY] at h;have:ie ws=false:=by
        unfold ie;have z:(ws.getD 0 []==cd "day")=false:=by
         rw[X2];exact Yd h
        rw[z];simp
       rw[←this];exact q H (au.refl H)
   · rw[aY,dI] at h;have:ie ws=false:=by
      unfold ie;have z:(ws.length==2)=false:=by
       rw[X2] at h ⊢;exact λz=>h (by rw[z];rfl)
      rw[z];rfl
     rw[←this];exact q H (au.refl H)
def fE (ws:List W):Bool:=ws.length==16&&(fh.all λp=>ws.getD p.1 []==p.2)&&d_ (ws.getD 1 [])&&(dG (ws.getD 2 [])).isSome
def wK (K:aaf):Sp:=λvs H Q _=>∃(a:Addr) (ws:List W),vs=[.ref a]/\aP K H a (sV ws)/\nE ws/\∀H',au H H'->Q (.bl (fE ws)) H'
theorem vB {ts:Tote.Kind->Addr}{w:W}:valueAt [((.inr (st (cd "place")):Key),Value.ref (ts .place)),(.inr (st (cd "order")),.ref (ts .order)),(.inr (st (cd "any")),.ref (ts .any)),(.inr (st (cd "legs")),.ref (ts .legs))] (.inr (st w))=(dG w).map λk=>Value.ref (ts k):=by
 have key:∀s:W,((Sum.inr (st s):Key)=Sum.inr (st w))↔s=w:=λs=>⟨λh=>jM.mp (Sum.inr.inj h),λh=>by rw[h]⟩;unfold valueAt dG;simp only[Y8,List.find?_nil,key];by_cases h1:w=cd "place"
 · subst h1;simp
 · rw[Yi (λz=>h1 z.symm),Xu h1];by_cases h2:w=cd "order"
   · subst h2;simp
   · rw[Yi (λz=>h2 z.symm),Xu h2];by_cases h3:w=cd "any"
     · subst h3;simp
     · rw[Yi (λz=>h3 z.symm),Xu h3];by_cases h4:w=cd "legs"
       · subst h4;simp
       · rw[Yi (λz=>h4 z.symm),Xu h4];rfl
theorem oz:aG ["words","at","word"] ["words"] (aw dU):=fs
theorem EH {dS aF:Addr}(G:GW mg)(GC:GC P w K mg dS aF){k:Nat}(FN:Fn P w K mg base bC k "is_name" ["word"] lK){f:Addr}{fd:FuncData}(F:di K "has_pool_form" "has_pool_form" dU f fd) :
  a8 P w K mg base bC (k+1) f fd ["words"] (wK K):=by
 refine F.ok oz (λvs H Q E h=>?_) (λLF A outer s H vs Q E hr h=>?_)
 · obtain⟨a,ws,rfl,_⟩:=h;rfl
 · obtain⟨a,ws,rfl,hS,ok,q⟩:=h;obtain⟨ts,hD,hT⟩:=GC.B1;obtain⟨fs,hF,hP⟩:=GC.HR;refine⟨_,af (aO (aC pO (bh G.len (pv 0)) (a_ GC.words) (aJ _)) (ak (az lU)) aB)
    (af (aO (cG (hU (bY (xW rfl) (by rfl) G.all PyProof.Rows.boot_all (aa (fA (g:=Em K 2 (oS (fL 1) (oS (fL 2) E8))) (te:=kK JZ (kK (Ao K) (cI 0) (cI 1)) (cI 2)) rfl oz.nd (GF (a_ GC.fixed)) (bz (own:=[("at",1),("word",2)]) rfl)
      (λ_ _ _ _ _=>k_ rfl (b9 (bo 1 oz.nd) (b9 (bo 2 oz.nd) i9))) (λ_ _ _ _ _=>cz)
      (λ_ _ _ _ _=>ft cp (bp aM (pv 0) (pv 1) (λ_ _=>rfl)) (pv 2) (aJ _))) ah)))) (ak (az lU)) aB)
    (ak (az (xc (aR FN hr bb (aa (bp aM (pv 0) ax (λ_ _=>rfl)) ah)) (xm (Gq (DC hD (bp aM (pv 0) ax (λ_ _=>rfl)) (a_ GC.Fx)))))))),?_⟩
   refine aS (aI (qk (aU (ag rfl) (.inl hS)) aD)) (λh=>?_) (λh=>?_)
   · rw[aY,dI] at h;refine bU aD ?_;have:fE ws=false:=by
      unfold fE;have z:(ws.length==16)=false:=by
       rw[Yl,X2] at h;rw[X2];exact λz=>h (by rw[z];rfl)
      rw[z];rfl
     rw[←this];exact q H (au.refl H)
   · rw[aY,dI] at h;have hl:ws.length=16:=by
      rw[Yo] at h;have:=YY h;omega
     have ML:fs.length=7:=by rw[Paired.length hP];rfl
     refine⟨aF,rfl,⟨_,hF H⟩,λD M7=>G3 (K:=K) (a:=aF) (xs:=fs.map V.ref) (λi H'=>au H H'/\H' D=some (.lst ((fh.take i).map λp=>V.bl (decide (ws.getD p.1 []=p.2)))))
      ⟨(au.refl H).laid M7,ae⟩ (λi H' _ h=>hF H') ?_ ?_⟩
     · rintro i x H' hi ⟨k1,k2⟩;rw[Xy] at hi;obtain⟨t,ht,rfl⟩:=X5.mp hi;obtain⟨⟨n,wd⟩,hp,hs⟩:=Paired.qR hP ht;have hn:n < 16:=by
        have:=XZ hp;simp at this;omega
       refine⟨t,_,rfl,hs H',rfl,_,_,rfl,_,_,rfl,rfl,rfl,?_⟩;refine (cj (aZ (ag rfl) (ag rfl) (k1.seq hS) (dH (i:=n) (by omega))) (ag rfl)) _ ⟨_,k2,?_,?_⟩
       · rw[Xs,XT,XY];have:fh.length=7:=rfl;omega
       · refine⟨λb u z=>?_,?_⟩
         · rw[aq (ao z M7)];exact k1 b u z
         · rw[ae,take_snoc hp,XO];have:decide (V.str (st (ws.getD n []))=V.str (st wd))=decide (ws.getD n []=wd):=by
            rw[Zf];exact⟨λh=>jM.mp (by injection h),λh=>by rw[h]⟩
           rw[this];rfl
     · rintro H' ⟨k1,k2⟩;have k2:H' D=some (.lst ((fh.take (fs.map V.ref).length).map λp=>V.bl (decide (ws.getD p.1 []=p.2)))):=k2;rw[Xs,ML] at k2;have eA:((fh.map λp=>decide (ws.getD p.1 []=p.2)).all id)=fh.all λp=>ws.getD p.1 []==p.2:=by
        rw[ZD];congr 1;funext p;show decide (ws.getD p.1 []=p.2)=(ws.getD p.1 []==p.2);rw[X8,XB,Yk]
       refine⟨D,fh.map λp=>decide (ws.getD p.1 []=p.2),rfl,aP.of (by rw[k2,XX];rfl),_,rfl,?_⟩;rw[eA];refine gH (λh=>?_) (λh=>?_)
       · refine bU aD ?_;have:fE ws=false:=by
          unfold fE;rw[Yl] at h;rw[h];simp
         rw[←this];exact q H' k1
       · have hA:(fh.all λp=>ws.getD p.1 []==p.2)=true:=by simpa using h
         refine (aZ (ag rfl) aD (k1.seq hS) (dH (i:=1) (by omega))) _ ⟨_,rfl,(ok.getD 1).1,λH2 e2=>⟨_,rfl,?_⟩⟩;have eF:fE ws=(d_ (ws.getD 1 [])&&(dG (ws.getD 2 [])).isSome):=by
          unfold fE;rw[hA,hl];simp
         refine gH (λh=>?_) (λh=>?_)
         · refine (aZ (ag rfl) aD ((k1.trans e2).seq hS) (dH (i:=2) (by omega))) _ ⟨Sum.inr (st (ws.getD 2 [])),rfl,rfl,?_⟩;rw[vB];have:((dG (ws.getD 2 [])).map λk=>Value.ref (ts k)).isSome=fE ws:=by
            rw[eF,h,Option.isSome_map];rfl
           rw[this];exact q H2 (k1.trans e2)
         · have:fE ws=false:=by
            rw[eF];have:d_ (ws.getD 1 [])=false:=by simpa using h
            rw[this];rfl
           rw[←this];exact q H2 (k1.trans e2)
end
theorem gq {σ:L2.St}{H:Hp}{te:TE}{wd:W}(h:Ev te σ H (.str (st wd)))(ok:wd.length<=70000/\∀c∈wd,c < 128):Ev (nH kO [] E0 (cO te eV)) σ H (.int (ay wd)):=λ_ r=>h _ ⟨wd,rfl,ok.1,ok.2,r⟩
theorem yZ {xs:List V}{i j:Nat}(h:j<=xs.length):fC xs (some (i:Int)) (some (j:Int))=(xs.drop i).take (j - i):=by
 unfold fC;rw[HT.i6,HT.i6,Zu h];by_cases hi:i<=xs.length
 · rw[Zu hi]
 · rw[Nat.min_eq_right (by omega),Zo (XC _),Zo (by omega)];simp
section
variable {P:Program}{w:World}{K:aaf}{mg:aah}{base:Heap}
def fg (ws:List W):Bool :=
 !(!(decide (0<=ay (ws.getD 7 []))&&decide (ay (ws.getD 7 [])<=400))||!(decide (1<=ay (ws.getD 9 []))&&decide (ay (ws.getD 9 [])<=1000))) &&
 (!(!(decide (1<=ay (ws.getD 13 []))&&decide (ay (ws.getD 13 [])<=10000))||!(decide (ay (ws.getD 11 [])=0)||(decide (ay (ws.getD 13 [])<=ay (ws.getD 11 []))&&decide (ay (ws.getD 11 [])<=2*ay (ws.getD 13 []))))) &&
 (if ws.getD 15 []=cd "fewer" then !decide (ws.getD 2 []=cd "place") else decide (ws.getD 15 []=cd "refund")||decide (ws.getD 15 []=cd "carry")))
def sM (K:aaf):Sp:=λvs H Q _=>∃(a:Addr) (ws:List W),vs=[.ref a]/\aP K H a (sV ws)/\nE ws/\ws.length=16/\∀H',au H H'->Q (.bl (fg ws)) H'
theorem ph:aG ["words","least","unit"] ["words"] (aw dC):=fs
theorem CA {k:Nat}(FN:Fn P w K mg base bC k "number_of" ["word"] kO){f:Addr}{fd:FuncData}(F:di K "are_terms_good" "are_terms_good" dC f fd):a8 P w K mg base bC (k+1) f fd ["words"] (sM K):=by
 refine F.ok ph (λvs H Q E h=>?_) (λLF A outer s H vs Q E hr h=>?_)
 · obtain⟨a,ws,rfl,_⟩:=h;rfl
 · obtain⟨a,ws,rfl,hS,ok,hl,q⟩:=h;refine⟨_,af (a7 1 ph.nd (aR FN hr bb (aa (bp aM (pv 0) ax (λ_ _=>rfl)) ah)))
    (af (a7 2 ph.nd (aR FN hr bb (aa (bp aM (pv 0) ax (λ_ _=>rfl)) ah)))
    (af (aO (PW.pt (eG (cG (cF b_ b_ ax (aR FN hr bb (aa (bp aM (pv 0) ax (λ_ _=>rfl)) ah)) ax)) (cQ (cG (cF b_ b_ ax (aR FN hr bb (aa (bp aM (pv 0) ax (λ_ _=>rfl)) ah)) ax))))) (ak (az lU)) aB)
    (af (aO (PW.pt (eG (cG (cF b_ b_ ax (pv 2) ax)) (cQ (cG (PW.pt (eG (aC cp (pv 1) ax (aJ _)) (cQ (cF b_ b_ (pv 2) (pv 1) (bG xO ax (pv 2)))))))))) (ak (az lU)) aB)
    (af (aO (aC cp (bp aM (pv 0) ax (λ_ _=>rfl)) bq (aJ _)) (ak (az (ft pO (bp aM (pv 0) ax (λ_ _=>rfl)) bq (aJ _)))) aB)
    (ak (az (ft gg (bp aM (pv 0) ax (λ_ _=>rfl)) (dq (aa bq (aa bq ah))) (by with_unfolding_all rfl)))))))),?_⟩
   refine cB (gq (aZ (ag rfl) aD hS (dH (i:=11) (by omega))) (ok.getD 11)) ?_;refine cB (gq (aZ (ag rfl) aD hS (dH (i:=13) (by omega))) (ok.getD 13)) ?_;refine aS (gK (eY (cE aD (gq (aZ (ag rfl) aD hS (dH (i:=7) (by omega))) (ok.getD 7)) aD)) λ_=>eY (cE aD (gq (aZ (ag rfl) aD hS (dH (i:=9) (by omega))) (ok.getD 9)) aD)) (λh=>?_) (λh1=>?_)
   · refine bU aD ?_;have:fg ws=false:=by unfold fg;rw[h];rfl
     rw[←this];exact q H (au.refl H)
   refine aS (gK (eY (cE aD (ag rfl) aD)) λ_=>eY (gK (aI (cj (ag rfl) aD)) λ_=>cE (ag rfl) (ag rfl) (ze aD (ag rfl) (.inl ⟨by decide,by decide⟩)))) (λh=>?_) (λh2=>?_)
   · refine bU aD ?_;have:fg ws=false:=by
      unfold fg;have e:decide (V.int (ay (ws.getD 11 []))=V.int 0)=decide (ay (ws.getD 11 [])=0):=by rw[aY];rfl
      rw[e] at h;rw[h];simp
     rw[←this];exact q H (au.refl H)
   have e2:fg ws=if ws.getD 15 []=cd "fewer" then !decide (ws.getD 2 []=cd "place") else decide (ws.getD 15 []=cd "refund")||decide (ws.getD 15 []=cd "carry"):=by
    unfold fg;have e:decide (V.int (ay (ws.getD 11 []))=V.int 0)=decide (ay (ws.getD 11 [])=0):=by rw[aY];rfl
    rw[e] at h2;rw[h1,h2];simp
   refine aS (aI (cj (aZ (ag rfl) aD hS (dH (i:=15) (by omega))) aD)) (λh=>?_) (λh=>?_)
   · rw[iY] at h;refine bU (qk (aZ (ag rfl) aD hS (dH (i:=2) (by omega))) aD) ?_;rw[iY];rw[Xv (XQ h)] at e2;rw[←e2];exact q H (au.refl H)
   · rw[iY] at h;refine (aZ (ag rfl) aD hS (dH (i:=15) (by omega))) _ ⟨(by show 2<=sizeLine;decide),λt ht=>⟨t,_,rfl,.inr (bZ.of ae),rfl,rfl,?_⟩⟩;rw[Xu (Yd h)] at e2;have:oh (V.str (st (ws.getD 15 []))) [V.str (Str.ofString "refund"),V.str (Str.ofString "carry")]=fg ws:=by
      rw[e2];have key:∀s:String,sv (V.str (Str.ofString s)) (V.str (st (ws.getD 15 [])))=decide (ws.getD 15 []=cd s):=λs=>by
       show (Str.ofString s==st (ws.getD 15 []))=_;rw[X8,Yk,XB,kW,jM];exact⟨λz=>z.symm,λz=>z.symm⟩
      show ([V.str (Str.ofString "refund"),V.str (Str.ofString "carry")].any λy=>sv y (V.str (st (ws.getD 15 []))))=_;simp only[Y2,List.any_nil,key,ZI]
     rw[←this] at q;exact q _ ((au.refl H).laid ht)
def lR (kd:Tote.Kind)(k rc:Nat)(rs:aad):Bool:=match kd with
 |.legs=>decide (rc+k<=rs.length+1)
 |_=>decide (k<=(rs.getD (rc - 1) []).length)
def gQ {α:Type}(d:α)(kd:Tote.Kind)(k rc:Nat)(as:List α):List α:=match kd with
 |.legs=>(as.drop (rc - 1)).take k
 |.place=>[as.getD (rc - 1) d]
 |_=>List.replicate k (as.getD (rc - 1) d)
theorem xi (kd:Tote.Kind)(k rc:Nat)(rs:aad):gQ [] kd k rc rs=fm kd k rc rs:=by cases kd <;> rfl
theorem uw {α β:Type}{F:α->β->Prop}{d:α}{e:β}{kd:Tote.Kind}{k rc:Nat}{as:List α}{rs:List β}(h:Paired F as rs)(h1:1<=rc)(h2:rc<=rs.length):Paired F (gQ d kd k rc as) (gQ e kd k rc rs):=by
 obtain⟨y,hy⟩:∃y,rs[rc - 1]?=some y:=⟨_,XD (by omega)⟩;obtain⟨x,hx,hf⟩:=Paired.at2 h hy;have ex:as.getD (rc - 1) d=x:=by rw[Yc,hx];rfl
 have ey:rs.getD (rc - 1) e=y:=by rw[Yc,hy];rfl
 unfold gQ;cases kd with
 |legs=>exact Paired.tk k (Paired.dp (rc - 1) h)
 |place=>rw[ex,ey];exact .cons hf .nil
 |order=>rw[ex,ey];exact Paired.rep hf k
 |any=>rw[ex,ey];exact Paired.rep hf k
def qh (K:aaf):Sp:=λvs H Q _=>∃(kd:Tote.Kind) (k rc:Nat) (a:Addr) (as:List Addr) (rs:aad),vs=[.str (st (cd (kindS kd))),.int (k:Nat),.int (rc:Nat),.ref a]/\aP K H a (as.map V.ref)/\Paired (hZ K H) as rs/\1<=k/\k<=6/\1<=rc/\rc<=rs.length/\rs.length<=70000 /\
 (lR kd k rc rs=false->Q .cb H)/\(lR kd k rc rs=true->∀H' p,au H H'->H p=none->H' p=some (.lst ((gQ 0 kd k rc as).map V.ref))->Q (.ref p) H')
theorem ij {kd:Tote.Kind}{s:String}:decide (V.str (st (cd (kindS kd)))=V.str (Str.ofString s))=decide (cd (kindS kd)=cd s):=iY
theorem kb:aG ["kind","size","race","races","interests","place"] ["kind","size","race","races"] (aw gS):=fs
theorem Ar {dS aF:Addr}(G:GW mg)(GC:GC P w K mg dS aF){f:Addr}{fd:FuncData}(F:di K "fields_of" "fields_of" gS f fd):a8 P w K mg base bC 1 f fd ["kind","size","race","races"] (qh K):=by
 refine F.oa kb λLF A outer s H vs Q E hr h=>?_;obtain⟨kd,k,rc,a,as,rs,rfl,hA,hP,hk1,SN,NT,hr2,hr3,q0,q1⟩:=h;have LG:as.length=rs.length:=Paired.length hP;refine⟨_,af (aO (aC cp (pv 0) bq (aJ _)) (af (aO (aC kX (bG fJ (bG eJ (pv 2) (pv 1)) ax) (bh G.len (pv 3)) (aJ _)) (ak (az cC)) aB)
   (ak (az (cN fw (pv 3) (cY (bG fJ (pv 2) ax)) (cY (bG eJ (bG fJ (pv 2) ax) (pv 1))))))) aB)
  (af (qj (i:=4) kb.nd rfl (Or.inr rfl) (bp aM (pv 3) (bG fJ (pv 2) ax) (λ_ _=>rfl)))
  (af (aO (aC nX (bh G.len (pv 4)) (pv 1) (aJ _)) (ak (az cC)) aB)
  (af (aO (aC cp (pv 0) bq (aJ _)) (ak (az (bV (aa (pv 4) ah)))) aB)
  (ak (az (fA rfl kb.nd (gf rfl GC.range (aa (pv 1) ah)) (bz (own:=[("place",5)]) rfl) (λ_ _ _ _ _=>bo 5 kb.nd) (λ_ _ _ _ _=>cz) (λ_ _ _ _ _=>pv 4))))))),?_⟩
 refine aS (aI (cj (ag rfl) aD)) (λh=>?_) (λh=>?_)
 · rw[ij] at h;have e:kd=.legs:=by
    cases kd <;> first|rfl|(exact absurd (XQ h) (by decide))
   subst e;refine aS (jy (mI (mI (ag rfl) (ag rfl)) aD) (aU (ag rfl) (.inl hA))) (λh=>?_) (λh=>?_)
   · refine bU aD (q0 ?_);rw[Xs,LG] at h;have:=XQ h;exact Yi (by omega)
   · rw[Xs,LG] at h;have:=Yd h;refine⟨_,rfl,?_⟩;refine (mI (ag rfl) aD) _ ⟨_,rfl,?_⟩;refine (mI (mI (ag rfl) aD) (ag rfl)) _ ⟨_,rfl,a,as.map V.ref,rfl,hA,λp hp=>?_⟩;have e1:(rc:Int) - 1=((rc - 1:Nat):Int):=by omega
     have e2:(rc:Int) - 1+(k:Int)=((rc - 1+k:Nat):Int):=by omega
     rw[e1,show (((rc - 1:Nat):Int)+(k:Int))=((rc - 1+k:Nat):Int) by omega,yZ (by rw[Xs,LG];omega)];refine q1 (X9 (by omega)) _ p ((au.refl H).laid hp) hp ?_;show upd H p _ p=some (.lst (((as.drop (rc - 1)).take k).map V.ref));rw[ae,show rc - 1+k - (rc - 1)=k by omega,List.map_take,ZY]
 · rw[ij] at h;have SO:kd≠.legs:=by
    rintro rfl;exact absurd (Yd h) (by decide)
   obtain⟨ns,OS⟩:∃ns,rs[rc - 1]?=some ns:=⟨_,XD (by omega)⟩;obtain⟨ai,L5,hI⟩:=Paired.at2 hP OS;have hg:rs.getD (rc - 1) []=ns:=by rw[Yc,OS];rfl
   have SQ:as.getD (rc - 1) 0=ai:=by rw[Yc,L5];rfl
   have VV:nU (as.map V.ref) ((rc:Int) - 1)=some (.ref ai):=by
    rw[show (rc:Int) - 1=((rc - 1:Nat):Int) by omega];exact cu (by rw[Xy,L5];rfl)
   refine cB (aZ (ag rfl) (mI (ag rfl) aD) hA VV) ?_;have eO:lR kd k rc rs=decide (k<=ns.length):=by
    unfold lR;rw[hg];cases kd <;> first|rfl|exact absurd rfl SO
   rw[eO] at q0 q1;refine aS (jy (aU (ag rfl) (.inl hI)) (ag rfl)) (λh=>?_) (λh=>?_)
   · refine bU aD (q0 (Yi ?_));rw[aN] at h;have:=XQ h;omega
   · rw[aN] at h;have:=Yd h;have q1:=q1 (X9 (by omega));refine aS (aI (cj (ag rfl) aD)) (λh=>?_) (λh=>?_)
     · rw[ij] at h;have e:kd=.place:=by
        cases kd <;> first|rfl|(exact absurd (XQ h) (by decide))
       subst e;refine⟨_,rfl,(by show 1<=sizeLine;decide),λp hp=>q1 _ p ((au.refl H).laid hp) hp ?_⟩;show upd H p _ p=some (.lst [.ref (as.getD (rc - 1) 0)]);rw[SQ];exact ae
     · rw[ij] at h;have Oj:kd≠.place:=by
        rintro rfl;exact absurd (Yd h) (by decide)
       have eF:gQ 0 kd k rc as=List.replicate k ai:=by
        unfold gQ;rw[SQ];cases kd <;> first|rfl|exact absurd rfl SO|exact absurd rfl Oj
       rw[eF] at q1;refine⟨_,rfl,(k:Int),rfl,by omega,by omega,λD hD=>?_⟩;rw[show ((k:Int)).toNat=k by omega];refine lT (lo:=0) (n:=k) (λi H'=>au H H'/\H' D=some (.lst ((List.replicate i ai).map V.ref))) ⟨(au.refl H).laid hD,ae⟩ ?_ ?_
       · rintro i H' hi ⟨k1,k2⟩;refine⟨rfl,_,rfl,_,k2,?_,?_⟩
         · rw[Xs,X4,XY];omega
         · refine⟨λb u z=>?_,?_⟩
           · rw[aq (ao z hD)];exact k1 b u z
           · rw[ae,List.replicate_succ',XO];rfl
       · rintro H' ⟨k1,k2⟩;exact q1 H' D k1 hD k2
end
theorem mQ {w:W}{kd:Tote.Kind}(h:dG w=some kd):w=cd (kindS kd):=by
 unfold dG at h;split at h
 · rename_i e;cases h;exact e
 · split at h
   · rename_i e;cases h;exact e
   · split at h
     · rename_i e;cases h;exact e
     · split at h
       · rename_i e;cases h;exact e
       · cases h
theorem rB {ws:List W}(h:fE ws=true):ws.length=16/\∃kd,dG (ws.getD 2 [])=some kd:=by
 unfold fE at h;simp only[XA,Yk] at h;exact⟨h.1.1.1,ZG.mp h.2⟩
theorem FQ {ws:List W}(h:ws.length=16):∃p nm kd k fr rc tk t br b le m un u no z:W,ws=[p,nm,kd,k,fr,rc,tk,t,br,b,le,m,un,u,no,z]:=by
 match ws,h with
 |[p,nm,kd,k,fr,rc,tk,t,br,b,le,m,un,u,no,z],_=>exact⟨p,nm,kd,k,fr,rc,tk,t,br,b,le,m,un,u,no,z,rfl⟩
theorem rG {ws:List W}{rs:aad}(h:¬(fE ws=true/\fg ws=true)):eX ws rs=none:=by
 by_cases hl:ws.length=16
 · obtain⟨p,nm,kd,k,fr,rc,tk,t,br,b,le,m,un,u,no,z,rfl⟩:=FQ hl;show (match dG kd with
    |none=>none
    |some kind=>if dB rs kind p nm k fr rc tk t br b le m un u no z then some (⟨nm,kind,fm kind (ay k).toNat (ay rc).toNat rs,(ay u).toNat⟩:aK) else none)=none
   cases hk:dG kd with
   |none=>rfl
   |some kind =>
    show (if dB rs kind p nm k fr rc tk t br b le m un u no z then _ else none)=none;rw[Xu];rintro⟨c1,c2,c3,c4,c5,c6,c7,c8,c9,Px,Py,NF,N7,Ng,NG,MF⟩;refine h ⟨?_,?_⟩
    · unfold fE;show (_&&(fh.all λq=>_)&&d_ nm&&(dG kd).isSome)=true;rw[c8,hk];simp[fh,c1,c2,c3,c4,c5,c6,c7]
    · have Nd:=mQ hk;unfold fg;show (!(!(decide (0<=ay t)&&decide (ay t<=400))||!(decide (1<=ay b)&&decide (ay b<=1000)))&&(!(!(decide (1<=ay u)&&decide (ay u<=10000))||!(decide (ay m=0)||(decide (ay u<=ay m)&&decide (ay m<=2*ay u)))) &&
       (if z=cd "fewer" then !decide (kd=cd "place") else decide (z=cd "refund")||decide (z=cd "carry"))))=true
      have d1:(decide (0<=ay t)&&decide (ay t<=400))=true:=by simp[c9]
      have d2:(decide (1<=ay b)&&decide (ay b<=1000))=true:=by simp[Px]
      have d3:(decide (1<=ay u)&&decide (ay u<=10000))=true:=by simp[Py]
      have d4:(decide (ay m=0)||(decide (ay u<=ay m)&&decide (ay m<=2*ay u)))=true:=by simpa using NF
      rw[d1,d2,d3,d4];by_cases hz:z=cd "fewer"
      · rw[Xv hz];rcases N7 with c|c|c
        · have:kd≠cd "place":=by
           rw[Nd];intro e;exact c.2 (by cases kind <;> first|rfl|exact absurd e (by decide))
          simp[this]
        · rw[hz] at c;exact absurd c (by decide)
        · rw[hz] at c;exact absurd c (by decide)
      · rw[Xu hz];rcases N7 with c|c|c
        · exact absurd c.1 hz
        · simp[c]
        · simp[c]
 · unfold eX;split
   · rename_i e;exact absurd (by rfl) hl
   · rfl
theorem D_ {ws:List W}{rs:aad}{kd:Tote.Kind}(hf:fE ws=true)(ht:fg ws=true)(hk:dG (ws.getD 2 [])=some kd) :
  eX ws rs=if ((sizeOf kd).1<=ay (ws.getD 3 [])/\ay (ws.getD 3 [])<=(sizeOf kd).2)/\(1<=ay (ws.getD 5 [])/\ay (ws.getD 5 [])<=(rs.length:Int))/\lR kd (ay (ws.getD 3 [])).toNat (ay (ws.getD 5 [])).toNat rs=true
   then some ⟨ws.getD 1 [],kd,fm kd (ay (ws.getD 3 [])).toNat (ay (ws.getD 5 [])).toNat rs,(ay (ws.getD 13 [])).toNat⟩ else none:=by
 obtain⟨hl,_⟩:=rB hf;obtain⟨p,nm,kw,k,fr,rc,tk,t,br,b,le,m,un,u,no,z,rfl⟩:=FQ hl;have hk:dG kw=some kd:=hk;show (match dG kw with
   |none=>none
   |some kind=>if dB rs kind p nm k fr rc tk t br b le m un u no z then some (⟨nm,kind,fm kind (ay k).toNat (ay rc).toNat rs,(ay u).toNat⟩:aK) else none)=if ((sizeOf kd).1<=ay k/\ay k<=(sizeOf kd).2)/\(1<=ay rc/\ay rc<=(rs.length:Int))/\lR kd (ay k).toNat (ay rc).toNat rs=true
   then some (⟨nm,kd,fm kd (ay k).toNat (ay rc).toNat rs,(ay u).toNat⟩:aK) else none
 rw[hk];show (if dB rs kd p nm k fr rc tk t br b le m un u no z then some (⟨nm,kd,fm kd (ay k).toNat (ay rc).toNat rs,(ay u).toNat⟩:aK) else none)=_;have key:dB rs kd p nm k fr rc tk t br b le m un u no z↔((sizeOf kd).1<=ay k/\ay k<=(sizeOf kd).2)/\(1<=ay rc/\ay rc<=(rs.length:Int))/\lR kd (ay k).toNat (ay rc).toNat rs=true:=by
  have Nd:=mQ hk;have f1:(fh.all λq=>[p,nm,kw,k,fr,rc,tk,t,br,b,le,m,un,u,no,z].getD q.1 []==q.2)=true:=by
   unfold fE at hf;simp only[XA] at hf;exact hf.1.1.2
  have f2:d_ nm=true:=by
   unfold fE at hf;simp only[XA] at hf;exact hf.1.2
  have f1:p=cd "pool"/\fr=cd "from"/\tk=cd "take"/\br=cd "break"/\le=cd "least"/\un=cd "unit"/\no=cd "none":=by
   have g:((p==cd "pool")&&((fr==cd "from")&&((tk==cd "take")&&((br==cd "break")&&((le==cd "least")&&((un==cd "unit")&&((no==cd "none")&&true)))))))=true:=f1;simp only[XA,Yk] at g;obtain⟨g1,g2,g3,g4,g5,g6,g7,_⟩:=g;exact⟨g1,g2,g3,g4,g5,g6,g7⟩
  have f3:(!(!(decide (0<=ay t)&&decide (ay t<=400))||!(decide (1<=ay b)&&decide (ay b<=1000)))&&(!(!(decide (1<=ay u)&&decide (ay u<=10000))||!(decide (ay m=0)||(decide (ay u<=ay m)&&decide (ay m<=2*ay u)))) &&
        (if z=cd "fewer" then !decide (kw=cd "place") else decide (z=cd "refund")||decide (z=cd "carry"))))=true:=ht
  simp only[XA,Yl,YE,Yo,XB,Yu] at f3;obtain⟨⟨t1,t2⟩,⟨t3,t4⟩,t5⟩:=f3;have s1:(leastK kd:Int)=(sizeOf kd).1:=by cases kd <;> rfl
  have s2:(mostK kd:Int)=(sizeOf kd).2:=by cases kd <;> rfl
  have s3:1<=(sizeOf kd).1:=by cases kd <;> decide
  constructor
  · rintro⟨_,_,_,_,_,_,_,_,_,_,_,_,_,Ng,NG,MF⟩;rw[s1,s2] at Ng;refine⟨Ng,NG,?_⟩;unfold lR;rcases MF with ⟨rfl,c⟩|⟨hn,c⟩
    · exact X9 (by omega)
    · have e:(ay rc - 1).toNat=(ay rc).toNat - 1:=by omega
      rw[e] at c;cases kd <;> first|exact X9 (by omega)|exact absurd rfl hn
  · rintro⟨Ng,NG,MF⟩;refine⟨f1.1,f1.2.1,f1.2.2.1,f1.2.2.2.1,f1.2.2.2.2.1,f1.2.2.2.2.2.1,f1.2.2.2.2.2.2,f2,t1,t2,t3,t4,?_,by rw[s1,s2];exact Ng,NG,?_⟩
    · split at t5
      · rename_i hz;simp only[Yl,Yb] at t5;refine .inl ⟨hz,?_⟩;rintro rfl;exact t5 Nd
      · refine .inr ?_;simpa using t5
    · have e:(ay rc - 1).toNat=(ay rc).toNat - 1:=by omega
      rw[e];unfold lR at MF;by_cases hn:kd=.legs
      · subst hn;have:=XQ MF;exact .inl ⟨rfl,by omega⟩
      · refine .inr ⟨hn,?_⟩;have:(ay k).toNat<=(rs.getD ((ay rc).toNat - 1) []).length:=by
         cases kd <;> first|exact XQ MF|exact absurd rfl hn
        omega
 by_cases hc:dB rs kd p nm k fr rc tk t br b le m un u no z
 · rw[Xv hc,Xv (key.mp hc)]
 · rw[Xu hc,Xu (λz=>hc (key.mpr z))]
section
variable {P:Program}{w:World}{K:aaf}{mg:aah}{base:Heap}
def xf (K:aaf) (C:Addr):Sp:=λvs H Q _=>∃(a b:Addr) (ws:List W) (as:List Addr) (rs:aad),vs=[.ref a,.ref b]/\aP K H a (sV ws)/\nE ws/\aP K H b (as.map V.ref)/\Paired (hZ K H) as rs/\rs.length<=16 /\
 (eX ws rs=none->∀H',au H H'->Q .cb H')/\(∀p,eX ws rs=some p->∀H' x dx fa MD,au H H'->H x=none->H fa=none->H' x=some (.ins C dx (jn (.str (st p.name)) (.str (st (cd (kindS p.kind)))) (.ref fa) (.int (p.unit:Nat)))) ->
  H' fa=some (.lst (MD.map V.ref))->(∀F:Addr->aae->Prop,Paired F as rs->Paired F MD p.fields)->Q (.ref x) H')
theorem j6:aG ["words","races","kind","size","bounds","race","fields"] ["words","races"] (aw gY):=fs
theorem Eo {dS aF C:Addr}(G:GW mg)(GC:GC P w K mg dS aF)(T:CK K mg "Pool" hX C){k:Nat}(FF:Fn P w K mg base bC k "has_pool_form" ["words"] (wK K))(FT:Fn P w K mg base bC k "are_terms_good" ["words"] (sM K))
  (FN:Fn P w K mg base bC k "number_of" ["word"] kO)(FL:Fn P w K mg base bC k "fields_of" ["kind","size","race","races"] (qh K))(FP:xn P w K mg base bC k C ["self","name","kind","fields","unit"] (uf C))
  {f:Addr}{fd:FuncData}(F:di K "read_pool" "read_pool" gY f fd):a8 P w K mg base bC (k+2) f fd ["words","races"] (xf K C):=by
 refine F.ok j6 (λvs H Q E h=>?_) (λLF A outer s H vs Q E NT h=>?_)
 · obtain⟨_,_,_,_,_,rfl,_⟩:=h;rfl
 · obtain⟨a,b,ws,as,rs,rfl,hS,ok,VW,P1,O3,q0,q1⟩:=h;have hr:cK k _:=NT.mono (Nat.le_succ k);obtain⟨ts,hD,hT⟩:=GC.B1;refine⟨_,af (aO (PW.pt (eG (cG (hU (aR FF hr bb (aa (pv 0) ah)))) (cQ (cG (hU (aR FT hr bb (aa (pv 0) ah))))))) (ak (az cC)) aB)
    (af (a7 2 j6.nd (bp aM (pv 0) ax (λ_ _=>rfl)))
    (af (a7 3 j6.nd (aR FN hr bb (aa (bp aM (pv 0) ax (λ_ _=>rfl)) ah)))
    (af (a7 4 j6.nd (B_ hD (a_ GC.Fx) (pv 2) (λ_ _=>rfl)))
    (af (a7 5 j6.nd (aR FN hr bb (aa (bp aM (pv 0) ax (λ_ _=>rfl)) ah)))
    (af (aO (PW.pt (eG (cG (cF b_ b_ (bp AM (pv 4) ax (λ_ _=>rfl)) (pv 3) (bp AM (pv 4) ax (λ_ _=>rfl)))) (cQ (cG (cF b_ b_ ax (pv 5) (bh G.len (pv 1))))))) (ak (az cC)) aB)
    (af (a7 6 j6.nd (aR FL hr bb (aa (pv 2) (aa (pv 3) (aa (pv 5) (aa (pv 1) ah))))))
    (af (aO (aC tJ (pv 6) cC (aJ _)) (ak (az cC)) aB)
    (ak (az (pI FP NT T.mg bb (aa (bp aM (pv 0) ax (λ_ _=>rfl)) (aa (pv 2) (aa (pv 6) (aa (aR FN hr bb (aa (bp aM (pv 0) ax (λ_ _=>rfl)) ah)) ah)))))))))))))),?_⟩
   refine⟨_,rfl,a,ws,rfl,hS,ok,λH1 e1=>⟨_,rfl,?_⟩⟩;refine gH (λh=>?_) (λh=>?_)
   · refine q0 (rG λz=>?_) H1 e1;rw[z.1] at h;cases h
   have hf:fE ws=true:=by simpa using h
   obtain⟨hl,kd,hk⟩:=rB hf;refine⟨_,rfl,a,ws,rfl,e1.seq hS,ok,hl,λH2 e2=>⟨_,rfl,?_⟩⟩;have MR:=e1.trans e2;refine gH (λh=>?_) (λh=>?_)
   · refine q0 (rG λz=>?_) H2 MR;rw[z.2] at h;cases h
   have ht:fg ws=true:=by simpa using h
   have Rm:=MR.seq hS;have pe:=D_ (rs:=rs) hf ht hk;have Nd:=mQ hk;refine cB (aZ (ag rfl) aD Rm (dH (i:=2) (by omega))) ?_;refine cB (gq (aZ (ag rfl) aD Rm (dH (i:=3) (by omega))) (ok.getD 3)) ?_;refine⟨_,rfl,Sum.inr (st (ws.getD 2 [])),V.ref (ts kd),Value.ref (ts kd),rfl,rfl,by rw[vB,hk];rfl,rfl,?_⟩;refine cB (gq (aZ (ag rfl) aD Rm (dH (i:=5) (by omega))) (ok.getD 5)) ?_;have hA:=MR.seq VW;have hP:=iP P1 MR;have LG:as.length=rs.length:=Paired.length hP;refine aS (gK (eY (cE (Bp (ag rfl) aD (hT kd H2) (cu (j:=0) rfl)) (ag rfl) (Bp (ag rfl) aD (hT kd H2) (cu (j:=1) rfl)))) λ_=>eY (cE aD (ag rfl) (aU (ag rfl) (.inl hA)))) (λh=>?_) (λh=>?_)
   · refine bU aD (q0 ?_ H2 MR);rw[pe,Xu];rintro⟨z1,z2,_⟩;rw[Xs,LG] at h;simp only[Yu,Yl,YS,Yb] at h;omega
   rw[Xs,LG] at h;simp only[YE,Yo,XA,XB] at h;obtain⟨h1,h2⟩:=h;have s3:1<=(sizeOf kd).1:=by cases kd <;> decide
   have s4:(sizeOf kd).2<=6:=by cases kd <;> decide
   have n3:ay (ws.getD 3 [])=(((ay (ws.getD 3 [])).toNat:Nat):Int):=by omega
   have n5:ay (ws.getD 5 [])=(((ay (ws.getD 5 [])).toNat:Nat):Int):=by omega
   refine⟨_,rfl,_,rfl,_,rfl,_,rfl,kd,(ay (ws.getD 3 [])).toNat,(ay (ws.getD 5 [])).toNat,b,as,rs,by rw[←n3,←n5,←Nd];rfl,hA,hP,by omega,by omega,by omega,by omega,by omega,λhO=>?_,λhO H3 p e3 VX hp=>?_⟩
   ·
    refine⟨_,rfl,rfl,_,rfl,q0 ?_ H2 MR⟩;rw[pe,Xu];rintro⟨_,_,z⟩;rw[hO] at z;cases z
   · refine⟨_,rfl,rfl,_,rfl,?_⟩;have Oy:=MR.trans e3;have SR:=Oy.seq hS;refine (aZ (ag rfl) aD SR (dH (i:=1) (by omega))) _ ⟨_,rfl,_,rfl,?_⟩;refine (gq (aZ (ag rfl) aD SR (dH (i:=13) (by omega))) (ok.getD 13)) _ ?_;intro x dx nx P2 nex;refine⟨x,dx,_,_,_,_,rfl,ae,rfl,?_⟩;rw[Xv ⟨h1,h2,hO⟩] at pe;have sm:au H3 (upd (upd (upd H3 dx (.own x)) x (.ins C dx [])) x (.ins C dx (jn (V.str (st (ws.getD 1 []))) (V.str (st (ws.getD 2 []))) (V.ref p) (V.int (ay (ws.getD 13 [])))))):=λb u z=>by
      rw[aq (ao z nx),aq (ao z nx),aq (ao z P2)];exact z
     have hu:0<=ay (ws.getD 13 []):=by
      unfold fg at ht;simp only[XA,Yl,YE,Yo,XB] at ht;omega
     have O4:p≠x:=ao hp nx;have npd:p≠dx:=ao hp P2;refine q1 _ pe _ x dx p (gQ 0 kd (ay (ws.getD 3 [])).toNat (ay (ws.getD 5 [])).toNat as) (Oy.trans sm) (Oy.free nx) (MR.free VX) ?_ ?_ ?_
     · rw[ae,Nd];rw[Nd] at *;simp only[Int.toNat_of_nonneg hu]
     · exact sm _ _ hp
     · intro F0 VY;show Paired _ _ (fm _ _ _ rs);rw[←xi];exact uw VY (by omega) (by omega)
end
end Bw
namespace L2
open PySem PySem.Spec PyProof.Rows
theorem Jl {te:TE}{D:Ends}{σ:St}{H:Hp}(h:te σ H D.rt):Ff te D σ H:=h
theorem yo {wi:TI}{g:TG}{tt:TT}{te:TE}{vs:aae}{σ:St}{H:Hp}{Q:VK}(h:wi σ H λJ H1=>∀D,H1 D=none->∃W:Nat->Nat->Hp->Prop,(∃m,W 0 m (upd H1 D (.lst [])))/\∀i m H,W i m H ->
 (J.stop i H/\Q (.ref D) H)∨(J.go i H/\∃Nx:Hp->Prop,(∀H',Nx H'->∃m',m' < m/\W (i+1) m' H')/\∀x H',J.vZ i H x H'->g x (wipe σ vs) H' λσ2 H2=>wipe σ2 vs=wipe σ vs/\tt σ2 H2 λb H3 =>
  if b=true then te σ2 H3 λy H4=>∃acc,H4 D=some (.lst acc)/\acc.length < sizeLine/\Nx (upd H4 D (.lst (acc++[y]))) else Nx H3)):G2 wi g tt te vs σ H Q:=h
theorem jO {σ:St}{H:Hp}{ta tb:TE}{i j:Int}(ha:Ev ta σ H (.int i))(hb:Ev tb σ H (.int j)):Ev (kK (qI λi j=>.int (i+j)) ta tb) σ H (.int (i+j)):=λ_ r=>ha _ (hb _ ⟨i,j,rfl,rfl,r⟩)
theorem qu {σ:St}{H:Hp}{ta tb:TE}{i j:Int}(ha:Ev ta σ H (.int i))(hb:Ev tb σ H (.int j)):Ev (kK (qI λi j=>.int (i - j)) ta tb) σ H (.int (i - j)):=λ_ r=>ha _ (hb _ ⟨i,j,rfl,rfl,r⟩)
theorem sN {σ:St}{H:Hp}{ty td:TE}{y:V}{d:Addr}{o:Option V}(hy:Ev ty σ H y)(hd:Ev td σ H (.ref d))(g:gu H d y o):Tv (tB (IF ty td)) σ H o.isSome:=λ_ r=>hy _ (hd _ ⟨d,o,rfl,g,_,rfl,r⟩)
def Ee (p q r:Int->Int->Bool)(ta tb tc td:TE):TT:=λσ H Q=>∃i j k l,Ev ta σ H (.int i)/\Ev tb σ H (.int j)/\Ev tc σ H (.int k)/\Ev td σ H (.int l)/\Q (p i j&&(q j k&&r k l)) H
theorem Ap {X:Cx}{a b c d:Expr}{o1 o2 o3:CmpOp}{p q r:Int->Int->Bool}{ta tb tc td:TE}{pos:Pos}(h1:jT X (compareOp o1) (qI λi j=>.bl (p i j)))(h2:jT X (compareOp o2) (qI λi j=>.bl (q i j)))(h3:jT X (compareOp o3) (qI λi j=>.bl (r i j)))
  (ha:PE X a ta)(hb:PE X b tb)(hc:PE X c tc)(hd:PE X d td)(hm:lastMarks [o1,o2,o3] [b,c,d]=false:=by with_unfolding_all rfl):PT X (.Compare a [o1,o2,o3] [b,c,d] pos) (Ee p q r ta tb tc td):=by
 rintro pins s σ H Q I ⟨i,j,k,l,ea,eb,ec,ed,hq⟩;have get:∀{e:Expr} {te:TE} {v:V},PE X e te->Ev te σ H v->∀s',Inv X pins σ H s'->wpAny (model X.prog X.w) X.A (eval e X.env) (λu s2=>RelV v u/\Inv X pins σ H s2) X.xe s':=λ{e te v} he ev s' I' =>
  bA (he pins s' σ H (λx H1=>x=v/\H1=H) I' (ev _ ⟨rfl,rfl⟩)) λu s2 ⟨x,H1,I2,rx,e1,e2⟩=>by
   subst e1 e2;exact⟨rx,I2⟩
 have cmp:∀{op:CmpOp} {p:Int->Int->Bool} {i j:Int} {u v:Value},jT X (compareOp op) (qI λi j=>.bl (p i j))->RelV (.int i) u->RelV (.int j) v->∀s',Inv X pins σ H s'->wpAny (model X.prog X.w) X.A (compareOp op u v) (λc s2=>c=.bool (p i j)/\Inv X pins σ H s2) X.xe s':=λ{op p i j u v} ho ru rv s' I' =>
  bA (ho pins s' σ H _ _ u v (λx H1=>x=.bl (p i j)/\H1=H) I' ru rv ⟨i,j,rfl,rfl,rfl,rfl⟩) λc s2 ⟨x,H1,I2,rx,e1,e2⟩=>by
   subst e1 e2;exact⟨rx,I2⟩
 refine isTrue_chain (bA (get ha ea s I) λu0 s0 ⟨r0,I0⟩=>test_link (bA (get hb eb s0 I0) λu1 s1 ⟨r1,I1⟩=>bA (cmp h1 r0 r1 s1 I1) λc1 s2 ⟨e1,I2⟩=>?_)) hm;subst e1;refine YI ?_;cases z1:p i j with
 |false=>rw[z1] at hq;exact ite_ff ⟨H,I2,hq⟩
 |true =>
  rw[z1] at hq;refine ite_tt (test_link (bA (get hc ec s2 I2) λu2 s3 ⟨r2,I3⟩=>bA (cmp h2 r1 r2 s3 I3) λc2 s4 ⟨e2,I4⟩=>?_));subst e2;refine YI ?_;cases z2:q j k with
  |false=>rw[z2] at hq;exact ite_ff ⟨H,I4,hq⟩
  |true =>
   rw[z2] at hq;refine ite_tt (test_last (bA (get hd ed s4 I4) λu3 s5 ⟨r3,I5⟩=>bA (cmp h3 r2 r3 s5 I5) λc3 s6 ⟨e3,I6⟩=>?_));subst e3;exact YI ⟨H,I6,hq⟩
end L2
namespace Bw
open PySem PySem.Spec PyProof.Rows L2 Tote
def BN (H:Hp)(d:Addr)(l:aae):Prop:=∃LC,H d=some (.dK LC)/\LC.length<=l.length/\∀n:Nat,(cR LC (Sum.inl (n:Int):Key)).isSome=decide (n∈l)
theorem BN.put {LC:List (Key×V)}{l:aae}{n:Nat}(h:LC.length<=l.length)(hk:∀n:Nat,(cR LC (Sum.inl (n:Int):Key)).isSome=decide (n∈l)) :
  (putK LC (Sum.inl (n:Int)) (V.bl true)).length<=(l++[n]).length/\∀m:Nat,(cR (putK LC (Sum.inl (n:Int)) (V.bl true)) (Sum.inl (m:Int):Key)).isSome=decide (m∈l++[n]):=by
 refine⟨?_,λm=>?_⟩
 · have:=gM LC (Sum.inl (n:Int):Key) (V.bl true);rw[XS];simp;omega
 · rw[oU];by_cases e:m=n
   · subst e;rw[Xv rfl];simp
   · rw[Xu (λz=>e (by have:=Sum.inl.inj z;omega)),hk m];simp[e]
theorem DU {b:Int}(hb:0<=b)(PU:b < 100000):Builtin.Range.small 2 b 3=true:=by
 unfold Builtin.Range.small Builtin.Range.rangeSize;simp only[Builtin.Range.rangeFitsLong,XA,Yu,XB,Yk,show ((3:Int) > 0) by decide,Zc];split <;> omega
theorem HZ {m:Nat}:Builtin.Range.rangeSize 2 ((2+3*m:Nat):Int) 3=(m:Int):=by
 unfold Builtin.Range.rangeSize;simp only[show ((3:Int) > 0) by decide,Zc];split <;> omega
theorem Aa {R:Nat}{c a b:W}{r:List W}{fs ss:aae}:dg R (c::a::b::r) fs ss=if c=cd "couple"/\1<=ay a/\ay a < ay b/\ay b<=(R:Int)/\¬(ay a).toNat∈ss/\¬(ay b).toNat∈fs/\¬(ay b).toNat∈ss
  then dg R r (fs++[(ay a).toNat]) (ss++[(ay b).toNat]) else none:=rfl
theorem Iz {r:List W}{i:Nat}(h:i+3<=r.length):r.drop i=r.getD i []::r.getD (i+1) []::r.getD (i+2) []::r.drop (i+3):=by
 have g:∀j,j < r.length->r.drop j=r.getD j []::r.drop (j+1):=λj hj=>by
  rw[YR hj,Yc,XD hj];rfl
 rw[g i (by omega),g (i+1) (by omega),g (i+2) (by omega)]
section
variable {P:Program}{w:World}{K:aaf}{mg:aah}{base:Heap}
def xD (K:aaf):Sp:=λvs H Q _=>∃(a:Addr) (ws:List W),vs=[.ref a]/\aP K H a (sV ws)/\nE ws/\ws≠[] /\
 (bB ws=none->∀H',au H H'->Q .cb H')/\(∀hs,bB ws=some hs->∀H' x,au H H'->H x=none->H' x=some (.lst (nV hs))->Q (.ref x) H')
theorem tI {w0 n:W}{r:List W}:bB (w0::n::r)=if r.length % 3=0/\r.length<=24/\2<=ay n/\ay n<=24 then (dg (ay n).toNat r [] []).map (dD (ay n).toNat) else none:=rfl
theorem xC {ws:List W}(LP:ws≠[])(h:(!((ws.length:Int)==2+3*(((ws.length:Int) - 2) / 3))||decide (8 < ((ws.length:Int) - 2) / 3))=true):bB ws=none:=by
 match ws,LP with
 |[w0],_=>rfl
 |w0::n::r,_ =>
  rw[tI,Xu];rintro⟨z1,z2,_⟩;have el:((w0::n::r).length:Int)=2+(r.length:Int):=by simp;omega
  rw[el] at h;simp only[Yu,Yl,X2,XB] at h;omega
theorem Ak {ws:List W}(LP:ws≠[])(h:(ws.length:Int)=2+3*(((ws.length:Int) - 2) / 3)):∃w0 n r,ws=w0::n::r:=by
 match ws,LP with
 |[w0],_=>exact absurd h (by show ¬((1:Int)=2+3*((1 - 2) / 3));decide)
 |w0::n::r,_=>exact⟨w0,n,r,rfl⟩
theorem tq (R:Nat)(ss:aae):dD R ss=((List.range R).map λi=>i+1).filter λn=>!decide (n∈ss):=by
 unfold dD;congr 1;funext n;rw[YB]
theorem fu:aG ["words","couples","runners","firsts","seconds","at","first","second","runner"] ["words"] (aw fF):=fs
theorem C5 {dS aF:Addr}(G:GW mg)(GC:GC P w K mg dS aF){k:Nat}(FN:Fn P w K mg base bC k "number_of" ["word"] kO){f:Addr}{fd:FuncData}(F:di K "read_race" "read_race" fF f fd):a8 P w K mg base bC (k+1) f fd ["words"] (xD K):=by
 refine F.oa fu λLF A outer s H vs Q E hr h=>?_;obtain⟨a,ws,rfl,hS,ok,LP,q0,q1⟩:=h;have hu:∀{X:Cx},X.A=(A.deeper (envOfC "read_race" (aw fF) s.heap.objs.size f LF))->X.A.units+1 < cLine:=λ{X} e=>by rw[e];have:=hr.un;omega
 refine⟨_,af (a7 1 fu.nd (bG DL (bG fJ (bh G.len (pv 0)) ax) ax))
  (af (aO (PW.pt (eG (aC pO (bh G.len (pv 0)) (bG eJ ax (bG xO ax (pv 1))) (aJ _)) (cQ (aC kX (pv 1) (a_ GC.couples) (aJ _))))) (ak (az cC)) aB)
  (af (a7 2 fu.nd (aR FN hr bb (aa (bp aM (pv 0) ax (λ_ _=>rfl)) ah)))
  (af (aO (cG (cF b_ b_ ax (pv 2) (a_ GC.runners))) (ak (az cC)) aB)
  (af (a7 3 fu.nd pJ)
  (af (qj (i:=4) fu.nd rfl (Or.inr rfl) pJ)
  (af (da Yz rfl (rb rfl GC.range (aa ax (aa (bh G.len (pv 0)) (aa ax ah)))) (bo 5 fu.nd)
   (af (a7 6 fu.nd (aR FN hr bb (aa (bp aM (pv 0) (bG eJ (pv 5) ax) (λ_ _=>rfl)) ah)))
   (af (a7 7 fu.nd (aR FN hr bb (aa (bp aM (pv 0) (bG eJ (pv 5) ax) (λ_ _=>rfl)) ah)))
   (af (aO (PW.pt (eG (aC pO (bp aM (pv 0) (pv 5) (λ_ _=>rfl)) bq (aJ _)) (cQ (cG (Ap b_ nX b_ ax (pv 6) (pv 7) (pv 2)))))) (ak (az cC)) aB)
   (af (aO (PW.pt (eG (qv (tK (hu rfl) (pv 6) (pv 4))) (eG (qv (tK (hu rfl) (pv 7) (pv 3))) (cQ (qv (tK (hu rfl) (pv 7) (pv 4))))))) (ak (az cC)) aB)
   (af (mL (hu rfl) (pv 3) (pv 6) lU rfl)
   (ak (mL (hu rfl) (pv 4) (pv 7) lU rfl))))))))
  (ak (az (fA rfl fu.nd (rE rfl GC.range (aa ax (aa (bG eJ (pv 2) ax) ah))) (bz (own:=[("runner",8)]) rfl) (λ_ _ _ _ _=>bo 8 fu.nd) (λ_ _ _ _ _=>ow (qv (Ag (hu rfl) (pv 8) (pv 4)))) (λ_ _ _ _ _=>pv 8)))))))))),?_⟩
 refine cB (ze (mI (aU (ag rfl) (.inl hS)) aD) aD ⟨by decide,by decide⟩) ?_;rw[dI];refine aS (gK (aI (qk (aU (ag rfl) (.inl hS)) (mI aD (ze aD (ag rfl) (.inl ⟨by decide,by decide⟩))))) λ_=>jy (ag rfl) aD) (λh=>?_) (λh=>?_)
 · refine bU aD (q0 ?_ H (au.refl H));rw[aY,dI] at h;exact xC LP h
 · rw[aY,dI] at h;simp only[YE,Yo,Yk,Yb] at h;obtain⟨h1,h2⟩:=h;obtain⟨w0,n,r,rfl⟩:=Ak LP h1
   · have el:((w0::n::r).length:Int)=2+(r.length:Int):=by simp;omega
     rw[el] at h1 h2;obtain⟨m,hm⟩:∃m:Nat,r.length=3*m:=⟨r.length / 3,by omega⟩;have hm8:m<=8:=by omega
     have VZ:n.length<=70000/\∀c∈n,c < 128:=ok.getD 1;refine cB (gq (wd:=n) (aZ (ag rfl) aD hS (dH (i:=1) (by simp))) VZ) ?_;refine aS (eY (cE aD (ag rfl) aD)) (λh=>?_) (λh=>?_)
     · refine bU aD (q0 ?_ H (au.refl H));rw[tI,Xu];rintro⟨_,_,z1,z2⟩;simp only[Yl,YS,Yb] at h;omega
     simp only[Yo,XA,XB] at h;have hn:ay n=(((ay n).toNat:Nat):Int):=by omega
     generalize hR:(ay n).toNat=R at hn;have Rn:bB (w0::n::r)=(dg R r [] []).map (dD R):=by
      rw[tI,Xv ⟨by omega,by omega,h.1,h.2⟩,hR]
     rw[hn];intro d1 SS d2 hd2;have P4:d2≠d1:=by
      rintro rfl;rw[ae] at hd2;cases hd2
     have O5:H d2=none:=by rwa [aq P4] at hd2
     have O6:((w0::n::r).length:Int)=((2+3*m:Nat):Int):=by rw[el,hm];omega
     have S0:au H (upd (upd H d1 (.dK [])) d2 (.dK [])):=((au.refl H).laid SS).laid O5;refine oP (yA (n:=m) aD (aU (ag rfl) (.inl (S0.seq hS))) aD ⟨by decide,by decide,?_,?_⟩ ?_)
     · rw[dI,O6];exact DU (by omega) (by omega)
     · rw[dI,O6];exact HZ
     refine pE (lo:=2) (c:=3) (n:=m) (λi σ H'=>∃(v5 v6 v7:Option V) (fs ss:aae),σ=[some (.ref a),some (.int ((((w0::n::r).length:Int) - 2) / 3)),some (.int (R:Nat)),some (.ref d1),some (.ref d2),v5,v6,v7,none] /\
       au H H'/\BN H' d1 fs/\BN H' d2 ss/\fs.length<=i/\ss.length<=i/\dg R (r.drop (3*i)) fs ss=dg R r [] [])
      ⟨none,none,none,[],[],rfl,S0,⟨[],by rw[aq P4.symm];exact ae,XC _,λ_=>rfl⟩,⟨[],ae,XC _,λ_=>rfl⟩,XC _,XC _,rfl⟩ ?_ ?_
     · rintro i σ H' hi ⟨v5,v6,v7,fs,ss,rfl,S1,⟨k1,e1,l1,p1⟩,⟨k2,e2,l2,p2⟩,lf,ls,hc⟩;have Ro:=S1.seq hS;have d3:r.drop (3*i)=r.getD (3*i) []::r.getD (3*i+1) []::r.getD (3*i+2) []::r.drop (3*(i+1)):=by
        have:=Iz (r:=r) (i:=3*i) (by omega);rw[this,show 3*i+3=3*(i+1) by omega]
       have ga:∀j,(w0::n::r).getD (2+j) []=r.getD j []:=λj=>by
        rw[show 2+j=j+1+1 by omega];rfl
       have PY:nU (sV (w0::n::r)) (2+(i:Nat)*3)=some (.str (st (r.getD (3*i) []))):=by
        have:=dH (ws:=w0::n::r) (i:=2+3*i) (by simp;omega);rw[ga] at this;rw[show (2:Int)+(i:Nat)*3=((2+3*i:Nat):Int) by omega];exact this
       have qR:nU (sV (w0::n::r)) (2+(i:Nat)*3+1)=some (.str (st (r.getD (3*i+1) []))):=by
        have:=dH (ws:=w0::n::r) (i:=2+(3*i+1)) (by simp;omega);rw[ga] at this;rw[show (2:Int)+(i:Nat)*3+1=((2+(3*i+1):Nat):Int) by omega];exact this
       have at2:nU (sV (w0::n::r)) (2+(i:Nat)*3+2)=some (.str (st (r.getD (3*i+2) []))):=by
        have:=dH (ws:=w0::n::r) (i:=2+(3*i+2)) (by simp;omega);rw[ga] at this;rw[show (2:Int)+(i:Nat)*3+2=((2+(3*i+2):Nat):Int) by omega];exact this
       have V0:(r.getD (3*i+1) []).length<=70000/\∀c∈r.getD (3*i+1) [],c < 128:=by rw[←ga];exact ok.getD _
       have V1:(r.getD (3*i+2) []).length<=70000/\∀c∈r.getD (3*i+2) [],c < 128:=by rw[←ga];exact ok.getD _
       rw[d3,Aa] at hc;generalize hA:ay (r.getD (3*i+1) [])=na at hc;generalize hB:ay (r.getD (3*i+2) [])=nb at hc;refine cB (gq (aZ (ag rfl) (mI (ag rfl) aD) Ro qR) V0) ?_;refine cB (gq (aZ (ag rfl) (mI (ag rfl) aD) Ro at2) V1) ?_;rw[hA,hB];have none_:dg R r [] []=none->Q .cb H':=λz=>q0 (by rw[Rn,z];rfl) H' S1;refine aS (gK (aI (qk (aZ (ag rfl) (ag rfl) Ro PY) aD)) λ_=>eY (λR' r'=>⟨1,na,nb,(R:Int),aD,ag rfl,ag rfl,ag rfl,r'⟩)) (λh=>?_) (λh=>?_)
       · refine bU aD (none_ ?_);rw[←hc,Xu];rintro⟨z1,z2,z3,z4,_⟩;rw[iY] at h;dsimp only at h;rw[X9 z1,X9 z2,X9 z3,X9 z4] at h;cases h
       · rw[iY] at h;simp only[YE,Yo,XA,XB] at h;obtain⟨z1,z2,z3,z4⟩:=h;have ea:na=((na.toNat:Nat):Int):=by omega
         have eb:nb=((nb.toNat:Nat):Int):=by omega
         have V2:gu H' d2 (.int na) (cR k2 (Sum.inl na)):=gu.k (k:=Sum.inl na) e2;have V3:gu H' d1 (.int nb) (cR k1 (Sum.inl nb)):=gu.k (k:=Sum.inl nb) e1;have V4:gu H' d2 (.int nb) (cR k2 (Sum.inl nb)):=gu.k (k:=Sum.inl nb) e2;have s1:(cR k2 (Sum.inl na)).isSome=decide (na.toNat∈ss):=by rw[←p2,←ea]
         have s2:(cR k1 (Sum.inl nb)).isSome=decide (nb.toNat∈fs):=by rw[←p1,←eb]
         have s3:(cR k2 (Sum.inl nb)).isSome=decide (nb.toNat∈ss):=by rw[←p2,←eb]
         refine aS (gK (sN (ag rfl) (ag rfl) V2) λ_=>gK (sN (ag rfl) (ag rfl) V3) λ_=>sN (ag rfl) (ag rfl) V4) (λh=>?_) (λh=>?_)
         · refine bU aD (none_ ?_);rw[←hc,Xu];rintro⟨_,_,_,_,y1,y2,y3⟩;rw[s1,s2,s3,Yi y1,Yi y2,Yi y3] at h;cases h
         · rw[s1,s2,s3] at h;simp only[YE,Yb] at h;obtain⟨y1,y2,y3⟩:=h;rw[Xv ⟨z1,z2,z3,z4,y1,y2,y3⟩] at hc;have V5:d1≠d2:=P4.symm;have SU:=BN.put (n:=na.toNat) l1 p1;have SV:=BN.put (n:=nb.toNat) l2 p2;rw[←ea] at SU;rw[←eb] at SV;refine⟨_,rfl,_,rfl,d1,_,rfl,.inl ⟨k1,Sum.inl na,e1,rfl,by rw[XY];omega,rfl⟩,?_⟩;refine⟨_,rfl,_,rfl,d2,_,rfl,.inl ⟨k2,Sum.inl nb,by rw[aq P4];exact e2,rfl,by rw[XY];omega,rfl⟩,?_⟩;refine⟨_,_,_,fs++[na.toNat],ss++[nb.toNat],rfl,λb u z=>?_,⟨_,by rw[aq V5];exact ae,SU⟩,⟨_,ae,SV⟩,by rw[XS];simp;omega,by rw[XS];simp;omega,hc⟩;rw[aq (ao z O5),aq (ao z SS)];exact S1 b u z
     · rintro σ H' ⟨v5,v6,v7,fs,ss,rfl,S1,hF1,⟨k2,e2,l2,p2⟩,lf,ls,hc⟩;rw[Zo (by omega)] at hc;have hc:some ss=dg R r [] []:=hc;rw[←hc] at Rn;dsimp only;refine Jl (yo ?_);refine zb (i:=1) (j:=((R:Nat):Int)+1) aD (jO (ag rfl) aD) ⟨by decide,by decide,by omega,by omega⟩ ?_;intro D hD;rw[show (((R:Nat):Int)+1 - 1).toNat=R by omega];refine lT (lo:=1) (n:=R) (λi H2=>au H' H2/\H2 D=some (.lst (nV (((List.range i).map λj=>j+1).filter λn=>!decide (n∈ss))))) ⟨(au.refl H').laid hD,ae⟩ ?_ ?_
       · rintro i H2 hi ⟨m1,m2⟩;refine⟨rfl,?_⟩;have gt:gu H2 d2 (.int (1+(i:Nat))) (cR k2 (Sum.inl (1+(i:Nat):Int))):=gu.k (k:=Sum.inl (1+(i:Nat):Int)) (m1 _ _ e2);have sg:(cR k2 (Sum.inl (1+(i:Nat):Int))).isSome=decide (i+1∈ss):=by rw[←p2];congr 3;omega
         refine⟨_,rfl,_,rfl,d2,_,rfl,gt,_,rfl,?_⟩;rw[sg];have fl:((List.range (i+1)).map λj=>j+1).filter (λn=>!decide (n∈ss))=(((List.range i).map λj=>j+1).filter λn=>!decide (n∈ss))++(if (!decide (i+1∈ss))=true then [i+1] else []):=by
          rw[List.range_succ,XO,Zn];congr 1;by_cases z:i+1∈ss
          · simp[z]
          · simp[z]
         refine gH (λh=>?_) (λh=>?_)
         · refine⟨_,rfl,_,m2,?_,λb u z=>?_,?_⟩
           · rw[aN,XY];have:=ZU (λn=>!decide (n∈ss)) ((List.range i).map λj=>j+1);rw[Xs,ZM] at this;omega
           · rw[aq (ao z hD)];exact m1 b u z
           · rw[ae,fl,Xv h];unfold nV;rw[XO];show some (HO.lst (_++[V.int (1+(i:Nat))]))=some (HO.lst (_++[V.int ((i+1:Nat):Int)]));rw[show (1:Int)+(i:Nat)=((i+1:Nat):Int) by omega]
         · refine⟨m1,?_⟩;rw[fl,Xu h,Yw];exact m2
       · rintro H2 ⟨m1,m2⟩;refine q1 (dD R ss) Rn H2 D (S1.trans m1) (S1.free hD) ?_;rw[m2,tq]
end
end Bw
namespace L2
open PySem PySem.Spec PyProof.Rows
theorem zm {X:Cx}(hu:X.A.units+1 < cLine):jT X (compareOp .In) (λx y H Q=>∃p xs,x=.cb/\y=.ref p/\aP X.K H p xs/\(∀v∈xs,v=.cb∨∃a ys,v=.ref a/\aP X.K H a ys)/\Q (.bl (xs.any λv=>decide (v=.cb))) H):=by
 intro pins s σ H x y v u Q I rx ry h;obtain⟨p,xs,rfl,rfl,hq,hx,q⟩:=h;cases ry;cases rx;obtain⟨LD,r,pl,hz⟩:=I.list hq;have key:∀{xs:List V} {us:aaj},Vals xs us->(∀v∈xs,v=.cb∨∃a ys,v=.ref a/\aP X.K H a ys)->(∀u∈us,SeqAt.EqAt X.A.in1 s u .none (u==.none))/\us.any (·==.none)=xs.any λv=>decide (v=.cb):=by
  intro xs us r
  induction r with
  |nil=>exact λ_=>⟨λu hu=>by simp at hu,rfl⟩
  |@cons v u xs us r1 r2 ih =>
   intro hx;obtain⟨V6,V7⟩:=ih λv hv=>hx v (XN _ hv);have e1:SeqAt.EqAt X.A.in1 s u .none (u==.none)/\(u==.none)=decide (v=.cb):=by
    rcases hx v (Yg ..) with rfl|⟨a,ys,rfl,hs⟩
    · cases r1;exact⟨SeqAt.EqAt.same _,rfl⟩
    · cases r1;obtain⟨L6,_,Ol,_⟩:=I.list hs;refine⟨?_,rfl⟩;exact SeqAt.EqAt.list_none Ol.isList (by show X.A.units+1 < cLine;exact hu)
   refine⟨λu' QW=>?_,?_⟩
   · rcases Xx.mp QW with rfl|h
     · exact e1.1
     · exact V6 u' h
   · rw[Y2,Y2,e1.2,V7]
 obtain⟨k1,k2⟩:=key r hx;refine SeqAt.in_listAt (·==.none) pl.isList (λw hw=>k1 w (by simpa using hw)) ⟨.bl _,H,I,rfl,?_⟩;rw[show LD.toArray.any (·==.none)=LD.any (·==.none) by simp,k2];exact q
end L2
namespace Bw
open PySem PySem.Spec PyProof.Rows L2 Tote
def Eb (K:aaf)(H:Hp)(a:Addr)(ls:List (List W)):Prop:=∃as:List Addr,aP K H a (as.map V.ref)/\Paired (λb ws=>aP K H b (sV ws)) as ls
def Dh (LC:List (Key×V))(l:List W):Prop:=LC.length<=l.length/\∀n:W,(cR LC (Sum.inr (st n):Key)).isSome=l.contains n
theorem Dh.put {LC:List (Key×V)}{l:List W}{n:W}(h:Dh LC l):Dh (putK LC (Sum.inr (st n)) (V.bl true)) (l++[n]):=by
 refine⟨?_,λm=>?_⟩
 · have:=gM LC (Sum.inr (st n):Key) (V.bl true);have:=h.1;rw[XS];simp;omega
 · rw[oU];by_cases e:m=n
   · subst e;rw[Xv rfl];simp
   · rw[Xu (λz=>e (jM.mp (Sum.inr.inj z))),h.2 m];simp[e]
def IB (K:aaf)(C:Addr)(H H':Hp)(pl:Addr)(a:Addr)(p:aK):Prop:=∃dx fa MD,H' a=some (.ins C dx (jn (.str (st p.name)) (.str (st (cd (kindS p.kind)))) (.ref fa) (.int (p.unit:Nat))))/\fa≠pl/\H' fa=some (.lst (MD.map V.ref))/\Paired (hZ K H) MD p.fields
section
variable {P:Program}{w:World}{K:aaf}{mg:aah}{base:Heap}
def uh (K:aaf) (C:Addr):Sp:=λvs H Q _=>∃(a b:Addr) (ls:List (List W)) (rs:aad),vs=[.ref a,.ref b]/\Eb K H a ls/\(∀ws∈ls,nE ws)/\bD K H b rs/\rs.length<=16 /\
 (iW ls rs=none->∀H',au H H'->Q .cb H')/\(∀ps,iW ls rs=some ps->∀H' x,au H H'->cU K C H' x ps->Q (.ref x) H')
theorem jJ:aG ["lines","races","pools","names","words","pool"] ["lines","races"] (aw fQ):=fs
theorem CZ {dS aF C:Addr}(G:GW mg)(GC:GC P w K mg dS aF)(T:CK K mg "Pool" hX C){k:Nat}(FP:Fn P w K mg base bC k "read_pool" ["words","races"] (xf K C)){f:Addr}{fd:FuncData}(F:di K "read_pools" "read_pools" fQ f fd) :
  a8 P w K mg base bC (k+1) f fd ["lines","races"] (uh K C):=by
 refine F.oa jJ λLF A outer s H vs Q E hr h=>?_;obtain⟨a,b,ls,rs,rfl,⟨as,hA,hP⟩,ok,⟨V8,V9,O7⟩,O3,q0,q1⟩:=h;have LG:as.length=ls.length:=Paired.length hP;have hu:=vO hr;refine⟨_,af (aO (aC kX (bh G.len (pv 0)) (a_ GC.pools) (aJ _)) (ak (az cC)) aB)
  (af (a7 2 jJ.nd (bV ah))
  (af (a7 3 jJ.nd pJ)
  (af (da Yz rfl (bJ (pv 0)) (bo 4 jJ.nd)
   (af (a7 5 jJ.nd (aR FP hr bb (aa (pv 4) (aa (pv 1) ah))))
   (af (aO (PW.pt (eG (aC tJ (pv 5) cC (aJ _)) (cQ (qv (tK hu (aV (pv 5) rfl) (pv 3)))))) (ak (az cC)) aB)
   (af (mL hu (pv 3) (aV (pv 5) rfl) lU rfl)
   (ak (dR (qr PySem.F.plainAttrs_list PySem.F.slot_list_append PySem.F.type_list_append iz (pv 2) (aa (pv 5) ah))))))))
  (ak (az (pv 2)))))),?_⟩
 refine aS (jy (aU (ag rfl) (.inl hA)) aD) (λh=>?_) (λh=>?_)
 · refine bU aD (q0 ?_ H (au.refl H));rw[Xs,LG] at h;unfold iW;rw[Xv (by have:=XQ h;omega)]
 rw[Xs,LG] at h;have hl:¬64 < ls.length:=by have:=Yd h;omega
 have eP:iW ls rs=b6 rs [] ls:=by unfold iW;rw[Xu hl]
 rw[eP] at q0 q1;refine⟨X1 _,λpl LN=>?_⟩;intro dn PN;have O8:dn≠pl:=by
  rintro rfl;rw[ae] at PN;cases PN
 have O9:H dn=none:=by rwa [aq O8] at PN
 have S0:au H (upd (upd H pl (.lst [])) dn (.dK [])):=((au.refl H).laid LN).laid O9;refine⟨_,rfl,a,rfl,⟨_,S0.seq hA⟩,df (K:=K) (a:=a) (xs:=as.map V.ref) (λi σ H'=>∃(v4 v5:Option V) (acc:List aK) (pas:List Addr) (LC:List (Key×V)),σ=[some (.ref a),some (.ref b),some (.ref pl),some (.ref dn),v4,v5]/\au H H' /\
   H' pl=some (.lst (pas.map V.ref))/\H' dn=some (.dK LC)/\Dh LC (acc.map (·.name))/\Paired (IB K C H H' pl) pas acc/\acc.length<=i/\b6 rs acc (ls.drop i)=b6 rs [] ls)
  ⟨none,none,[],[],[],rfl,S0,by rw[aq O8.symm];exact ae,ae,⟨XC _,λ_=>rfl⟩,.nil,XC _,rfl⟩ (λi σ H' _ ⟨_,_,_,_,_,_,S1,_⟩=>S1.seq hA) ?_ ?_⟩
 · rintro i x σ H' hi ⟨v4,v5,acc,pas,LC,rfl,S1,e1,e2,P5,hI,hlen,hc⟩;rw[Xy] at hi;obtain⟨ai,L5,rfl⟩:=X5.mp hi;obtain⟨ws,L7,V_⟩:=Paired.qR hP L5;have LM:i < ls.length:=(XH.mp L7).1;have hd:ls.drop i=ws::ls.drop (i+1):=by
    rw[YR LM];congr 1;exact X7 ((XD LM).symm.trans L7)
   rw[hd] at hc;have hc:(match eX ws rs with
    |none=>none
    |some p=>if (acc.map (·.name)).contains p.name=true then none else b6 rs (acc++[p]) (ls.drop (i+1)))=b6 rs [] ls:=hc
   refine⟨_,rfl,_,rfl,ai,b,ws,V8,rs,rfl,S1.seq V_,ok ws (XZ L7),S1.seq V9,iP O7 S1,O3,λhn H2 e=>?_,λp hp H2 x dx fa MD e nx SW hx Wa Nn=>?_⟩
   · refine⟨_,rfl,rfl,_,rfl,?_⟩;rw[hn] at hc;exact q0 hc.symm H2 (S1.trans e)
   · refine⟨_,rfl,rfl,_,rfl,?_⟩;rw[hp] at hc;have hc:(if (acc.map (·.name)).contains p.name=true then none else b6 rs (acc++[p]) (ls.drop (i+1)))=b6 rs [] ls:=hc;have SY:=e _ _ e2;have Pw:=e _ _ e1;have S2:=S1.trans e;have gt:gu H2 dn (.str (st p.name)) (cR LC (Sum.inr (st p.name))):=gu.k (k:=Sum.inr (st p.name)) SY;refine (sN (bf (ag rfl) hx T.cl (T.no _ (by simp)) lD) (ag rfl) gt) _ ?_;rw[P5.2];refine gH (λh=>?_) (λh=>?_)
     · rw[Xv h] at hc;exact q0 hc.symm H2 S2
     · rw[Xu h] at hc;have O4:x≠pl:=(ao e1 nx).symm;have Wb:x≠dn:=(ao e2 nx).symm;have OL:fa≠pl:=(ao e1 SW).symm;have Wc:fa≠dn:=(ao e2 SW).symm;have O_:pas.length=acc.length:=Paired.length hI;refine⟨_,rfl,?_⟩;refine (bf (ag rfl) hx T.cl (T.no _ (by simp)) lD) _ ⟨dn,_,rfl,.inl ⟨LC,Sum.inr (st p.name),SY,rfl,?_,rfl⟩,?_⟩
       · have:=P5.1;rw[Xs] at this;rw[XY];omega
       refine⟨_,rfl,.inl ⟨rfl,_,aP.of (by rw[aq O8.symm];exact Pw)⟩,_,rfl,pl,_,_,rfl,rfl,by rw[aq O8.symm];exact Pw,?_,?_⟩
       · rw[Xs,XY];omega
       refine⟨_,_,acc++[p],pas++[x],_,rfl,λc u z=>?_,?_,by rw[aq O8];exact ae,?_,?_,by rw[XS];simp;omega,hc⟩
       · rw[aq (ao z LN),aq (ao z O9)];exact S2 c u z
       · rw[ae,XO];rfl
       · rw[XO];exact P5.put
       · have keep:∀c u,H2 c=some u->c≠pl->c≠dn->(upd (upd H2 dn (.dK (putK LC (Sum.inr (st p.name)) (V.bl true)))) pl (.lst (pas.map V.ref++[V.ref x]))) c=some u:=λc u z n1 n2=>by
          rw[aq n1,aq n2];exact z
         refine Paired.snoc (Paired.d9 hI λc q z=>?_) ⟨dx,fa,MD,keep _ _ hx O4 Wb,OL,keep _ _ Wa OL Wc,?_⟩
         · obtain⟨MB,P6,NU,z1,z2,z3,z4⟩:=z;have n1:c≠pl:=dE z1 e1 (by intro q;cases q);have n2:c≠dn:=dE z1 e2 (by intro q;cases q);have n3:P6≠dn:=dE z3 e2 (by intro q;cases q);exact⟨MB,P6,NU,keep _ _ (e _ _ z1) n1 n2,z2,keep _ _ (e _ _ z3) z2 n3,z4⟩
         · exact Nn _ O7
 · rintro σ H' ⟨v4,v5,acc,pas,LC,rfl,S1,e1,e2,P5,hI,hlen,hc⟩;rw[Xs,LG,Zo (XC _)] at hc;have hc:some acc=b6 rs [] ls:=hc;refine⟨_,rfl,q1 acc hc.symm H' pl S1 ⟨pas,aP.of e1,Paired.d9 hI λc q z=>?_⟩⟩;obtain⟨MB,P6,NU,z1,z2,z3,z4⟩:=z;exact⟨MB,P6,z1,NU,aP.of z3,iP z4 S1⟩
end
theorem t_ (c:Nat):∀(l acc:W),TL.nN [c] 0 acc l=aX c acc l
 |[],acc=>by rw[TL.oH];rfl
 |x::r,acc=>by
  by_cases h:x=c
  · subst h;rw[TL.yn (by unfold TL.pre;simp)];show acc::TL.nN [x] 0 [] r=(if x=x then acc::aX x [] r else _);rw[Xv rfl,t_ x r []]
  · rw[TL.uV (TL.vw [] r h)];show TL.nN [c] 0 (acc++[x]) r=(if x=c then _ else aX c (acc++[x]) r);rw[Xu h,t_ c r (acc++[x])]
theorem lP {c:Nat}(hc:c < 256)(l:W):Txt.split (st l) (st [c])=(aX c [] l).map st:=by
 refine TL.o6 ?_;rw[TL.Ab (st l) (st [c]) (by rw[pH];simp) (TL.DF (by show [c].toArray.all (· < 256)=true;simp[hc])),pH,pH,t_,XX];symm;exact (Yn λw _=>pH w).trans (List.map_id _)
theorem j5 (c:Nat):∀(l w:W),aX c w l≠[]
 |[],_=>by simp[aX]
 |x::l,w=>by
  unfold aX;split
  · simp
  · exact j5 c l _
theorem dW (c:Nat):∀(l acc:W),∀w∈aX c acc l,w.length<=acc.length+l.length/\∀x∈w,x∈acc∨x∈l
 |[],acc,w,hw=>by
  have:w=acc:=by simpa [aX] using hw
  subst this;exact⟨by simp,λx hx=>.inl hx⟩
 |y::l,acc,w,hw=>by
  unfold aX at hw;split at hw
  · rcases Xx.mp hw with rfl|hw
    · exact⟨by simp,λx hx=>.inl hx⟩
    · obtain⟨h1,h2⟩:=dW c l [] w hw;refine⟨by simp at h1 ⊢;omega,λx hx=>?_⟩;rcases h2 x hx with h|h
      · simp at h
      · exact .inr (XN _ h)
  · obtain⟨h1,h2⟩:=dW c l (acc++[y]) w hw;refine⟨by simp at h1 ⊢;omega,λx hx=>?_⟩;rcases h2 x hx with h|h
    · rcases Yj.mp h with h|h
      · exact .inl h
      · have:x=y:=by simpa using h
        exact .inr (by simp[this])
    · exact .inr (XN _ h)
theorem eZ (c:Nat):∀(l acc:W),(aX c acc l).length<=l.length+1
 |[],_=>by simp[aX]
 |y::l,acc=>by
  unfold aX;split
  · have:=eZ c l [];simp;omega
  · have:=eZ c l (acc++[y]);simp;omega
theorem BY:Str.ofString "\n"=st [10]:=by rw[kW];rfl
theorem BV:Str.ofString " "=st [32]:=by rw[kW];rfl
theorem EB (l:W):Txt.endswith (st l) (st [10])=decide (l.getLast?=some 10):=by
 unfold Txt.endswith;rw[PySem.StrLaws.subAt_eq,b8,b8];show (decide (0+1<=l.length)&&((l.drop (l.length - 1)).take 1==[10]))=_;rcases List.eq_nil_or_concat l with rfl|⟨r,x,rfl⟩
 · rfl
 · rw[List.concat_eq_append,List.getLast?_concat];simp;rw[X8,Yk,XB]
theorem CH (l:W):zJ (st l) none (some (-1))=st l.dropLast:=by
 unfold zJ;rw[HT.iB];refine YA (λz:aae=>(⟨z.toArray⟩:Str)) ?_;show (l.drop 0).take (HT.cf (st l).length (st l).length (some (-1)) - 0)=l.dropLast;rw[b8,List.drop_zero,Nat.sub_zero,List.dropLast_eq_take];congr 1;unfold HT.cf;simp;omega
theorem mi {α:Type}(p:α->Bool):∀(l:List α) (n:Nat),n<=l.length->(∀j x,j < n->l[j]?=some x->p x=true)->(∀x,l[n]?=some x->p x=false)->(l.takeWhile p).length=n/\l.takeWhile p=l.take n/\l.dropWhile p=l.drop n
 |[],n,h,_,_=>by
  have:n=0:=by simpa using h
  subst this;exact⟨rfl,rfl,rfl⟩
 |x::l,0,_,_,h2=>by
  have:=h2 x rfl;simp[ZE,Z5,this]
 |x::l,n+1,h,h1,h2=>by
  have hx:=h1 0 x (by omega) rfl;obtain⟨a,b,c⟩:=mi p l n (by simpa using h) (λj y hj hy=>h1 (j+1) y (by omega) hy) (λy hy=>h2 y hy);refine⟨?_,?_,?_⟩
  · rw[ZE,Xv hx,XE,a]
  · rw[ZE,Xv hx,b];rfl
  · rw[Z5,Xv hx,c];rfl
def jz (H:Hp)(D:Addr)(v:V)(ws:List W):Prop:=match bB ws with
 |none=>v=.cb
 |some hs=>∃x,v=.ref x/\x≠D/\H x=some (.lst (nV hs))
theorem rj {H:Hp}{D:Addr}:∀{vs:List V} {ls:List (List W)},Paired (jz H D) vs ls->¬none∈ls.map bB->∃as:List Addr,vs=as.map V.ref/\Paired (λa hs=>H a=some (.lst (nV hs))) as ((ls.map bB).filterMap id)
 |_,_,.nil,_=>⟨[],rfl,.nil⟩
 |v::vs,ws::ls,.cons r t,h=>by
  obtain⟨as,e,p⟩:=rj t λz=>h (by simp at z ⊢;exact .inr z);unfold jz at r;cases hr:bB ws with
  |none=>exact absurd (by simp[hr]) h
  |some hs =>
   rw[hr] at r;obtain⟨x,rfl,_,hx⟩:=r;refine⟨x::as,by rw[e];rfl,?_⟩;rw[XM,hr];exact .cons hx p
theorem nG {H:Hp}{D:Addr}:∀{vs:List V} {ls:List (List W)},Paired (jz H D) vs ls->(vs.any λv=>decide (v=.cb))=decide (none∈ls.map bB)
 |_,_,.nil=>rfl
 |v::vs,ws::ls,.cons r t=>by
  rw[Y2,nG t];unfold jz at r;cases hr:bB ws with
  |none =>
   rw[hr] at r;simp[hr,show v=.cb from r]
  |some hs =>
   rw[hr] at r;obtain⟨x,rfl,_⟩:=r;simp[hr]
theorem n9 {K:aaf}{H:Hp}{D:Addr}:∀{vs:List V} {ls:List (List W)},Paired (jz H D) vs ls->∀v∈vs,v=.cb∨∃a ys,v=.ref a/\aP K H a ys
 |_,_,.nil,v,hv=>by simp at hv
 |v::vs,ws::ls,.cons r t,u,hu=>by
  rcases Xx.mp hu with rfl|hu
  · unfold jz at r;cases hr:bB ws with
    |none=>rw[hr] at r;exact .inl r
    |some hs =>
     rw[hr] at r;obtain⟨x,rfl,_,hx⟩:=r;exact .inr ⟨x,_,rfl,aP.of hx⟩
  · exact n9 t u hu
end Bw
namespace L2
open PySem PySem.Spec PyProof.Rows
theorem Am {c:TT}{tb:TS}{D:Ends}{σ:St}{H:Hp}(Pv:St->Hp->Prop)(μ:St->Hp->Nat)(h0:Pv σ H)
  (hb:∀σ H,Pv σ H->∃b,Tv c σ H b/\(b=true->tb {D with nx:=λσ' H'=>Pv σ' H'/\μ σ' H' < μ σ H,ct:=λσ' H'=>Pv σ' H'/\μ σ' H' < μ σ H,bk:=D.nx} σ H)/\(b=false->D.nx σ H)):xw c tb D σ H:=by
 refine⟨λm σ H=>m=μ σ H/\Pv σ H,⟨_,rfl,h0⟩,?_⟩;rintro m σ H ⟨rfl,p⟩;obtain⟨b,hv,q1,q2⟩:=hb σ H p;refine hv _ ?_;cases b with
 |true=>exact pQ ⟨_,λσ' H' ⟨p',l⟩=>⟨_,l,rfl,p'⟩,q1 rfl⟩
 |false=>exact vt (q2 rfl)
theorem Bb {c:TT}{tb:TS}{D:Ends}{σ:St}{H:Hp}(Pv En:St->Hp->Prop)(μ:St->Hp->Nat)(h0:Pv σ H)(hb:∀σ H,Pv σ H->∃b,Tv c σ H b/\(b=true->tb {D with nx:=λσ' H'=>Pv σ' H'/\μ σ' H' < μ σ H,ct:=λσ' H'=>Pv σ' H'/\μ σ' H' < μ σ H,bk:=D.nx} σ H)/\(b=false->En σ H))
  (aft:∀σ H,En σ H->D.nx σ H):xw c tb D σ H:=Am Pv μ h0 λσ H p=>let ⟨b,v,q1,q2⟩:=hb σ H p;⟨b,v,q1,λe=>aft _ _ (q2 e)⟩
end L2
namespace Bw
open PySem PySem.Spec PyProof.Rows L2 Tote
section
variable {P:Program}{w:World}{K:aaf}{mg:aah}{base:Heap}
def wc (K:aaf) (C:Addr):Sp:=λvs H Q _=>∃(a:Addr) (cs:aae),vs=[.ref a]/\aP K H a (nV cs)/\cs.length<=65536 /\
 (dF (cs.map sg)=none->∀H',au H H'->Q .cb H')/\(∀ps,dF (cs.map sg)=some ps->∀H' x,au H H'->cU K C H' x ps->Q (.ref x) H')
theorem F6 (c:Nat):sg c < 128:=by
 unfold sg;split
 · rename_i h;unfold ux isLet bX at h;simp at h;omega
 · omega
theorem E7 {t:W}(h:∀c∈t,c < 128)(hl:t.length<=65536):∀ws∈(aX 10 [] t).map (aX 32 []),nE ws/\ws≠[]:=by
 intro ws L7;obtain⟨l,Wd,rfl⟩:=X3.mp L7;obtain⟨h1,h2⟩:=dW 10 t [] l Wd;have h3:=eZ 32 l [];refine⟨⟨by simp at h1;omega,λw hw=>?_⟩,j5 32 l []⟩;obtain⟨h4,h5⟩:=dW 32 l [] w hw;refine⟨by simp at h1 h4;omega,λc hc=>?_⟩;rcases h5 c hc with z|z
 · simp at z
 · rcases h2 c z with z|z
   · simp at z
   · exact h c z
theorem gO:aG ["codes","text","lines","behind_races","races","line","words"] ["codes"] (aw gJ):=fs
theorem E5 {dS aF C:Addr}(G:GW mg)(GC:GC P w K mg dS aF){k:Nat}(FX:Fn P w K mg base bC k "text_of" ["codes"] (sI K))(FD:Fn P w K mg base bC k "is_day" ["words"] (Ct K))(FR:Fn P w K mg base bC k "read_race" ["words"] (xD K))
  (FP:Fn P w K mg base bC k "read_pools" ["lines","races"] (uh K C)){f:Addr}{fd:FuncData}(F:di K "read_card" "read_card" gJ f fd):a8 P w K mg base bC (k+1) f fd ["codes"] (wc K C):=by
 refine F.oa gO λLF A outer s H vs Q E hr h=>?_;obtain⟨a,cs,rfl,hS,NL,q0,q1⟩:=h;have hu:=vO hr;refine⟨_,af (a7 1 gO.nd (aR FX hr bb (aa (pv 0) ah)))
  (af (aO (cG (hU (Cb PySem.F.slot_str_endswith PySem.F.type_str_endswith uO (pv 1) bq))) (ak (az cC)) aB)
  (af (pK (i:=2) rfl gO.nd rfl rfl (tP rfl rfl rfl rfl) (bJ (mq (cN Hb (pv 1) fk (cY (vX ql ax))) bq)) (bz (own:=[("line",5)]) rfl) (λ_ _ _ _ _=>bo 5 gO.nd) (λ_ _ _ _ _=>cz) (λ_ _ _ _ _=>mq (pv 5) bq))
  (af (aO (cG (hU (aR FD hr bb (aa (bp aM (pv 2) ax (λ_ _=>rfl)) ah)))) (ak (az cC)) aB)
  (af (a7 3 gO.nd ax)
  (af (BQ Yz (PW.pt (tm (aC nX (pv 3) (bh G.len (pv 2)) (aJ _)) (oB (aC cp (bp aM (bp aM (pv 2) (pv 3) (λ_ _=>rfl)) ax (λ_ _=>rfl)) bq (aJ _))))) (ak (Bs (i:=3) gO.nd rfl (Or.inl rfl) ax Bn)))
  (af (pK (i:=4) rfl gO.nd rfl rfl (tP rfl rfl rfl rfl) (bJ (cN fw (pv 2) (cY ax) (cY (pv 3)))) (bz (own:=[("words",6)]) rfl) (λ_ _ _ _ _=>bo 6 gO.nd) (λ_ _ _ _ _=>cz) (λ_ _ _ _ _=>aR FR hr bb (aa (pv 6) ah)))
  (af (aO (PW.pt (eG (cG (cF b_ b_ ax (bh G.len (pv 4)) (a_ GC.races))) (cQ (aC (zm hu) cC (pv 4) (by with_unfolding_all rfl))))) (ak (az cC)) aB)
  (ak (az (aR FP hr bb (aa (cN fw (pv 2) (cY (pv 3)) fk) (aa (pv 4) ah)))))))))))),?_⟩
 refine⟨_,rfl,a,cs,rfl,hS,by omega,λH1 S1=>?_⟩;generalize hT:cs.map sg=T at q0 q1;have lenT:T.length=cs.length:=by rw[←hT,Xs]
 have Rp:∀c∈T,c < 128:=λc hc=>by
  rw[←hT] at hc;obtain⟨x,_,rfl⟩:=X3.mp hc;exact F6 x
 have hz:(st T).length<=sizeLine:=by rw[b8,XY];omega
 refine⟨_,rfl,⟨_,rfl⟩,_,_,rfl,rfl,_,rfl,?_⟩;have eE:Txt.endswith (st T) (Str.ofString "\n")=decide (T.getLast?=some 10):=by rw[BY];exact EB T
 rw[eE];refine gH (λh=>?_) (λh=>?_)
 · refine q0 ?_ H1 S1;unfold dF;rw[Xu (by simpa using h)]
 have hE:T.getLast?=some 10:=by simpa using h
 generalize Om:aX 10 [] T.dropLast=LL;have eS:Txt.split (zJ (st T) none (some (-1))) (Str.ofString "\n")=LL.map st:=by rw[CH,BY,lP (by decide),Om]
 have MM:T.dropLast.length<=65536:=by rw[List.length_dropLast];omega
 have lenLL:LL.length<=65537:=by rw[←Om];have:=eZ 10 T.dropLast [];omega
 have We:∀l∈LL,l.length<=65536:=λl hl=>by
  rw[←Om] at hl;have:=(dW 10 T.dropLast [] l hl).1;simp at this;omega
 have MN:∀ws∈LL.map (aX 32 []),nE ws/\ws≠[]:=by
  rw[←Om];exact E7 (λc hc=>Rp c ((List.dropLast_sublist T).subset hc)) MM
 generalize P7:LL.map (aX 32 [])=LS at MN;have Wf:pj T=LS:=by unfold pj;rw[Om,P7]
 have Nu:LS.length=LL.length:=by rw[←P7,Xs]
 refine⟨_,rfl,_,rfl,_,rfl,_,rfl,hz,⟨_,rfl⟩,_,_,rfl,rfl,by decide +kernel,?_,λp1 Pa=>?_⟩
 · have:=n8 (st T) none (some (-1));rw[b8] at this;rw[XY];omega
 rw[eS];refine⟨p1,rfl,⟨_,aP.of ae⟩,λD hD=>?_⟩;have eM:(LL.map st).map V.str=sV LL:=by unfold sV;rw[XX];rfl
 have S2:au H1 (upd H1 p1 (.lst ((LL.map st).map V.str))):=(au.refl H1).laid Pa;generalize P8:upd H1 p1 (.lst ((LL.map st).map V.str))=H2 at hD S2;have NV:aP K H2 p1 (sV LL):=aP.of (by rw[←P8,ae,eM]);refine iH (K:=K) (a:=p1) (xs:=sV LL) (λi H'=>∃as:List Addr,au H2 H'/\H' D=some (.lst (as.map V.ref))/\Paired (λb ws=>b≠D/\H' b=some (.lst (sV ws))) as (LS.take i)) ⟨[],(au.refl H2).laid hD,ae,.nil⟩ (λi H' _ ⟨_,S,_⟩=>S.seq NV) ?_ ?_
 · rintro i x H' hi ⟨as,S3,e1,hP⟩;unfold sV at hi;rw[Xy] at hi;obtain⟨l,hl,rfl⟩:=X5.mp hi;have LM:i < LL.length:=(XH.mp hl).1;have LG:as.length=i:=by rw[Paired.length hP,XT];omega
   have L7:LS[i]?=some (aX 32 [] l):=by rw[←P7,Xy,hl];rfl
   refine⟨rfl,_,rfl,⟨_,rfl⟩,_,_,rfl,rfl,by decide +kernel,?_,λp hp=>?_⟩
   · have:=We l (XZ hl);rw[b8,XY];omega
   have nD:p≠D:=(ao e1 hp).symm;refine⟨_,by rw[aq nD.symm];exact e1,?_,as++[p],?_,?_,?_⟩
   · rw[Xs,LG,XY];omega
   · intro c u z;rw[aq (ao z hD),aq (ao (S3 c u z) hp)];exact S3 c u z
   · rw[ae,XO];rfl
   · rw[take_snoc L7];refine Paired.snoc (Paired.d9 hP λb ws z=>?_) ⟨nD,?_⟩
     · refine⟨z.1,?_⟩;rw[aq z.1,aq (ao z.2 hp)];exact z.2
     · rw[aq nD,ae,BV,lP (by decide)];unfold sV;rw[XX];rfl
 rintro H3 ⟨as,S3,e1,P1⟩;rw[dI,←Nu,Yr] at P1;have hP:Paired (λb ws=>aP K H3 b (sV ws)) as LS:=Paired.d9 P1 λb ws z=>aP.of z.2;have hA:aP K H3 D (as.map V.ref):=aP.of e1;have Wg:au H H3:=S1.trans (S2.trans S3);have LG:as.length=LS.length:=Paired.length hP;obtain⟨d,ls,Mz⟩:∃d ls,LS=d::ls:=by
  cases hq:LS with
  |nil =>
   rw[←P7,Z3,←Om] at hq;exact absurd hq (j5 10 _ _)
  |cons d ls=>exact⟨d,ls,rfl⟩
 have at_:∀(j:Nat) ws,LS[j]?=some ws->∃b,nU (as.map V.ref) (j:Int)=some (.ref b)/\aP K H3 b (sV ws):=λj ws hj=>by
  obtain⟨b,hb,hs⟩:=Paired.at2 hP hj;exact⟨b,cu (by rw[Xy,hb];rfl),hs⟩
 have eC:dF T=if ie d=true then eK [] ls else none:=by
  unfold dF;rw[Xv hE,Wf,Mz]
 obtain⟨b0,Ox,Rq⟩:=at_ 0 d (by rw[Mz];rfl);refine (aZ (ag rfl) aD hA Ox) _ ⟨b0,d,rfl,Rq,(MN d (by rw[Mz];simp)).1,λH4 S4=>⟨_,rfl,?_⟩⟩;have S9:=Wg.trans S4;refine gH (λh=>?_) (λh=>?_)
 · refine q0 ?_ H4 S9;rw[eC,Xu (by simpa using h)]
 rw[Xv (by simpa using h)] at eC;refine cB aD ?_;have Pb:=S4.seq hA;refine Bb (λσ H'=>∃b:Nat,σ=[some (.ref a),some (.str (st T)),some (.ref D),some (.int (b:Nat)),none,none,none]/\H'=H4/\1<=b/\b<=LS.length/\∀j ws,1<=j->j < b->LS[j]?=some ws->aQ ws=true)
  (λσ H'=>∃b:Nat,σ=[some (.ref a),some (.str (st T)),some (.ref D),some (.int (b:Nat)),none,none,none]/\H'=H4/\1<=b/\b<=LS.length/\(∀j ws,1<=j->j < b->LS[j]?=some ws->aQ ws=true)/\∀ws,LS[b]?=some ws->aQ ws=false)
  (λ(σ:L2.St) (_:Hp)=>match σ[3]? with|some (some (V.int z))=>LS.length - z.toNat|_=>0) ⟨1,rfl,rfl,XC _,by rw[Mz];simp,λj ws h1 h2=>by omega⟩ ?_ ?_
 · rintro σ H' ⟨b,rfl,rfl,NB,M8,Pc⟩;have Pd:∀ws,LS[b]?=some ws->∀ba,aP K H' ba (sV ws)->nU (as.map V.ref) (b:Int)=some (.ref ba)->Ev (kK JZ (kK (Ao K) (kK (Ao K) (cI 2) (cI 3)) (tC (.int 0))) (tC (.str (Str.ofString "race")))) [some (.ref a),some (.str (st T)),some (.ref D),some (.int (b:Nat)),none,none,none] H' (.bl (aQ ws)):=λws L7 ba MO Pe=>by
    have LP:=(MN ws (XZ L7)).2;have:=cj (aZ (aZ (ag (n:=2) (σ:=[some (.ref a),some (.str (st T)),some (.ref D),some (.int (b:Nat)),none,none,none]) rfl) (ag (n:=3) rfl) Pb Pe) (aD (v:=.int ((0:Nat):Int))) MO (dH (i:=0) (Yy.mpr LP))) (aD (v:=.str (Str.ofString "race")));rw[iY] at this;have e:decide (ws.getD 0 []=cd "race")=aQ ws:=by
     unfold aQ;cases ws with
     |nil=>exact absurd rfl LP
     |cons x r =>
      show decide (x=cd "race")=(x==cd "race");rw[X8,XB,Yk]
    rw[e] at this;exact this
   by_cases LI:b < LS.length
   · obtain⟨ws,L7⟩:∃ws,LS[b]?=some ws:=⟨_,XD LI⟩;obtain⟨ba,Pe,MO⟩:=at_ b ws L7;refine⟨_,qE (jy (ag rfl) (aU (ag rfl) (.inl Pb))) λ_=>aI (Pd ws L7 ba (S4.seq MO) Pe),λh=>?_,λh=>?_⟩
     · rw[XA] at h;refine⟨_,rfl,_,_,rfl,rfl,⟨⟨b+1,rfl,rfl,by omega,by omega,λj Pf h1 h2 h3=>?_⟩,?_⟩⟩
       · by_cases e:j=b
         · subst e;rw[L7] at h3;cases h3;exact h.2
         · exact Pc j Pf h1 (by omega) h3
       · show LS.length - ((b:Int)+1).toNat < LS.length - ((b:Nat):Int).toNat;omega
     · have hf:aQ ws=false:=by
        rw[YS] at h;rcases h with h|h
        · rw[Xs,LG] at h;have:=Yd h;omega
        · exact h
       exact⟨b,rfl,rfl,NB,M8,Pc,λPf z=>by rw[L7] at z;cases z;exact hf⟩
   · refine⟨_,qE (c:=false) (jy (ag rfl) (aU (ag rfl) (.inl Pb))) λh=>?_,λh=>?_,λ_=>?_⟩
     · rw[Xs,LG] at h;have:=XQ h;omega
     · rw[Bool.and_false] at h;cases h
     · exact⟨b,rfl,rfl,NB,M8,Pc,λPf z=>by rw[Yx (by omega)] at z;cases z⟩
 rintro σ H' ⟨b,rfl,e4,NB,M8,Pc,Wh⟩;subst e4;obtain⟨Wi,Wj,Wk⟩:=mi aQ ls (b - 1) (by rw[Mz] at M8;simp at M8;omega) (λj x hj hx=>Pc (j+1) x (by omega) (by omega) (by rw[Mz];exact hx)) (λx hx=>Wh x (by rw[Mz,show b=b - 1+1 by omega];exact hx));have eR:=pT ls [] (by simp);rw[Wi,Wj,Wk] at eR;refine⟨_,rfl,_,rfl,_,rfl,_,rfl,D,as.map V.ref,rfl,Pb,λp2 NV=>⟨p2,rfl,⟨_,aP.of ae⟩,λR hR=>?_⟩⟩;have Rr:fC (as.map V.ref) (some 1) (some (b:Int))=((as.drop 1).take (b - 1)).map V.ref:=by
  have:=yZ (xs:=as.map V.ref) (i:=1) (j:=b) (by rw[Xs,LG];exact M8);rw[List.map_take,ZY];exact this
 have S5:au H' (upd H' p2 (.lst (fC (as.map V.ref) (some 1) (some (b:Int))))):=(au.refl H').laid NV;have P9:aP K (upd H' p2 (.lst (fC (as.map V.ref) (some 1) (some (b:Int))))) p2 (((as.drop 1).take (b - 1)).map V.ref):=aP.of (by rw[ae,Rr]);generalize upd H' p2 (.lst (fC (as.map V.ref) (some 1) (some (b:Int))))=H5 at hR S5 P9;have O7:Paired (λb ws=>aP K H3 b (sV ws)) ((as.drop 1).take (b - 1)) (ls.take (b - 1)):=by
  have:=Paired.tk (b - 1) (Paired.dp 1 hP);rw[Mz] at this;exact this
 have Rt:∀ws∈ls.take (b - 1),nE ws/\ws≠[]:=λws z=>MN ws (by rw[Mz];exact XN _ (Za z));have Ru:((as.drop 1).take (b - 1)).length=(ls.take (b - 1)).length:=Paired.length O7;refine iH (K:=K) (a:=p2) (xs:=((as.drop 1).take (b - 1)).map V.ref) (λi H6=>∃vs:List V,au H5 H6/\H6 R=some (.lst vs)/\Paired (jz H6 R) vs ((ls.take (b - 1)).take i)) ⟨[],(au.refl H5).laid hR,ae,.nil⟩ (λi H6 _ ⟨_,S,_⟩=>S.seq P9) ?_ ?_
 · rintro i x H6 hi ⟨vs,S6,e1,hV⟩;rw[Xy] at hi;obtain⟨ba,Pe,rfl⟩:=X5.mp hi;obtain⟨ws,L7,MO⟩:=Paired.qR O7 Pe;have LM:i < (ls.take (b - 1)).length:=(XH.mp L7).1;have M9:vs.length=i:=by rw[Paired.length hV,XT];omega
   have Mt:=Rt ws (XZ L7);have lenls:ls.length<=65537:=by have:=Nu;rw[Mz] at this;simp at this;omega
   have small:vs.length < sizeLine:=by
    rw[M9,XY];have:=List.length_take_le (b - 1) ls;have:=XT (i:=b - 1) (l:=ls);omega
   have Nv:∀H7,au H6 H7->∀(y:V),Paired (jz (upd H7 R (.lst (vs++[y]))) R) vs ((ls.take (b - 1)).take i):=λH7 e y=>Paired.d9 hV λv Pf z=>by
    unfold jz at z ⊢;cases hr:bB Pf with
    |none=>rw[hr] at z;exact z
    |some hs =>
     rw[hr] at z;obtain⟨x,ex,nx,hx⟩:=z;exact⟨x,ex,nx,by rw[aq nx];exact e _ _ hx⟩
   refine⟨rfl,_,rfl,ba,ws,rfl,S6.seq (S5.seq (S4.seq MO)),Mt.1,Mt.2,λhn H7 e=>?_,λhs hn H7 x e nx hx=>?_⟩
   · refine⟨vs,e _ _ e1,small,vs++[.cb],λc u z=>?_,ae,?_⟩
     · rw[aq (ao z hR)];exact e _ _ (S6 c u z)
     · rw[take_snoc L7];refine Paired.snoc (Nv H7 e _) ?_;unfold jz;rw[hn]
   · have nR:x≠R:=(ao e1 nx).symm;refine⟨vs,e _ _ e1,small,vs++[.ref x],λc u z=>?_,ae,?_⟩
     · rw[aq (ao z hR)];exact e _ _ (S6 c u z)
     · rw[take_snoc L7];refine Paired.snoc (Nv H7 e _) ?_;unfold jz;rw[hn];exact⟨x,rfl,nR,by rw[aq nR];exact hx⟩
 rintro H6 ⟨vs,S6,e1,hV⟩;rw[Xs,Ru,Yr] at hV;have M9:vs.length=b - 1:=by
  rw[Paired.length hV,XT];rw[Mz] at M8;simp at M8;omega
 have Rv:au H' H6:=S5.trans S6;have Rw:au H H6:=S9.trans Rv;refine aS (gK (eY (cE aD (aU (ag rfl) (.inl (aP.of e1))) aD)) λ_=>aI (λR' r'=>⟨_,rfl,R,vs,rfl,rfl,aP.of e1,n9 hV,r'⟩)) (λh=>?_) (λh=>?_)
 · refine bU aD (q0 ?_ H6 Rw);rw[eC,eR,Xu];rintro⟨z1,z2,z3⟩;rw[M9,nG hV,Yi z3] at h;simp only[ZI,Yl,YS,Yb] at h;simp only[Y4] at z1 z2;omega
 · rw[M9,nG hV] at h;simp only[YE,Yo,XA,XB,Yb] at h;obtain⟨⟨z1,z2⟩,z3⟩:=h;rw[Xv ⟨by simp only[Y4];omega,by simp only[Y4];omega,z3⟩,Yp] at eR;obtain⟨Wl,ev,Wm⟩:=rj hV z3;subst ev;have Wn:=Rv.seq Pb;refine⟨_,rfl,_,rfl,_,rfl,D,as.map V.ref,rfl,Wn,λp3 Wo=>?_⟩;have S7:au H6 (upd H6 p3 (.lst (fC (as.map V.ref) (some (b:Int)) none))):=(au.refl H6).laid Wo;have Pg:fC (as.map V.ref) (some (b:Int)) none=(as.drop b).map V.ref:=by
    unfold fC;rw[HT.i6,HT.iB,Xs,LG,Zu M8,ZY];refine Yq ?_;rw[Ym,Xs,LG];exact XC _
   refine⟨_,rfl,p3,R,ls.drop (b - 1),((ls.take (b - 1)).map bB).filterMap id,rfl,⟨as.drop b,aP.of (by rw[ae,Pg]),?_⟩,?_,⟨Wl,S7.seq (aP.of e1),Paired.d9 Wm λc hs z=>S7.seq (aP.of z)⟩,?_,?_,?_⟩
   · have:=Paired.dp b hP;rw[show LS.drop b=ls.drop (b - 1) by rw[Mz,show b=b - 1+1 by omega];rfl] at this;exact Paired.d9 this λc ws z=>S7.seq (Rv.seq (S4.seq z))
   · intro ws z;exact (MN ws (by rw[Mz];exact XN _ (Y3 z))).1
   · have:=List.length_filterMap_le id ((ls.take (b - 1)).map bB);rw[Xs,XT] at this;omega
   · intro hn H8 S8;exact q0 (by rw[eC,eR];exact hn) H8 (Rw.trans (S7.trans S8))
   · intro ps hs H8 x S8 hx;exact q1 ps (by rw[eC,eR];exact hs) H8 x (Rw.trans (S7.trans S8)) hx
end
end Bw
namespace L2
open PySem PySem.Spec PyProof.Rows
def aL (a:Addr)(H H':Hp):Prop:=∀b o,H b=some o->b≠a->H' b=some o
section
variable {a:Addr}{H H1 H2:Hp}
theorem aL.refl (a:Addr) (H:Hp):aL a H H:=λ_ _ h _=>h
theorem aL.trans (x:aL a H H1)(y:aL a H1 H2):aL a H H2:=λb o h n=>y b o (x b o h n) n
theorem au.x (e:au H H1):aL a H H1:=λb o h _=>e b o h
theorem aL.upd {o:HO}(x:aL a H H1):aL a H (upd H1 a o):=λb u h n=>by rw[aq n];exact x b u h n
theorem aL.laid {p:Addr}{o:HO}(x:aL a H H1)(h:H p=none):aL a H (L2.upd H1 p o):=λb u q n=>by
 rw[aq (ao q h)];exact x b u q n
theorem aL.seq {K:aaf}{C dx b:Addr}{fs:List (Str×V)}{xs:List V}(e:aL a H H1)(ha:H a=some (.ins C dx fs))(h:aP K H b xs):aP K H1 b xs:=by
 rcases h with (h|⟨o,h⟩)|h
 · exact .inl (.inl (e _ _ h (dE h ha (by intro z;cases z))))
 · exact .inl (.inr ⟨o,e _ _ h (dE h ha (by intro z;cases z))⟩)
 · exact .inr h
theorem aL.tup {K:aaf}{C dx b:Addr}{fs:List (Str×V)}{xs:List V}(e:aL a H H1)(ha:H a=some (.ins C dx fs))(h:bZ K H b xs):bZ K H1 b xs:=by
 rcases h with (h|⟨o,h⟩)|h
 · exact .inl (.inl (e _ _ h (dE h ha (by intro z;cases z))))
 · exact .inl (.inr ⟨o,e _ _ h (dE h ha (by intro z;cases z))⟩)
 · exact .inr h
theorem aL.free (e:aL a H H1){l:Addr}(h:H1 l=none)(hl:l≠a):H l=none:=by
 cases q:H l with
 |none=>rfl
 |some o =>
  rw[e l o q hl] at h;cases h
end
end L2
namespace Bw
open PySem PySem.Spec PyProof.Rows L2 Tote
theorem qi {f:Str}{v x:V}{r:List (Str×V)}:eN f v ((f,x)::r)=(f,v)::r:=by
 show (if f=f then (f,v)::r else _)=_;rw[Xv rfl]
def Flt (P:Program)(w:World)(K:aaf)(mg:aah)(base:Heap)(C:Addr):Prop :=
 ∃(N fI:Addr) (fd:FuncData),pW K C N fI/\Binds K fd ["self","kind","place"] []/\a8 P w K mg base bC 1 fI fd ["self","kind","place"] (Hc C)/\mg "Fault"=some (.ref C)
theorem fM {X:Cx}{C:Addr}{E:XK}{np LJ pos:Pos}{e:Expr}{es:List Expr}{t:TA}(FL:Flt X.prog X.w X.K X.mg X.base C)(O:l_ X)(hr:cK 2 X.A)(ha:PA (X.iq (XF X C E)) (e::es) t)(hg:Gl X "Fault":=by rfl)
  (he:starEach (e::es) X.env=(false,eval e X.env)::starEach es X.env:=by rfl)(LN:(backTo LJ (starEach es X.env)).any (·.1)=false:=by rfl):PS (X.iq (XF X C E)) (.Raise (some (.Call (.Name "Fault" np) (e::es) [] LJ)) none pos) (Ks C E t):=by
 obtain⟨N,fI,fd,Z,hb,F,hm⟩:=FL;exact AZ O Z F hr hb hg hm ha (by decide) he LN
section
variable {P:Program}{w:World}{K:aaf}{mg:aah}{base:Heap}
theorem zw:aG ["self","kind","place"] ["self","kind","place"] (aw fO):=fs
theorem Aq {C N fI:Addr}(Z:pW K C N fI){f:Addr}{fd:FuncData}(F:di K "__init__" "Fault.__init__" fO f fd):a8 P w K mg base bC 1 f fd ["self","kind","place"] (Hc C):=by
 refine F.oa zw λLF A outer s H vs Q E hr h=>?_;obtain⟨a,t,k,p,rfl,ha,q⟩:=h;refine⟨_,af (y4 Z Z.fK Z.KS Lo (pv 0) (pv 1) rfl) (ak (y4 Z Z.fP Z.K1 Lq (pv 0) (pv 2) rfl)),?_⟩;refine⟨_,rfl,_,rfl,a,t,rfl,.inl ⟨ha,λdx Mm ne=>?_⟩⟩;refine⟨_,rfl,_,rfl,a,t,rfl,.inr ⟨dx,_,ae,by rw[aq ne];exact ae,ne,by show 1 < 1000;decide,?_⟩⟩;have e:eN "place" (V.int p) [(("kind":Str),V.int k)]=ff k p:=by
  rw[bc (by decide +kernel),bR];rfl
 rw[e];have e2:upd (upd (upd H dx (sx dx [(("kind":Str),V.int k)])) a (uk a C t (some dx))) dx (sx dx (ff k p))=upd (upd H dx (sx dx (ff k p))) a (uk a C t (some dx)):=by
  funext b;by_cases h1:b=dx
  · subst h1;rw[ae,aq ne,ae]
  · rw[aq h1];by_cases h2:b=a
    · subst h2;rw[ae,ae]
    · rw[aq h2,aq h2,aq h1,aq h1]
 rw[e2];exact q dx Mm ne
end
def vR (pl n h s t r m:V):List (Str×V):=[("pool",pl),("pool_number",n),("how",h),("stake",s),("sets",t),("rows",r),("many",m)]
abbrev sq:List Str:=["pool","pool_number","how","stake","sets","rows","many"]
def bT (wl m p np e:V):List (Str×V):=[("words",wl),("met",m),("place",p),("next_place",np),("line_end",e)]
abbrev cw:List Str:=["words","met","place","next_place","line_end"]
section
variable {a b c d e v:V}
theorem iL:(bT a b c d e).lookup ("words":Str)=some a:=bS
theorem jd:(bT a b c d e).lookup ("met":Str)=some b:=by unfold bT;rw[a9 (by decide +kernel)];exact bS
theorem bM:(bT a b c d e).lookup ("place":Str)=some c:=by unfold bT;rw[a9 (by decide +kernel),a9 (by decide +kernel)];exact bS
theorem jC:(bT a b c d e).lookup ("next_place":Str)=some d:=by unfold bT;rw[a9 (by decide +kernel),a9 (by decide +kernel),a9 (by decide +kernel)];exact bS
theorem wR:(bT a b c d e).lookup ("line_end":Str)=some e:=by unfold bT;rw[a9 (by decide +kernel),a9 (by decide +kernel),a9 (by decide +kernel),a9 (by decide +kernel)];exact bS
theorem Ed:eN "met" v (bT a b c d e)=bT a v c d e:=by unfold bT;rw[bc (by decide +kernel),qi]
theorem zQ:eN "place" v (bT a b c d e)=bT a b v d e:=by unfold bT;rw[bc (by decide +kernel),bc (by decide +kernel),qi]
theorem BO:eN "next_place" v (bT a b c d e)=bT a b c v e:=by unfold bT;rw[bc (by decide +kernel),bc (by decide +kernel),bc (by decide +kernel),qi]
end
def aT (K:aaf)(C:Addr)(H:Hp)(a:Addr)(e:Nat)(l:List Word)(pl:Nat):Prop :=
 ∃(dx wl:Addr) (all:List W) (m np:Nat),H a=some (.ins C dx (bT (.ref wl) (.int (m:Nat)) (.int (pl:Nat)) (.int (np:Nat)) (.int (e:Nat))))/\aP K H wl (sV all)/\(nE all/\all≠[])/\m<=all.length/\all.drop m=mY l/\Placed np l
theorem aT.same {K:aaf}{C:Addr}{H H':Hp}{a:Addr}{e:Nat}{l:List Word}{pl:Nat}(h:aT K C H a e l pl)(s:au H H'):aT K C H' a e l pl:=by
 obtain⟨dx,wl,all,m,np,h1,h2,r⟩:=h;exact⟨dx,wl,all,m,np,s _ _ h1,s.seq h2,r⟩
structure GB (K:aaf)(mg:aah)(aW:Addr):Prop where
 ended:Gv mg "NOT_ENDED" (.int 1)
 byte:Gv mg "BAD_BYTE" (.int 2)
 word:Gv mg "BAD_WORD" (.int 3)
 num:Gv mg "BAD_NUMBER" (.int 4)
 pool:Gv mg "NO_POOL" (.int 5)
 comb:Gv mg "NO_COMBINATION" (.int 6)
 KC:Gv mg "TOO_DEAR" (.int 7)
 more:Gv mg "MORE_BYTES" (.int 8)
 nl:Gv mg "LINE_END" (.int 10)
 blank:Gv mg "BLANK" (.int 32)
 stake:Gv mg "MOST_STAKE" (.int 1000000)
 cost:Gv mg "MOST_COST" (.int 2147483647)
 on:Gv mg "ON" (.int 0)
 box:Gv mg "BOX" (.int 1)
 JI:Gv mg "WAYS" (.ref aW)
 yM:∀H,bZ K H aW [.str (Str.ofString "on"),.str (Str.ofString "box"),.str (Str.ofString "key")]
 Ip:∃o,K.lookup aW=some o/\o.cls=.type "tuple"/\o.dict=none
 enum:mg "enumerate"=none
 any:mg "any"=none
section
variable {X:Cx}{CX:mH}{k:Nat}{m:Str}{ps:List Str}{sp:Sp}{E:XK}{pos apos:Pos}{o e:Expr}{es:List Expr}{ta:TE}{t:TA}{C:Addr}
theorem kh {pl:Sem Bool} (F:pD X.prog X.w X.K X.mg X.base CX k C m ps sp) (c:yW X.K C) (he:PE X o ta) (hr:cK k X.A) (hx:Passes CX X E)
  (ht:eval (.Call (.Attribute o m apos) [] [] pos) X.env=(do
   let ov ←eval o X.env
   standAt apos.atName
   let (f,first) ←holding [ov] (getMethod ov m pl)
   callWith pos f first (backTo pos (starEach [] X.env)) (backToKw pos (keywordEach [] X.env))):=by rfl):PE X (.Call (.Attribute o m apos) [] [] pos) (vh C m sp [] E ta eV):=by
 obtain⟨f,fd,hm,hb,F⟩:=F;exact Cs he c hm F hr hb .nil hx ht
theorem kZ {pl:Sem Bool}(F:pD X.prog X.w X.K X.mg X.base CX k C m ps sp)(c:yW X.K C)(he:PE X o ta)(hr:cK k X.A)(hx:Passes CX X E)(ha:PA X (e::es) t)
  (Mi:starEach (e::es) X.env=(false,eval e X.env)::starEach es X.env:=by rfl)(LN:(backTo pos (starEach es X.env)).any (·.1)=false:=by rfl)
  (ht:eval (.Call (.Attribute o m apos) (e::es) [] pos) X.env=(do
   let ov ←eval o X.env
   standAt apos.atName
   let (f,first) ←holding [ov] (getMethod ov m pl)
   callWith pos f first (backTo pos (starEach (e::es) X.env)) (backToKw pos (keywordEach [] X.env))):=by rfl):PE X (.Call (.Attribute o m apos) (e::es) [] pos) (vh C m sp [] E ta t):=by
 obtain⟨f,fd,hm,hb,F⟩:=F;exact ED he c hm F hr hb .nil hx ha Mi LN ht
end
section
variable {P:Program}{w:World}{K:aaf}{mg:aah}{base:Heap}
def oW (K:aaf) (C:Addr):Sp:=λvs H Q _=>∃(x dx:Addr) (l:W),vs=[.ref x,.str (st l)]/\H x=some (.ins C dx [])/\l.length<=70000 /\
 ∀H' wl,aL x H H'->H wl=none->H' wl=some (.lst (sV (aX 32 [] l)))->H' x=some (.ins C dx (bT (.ref wl) (.int ((0:Nat):Int)) (.int ((0:Nat):Int)) (.int ((0:Nat):Int)) (.int (l.length:Nat))))->Q .cb H'
theorem zA:aG ["self","line"] ["self","line"] (aw fS):=fs
theorem zI {C:Addr}(G:GW mg)(T:CK K mg "Words" cw C){f:Addr}{fd:FuncData}(F:di K "__init__" "Words.__init__" fS f fd):a8 P w K mg base bC 1 f fd ["self","line"] (oW K C):=by
 refine F.oa zA λLF A outer s H vs Q E hr h=>?_;obtain⟨x,dx,l,rfl,hx,hl,q⟩:=h;refine⟨_,af (cD (pv 0) (mq (pv 1) bq) rfl) (af (cD (pv 0) ax rfl) (af (cD (pv 0) ax rfl) (af (cD (pv 0) ax rfl) (ak (cD (pv 0) (bY f7 (by rfl) G.len PySem.boot_len (aa (pv 1) ah)) rfl))))),?_⟩;refine⟨_,rfl,⟨_,rfl⟩,_,_,rfl,rfl,by decide +kernel,by rw[b8,XY];omega,λwl MV=>?_⟩;have nx:wl≠x:=(ao hx MV).symm;rw[BV,lP (by decide)];refine⟨_,rfl,x,C,dx,[],rfl,by rw[aq nx.symm];exact hx,T.cl,T.no _ (by simp),(by show 0 < 1000;decide),?_⟩;refine⟨_,rfl,x,C,dx,_,rfl,ae,T.cl,T.no _ (by simp),(by show 1 < 1000;decide),?_⟩;refine⟨_,rfl,x,C,dx,_,rfl,ae,T.cl,T.no _ (by simp),(by repeat (first|rw[bR]|rw[bc (by decide +kernel)]);show 2 < 1000;decide),?_⟩;refine⟨_,rfl,x,C,dx,_,rfl,ae,T.cl,T.no _ (by simp),(by repeat (first|rw[bR]|rw[bc (by decide +kernel)]);show 3 < 1000;decide),?_⟩;refine⟨_,rfl,_,rfl,by rw[b8,XY];omega,_,rfl,x,C,dx,_,rfl,ae,T.cl,T.no _ (by simp),(by repeat (first|rw[bR]|rw[bc (by decide +kernel)]);show 4 < 1000;decide),?_⟩;rw[cJ,cJ,cJ,cJ]
 repeat (first|rw[bR]|rw[bc (by decide +kernel)])
 refine q _ wl (λb u z n=>?_) MV ?_ ?_
 · rw[aq n,aq (ao z MV)];exact z
 · rw[aq nx,ae];unfold sV;rw[XX];rfl
 · rw[ae,b8];rfl
def mX (K:aaf)(CW CF:Addr):Sp:=λvs H Q E=>∃(a:Addr) (e:Nat) (l:List Word) (pl:Nat),vs=[.ref a]/\aT K CW H a e l pl/\(l=[]->Rz CF E 3 (e:Nat))/\(∀w r,l=w::r->∀H',aL a H H'->aT K CW H' a e r w.at_->((tx w.w).length<=70000/\∀c∈tx w.w,c < 128)->Q (.str (st (tx w.w))) H')
theorem yr:aG ["self","word"] ["self"] (aw gc):=fs
theorem DQ {CW CF aW:Addr}(G:GW mg)(B:GB K mg aW)(T:CK K mg "Words" cw CW)(FL:Flt P w K mg base CF){f:Addr}{fd:FuncData}(F:di K "take" "Words.take" gc f fd):a8 P w K mg base (eW P w CF) 3 f fd ["self"] (mX K CW CF):=by
 refine F.lM yr λLF A outer s H vs Q E hr h=>?_;obtain⟨a,e,l,pl,rfl,⟨dx,wl,all,m,np,ha,hw,ok,hm,hd,hp⟩,q0,q1⟩:=h;refine⟨_,af (aO (aC cp (aV (pv 0) rfl) (bh G.len (aV (pv 0) rfl)) (aJ _)) (ak (fM FL aH hr (aa (a_ B.word) (aa (aV (pv 0) rfl) ah)))) aB)
  (af (a7 1 yr.nd (bp aM (aV (pv 0) rfl) (aV (pv 0) rfl) (λ_ _=>rfl)))
  (af (q_ (pv 0) ax BM)
  (af (cD (pv 0) (aV (pv 0) rfl) rfl)
  (af (q_ (pv 0) (bG eJ (bY f7 (by rfl) G.len PySem.boot_len (aa (pv 1) ah)) ax) BM)
  (ak (az (pv 1))))))),?_⟩
 have no:=λf (h:f∈cw)=>T.no f h;refine aS (aI (cj (bf (ag rfl) ha T.cl (no _ (by simp)) jd) (aU (bf (ag rfl) ha T.cl (no _ (by simp)) iL) (.inl hw)))) (λh=>?_) (λh=>?_)
 · rw[aY,dI] at h;have Nl:m=all.length:=by have:=YY h;omega
   refine (bf (ag rfl) ha T.cl (no _ (by simp)) wR) _ ⟨3,_,rfl,q0 ?_⟩;rw[Nl,Zl] at hd;cases l with
   |nil=>rfl
   |cons w r=>cases hd
 · rw[aY,dI] at h;have Nl:m < all.length:=by
    have:m≠all.length:=λz=>by rw[z] at h;simp at h
    omega
   cases l with
   |nil =>
    have:=YA List.length hd;rw[Ym] at this;simp[mY] at this;omega
   |cons wd r =>
    have Mc:all[m]?=some (tx wd.w)/\all.drop (m+1)=mY r:=by
     rw[YR Nl] at hd;have hd:all[m]::all.drop (m+1)=tx wd.w::mY r:=hd;injection hd with h1 h2;exact⟨by rw[XD Nl,h1],h2⟩
    obtain⟨Pa,NV⟩:=hp;have Mt:=ok.1.2 _ (XZ Mc.1);refine cB (aZ (bf (ag rfl) ha T.cl (no _ (by simp)) iL) (bf (ag rfl) ha T.cl (no _ (by simp)) jd) hw (cu (BS Mc.1))) ?_;refine⟨_,rfl,a,CW,dx,_,_,rfl,ha,T.cl,no _ (by simp),jd,_,_,rfl,rfl,dx,_,ha,(by show 5 < 1000;decide),?_⟩;rw[Ed];refine⟨_,rfl,a,CW,dx,_,_,rfl,ae,T.cl,no _ (by simp),jC,_,rfl,a,CW,dx,_,rfl,ae,T.cl,no _ (by simp),(by show 5 < 1000;decide),?_⟩;rw[zQ,cJ];refine⟨_,rfl,a,CW,dx,_,_,rfl,ae,T.cl,no _ (by simp),jC,?_⟩;refine (jO (tf (ag rfl) (by rw[b8,XY];omega)) aD) _ ⟨_,_,rfl,rfl,dx,_,ae,(by show 5 < 1000;decide),?_⟩;rw[BO,cJ];refine⟨_,rfl,?_⟩;refine q1 wd r rfl _ (aL.refl a H).upd ⟨dx,wl,all,m+1,np+(tx wd.w).length+1,?_,(aL.refl a H).upd.seq ha hw,ok,by omega,Mc.2,by rw[ic];exact NV⟩ Mt;rw[ae,Pa,b8];have e1:((m:Nat):Int)+1=((m+1:Nat):Int):=by omega
    have e2:((np:Nat):Int)+(((tx wd.w).length:Nat)+1)=((np+(tx wd.w).length+1:Nat):Int):=by omega
    rw[e1,e2]
end
theorem ot {f:Str}:∀{fs:List (Str×V)},¬f∈fs.map (·.1)->fs.lookup f=none
 |[],_=>rfl
 |(g,v)::r,h=>by
  rw[a9 (λe=>h (by simp[e]))];exact ot λz=>h (by simp at z ⊢;exact .inr z)
theorem cH {a b c d e:V}{f:Str}(h:¬f∈cw):(bT a b c d e).lookup f=none:=ot h
theorem aT.obj {K:aaf}{C:Addr}{H:Hp}{a:Addr}{e:Nat}{l:List Word}{pl:Nat}(h:aT K C H a e l pl):∃dx wl m np,H a=some (.ins C dx (bT wl m (.int (pl:Nat)) np (.int (e:Nat)))):=by
 obtain⟨dx,wl,all,m,np,h1,_⟩:=h;exact⟨dx,_,_,_,h1⟩
section
variable {P:Program}{w:World}{K:aaf}{mg:aah}{base:Heap}
def nq (kn:List String) (w:Word):Prop:=∃s∈kn,tx w.w=cd s
def qf (K:aaf)(CW CF:Addr):Sp:=λvs H Q E=>∃(a t:Addr) (kn:List String) (e:Nat) (l:List Word) (pl:Nat),vs=[.ref a,.ref t]/\aT K CW H a e l pl/\bZ K H t (kn.map λs=>V.str (Str.ofString s))/\(l=[]->Rz CF E 3 (e:Nat)) /\
 (∀w r,l=w::r->¬nq kn w->Rz CF E 3 (w.at_:Nat))/\(∀w r,l=w::r->nq kn w->∀H',aL a H H'->aT K CW H' a e r w.at_->Q (.str (st (tx w.w))) H')
theorem BL {kn:List String}{w:W}:oh (.str (st w)) (kn.map λs=>V.str (Str.ofString s))=decide (∃s∈kn,w=cd s):=by
 rw[X8,XB];unfold oh;rw[ZR,Y7];have key:∀s:String,sv (V.str (Str.ofString s)) (V.str (st w))=true↔w=cd s:=λs=>by
  show (Str.ofString s==st w)=true↔_;rw[Yk,kW,jM];exact⟨λz=>z.symm,λz=>z.symm⟩
 exact⟨λ⟨s,h1,h2⟩=>⟨s,h1,(key s).mp h2⟩,λ⟨s,h1,h2⟩=>⟨s,h1,(key s).mpr h2⟩⟩
theorem El (kn:List String):(kn.map λs=>V.str (Str.ofString s)).all dJ=true:=by
 rw[ZD,X0];intro _ _;rfl
theorem BD:aG ["self","known","word"] ["self","known"] (aw cv):=fs
theorem GV {CW CF aW:Addr}(B:GB K mg aW)(T:CK K mg "Words" cw CW)(FL:Flt P w K mg base CF){k:Nat}(hk:2<=k)(FT:pD P w K mg base (eW P w CF) k CW "take" ["self"] (mX K CW CF)){f:Addr}{fd:FuncData}(F:di K "take_one_of" "Words.take_one_of" cv f fd) :
  a8 P w K mg base (eW P w CF) (k+1) f fd ["self","known"] (qf K CW CF):=by
 refine F.lM BD λLF A outer s H vs Q E hr h=>?_;obtain⟨a,t,kn,e,l,pl,rfl,hW,hT,q0,q1,q2⟩:=h;refine⟨_,af (a7 2 BD.nd (kh FT T.cl (pv 0) hr (bQ aH rfl rfl)))
  (af (aO (aC eQ (pv 2) (pv 1) (by with_unfolding_all rfl)) (ak (fM FL aH (hr.mono hk) (aa (a_ B.word) (aa (aV (pv 0) rfl) ah)))) aB)
  (ak (az (pv 2)))),?_⟩
 obtain⟨dx,wl,m,np,ha⟩:=hW.obj;refine⟨_,rfl,a,dx,_,rfl,ha,cH (by decide +kernel),a,e,l,pl,rfl,hW,q0,λwd r hl H1 S1 L8 Mt=>?_⟩;obtain⟨P_,Rx,m1,Ry,Me⟩:=L8.obj;refine aS (aI (mG (ag rfl) (ag rfl) (.inr (S1.tup ha hT)) rfl (El kn))) (λh=>?_) (λh=>?_)
 · have h:(!oh (.str (st (tx wd.w))) (kn.map λs=>V.str (Str.ofString s)))=true:=h;rw[BL,Yl,Yb] at h;exact (bf (ag rfl) Me T.cl (T.no _ (by simp)) bM) _ ⟨3,_,rfl,q1 wd r hl h⟩
 · have h:(!oh (.str (st (tx wd.w))) (kn.map λs=>V.str (Str.ofString s)))=false:=h;rw[BL,Yo,XB] at h;exact⟨_,rfl,q2 wd r hl h H1 S1 L8⟩
def BI (K:aaf)(CW CF:Addr):Sp:=λvs H Q E=>∃(a:Addr) (e:Nat) (l:List Word) (pl:Nat),vs=[.ref a]/\aT K CW H a e l pl/\(∀w r,l=w::r->Rz CF E 3 (w.at_:Nat))/\(l=[]->Q .cb H)
theorem Gi:aG ["self"] ["self"] (aw ej):=fs
theorem HE {CW CF aW:Addr}(G:GW mg)(B:GB K mg aW)(T:CK K mg "Words" cw CW)(FL:Flt P w K mg base CF){f:Addr}{fd:FuncData}(F:di K "finish" "Words.finish" ej f fd):a8 P w K mg base (eW P w CF) 3 f fd ["self"] (BI K CW CF):=by
 refine F.lM Gi λLF A outer s H vs Q E hr h=>?_;obtain⟨a,e,l,pl,rfl,⟨dx,wl,all,m,np,ha,hw,ok,hm,hd,hp⟩,q1,q0⟩:=h;refine⟨_,ak (aO (aC nX (aV (pv 0) rfl) (bh G.len (aV (pv 0) rfl)) (aJ _)) (ak (fM FL aH hr (aa (a_ B.word) (aa (aV (pv 0) rfl) ah)))) aB),?_⟩;refine aS (jy (bf (ag rfl) ha T.cl (T.no _ (by simp)) jd) (aU (bf (ag rfl) ha T.cl (T.no _ (by simp)) iL) (.inl hw))) (λh=>?_) (λh=>?_)
 · rw[dI] at h;have Nl:m < all.length:=by have:=XQ h;omega
   cases l with
   |nil =>
    have:=YA List.length hd;rw[Ym] at this;simp[mY] at this;omega
   |cons wd r =>
    refine (bf (ag rfl) ha T.cl (T.no _ (by simp)) jC) _ ⟨3,_,rfl,?_⟩;rw[←hp.1];exact q1 wd r rfl
 · rw[dI] at h;have Nl:m=all.length:=by have:=Yd h;omega
   refine q0 ?_;rw[Nl,Zl] at hd;cases l with
   |nil=>rfl
   |cons w r=>cases hd
def uj (K:aaf)(CW CF:Addr):Sp:=λvs H Q E=>∃(a:Addr) (u:Nat) (e:Nat) (l:List Word) (pl:Nat),vs=[.ref a,.int (u:Nat)]/\1<=u/\aT K CW H a e l pl/\(l=[]->Rz CF E 3 (e:Nat)) /\
 (∀w r,l=w::r->¬(1<=ay (tx w.w)/\ay (tx w.w)<=1000000/\ay (tx w.w) % (u:Int)=0)->Rz CF E 4 (w.at_:Nat)) /\
 (∀w r,l=w::r->(1<=ay (tx w.w)/\ay (tx w.w)<=1000000/\ay (tx w.w) % (u:Int)=0)->∀H',aL a H H'->aT K CW H' a e r w.at_->Q (.int (ay (tx w.w))) H')
theorem vL:aG ["words","unit","stake"] ["words","unit"] (aw fX):=fs
theorem AK {CW CF aW:Addr}(B:GB K mg aW)(T:CK K mg "Words" cw CW)(FL:Flt P w K mg base CF){k:Nat}(hk:2<=k)(FT:pD P w K mg base (eW P w CF) k CW "take" ["self"] (mX K CW CF))(FN:Fn P w K mg base bC k "number_of" ["word"] kO)
  {f:Addr}{fd:FuncData}(F:di K "take_stake" "take_stake" fX f fd):a8 P w K mg base (eW P w CF) (k+1) f fd ["words","unit"] (uj K CW CF):=by
 refine F.lM vL λLF A outer s H vs Q E hr h=>?_;obtain⟨a,u,e,l,pl,rfl,hu1,hW,q0,q1,q2⟩:=h;refine⟨_,af (a7 2 vL.nd (aR FN hr bb (aa (kh FT T.cl (pv 0) hr (bQ aH rfl rfl)) ah)))
  (af (aO (PW.pt (eG (cG (cF b_ b_ ax (pv 2) (a_ B.stake))) (cQ (aC pO (bG G8 (pv 2) (pv 1)) ax (aJ _))))) (ak (fM FL aH (hr.mono hk) (aa (a_ B.num) (aa (aV (pv 0) rfl) ah)))) aB)
  (ak (az (pv 2)))),?_⟩
 obtain⟨dx,wl,m,np,ha⟩:=hW.obj;refine⟨_,rfl,a,dx,_,rfl,ha,cH (by decide +kernel),a,e,l,pl,rfl,hW,q0,λwd r hl H1 S1 L8 Mt=>?_⟩;obtain⟨P_,Rx,m1,Ry,Me⟩:=L8.obj;refine⟨tx wd.w,rfl,Mt.1,Mt.2,?_⟩;refine aS (gK (eY (cE aD (ag rfl) aD)) λ_=>aI (qk (ze (ag rfl) (ag rfl) (by show (0:Int) < (u:Int);omega)) aD)) (λh=>?_) (λh=>?_)
 · refine (bf (ag rfl) Me T.cl (T.no _ (by simp)) bM) _ ⟨4,_,rfl,q1 wd r hl λz=>?_⟩;rw[aY] at h;simp[z.1,z.2.1,z.2.2] at h
 · rw[aY] at h;simp only[YE,Yo,XA,XB,Yk] at h;exact⟨_,rfl,q2 wd r hl ⟨h.1.1,h.1.2,h.2⟩ H1 S1 L8⟩
end
theorem aT.put {K:aaf}{C:Addr}{H:Hp}{a p:Addr}{e:Nat}{l:List Word}{pl:Nat}{xs ys:List V}(h:aT K C H a e l pl)(hp:H p=some (.lst xs))(hn:∀v∈xs,∀s,v≠.str s):aT K C (upd H p (.lst ys)) a e l pl:=by
 obtain⟨dx,wl,all,m,np,h1,h2,⟨ok,ne⟩,r⟩:=h;have RA:a≠p:=dE h1 hp (by intro z;cases z);refine⟨dx,wl,all,m,np,by rw[aq RA];exact h1,?_,⟨ok,ne⟩,r⟩;rcases h2 with (h2|⟨o,h2⟩)|h2
 · refine .inl (.inl ?_);rw[aq]
   · exact h2
   · rintro rfl;rw[hp] at h2;injection h2 with h2;injection h2 with h2;subst h2;cases all with
     |nil=>exact ne rfl
     |cons w r=>exact hn _ (Yg ..) _ rfl
 · refine .inl (.inr ⟨o,?_⟩);rw[aq (dE h2 hp (by intro z;cases z))];exact h2
 · exact .inr h2
theorem Gh {ns:aae}:∀v∈nV ns,∀s,v≠V.str s:=λv hv s=>by
 obtain⟨n,_,rfl⟩:=X3.mp hv;intro z;cases z
theorem EI {as:List Addr}:∀v∈as.map V.ref,∀s,v≠V.str s:=λv hv s=>by
 obtain⟨n,_,rfl⟩:=X3.mp hv;intro z;cases z
theorem fW (ns:aae):(nV ns).all dJ=true:=by
 unfold nV;rw[ZD,X0];intro _ _;rfl
theorem nY {ns:aae}{i:Int}:oh (.int i) (nV ns)=decide (∃n∈ns,i=(n:Int)):=by
 rw[X8,XB];unfold oh nV;rw[ZR,Y7];have key:∀n:Nat,sv (V.int (n:Nat)) (V.int i)=true↔i=(n:Int):=λn=>by
  show (((n:Nat):Int)==i)=true↔_;rw[Yk];exact⟨λz=>z.symm,λz=>z.symm⟩
 exact⟨λ⟨s,h1,h2⟩=>⟨s,h1,(key s).mp h2⟩,λ⟨s,h1,h2⟩=>⟨s,h1,(key s).mpr h2⟩⟩
theorem E_ {ns:aae}{x:Nat}(h:ns.getLast?=some x):nU (nV ns) (-1)=some (.int (x:Nat)):=by
 have LP:ns≠[]:=by rintro rfl;cases h
 have hl:0 < ns.length:=Yy.mpr LP;have hx:(nV ns)[ns.length - 1]?=some (.int (x:Nat)):=by
  unfold nV;rw[Xy,←List.getLast?_eq_getElem?,h];rfl
 unfold nU C8;rw[Xu (by decide),aN,Xv (by omega)];show (nV ns)[_]?=_;rw[←hx];congr 1;omega
theorem yl {t:TT}{σ:L2.St}{H:Hp}{b c:Bool}(h:Tv t σ H b)(e:b=c):Tv t σ H c:=e ▸ h
theorem Ai {fld:aae}{pt:W}:(!decide (∃n∈fld,ay pt=(n:Int)))=!decide (Fits fld [] pt):=by
 congr 1;rw[Zf];exact⟨λ⟨n,h1,h2⟩=>⟨n,h2,h1,λ_ z=>by cases z⟩,λ⟨n,h1,h2,_⟩=>⟨n,h2,h1⟩⟩
theorem zM {fld acc:aae}{pt:W}{x:Nat}(h:acc.getLast?=some x):(!decide (∃n∈fld,ay pt=(n:Int))||(true&&decide (ay pt<=((x:Nat):Int))))=!decide (Fits fld acc pt):=by
 rw[Bool.true_and,X8];simp only[Yu,Yl,XB,Yb];constructor
 · rintro (z|z) ⟨n,h1,h2,h3⟩
   · exact z ⟨n,h2,h1⟩
   · have:=h3 x h;omega
 · intro z;by_cases q:∃n∈fld,ay pt=(n:Int)
   · obtain⟨n,h1,h2⟩:=q;refine .inr ?_;by_cases q2:ay pt<=((x:Nat):Int)
     · exact q2
     · exact absurd ⟨n,h2,h1,λy hy=>by rw[h] at hy;injection hy with hy;omega⟩ z
   · exact .inl q
theorem GY:Str.ofString ","=st [44]:=by rw[kW];rfl
section
variable {P:Program}{w:World}{K:aaf}{mg:aah}{base:Heap}
def uW (K:aaf) (CW CF:Addr):Sp:=λvs H Q E=>∃(a f:Addr) (fd:aae) (e:Nat) (l:List Word) (pl:Nat),vs=[.ref a,.ref f]/\aT K CW H a e l pl/\aP K H f (nV fd)/\(∀x∈fd,x<=24) /\
 (∀t,setIn e fd l=.error t->Rz CF E (t.kind:Nat) (t.place:Nat)) /\
 (∀s p r,setIn e fd l=.ok ((s,p),r)->∀H' x,aL a H H'->H x=none->H' x=some (.lst (nV s))->aT K CW H' a e r p->Q (.ref x) H')
theorem ua:aG ["words","field","numbers","part","number"] ["words","field"] (aw i_):=fs
theorem Ho {CW CF aW:Addr}(G:GW mg)(B:GB K mg aW)(T:CK K mg "Words" cw CW)(FL:Flt P w K mg base CF){k:Nat}(hk:2<=k)(FT:pD P w K mg base (eW P w CF) k CW "take" ["self"] (mX K CW CF))(FN:Fn P w K mg base bC k "number_of" ["word"] kO)
  {f:Addr}{fd:FuncData}(F:di K "take_set" "take_set" i_ f fd):a8 P w K mg base (eW P w CF) (k+1) f fd ["words","field"] (uW K CW CF):=by
 refine F.lM ua λLF A outer s H vs Q E hr h=>?_;obtain⟨a,fa,fld,e,l,pl,rfl,hW,hF,LW,q0,q1⟩:=h;refine⟨_,af (a7 2 ua.nd (bV ah))
  (af (da (yR aH) rfl (bJ (mq (kh FT T.cl (pv 0) hr (bQ aH rfl rfl)) bq)) (bo 3 ua.nd)
   (af (a7 4 ua.nd (aR FN hr bb (aa (pv 3) ah)))
   (af (aO (PW.pt (eG (aC eQ (pv 4) (pv 1) (by with_unfolding_all rfl)) (cQ (PW.pt (tm (aC kX (bh G.len (pv 2)) ax (aJ _)) (oB (aC b_ (pv 4) (bp aM (pv 2) (vX ql ax) (λ_ _=>rfl)) (aJ _)))))))) (ak (fM FL aH (hr.mono hk) (aa (a_ B.num) (aa (aV (pv 0) rfl) ah)))) aB)
   (ak (dR (qr PySem.F.plainAttrs_list PySem.F.slot_list_append PySem.F.type_list_append iz (pv 2) (aa (pv 4) ah)))))))
  (ak (az (pv 2)))),?_⟩
 refine⟨X1 _,λp hp=>?_⟩;have S0:au H (upd H p (.lst [])):=(au.refl H).laid hp;have Qa:=hW.same S0;obtain⟨dx,wl,m,np,ha⟩:=Qa.obj;refine⟨_,rfl,a,dx,_,rfl,ha,cH (by decide +kernel),a,e,l,pl,rfl,Qa,λz=>?_,λwd r hl H1 S1 L8 Mt=>?_⟩
 · subst z;exact q0 _ zP
 subst hl;rw[o4 LW] at q0 q1;refine⟨⟨_,rfl⟩,_,_,rfl,rfl,by decide +kernel,by rw[b8,XY];have:=Mt.1;omega,λsl NP=>?_⟩;rw[GY,lP (by decide)];have RA:a≠p:=ao (hW.obj.choose_spec.choose_spec.choose_spec.choose_spec) hp;have e1:H1 p=some (.lst []):=S1 p _ ae RA.symm;have S_:sl≠p:=by
  rintro rfl;rw[e1] at NP;cases NP
 have Ph:aL a H H1:=S0.x.trans S1;have RB:H sl=none:=Ph.free NP (by
  rintro rfl;rw[L8.obj.choose_spec.choose_spec.choose_spec.choose_spec] at NP;cases NP)
 have eP:List.map (λx=>V.str x) (List.map st (aX 44 [] (tx wd.w)))=sV (aX 44 [] (tx wd.w)):=by
  unfold sV;rw[XX];rfl
 rw[eP];unfold setM at q0 q1;have LN:(aX 44 [] (tx wd.w)).length<=70001:=by
  have:=eZ 44 (tx wd.w) [];have:=Mt.1;omega
 have Qb:∀v∈aX 44 [] (tx wd.w),v.length<=70000/\∀c∈v,c < 128:=λv hv=>by
  obtain⟨z1,z2⟩:=dW 44 (tx wd.w) [] v hv;refine⟨by simp at z1;have:=Mt.1;omega,λc hc=>?_⟩;rcases z2 c hc with z|z
  · cases z
  · exact Mt.2 c z
 generalize aX 44 [] (tx wd.w)=ps at q0 q1 LN Qb;obtain⟨dh,wh,mh,nh,Wq⟩:=hW.obj;refine⟨sl,rfl,⟨_,aP.of ae⟩,df (K:=K) (a:=sl) (xs:=sV ps) (λi σ H'=>∃(v3 v4:Option V) (acc:aae),σ=[some (.ref a),some (.ref fa),some (.ref p),v3,v4]/\aL a H H'/\aT K CW H' a e r wd.at_ /\
   H' p=some (.lst (nV acc))/\H' sl=some (.lst (sV ps))/\acc.length<=i/\i<=ps.length/\jk fld (ps.drop i) acc=jk fld ps [])
  ⟨none,none,[],rfl,Ph.laid RB,L8.same ((au.refl H1).laid NP),by rw[aq S_.symm];exact e1,ae,XC _,X1 _,rfl⟩ (λi σ H' _ ⟨_,_,_,_,_,_,_,z,_⟩=>aP.of z) ?_ ?_⟩
 · rintro i x σ H' hi ⟨v3,v4,acc,rfl,SX,Mu,e2,e3,Qc,LM,hc⟩;have LM:i < ps.length:=by
    have:=(XH.mp hi).1
    rwa [dI] at this
   have hx:x=.str (st ps[i]):=by
    rw[BS (XD LM)] at hi;exact (X7 hi).symm
   subst hx;have Ta:=Qb ps[i] (Zk LM);rw[YR LM] at hc;generalize ps[i]=pt at hc Ta;have hc:(if Fits fld acc pt then jk fld (ps.drop (i+1)) (acc++[(ay pt).toNat]) else none)=jk fld ps []:=hc;obtain⟨MB,wl',m',np',Q5⟩:=Mu.obj;refine cB (gq (wd:=pt) (ag rfl) Ta) ?_;have Oe:=SX.seq Wq hF;have fail:¬Fits fld acc pt->Rz CF E 4 (wd.at_:Nat):=λz=>by
    rw[Xu z] at hc;rw[←hc] at q0;exact q0 _ rfl
   dsimp only;refine aS (b:=!decide (Fits fld acc pt)) ?_ (λh=>?_) (λh=>?_)
   · cases hl:acc.getLast? with
     |none =>
      have:acc=[]:=by simpa using hl
      subst this;refine yl (gK (aI (mG (ag rfl) (ag rfl) (.inl Oe) rfl (fW fld))) λ_=>qE (c:=false) (jy (aU (ag rfl) (.inl (aP.of e2))) aD) λz=>absurd z (by decide)) ?_;rw[Bool.and_false,ZI,←Ai,←nY];rfl
     |some y =>
      have LP:0 < acc.length:=by
       cases acc with
       |nil=>cases hl
       |cons _ _=>exact Nat.succ_pos _
      refine yl (gK (aI (mG (ag rfl) (ag rfl) (.inl Oe) rfl (fW fld))) λ_=>qE (jy (aU (ag rfl) (.inl (aP.of e2))) aD) λz=>jy (ag rfl) (aZ (ag rfl) (tZ aD) (aP.of e2) (E_ hl))) ?_;rw[←zM hl,←nY,aN];rw[show decide ((acc.length:Int) > 0)=true from X9 (by omega)];rfl
   · exact (bf (ag rfl) Q5 T.cl (T.no _ (by simp)) bM) _ ⟨4,_,rfl,fail (by simpa using h)⟩
   · have Pj:Fits fld acc pt:=by simpa using h
     rw[Xv Pj] at hc;obtain⟨n,hn,_⟩:=Pj;have en:(ay pt).toNat=n:=by omega
     rw[en] at hc;have eA:nV acc++[V.int (n:Nat)]=nV (acc++[n]):=by
      unfold nV;rw[XO];rfl
     rw[hn];refine⟨_,rfl,.inl ⟨rfl,_,aP.of e2⟩,_,rfl,p,_,_,rfl,rfl,e2,by rw[aN,XY];omega,?_⟩;rw[eA];exact⟨_,_,acc++[n],rfl,SX.laid hp,Mu.put e2 Gh,ae,by rw[aq S_];exact e3,by rw[XS];simp;omega,LM,hc⟩
 · rintro σ H' ⟨v3,v4,acc,rfl,SX,Mu,e2,e3,Qc,LM,hc⟩;rw[dI,Zl] at hc;have hc:some acc=jk fld ps []:=hc;rw[←hc] at q1;exact⟨_,rfl,q1 _ _ _ rfl _ _ SX hp e2 Mu⟩
end
theorem jN {C:Addr}{E:XK}{tp:TE}{D:Ends}{σ:L2.St}{H:Hp}{k p:Int}(h:Ev tp σ H (.int p))(q:Rz C E k p):Ks C E (cO (tC (.int k)) (cO tp eV)) D σ H:=h _ ⟨k,p,rfl,q⟩
section
variable {P:Program}{w:World}{K:aaf}{mg:aah}{base:Heap}
theorem mz {CW CF:Addr} {H:Hp} {Q:VK} {E:XK} {a t:Addr} {e:Nat} {l:List Word} {pl:Nat} {s:String} (hp:plainT s=true) (hW:aT K CW H a e l pl) (hT:bZ K H t [V.str (Str.ofString s)]) (q0:∀x,must e s l=.error x->Rz CF E (x.kind:Nat) (x.place:Nat))
  (q1:∀r,must e s l=.ok r->∀H' v NW,aL a H H'->aT K CW H' a e r NW->Q v H'):qf K CW CF [.ref a,.ref t] H Q E:=by
 have one:∀wd:Word,nq [s] wd↔wd.w=ascii s:=λwd=>by
  rw[←bg _ hp];unfold nq;exact⟨λ⟨x,h1,h2⟩=>by rw[XI] at h1;subst h1;exact h2,λh=>⟨s,List.mem_singleton_self s,h⟩⟩
 refine⟨a,t,[s],e,l,pl,rfl,hW,hT,λz=>?_,λwd r hl hn=>?_,λwd r hl ho H' S h'=>?_⟩
 · subst z;exact q0 _ CU
 · subst hl;refine q0 ⟨3,wd.at_⟩ ?_;rw[rQ,Xu (λz=>hn ((one wd).mpr z))]
 · subst hl;refine q1 r ?_ H' _ _ S h';rw[rQ,Xv ((one wd).mp ho)]
def E3 (K:aaf)(CW CF:Addr)(a:Addr)(e:Nat)(H:Hp)(Q:VK)(E:XK)(x:Got):Prop:=(∀t,x=.error t->Rz CF E (t.kind:Nat) (t.place:Nat)) /\
 ∀s r,x=.ok (s,r)->∀H' y pl,aL a H H'->lr H' y s->aT K CW H' a e r pl->Q (.ref y) H'
def Bi (K:aaf)(CW CF:Addr):Sp:=λvs H Q E=>∃(a f:Addr) (fd:aae) (k e:Nat) (l:List Word) (pl:Nat),vs=[.ref a,.ref f,.int (k:Nat)]/\aT K CW H a e l pl/\aP K H f (nV fd)/\(∀x∈fd,x<=24)/\E3 K CW CF a e H Q E (yc e k fd l)
theorem AB:aG ["words","field","size","numbers"] ["words","field","size"] (aw jg):=fs
theorem HF {CW CF aW:Addr}(G:GW mg)(B:GB K mg aW)(T:CK K mg "Words" cw CW)(FL:Flt P w K mg base CF){k:Nat}(hk:2<=k)(FS:Fn P w K mg base (eW P w CF) k "take_set" ["words","field"] (uW K CW CF))
  {f:Addr}{fd:FuncData}(F:di K "take_box" "take_box" jg f fd):a8 P w K mg base (eW P w CF) (k+1) f fd ["words","field","size"] (Bi K CW CF):=by
 refine F.lM AB λLF A outer s H vs Q E hr h=>?_;obtain⟨a,fa,fld,sz,e,l,pl,rfl,hW,hF,LW,q0,q1⟩:=h;refine⟨_,af (a7 3 AB.nd (aR FS hr (bQ aH rfl rfl) (aa (pv 0) (aa (pv 1) ah))))
  (af (aO (aC nX (bh G.len (pv 3)) (pv 2) (aJ _)) (ak (fM FL aH (hr.mono hk) (aa (a_ B.num) (aa (aV (pv 0) rfl) ah)))) aB)
  (ak (az (bV (aa (pv 3) ah))))),?_⟩
 unfold yc at q0 q1;refine⟨_,rfl,_,rfl,a,fa,fld,e,l,pl,rfl,hW,hF,LW,λt ht=>?_,λst p r Mi H1 x S1 hx Mv L8=>?_⟩
 · rw[ht] at q0;exact q0 _ rfl
 rw[Mi] at q0 q1;obtain⟨P_,Rx,m1,Ry,Me⟩:=L8.obj;obtain⟨_,_,wd,_,LN,_⟩:=de LW Mi;refine aS (jy (aU (ag rfl) (.inl (aP.of Mv))) (ag rfl)) (λh=>?_) (λh=>?_)
 · rw[aN] at h;have h:=XQ h;have q0:=q0 ⟨4,p⟩ (by show (if sz<=st.length then _ else _)=_;rw[Xu (by omega)]);exact (bf (ag rfl) Me T.cl (T.no _ (by simp)) bM) _ ⟨4,_,rfl,q0⟩
 · rw[aN] at h;have h:=Yd h;have q1:=q1 [st] r (by show (if sz<=st.length then _ else _)=_;rw[Xv (by omega)]);refine⟨_,rfl,(by show 1<=sizeLine;decide),λy hy=>q1 _ y p (λb u z n=>?_) ⟨[x],ae,.cons ?_ .nil⟩ (L8.same ((au.refl H1).laid hy))⟩
   · have:=S1 b u z n;rw[aq (ao this hy)];exact this
   · rw[aq (ao Mv hy)];exact Mv
theorem bH.JO {fd s:aae}(g:bH fd s)(h:∀x∈fd,x<=24):s.length<=25:=by
 have:=h_ (m:=List.range 25) g.rise.nodup λx hx=>Zh.mpr (by have:=h x (g.sub x hx);omega);simpa using this
def A2 (K:aaf)(CW CF:Addr):Sp:=λvs H Q E=>∃(a f:Addr) (fd:aae) (k e:Nat) (l:List Word) (pl:Nat),vs=[.ref a,.ref f,.int (k:Nat)]/\aT K CW H a e l pl/\aP K H f (nV fd)/\(∀x∈fd,x<=24)/\E3 K CW CF a e H Q E (xG e k fd l)
theorem pZ:aG ["words","field","size","bankers","others","number"] ["words","field","size"] (aw iZ):=fs
theorem HB {CW CF aW:Addr}(G:GW mg)(B:GB K mg aW)(T:CK K mg "Words" cw CW)(FL:Flt P w K mg base CF){k:Nat}(hk:2<=k)(FS:Fn P w K mg base (eW P w CF) k "take_set" ["words","field"] (uW K CW CF))(FO:pD P w K mg base (eW P w CF) k CW "take_one_of" ["self","known"] (qf K CW CF))
  {f:Addr}{fd:FuncData}(F:di K "take_key" "take_key" iZ f fd):a8 P w K mg base (eW P w CF) (k+1) f fd ["words","field","size"] (A2 K CW CF):=by
 refine F.lM pZ λLF A outer s H vs Q E hr h=>?_;obtain⟨a,fa,fld,sz,e,l,pl,rfl,hW,hF,LW,q0,q1⟩:=h;refine⟨_,af (qj (i:=3) pZ.nd rfl (Or.inr rfl) (aR FS hr (bQ aH rfl rfl) (aa (pv 0) (aa (pv 1) ah))))
  (af (aO (aC kX (bh G.len (pv 3)) (bG fJ (pv 2) ax) (aJ _)) (ak (fM FL aH (hr.mono hk) (aa (a_ B.num) (aa (aV (pv 0) rfl) ah)))) aB)
  (af (dR (kZ FO T.cl (pv 0) hr (bQ aH rfl rfl) (aa (dq (aa bq ah)) ah)))
  (af (a7 4 pZ.nd (aR FS hr (bQ aH rfl rfl) (aa (pv 0) (aa (pv 1) ah))))
  (af (aO (PW.pt (eG (hU (bY (AH rfl) (by rfl) B.any (by decide +kernel) (aa (fA (te:=kK (Gy K false) (cI 5) (cI 3)) rfl pZ.nd (bJ (pv 4)) (bz (own:=[("number",5)]) rfl) (λ_ _ _ _ _=>bo 5 pZ.nd) (λ_ _ _ _ _=>cz)
    (λ_ _ _ _ _=>ft gg (pv 5) (pv 3) (by with_unfolding_all rfl))) ah)))
    (cQ (aC nX (bG eJ (bh G.len (pv 3)) (bh G.len (pv 4))) (pv 2) (aJ _))))) (ak (fM FL aH (hr.mono hk) (aa (a_ B.num) (aa (aV (pv 0) rfl) ah)))) aB)
  (ak (az (bV (aa (pv 3) (aa (pv 4) ah))))))))),?_⟩
 unfold xG at q0 q1;obtain⟨d0,w0,m0,n0,L_⟩:=hW.obj;refine⟨_,rfl,_,rfl,a,fa,fld,e,l,pl,rfl,hW,hF,LW,λt ht=>?_,λsa p r Tb H1 x S1 hx Mv L8=>?_⟩
 · rw[ht] at q0;exact q0 _ rfl
 rw[Tb] at q0 q1;obtain⟨P_,Rx,m1,Ry,Me⟩:=L8.obj;obtain⟨ga,_⟩:=de LW Tb;have q0:∀t,r_ e sz fld sa p r=.error t->Rz CF E (t.kind:Nat) (t.place:Nat):=q0;have q1:∀s u,r_ e sz fld sa p r=.ok (s,u)->_:=q1;unfold r_ at q0 q1;have Tc:x≠a:=(ao L_ hx).symm;refine aS (jy (aU (ag rfl) (.inl (aP.of Mv))) (qu (ag rfl) aD)) (λh=>?_) (λh=>?_)
 · rw[aN] at h;have h:=XQ h;rw[Xu (by omega)] at q0;exact (bf (ag rfl) Me T.cl (T.no _ (by simp)) bM) _ ⟨4,_,rfl,q0 _ rfl⟩
 rw[aN] at h;have h:=Yd h;rw[Xv (by omega)] at q0 q1;refine⟨_,rfl,a,P_,_,rfl,Me,cH (by decide +kernel),(by show 1<=sizeLine;decide),λt ht=>?_⟩;have St:au H1 (upd H1 t (.tup [V.str (Str.ofString "with")])):=(au.refl H1).laid ht;show eV _ _ _;unfold eV;dsimp only [Yw];refine mz (s:="with") (by decide +kernel) (L8.same St) (bZ.of ae) (λy hy=>?_) (λm hm H2 v Ol S2 Nw=>?_)
 · rw[hy] at q0;exact q0 _ rfl
 rw[hm] at q0 q1;have q0:∀t,sA e sz fld sa m=.error t->Rz CF E (t.kind:Nat) (t.place:Nat):=q0;have q1:∀s u,sA e sz fld sa m=.ok (s,u)->_:=q1;unfold sA at q0 q1;have Qe:aL a H H2:=(S1.trans St.x).trans S2;have Wr:H2 x=some (.lst (nV sa)):=S2 _ _ (St _ _ Mv) Tc;refine⟨_,rfl,_,rfl,a,fa,fld,e,m,Ol,rfl,Nw,Qe.seq L_ hF,LW,λt ht=>?_,λsb p2 r2 MO H3 y S3 hy RC Oo=>?_⟩
 · rw[ht] at q0;exact q0 _ rfl
 rw[MO] at q0 q1;have q0:∀t,(if (∀x∈sb,¬x∈sa)/\sz<=sa.length+sb.length then (Except.ok ([sa,sb],r2):Got) else .error ⟨4,p2⟩)=.error t->Rz CF E (t.kind:Nat) (t.place:Nat):=q0;have q1:∀s u,(if (∀x∈sb,¬x∈sa)/\sz<=sa.length+sb.length then (Except.ok ([sa,sb],r2):Got) else .error ⟨4,p2⟩)=.ok (s,u)->_:=q1;obtain⟨gb,_⟩:=de LW MO;have Qg:H3 x=some (.lst (nV sa)):=S3 _ _ Wr Tc;have Qh:aL a H H3:=Qe.trans S3;obtain⟨dx3,wl3,m3,np3,Ws⟩:=Oo.obj;have lb:sb.length<=25:=gb.JO LW;refine⟨_,rfl,y,rfl,⟨_,aP.of RC⟩,λD hD=>iH (K:=K) (a:=y) (xs:=nV sb) (λi H'=>au H3 H'/\H' D=some (.lst ((sb.take i).map λn=>V.bl (decide (n∈sa))))) ⟨(au.refl H3).laid hD,ae⟩ (λi H' _ h=>aP.of (h.1 _ _ RC)) ?_ ?_⟩
 · rintro i v H' hi ⟨k1,k2⟩;obtain⟨n,hn,rfl⟩:∃n,sb[i]?=some n/\V.int (n:Nat)=v:=by
    unfold nV at hi;rw[Xy] at hi;exact X5.mp hi
   refine⟨rfl,?_⟩;refine (mG (neg:=false) (ag rfl) (ag rfl) (.inl (aP.of (k1 _ _ Qg))) rfl (fW sa)) _ ⟨_,k2,?_,?_⟩
   · rw[Xs,XT,XY];omega
   · refine⟨λb u z=>?_,?_⟩
     · rw[aq (ao z hD)];exact k1 b u z
     · have e1:oh (V.int (n:Nat)) (nV sa)=decide (n∈sa):=by
        rw[nY,Zf]
        exact⟨λ⟨m,h1,h2⟩=>by have:n=m:=by omega
                             subst this;exact h1,λh=>⟨n,h,rfl⟩⟩
       rw[ae,take_snoc hn,XO];show some (HO.lst (_++[V.bl (oh (V.int (n:Nat)) (nV sa))]))=_;rw[e1];rfl
 · rintro H' ⟨k1,k2⟩;have k2:H' D=some (.lst ((sb.take (nV sb).length).map λn=>V.bl (decide (n∈sa)))):=k2;rw[aN,Yr] at k2;refine⟨D,sb.map λn=>decide (n∈sa),rfl,aP.of (by rw[k2,XX];rfl),_,rfl,?_⟩;have eA:((sb.map λn=>decide (n∈sa)).any id)=!decide (∀x∈sb,¬x∈sa):=by
    rw[X8,ZR];simp
   rw[eA];have NX:=k1 _ _ Qg;have RD:=k1 _ _ RC;have Qi:=k1 _ _ Ws;have Qj:=Oo.same k1;refine gH (λh=>?_) (λh=>?_)
   · have h:¬∀x∈sb,¬x∈sa:=by simpa using h
     rw[Xu (λz=>h z.1)] at q0;refine pQ ?_;exact jN (bf (ag rfl) Qi T.cl (T.no _ (by simp)) bM) (q0 _ rfl)
   · have LQ:∀x∈sb,¬x∈sa:=by simpa using h
     refine aS (jy (jO (aU (ag rfl) (.inl (aP.of NX))) (aU (ag rfl) (.inl (aP.of RD)))) (ag rfl)) (λh=>?_) (λh=>?_)
     · rw[aN,aN] at h;have h:=XQ h;rw[Xu (λz=>by have:=z.2;omega)] at q0;exact jN (bf (ag rfl) Qi T.cl (T.no _ (by simp)) bM) (q0 _ rfl)
     · rw[aN,aN] at h;have h:=Yd h;rw[Xv ⟨LQ,by omega⟩] at q1;refine⟨_,rfl,_,rfl,(by show 2<=sizeLine;decide),λu hu=>q1 _ _ rfl _ u p2 (λb o z n=>?_) ⟨[x,y],ae,.cons ?_ (.cons ?_ .nil)⟩ (Qj.same ((au.refl H').laid hu))⟩
       · have:=k1 b o (Qh b o z n);rw[aq (ao this hu)];exact this
       · rw[aq (ao NX hu)];exact NX
       · rw[aq (ao RD hu)];exact RD
end
theorem Aw {e:Nat}{h:aae}{t acc:aad}{l:List Word}:jo e (h::t) acc l=match (if 0 < acc.length then must e "/" l else .ok l) with
  |.error x=>.error x
  |.ok m=>match setIn e h m with
   |.error x=>.error x
   |.ok s=>jo e t (acc++[s.1.1]) s.2:=rfl
section
variable {P:Program}{w:World}{K:aaf}{mg:aah}{base:Heap}
def Hy (K:aaf) (CW CF:Addr):Sp:=λvs H Q E=>∃(a f:Addr) (fs:aad) (e:Nat) (l:List Word) (pl:Nat),vs=[.ref a,.ref f]/\aT K CW H a e l pl/\bD K H f fs/\fs.length<=24/\(∀fd∈fs,∀x∈fd,x<=24)/\E3 K CW CF a e H Q E (jo e fs [] l)
theorem Cv:aG ["words","fields","sets","field"] ["words","fields"] (aw j_):=fs
theorem IH {CW CF aW:Addr}(G:GW mg)(B:GB K mg aW)(T:CK K mg "Words" cw CW)(FL:Flt P w K mg base CF){k:Nat}(hk:2<=k)(FS:Fn P w K mg base (eW P w CF) k "take_set" ["words","field"] (uW K CW CF))(FO:pD P w K mg base (eW P w CF) k CW "take_one_of" ["self","known"] (qf K CW CF))
  {f:Addr}{fd:FuncData}(F:di K "take_on" "take_on" j_ f fd):a8 P w K mg base (eW P w CF) (k+1) f fd ["words","fields"] (Hy K CW CF):=by
 refine F.lM Cv λLF A outer s H vs Q E hr h=>?_;obtain⟨a,fa,fs,e,l,pl,rfl,hW,⟨MD,Qk,Ql⟩,Nq,LW,q0,q1⟩:=h;refine⟨_,af (a7 2 Cv.nd (bV ah))
  (af (da (yR aH) rfl (bJ (pv 1)) (bo 3 Cv.nd)
   (af (aO (aC kX (bh G.len (pv 2)) ax (aJ _)) (ak (dR (kZ FO T.cl (pv 0) hr (bQ aH rfl rfl) (aa (dq (aa bq ah)) ah)))) aB)
   (ak (dR (qr PySem.F.plainAttrs_list PySem.F.slot_list_append PySem.F.type_list_append iz (pv 2) (aa (aR FS hr (bQ aH rfl rfl) (aa (pv 0) (aa (pv 3) ah))) ah))))))
  (ak (az (pv 2)))),?_⟩
 obtain⟨d0,w0,m0,n0,L_⟩:=hW.obj;have ML:MD.length=fs.length:=Paired.length Ql;refine⟨X1 _,λp hp=>?_⟩;have S0:au H (upd H p (.lst [])):=(au.refl H).laid hp;have Td:a≠p:=ao L_ hp;refine⟨_,rfl,fa,rfl,⟨_,S0.seq Qk⟩,df (K:=K) (a:=fa) (xs:=MD.map V.ref) (λi σ H'=>∃(v3:Option V) (acc:aad) (MW:List Addr) (l':List Word) (NW:Nat),σ=[some (.ref a),some (.ref fa),some (.ref p),v3]/\aL a H H'/\aT K CW H' a e l' NW /\
   H' p=some (.lst (MW.map V.ref))/\Paired (λb ns=>b≠p/\H' b=some (.lst (nV ns))) MW acc/\acc.length=i/\i<=fs.length/\jo e (fs.drop i) acc l'=jo e fs [] l)
  ⟨none,[],[],l,pl,rfl,S0.x,hW.same S0,ae,.nil,rfl,X1 _,rfl⟩ (λi σ H' _ ⟨_,_,_,_,_,_,SX,_⟩=>SX.seq L_ Qk) ?_ ?_⟩
 · rintro i x σ H' hi ⟨v3,acc,MW,l',NW,rfl,SX,Mu,e2,hP,Qc,LM,hc⟩;rw[Xy] at hi;obtain⟨fi,Wt,rfl⟩:=X5.mp hi;obtain⟨fl,NY,Wu⟩:=Paired.qR Ql Wt;have LM:i < fs.length:=(XH.mp NY).1;have hd:fs.drop i=fl::fs.drop (i+1):=by
    rw[YR LM];congr 1;exact X7 ((XD LM).symm.trans NY)
   rw[hd,Aw] at hc;have Wv:=LW fl (XZ NY);obtain⟨d1,w1,m1,n1,Me⟩:=Mu.obj;have O_:MW.length=acc.length:=Paired.length hP;dsimp only;refine aS (b:=decide (0 < acc.length)) (yl (jy (aU (ag rfl) (.inl (aP.of e2))) aD) ?_) (λh=>?goA) (λh=>?goB)
   · rw[Xs,O_,Zf];omega
   case' goA =>
    have h:=XQ h;rw[Xv h] at hc;refine⟨_,rfl,a,d1,_,rfl,Me,cH (by decide +kernel),(by show 1<=sizeLine;decide),λt ht=>?_⟩;have St:au H' (upd H' t (.tup [V.str (Str.ofString "/")])):=(au.refl H').laid ht;show eV _ _ _;unfold eV;dsimp only [Yw];refine mz (s:="/") (by decide +kernel) (Mu.same St) (bZ.of ae) (λy hy=>?_) (λm hm H2 v Ol S2 Nw=>?_)
    · rw[hy] at hc;exact q0 _ hc.symm
    rw[hm] at hc;have Oq:aL a H H2:=(SX.trans St.x).trans S2;have Qm:H2 p=some (.lst (MW.map V.ref)):=S2 _ _ (St _ _ e2) Td.symm;have Te:Paired (λb ns=>b≠p/\H2 b=some (.lst (nV ns))) MW acc:=Paired.d9 hP λb ns z=>⟨z.1,S2 _ _ (St _ _ z.2) (dE z.2 Me (by intro q;cases q))⟩;clear e2 hP Mu Me St S2 SX
   case' goB =>
    have h:=Yd h;rw[Xu h] at hc;obtain⟨H2,P8⟩:∃H2,H2=H':=⟨_,rfl⟩;obtain⟨m,hm⟩:∃m,m=l':=⟨_,rfl⟩;obtain⟨Ol,RE⟩:∃m,m=NW:=⟨_,rfl⟩;rw[←hm] at hc Mu;rw[←RE] at Mu;rw[←P8] at Mu e2 hP SX;rw[←P8];have Nw:=Mu;have Oq:=SX;have Qm:=e2;have Te:=hP
   all_goals
    dsimp only at hc;obtain⟨d2,w2,m2,n2,Pk⟩:=Nw.obj;refine⟨_,rfl,.inl ⟨rfl,_,aP.of Qm⟩,?_⟩;refine⟨_,rfl,_,rfl,a,fi,fl,e,m,Ol,rfl,Nw,Oq.seq L_ Wu,Wv,λt ht=>?_,λst q r Mi H3 x S3 hx Qg Oo=>?_⟩
    · rw[ht] at hc;exact q0 _ hc.symm
    rw[Mi] at hc;dsimp only at hc;have O4:x≠p:=(ao Qm hx).symm;have e3:H3 p=some (.lst (MW.map V.ref)):=S3 _ _ Qm Td.symm;refine⟨p,_,_,rfl,rfl,e3,by rw[Xs,XY];omega,?_⟩;refine⟨_,acc++[st],MW++[x],r,q,rfl,(Oq.trans S3).laid hp,Oo.put e3 EI,?_,?_,by simp[Qc],LM,hc⟩
    · rw[ae,XO];rfl
    · refine Paired.snoc (Paired.d9 Te λb ns z=>⟨z.1,?_⟩) ⟨O4,by rw[aq O4];exact Qg⟩;rw[aq z.1];exact S3 _ _ z.2 (dE z.2 Pk (by intro q;cases q))
 · rintro σ H' ⟨v3,acc,MW,l',NW,rfl,SX,Mu,e2,hP,Qc,LM,hc⟩;rw[Xs,ML,Zl] at hc;exact⟨_,rfl,q1 _ _ hc.symm _ _ NW SX ⟨MW,e2,Paired.d9 hP λb ns z=>z.2⟩ Mu⟩
end
section
variable {P:Program}{w:World}{K:aaf}{mg:aah}{base:Heap}
theorem EW {H:Hp} {fa:Addr} {p:aK} (o:Fg p) (h:bD K H fa p.fields):∃(as:List Addr) (b:Addr),aP K H fa (as.map V.ref)/\as.length=p.fields.length/\nU (as.map V.ref) 0=some (V.ref b)/\aP K H b (nV (p.fields.getD 0 []))/\∀x∈p.fields.getD 0 [],x<=24:=by
 obtain⟨as,h1,h2⟩:=h;have hl:0 < p.fields.length:=Yy.mpr o.ne;obtain⟨b,hb,hI⟩:=Paired.at2 h2 (XD hl);have eg:p.fields.getD 0 []=p.fields[0]:=by rw[Yc,XD hl];rfl
 refine⟨as,b,h1,Paired.length h2,?_,by rw[eg];exact hI,by rw[eg];exact o.hi _ (Zk hl)⟩;exact cu (j:=0) (by rw[Xy,hb];rfl)
def xI (K:aaf)(CW CF CP:Addr):Sp:=λvs H Q E=>∃(a b:Addr) (p:aK) (how e:Nat) (l:List Word) (pl:Nat),vs=[.ref a,.ref b,.int (how:Nat)]/\aT K CW H a e l pl/\dw K CP H b p/\Fg p/\E3 K CW CF a e H Q E (fD e p how l)
theorem zj:aG ["words","pool","how","size"] ["words","pool","how"] (aw gW):=fs
theorem DB {CW CF CP aW:Addr}(G:GW mg)(B:GB K mg aW)(TP:CK K mg "Pool" hX CP){k:Nat}(FO:Fn P w K mg base (eW P w CF) k "take_on" ["words","fields"] (Hy K CW CF))(FB:Fn P w K mg base (eW P w CF) k "take_box" ["words","field","size"] (Bi K CW CF))(FK:Fn P w K mg base (eW P w CF) k "take_key" ["words","field","size"] (A2 K CW CF))
  {f:Addr}{fd:FuncData}(F:di K "take_sets" "take_sets" gW f fd):a8 P w K mg base (eW P w CF) (k+1) f fd ["words","pool","how"] (xI K CW CF CP):=by
 refine F.lM zj λLF A outer s H vs Q E hr h=>?_;obtain⟨a,b,p,how,e,l,pl,rfl,hW,⟨dx,fa,hb,hF⟩,o,g⟩:=h;refine⟨_,af (aO (aC cp (pv 2) (a_ B.on) (aJ _)) (ak (az (aR FO hr (bQ aH rfl rfl) (aa (pv 0) (aa (aV (pv 1) rfl) ah))))) aB)
  (af (a7 3 zj.nd (bh G.len (aV (pv 1) rfl)))
  (af (aO (aC cp (pv 2) (a_ B.box) (aJ _)) (ak (az (aR FB hr (bQ aH rfl rfl) (aa (pv 0) (aa (bp aM (aV (pv 1) rfl) ax (λ_ _=>rfl)) (aa (pv 3) ah)))))) aB)
  (ak (az (aR FK hr (bQ aH rfl rfl) (aa (pv 0) (aa (bp aM (aV (pv 1) rfl) ax (λ_ _=>rfl)) (aa (pv 3) ah)))))))),?_⟩
 unfold fD at g;obtain⟨as,b0,h1,h2,h3,h4,h5⟩:=EW o hF;have Qn:∀{σ:L2.St},σ[1]?=some (some (V.ref b))->Ev (vn K (cI 1) "fields") σ H (.ref fa):=λz=>bf (ag z) hb TP.cl (TP.no _ (by simp)) mn;refine aS (aI (cj (ag rfl) aD)) (λh=>?_) (λh=>?_)
 · rw[aY] at h;have h:how=0:=by have:=YY h;omega
   rw[Xv h] at g;refine⟨_,rfl,Qn rfl _ ⟨a,fa,p.fields,e,l,pl,rfl,hW,hF,o.len,o.hi,g⟩⟩
 · rw[aY] at h;have h:¬how=0:=λz=>by rw[z] at h;cases h
   rw[Xu h] at g;refine cB (aU (Qn rfl) (.inl h1)) ?_;rw[Xs,h2];refine aS (aI (cj (ag rfl) aD)) (λh=>?_) (λh=>?_)
   · rw[aY] at h;have h:how=1:=by have:=YY h;omega
     rw[Xv h] at g;refine⟨_,rfl,(aZ (Qn rfl) aD h1 h3) _ ⟨_,rfl,⟨a,b0,_,_,e,l,pl,rfl,hW,h4,h5,g⟩⟩⟩
   · rw[aY] at h;have h:¬how=1:=λz=>by rw[z] at h;cases h
     rw[Xu h] at g;refine⟨_,rfl,(aZ (Qn rfl) aD h1 h3) _ ⟨_,rfl,⟨a,b0,_,_,e,l,pl,rfl,hW,h4,h5,g⟩⟩⟩
end
end Bw
namespace L2
open PySem PySem.Spec PyProof.Rows
theorem uA {prog:Program}{w:World}{A:Around}{a:Addr}{u0 u1 u2 uy:Value}{n:Nat}{E:aag}{Q:aag}{s:Shared}{o:Obj}(ho:s.heap.get? a=some o)(hc:o.cls=.type "tuple")(hd:o.data=.seq #[u0,u1,u2] n)
  {b0 b1 b2:Bool}(e0:SeqAt.EqAt A s u0 uy b0)(e1:SeqAt.EqAt A s u1 uy b1)(e2:SeqAt.EqAt A s u2 uy b2){j:Nat}(hj:(b0=true/\j=0)∨(b0=false/\((b1=true/\j=1)∨(b1=false/\b2=true/\j=2))))
  (q:Q (.int (j:Nat) s.toks) {s with toks:=s.toks+1}):wpAny (model prog w) A (Builtin.«tuple.index» {pos:=[.ref a,uy]}) (λfin s'=>∃v,fin=Fin.done (Flow.ret v)/\Q v s') E s:=by
 show wpAny _ _ (selfAndSome "tuple.index" "index" 1 3 {pos:=[.ref a,uy]} >>= _) _ E s;refine Xr (m:=selfAndSome "tuple.index" "index" 1 3 {pos:=[.ref a,uy]}) ?_;have h1:selfAndSome "tuple.index" "index" 1 3 {pos:=[.ref a,uy]}=pure (.ref a,[uy]):=by rfl
 rw[h1];refine Xz ?_;refine Xr (m:=Builtin.Tuple.tupleItemsOf (.ref a)) (tupleItemsOf_ (items:=#[u0,u1,u2]) ⟨_,ho,hc,n,hd⟩ ?_);refine Xr (m:=pure 0) (Xz ?_);refine Xr (m:=pure 3) (Xz ?_);refine Xr ?_;rw[Std.Legacy.Range.forIn_eq_forIn_range'];have hr:List.range' [:min 3 #[u0,u1,u2].size].start [:min 3 #[u0,u1,u2].size].size [:min 3 #[u0,u1,u2].size].step=[0,1,2]:=by
  show List.range' 0 ((min 3 3 - 0+1 - 1) / 1) 1=[0,1,2];decide
 rw[hr];have fin:∀(i:Nat),i=j->∀{R:ForInStep (Option PySem.Fin×Unit)->Shared->Prop},(∀v s',v=Value.int (j:Nat) s.toks->s'={s with toks:=s.toks+1}->R (.done (some (.done (.ret v)),())) s')->wpAny (model prog w) A (do let x ←retInt (i:Nat);pure (ForInStep.done (some x,()))) R E s:=λi hi R hR=>by
  subst hi;exact Xr (Xr (wpAny_mkInt (Xz (Xz (hR _ _ rfl rfl)))))
 rw[List.forIn_cons];refine Xr (Xr (e0 _ _ _ _ ?_));rcases hj with ⟨rfl,rfl⟩|⟨rfl,hj⟩
 · exact fin 0 rfl λv s' hv hs=>Xz (Xz ⟨v,rfl,by rw[hv,hs];exact q⟩)
 refine Xz ?_;show wpAny _ _ (forIn [1,2] _ _) _ _ _;rw[List.forIn_cons];refine Xr (Xr (e1 _ _ _ _ ?_));rcases hj with ⟨rfl,rfl⟩|⟨rfl,rfl,rfl⟩
 · exact fin 1 rfl λv s' hv hs=>Xz (Xz ⟨v,rfl,by rw[hv,hs];exact q⟩)
 refine Xz ?_;show wpAny _ _ (forIn [2] _ _) _ _ _;rw[List.forIn_cons];refine Xr (Xr (e2 _ _ _ _ ?_));exact fin 2 rfl λv s' hv hs=>Xz (Xz ⟨v,rfl,by rw[hv,hs];exact q⟩)
section
variable {X:Cx}
def IS (K:aaf):V->List V->Hp->VK->Prop:=λx xs H Q=>∃(a:Addr) (y0 y1 y2 y:V) (j:Nat),x=V.ref a/\xs=[y]/\bZ K H a [y0,y1,y2]/\dJ y=true/\[y0,y1,y2].all dJ=true /\
 ((sv y0 y=true/\j=0)∨(sv y0 y=false/\((sv y1 y=true/\j=1)∨(sv y1 y=false/\sv y2 y=true/\j=2))))/\Q (.int (j:Nat)) H
theorem DR:BW X "tuple.index" (IS X.K):=by
 intro pins s σ H x xs v us Q I rx QV h;obtain⟨a,y0,y1,y2,y,j,rfl,rfl,hs,fy,Nk,hj,q⟩:=h;cases rx;obtain⟨uy,rfl,ry⟩:=QV.one;obtain⟨LD,rv,⟨o,ho,hc,n,hd⟩,hz⟩:=I.tuple hs;have Ww:=rv;cases rv with
 |cons r0 rv=>cases rv with
  |cons r1 rv=>cases rv with
   |cons r2 rv =>
    cases rv;have key:=λ(A:Around) (u:Value) (hu:u∈_)=>gm (A:=A) (s:=s) ry fy Ww Nk u hu;have f0:dJ y0=true:=X0.mp Nk _ (by simp);have f1:dJ y1=true:=X0.mp Nk _ (by simp);have f2:dJ y2=true:=X0.mp Nk _ (by simp);rw[←lG r0 f0,←lG r1 f1,←lG r2 f2] at hj;exact YQ PySem.F.slot_tuple_index ⟨_,ho,hc⟩ PySem.F.entry_tuple_index
     (uA ho hc hd (key _ _ (by simp)) (key _ _ (by simp)) (key _ _ (by simp)) hj ⟨.int (j:Nat),H,I.tok _,⟨_,rfl⟩,q⟩) (PySem.F.args_tuple_index_2 _ _)
end
end L2
namespace Bw
open PySem PySem.Spec PyProof.Rows L2 Tote
section
variable {P:Program}{w:World}{K:aaf}{mg:aah}{base:Heap}
def Bf (K:aaf) (CW CF CP:Addr):Sp:=λvs H Q E=>∃(a b:Addr) (p:aK) (e:Nat) (l:List Word) (pl:Nat),vs=[.ref a,.ref b]/\aT K CW H a e l pl/\dw K CP H b p/\(l=[]->Rz CF E 3 (e:Nat)) /\
 (∀w r,l=w::r->ji p w.w=none->Rz CF E 3 (w.at_:Nat))/\(∀w r how,l=w::r->ji p w.w=some how->∀H',aL a H H'->aT K CW H' a e r w.at_->Q (.int (how:Nat)) H')
theorem Ge:aG ["words","pool"] ["words","pool"] (aw jh):=fs
theorem B9 {k:Tote.Kind}:oh (.str (st (cd (kindS k)))) [V.str (Str.ofString "order"),V.str (Str.ofString "any")]=(k==.order||k==.any):=by
 have:=BL (kn:=["order","any"]) (w:=cd (kindS k));rw[show [V.str (Str.ofString "order"),V.str (Str.ofString "any")]=(["order","any"].map λs=>V.str (Str.ofString s)) from rfl,this];cases k <;> decide
theorem Gg {CW CF CP aW:Addr}(B:GB K mg aW)(T:CK K mg "Words" cw CW)(TP:CK K mg "Pool" hX CP){k:Nat}(FO:pD P w K mg base (eW P w CF) k CW "take_one_of" ["self","known"] (qf K CW CF))
  {f:Addr}{fd:FuncData}(F:di K "take_how" "take_how" jh f fd):a8 P w K mg base (eW P w CF) (k+1) f fd ["words","pool"] (Bf K CW CF CP):=by
 refine F.lM Ge λLF A outer s H vs Q E hr h=>?_;obtain⟨a,b,p,e,l,pl,rfl,hW,⟨dx,fa,hb,hF⟩,q0,q1,q2⟩:=h;refine⟨_,af (aO (aC gg (aV (pv 1) rfl) (dq (aa bq (aa bq ah))) (by with_unfolding_all rfl))
   (ak (az (qr PySem.F.plainAttrs_tuple PySem.F.slot_tuple_index PySem.F.type_tuple_index DR (a_ B.JI) (aa (kZ FO T.cl (pv 0) hr (bQ aH rfl rfl) (aa (a_ B.JI) ah)) ah)))) aB)
  (af (dR (kZ FO T.cl (pv 0) hr (bQ aH rfl rfl) (aa (dq (aa bq ah)) ah)))
  (ak (az (a_ B.on)))),?_⟩
 obtain⟨d0,w0,m0,n0,L_⟩:=hW.obj;refine (bf (ag rfl) hb TP.cl (TP.no _ (by simp)) iR) _ ⟨(by show 2<=sizeLine;decide),λt ht=>⟨t,_,rfl,.inr (bZ.of ae),rfl,rfl,?_⟩⟩;have S0:au H (upd H t (.tup [V.str (Str.ofString "order"),V.str (Str.ofString "any")])):=(au.refl H).laid ht;have Qa:=hW.same S0;have Me:=S0 _ _ L_;refine⟨_,rfl,?_⟩;show if oh (.str (st (cd (kindS p.kind)))) [V.str (Str.ofString "order"),V.str (Str.ofString "any")]=true then _ else _;rw[B9];refine gH (λh=>?_) (λh=>?_)
 · have Pl:cT p=true:=h;have Ot:∀(x:String) (v:W),sv (V.str (Str.ofString x)) (V.str (st v))=decide (v=cd x):=λx v=>by
    show (Str.ofString x==st v)=_;rw[X8,Yk,XB,kW,jM];exact⟨λz=>z.symm,λz=>z.symm⟩
   refine⟨.inr (.inl ⟨rfl,B.Ip⟩),_,rfl,a,d0,_,rfl,Me,cH (by decide +kernel),a,aW,["on","box","key"],e,l,pl,rfl,Qa,B.yM _,q0,λwd r hl hn=>?_,λwd r hl ho H' S h'=>?_⟩
   · refine q1 wd r hl ?_;unfold ji;have no:∀x∈["on","box","key"],plainT x=true->¬wd.w=ascii x:=λx hx hp z=>hn ⟨x,hx,(bg _ hp).mpr z⟩;rw[Xu (no _ (by simp) (by decide +kernel)),Xu (λz=>no _ (by simp) (by decide +kernel) z.1),Xu (λz=>no _ (by simp) (by decide +kernel) z.1)]
   · have Tf:=bg (s:="on") wd.w (by decide +kernel);have Pn:=bg (s:="box") wd.w (by decide +kernel);have RF:=bg (s:="key") wd.w (by decide +kernel);have S2:aL a H H':=S0.x.trans S;have q2:=λhow hh=>q2 wd r how hl hh H' S2 h';unfold ji at q2;by_cases c0:wd.w=ascii "on"
     · rw[Xv c0] at q2;exact⟨aW,_,_,_,_,0,rfl,rfl,B.yM _,rfl,rfl,.inl ⟨by rw[Ot];exact X9 (Tf.mpr c0),rfl⟩,q2 0 rfl⟩
     · rw[Xu c0] at q2;have RG:¬tx wd.w=cd "on":=λz=>c0 (Tf.mp z);by_cases c1:wd.w=ascii "box"
       · rw[Xv ⟨c1,Pl⟩] at q2;exact⟨aW,_,_,_,_,1,rfl,rfl,B.yM _,rfl,rfl,.inr ⟨by rw[Ot];exact Yi RG,.inl ⟨by rw[Ot];exact X9 (Pn.mpr c1),rfl⟩⟩,q2 1 rfl⟩
       · rw[Xu (λz=>c1 z.1)] at q2;have Tg:¬tx wd.w=cd "box":=λz=>c1 (Pn.mp z);have N5:tx wd.w=cd "key":=by
          obtain⟨x,hx,hw⟩:=ho;simp only[Xx,Zg,or_false] at hx;rcases hx with rfl|rfl|rfl
          · exact absurd hw RG
          · exact absurd hw Tg
          · exact hw
         rw[Xv ⟨RF.mp N5,Pl⟩] at q2;exact⟨aW,_,_,_,_,2,rfl,rfl,B.yM _,rfl,rfl,.inr ⟨by rw[Ot];exact Yi RG,.inr ⟨by rw[Ot];exact Yi Tg,by rw[Ot];exact X9 N5,rfl⟩⟩,q2 2 rfl⟩
 · have Pl:cT p=false:=by
    unfold cT;simpa using h
   refine⟨_,rfl,a,d0,_,rfl,Me,cH (by decide +kernel),(by show 1<=sizeLine;decide),λt2 Wx=>?_⟩;have St:au H (upd (upd H t (.tup [V.str (Str.ofString "order"),V.str (Str.ofString "any")])) t2 (.tup [V.str (Str.ofString "on")])):=S0.trans ((au.refl _).laid Wx);show eV _ _ _;unfold eV;dsimp only [Yw];have one:∀wd:Word,nq ["on"] wd↔wd.w=ascii "on":=λwd=>by
    rw[←bg _ (by decide +kernel)];unfold nq;exact⟨λ⟨x,h1,h2⟩=>by rw[XI] at h1;subst h1;exact h2,λh=>⟨_,List.mem_singleton_self _,h⟩⟩
   refine⟨a,t2,["on"],e,l,pl,rfl,hW.same St,bZ.of ae,q0,λwd r hl hn=>?_,λwd r hl ho H' S h'=>?_⟩
   · refine q1 wd r hl ?_;unfold ji;rw[Xu (λz=>hn ((one wd).mpr z)),Xu (λz=>by rw[Pl] at z;cases z.2),Xu (λz=>by rw[Pl] at z;cases z.2)]
   · refine q2 wd r 0 hl ?_ H' (St.x.trans S) h';unfold ji;rw[Xv ((one wd).mp ho)]
end
end Bw
namespace L2
open PySem PySem.Spec PyProof.Rows
theorem vd {K:aaf}{a:Addr}{xs:List V}{g:TG}{tb:TS}{D:Ends}{σ:L2.St}{H:Hp}(Pv:Nat->L2.St->Hp->Prop)(h0:Pv 0 σ H)(hl:∀i σ H,i<=xs.length->Pv i σ H->aP K H a xs)
  (hs:∀i x σ H T,xs[i]?=some x->Pv i σ H->H T=none->g (.ref T) σ (upd H T (.tup [.int (i:Nat),x])) λσ2 H2=>tb {D with nx:=Pv (i+1),ct:=Pv (i+1),bk:=D.nx} σ2 H2)(hd:∀σ H,Pv xs.length σ H->D.nx σ H) :
  ∃W:Nat->Nat->L2.St->Hp->Prop,(∃m,W 0 m σ H)/\∀i m σ H,W i m σ H ->
   ((FU K a).stop i H/\D.nx σ H)∨((FU K a).go i H/\∃N:L2.St->Hp->Prop,(∀σ' H',N σ' H'->∃m',m' < m/\W (i+1) m' σ' H')/\∀x H',(FU K a).vZ i H x H'->g x σ H' λσ2 H2=>tb {D with nx:=N,ct:=N,bk:=D.nx} σ2 H2):=by
 refine⟨λi m σ H=>m=xs.length - i/\i<=xs.length/\Pv i σ H,⟨xs.length,by simp,X1 _,h0⟩,?_⟩;rintro i m σ H ⟨rfl,hi,p⟩;have q:=hl i σ H hi p;by_cases LI:i < xs.length
 · refine .inr ⟨⟨xs,xs[i],q,by simp[LI]⟩,Pv (i+1),λσ' H' p'=>⟨xs.length - (i+1),by omega,rfl,LI,p'⟩,λx H' y=>?_⟩;obtain⟨T,v,rfl,hT,rfl,hx⟩:=y;exact hs i v σ _ T (hx xs q) p hT
 · have e:i=xs.length:=by omega
   subst e;exact .inl ⟨⟨xs,q,XC _⟩,hd σ H p⟩
end L2
namespace Bw
open PySem PySem.Spec PyProof.Rows L2 Tote
section
variable {K:aaf}{CW CP:Addr}{H H':Hp}{a b:Addr}
theorem aL.lists {dx:Addr} {fs:List (Str×V)} {rs:aad} (S:aL a H H') (ha:H a=some (.ins CW dx fs)) (h:bD K H b rs):bD K H' b rs:=by
 obtain⟨as,h1,h2⟩:=h;exact⟨as,S.seq ha h1,Paired.d9 h2 λ_ _ z=>S.seq ha z⟩
theorem Bh {C dx C' MB:Addr}{fs Ma:List (Str×V)}(h:fs.length≠Ma.length):HO.ins C dx fs≠HO.ins C' MB Ma:=by
 intro z;injection z with _ _ z;exact h (by rw[z])
theorem dw.jB {dx:Addr}{v0 v1 v2 v3 v4:V}{p:aK}(h:dw K CP H b p)(S:aL a H H')(ha:H a=some (.ins CW dx (bT v0 v1 v2 v3 v4))):dw K CP H' b p:=by
 obtain⟨d,fa,h1,h2⟩:=h;exact⟨d,fa,S _ _ h1 (dE h1 ha (Bh (by show 4≠5;decide))),aL.lists S ha h2⟩
theorem cU.jB {dx:Addr}{v0 v1 v2 v3 v4:V}{ps:List aK}(h:cU K CP H b ps)(S:aL a H H')(ha:H a=some (.ins CW dx (bT v0 v1 v2 v3 v4))):cU K CP H' b ps:=by
 obtain⟨as,h1,h2⟩:=h;exact⟨as,S.seq ha h1,Paired.d9 h2 λ_ _ z=>dw.jB z S ha⟩
end
section
variable {P:Program}{w:World}{K:aaf}{mg:aah}{base:Heap}
def ui (K:aaf) (CW CF CP:Addr):Sp:=λvs H Q E=>∃(a b:Addr) (ps:List aK) (e:Nat) (l:List Word) (pl:Nat),vs=[.ref b,.ref a]/\aT K CW H a e l pl/\cU K CP H b ps/\(l=[]->Rz CF E 3 (e:Nat)) /\
 (∀w r,l=w::r->dP ps (tx w.w)=none->Rz CF E 5 (w.at_:Nat))/\(∀w r i,l=w::r->dP ps (tx w.w)=some i->∀H',aL a H H'->aT K CW H' a e r w.at_->Q (.int (i:Nat)) H')
theorem mB:aG ["pools","words","name","number","pool"] ["pools","words"] (aw gT):=fs
theorem BU {CW CF CP aW:Addr}(B:GB K mg aW)(T:CK K mg "Words" cw CW)(TP:CK K mg "Pool" hX CP)(FL:Flt P w K mg base CF){k:Nat}(hk:2<=k)(FT:pD P w K mg base (eW P w CF) k CW "take" ["self"] (mX K CW CF))
  {f:Addr}{fd:FuncData}(F:di K "take_pool" "take_pool" gT f fd):a8 P w K mg base (eW P w CF) (k+1) f fd ["pools","words"] (ui K CW CF CP):=by
 refine F.lM mB λLF A outer s H vs Q E hr h=>?_;obtain⟨a,b,ps,e,l,pl,rfl,hW,ME,q0,q1,q2⟩:=h;refine⟨_,af (a7 2 mB.nd (kh FT T.cl (pv 1) hr (bQ aH rfl rfl)))
  (af (da (yR aH) rfl (tT rfl B.enum (aa (pv 0) ah)) (k_ rfl (b9 (bo 3 mB.nd) (b9 (bo 4 mB.nd) i9)))
   (ak (aO (aC cp (aV (pv 4) rfl) (pv 2) (aJ _)) (ak (az (pv 3))) aB)))
  (ak (fM FL aH (hr.mono hk) (aa (a_ B.pool) (aa (aV (pv 1) rfl) ah))))),?_⟩
 obtain⟨d0,w0,m0,n0,L_⟩:=hW.obj;refine⟨_,rfl,a,d0,_,rfl,L_,cH (by decide +kernel),a,e,l,pl,rfl,hW,q0,λwd r hl H1 S1 L8 Mt=>?_⟩;have RH:=cU.jB ME S1 L_;obtain⟨as,hA,hP⟩:=RH;have q1:=q1 wd r hl;have q2:=λi=>q2 wd r i hl;generalize tx wd.w=nm at q1 q2;refine⟨_,rfl,b,_,rfl,hA,vd (K:=K) (a:=b) (xs:=as.map V.ref) (λi σ H'=>∃(v3 v4:Option V),σ=[some (.ref b),some (.ref a),some (.str (st nm)),v3,v4]/\au H1 H'/\∀j p,j < i->ps[j]?=some p->¬p.name=nm)
  ⟨none,none,rfl,au.refl H1,λj p hj=>absurd hj (Nat.not_lt_zero j)⟩ (λi σ H' _ ⟨_,_,_,S,_⟩=>S.seq hA) ?_ ?_⟩
 · rintro i x σ H' tt hi ⟨v3,v4,rfl,S2,MU⟩ hT;rw[Xy] at hi;obtain⟨ai,L5,rfl⟩:=X5.mp hi;obtain⟨p,hp,d,fa,MX,_⟩:=Paired.qR hP L5;have S3:au H1 (upd H' tt (.tup [.int (i:Nat),.ref ai])):=S2.trans ((au.refl H').laid hT);refine⟨tt,_,rfl,bZ.of ae,rfl,_,_,rfl,_,_,rfl,rfl,?_⟩;refine aS (aI (cj (bf (ag rfl) (S3 _ _ MX) TP.cl (TP.no _ (by simp)) lD) (ag rfl))) (λh=>?_) (λh=>?_)
   · have h:p.name=nm:=by
      have:=XQ h;injection this with this;exact jM.mp this
     refine⟨_,rfl,q2 i ?_ _ (S1.trans S3.x) (L8.same S3)⟩;unfold dP;rw[ZK];obtain⟨LM,Wy⟩:=XH.mp hp;refine⟨LM,by rw[Wy,h];exact beq_self_eq_true _,λj hj=>?_⟩;have:=MU j _ hj (XD (by omega));simpa using this
   · have h:¬p.name=nm:=λz=>by
      have:=Yd h;exact this (by rw[z])
     refine⟨_,_,rfl,S3,λj p' hj Po=>?_⟩;by_cases Wz:j=i
     · subst Wz;rw[hp] at Po;injection Po with Po;subst Po;exact h
     · exact MU j p' (by omega) Po
 · rintro σ H' ⟨v3,v4,rfl,S2,MU⟩;obtain⟨d1,w1,m1,n1,Me⟩:=L8.obj;dsimp only;refine jN (bf (ag rfl) (S2 _ _ Me) T.cl (T.no _ (by simp)) bM) (q1 ?_);unfold dP;rw[List.findIdx?_eq_none_iff];intro p hp;obtain⟨j,hj⟩:=List.mem_iff_getElem?.mp hp;have Ob:=(XH.mp hj).1;have:=MU j p (by rw[Xs,Paired.length hP];exact Ob) hj;simpa using this
end
def pC:Bool->Nat->aae->Option Nat
 |_,_,[]=>none
 |gap,p,c::r=>if ¬(32<=c/\c<=126) then some p else if c=32/\(gap=true∨r=[]) then some p else pC (c==32) (p+1) r
def vD (cs:aae):Option Nat:=if cs=[] then some 0 else pC true 0 cs
theorem tD:∀(l:Bytes) (gap:Bool) (p:Nat),gap=false∨l≠[]->badByte gap p l=pC gap p (l.map UInt8.toNat)
 |[],gap,p,h=>by
  have:gap=false:=by simpa using h
  subst this;rfl
 |c::r,gap,p,_=>by
  have Th:c=32↔c.toNat=32:=⟨λz=>by rw[z];rfl,λz=>jU z⟩;have elt:(c < 32∨126 < c)↔¬(32<=c.toNat/\c.toNat<=126):=by
   rw[UInt8.lt_iff_toNat_lt,UInt8.lt_iff_toNat_lt];show c.toNat < 32∨126 < c.toNat↔_;omega
  show (if c < 32∨126 < c then some p else if c=32 then (if gap=true then some p else if r.isEmpty=true then some p else badByte true (p+1) r) else badByte false (p+1) r) =
   if ¬(32<=c.toNat/\c.toNat<=126) then some p else if c.toNat=32/\(gap=true∨r.map UInt8.toNat=[]) then some p else pC (c.toNat==32) (p+1) (r.map UInt8.toNat)
  by_cases h1:c < 32∨126 < c
  · rw[Xv h1,Xv (elt.mp h1)]
  · rw[Xu h1,Xu (λz=>h1 (elt.mpr z))];by_cases h2:c=32
    · have Qo:=Th.mp h2;rw[Xv h2,Qo];by_cases h3:gap=true
      · rw[Xv h3,Xv ⟨rfl,.inl h3⟩]
      · rw[Xu h3];cases r with
        |nil=>rw[Xv (show ([]:Bytes).isEmpty=true from rfl),Xv ⟨rfl,.inr rfl⟩]
        |cons d r =>
         rw[Xu (by simp),Xu (by rintro⟨_,z|z⟩;exact h3 z;cases z)];exact tD (d::r) true (p+1) (.inr (by simp))
    · have Qo:¬c.toNat=32:=λz=>h2 (Th.mpr z);rw[Xu h2,Xu (λz=>Qo z.1)];have:(c.toNat==32)=false:=by simpa using Qo
      rw[this];exact tD r false (p+1) (.inl rfl)
theorem Dz (l:Bytes):badByte true 0 l=vD (l.map UInt8.toNat):=by
 unfold vD;cases l with
 |nil=>rfl
 |cons c r =>
  rw[Xu (by simp)];exact tD (c::r) true 0 (.inr (by simp))
theorem IQ {ns:aae}{i:Nat}(h:i < ns.length):nU (nV ns) ((i:Nat):Int)=some (.int (ns[i]:Nat)):=cu (by unfold nV;rw[Xy,XD h];rfl)
section
variable {P:Program}{w:World}{K:aaf}{mg:aah}{base:Heap}
def xS (K:aaf) (CF:Addr):Sp:=λvs H Q E=>∃(a:Addr) (cs:aae),vs=[.ref a]/\aP K H a (nV cs)/\(∀i,vD cs=some i->Rz CF E 2 (i:Nat))/\(vD cs=none->∀H',au H H'->Q .cb H')
theorem um:aG ["line","place","code"] ["line"] (aw fT):=fs
theorem Fd {CF aW:Addr}(G:GW mg)(B:GB K mg aW)(FL:Flt P w K mg base CF)
  {f:Addr}{fd:FuncData}(F:di K "check_line" "check_line" fT f fd):a8 P w K mg base (eW P w CF) 3 f fd ["line"] (xS K CF):=by
 refine F.lM um λLF A outer s H vs Q E hr h=>?_;obtain⟨a,cs,rfl,hS,q0,q1⟩:=h;refine⟨_,af (aO (aC cp (bh G.len (pv 0)) ax (aJ _)) (ak (fM FL aH hr (aa (a_ B.byte) (aa ax ah)))) aB)
  (ak (da (yR aH) rfl (tT rfl B.enum (aa (pv 0) ah)) (k_ rfl (b9 (bo 1 um.nd) (b9 (bo 2 um.nd) i9)))
   (af (aO (cG (cF b_ b_ ax (pv 2) ax)) (ak (fM FL aH hr (aa (a_ B.byte) (aa (pv 1) ah)))) aB)
   (ak (aO (PW.pt (tm (aC cp (pv 2) (a_ B.blank) (aJ _)) (oB (PW.pt (eG (aC gg (pv 1) (dq (aa ax (aa (bG fJ (bh G.len (pv 0)) ax) ah))) (by with_unfolding_all rfl))
    (cQ (aC cp (bp aM (pv 0) (bG fJ (pv 1) ax) (λ_ _=>rfl)) (a_ B.blank) (aJ _)))))))) (ak (fM FL aH hr (aa (a_ B.byte) (aa (pv 1) ah)))) aB))))),?_⟩
 refine aS (aI (cj (aU (ag rfl) (.inl hS)) aD)) (λh=>?_) (λh=>?_)
 · rw[aY,aN] at h;have h:cs=[]:=by
    have:=YY h;exact Zj.mp (by omega)
   exact jN aD (q0 0 (by unfold vD;rw[Xv h]))
 rw[aY,aN] at h;have LP:cs≠[]:=λz=>by rw[z] at h;cases h
 have eL:vD cs=pC true 0 cs:=by unfold vD;rw[Xu LP]
 rw[eL] at q0 q1;refine⟨_,rfl,a,_,rfl,hS,vd (K:=K) (a:=a) (xs:=nV cs) (λi σ H'=>∃(v1 v2:Option V) (gap:Bool),σ=[some (.ref a),v1,v2]/\au H H'/\(gap=true↔i=0∨cs[i - 1]?=some 32)/\pC gap i (cs.drop i)=pC true 0 cs)
  ⟨none,none,true,rfl,au.refl H,by simp,rfl⟩ (λi σ H' _ ⟨_,_,_,_,S,_⟩=>S.seq hS) ?_ ?_⟩
 · rintro i x σ H' tt hi ⟨v1,v2,gap,rfl,S2,hg,hc⟩ hT;have LM:i < cs.length:=by
    have:=(XH.mp hi).1
    rwa [aN] at this
   have hx:x=.int (cs[i]:Nat):=by
    unfold nV at hi;rw[Xy,XD LM] at hi;exact (X7 hi).symm
   subst hx;have Ti:cs[i]?=some cs[i]:=XD LM;rw[YR LM] at hc;have Ny:cs.drop (i+1)=[]↔i=cs.length - 1:=by
    rw[List.drop_eq_nil_iff];omega
   generalize QM:cs[i]=c at hc Ti;have hc:(if ¬(32<=c/\c<=126) then some i else if c=32/\(gap=true∨cs.drop (i+1)=[]) then some i else pC (c==32) (i+1) (cs.drop (i+1)))=pC true 0 cs:=hc;have S3:au H (upd H' tt (.tup [.int (i:Nat),.int (c:Nat)])):=S2.trans ((au.refl H').laid hT);refine⟨tt,_,rfl,bZ.of ae,rfl,_,_,rfl,_,_,rfl,rfl,?_⟩;refine aS (eY (cE aD (ag rfl) aD)) (λh=>?_) (λh=>?_)
   · simp only[Yl,YS,Yb] at h;rw[Xv (by omega)] at hc;exact jN (ag rfl) (q0 i hc.symm)
   simp only[Yo,XA,XB] at h;rw[Xu (by omega)] at hc;have go:c=32->(gap=true∨cs.drop (i+1)=[])->Rz CF E 2 (i:Nat):=λz1 z2=>by
    rw[Xv ⟨z1,z2⟩] at hc;exact q0 i hc.symm
   have on:∀H4,au H H4->¬(c=32/\(gap=true∨cs.drop (i+1)=[]))->∃(v1 v2:Option V) (gap:Bool),[some (V.ref a),some (V.int (i:Nat)),some (V.int (c:Nat))]=[some (V.ref a),v1,v2]/\au H H4/\(gap=true↔i+1=0∨cs[i+1 - 1]?=some 32)/\pC gap (i+1) (cs.drop (i+1))=pC true 0 cs:=λH4 S4 hn=>by
    rw[Xu hn] at hc;refine⟨_,_,(c==32),rfl,S4,?_,hc⟩;rw[show i+1 - 1=i by omega,Ti,Yk];constructor
    · intro z;exact .inr (by rw[z])
    · rintro (z|z)
      · omega
      · exact X7 z
   refine (aI (cj (ag rfl) aD)) _ ?_;refine gH (λh1=>?_) (λh1=>?_)
   · have h1:c=32:=by
      rw[aY] at h1;have:=YY h1;omega
     refine⟨_,rfl,(qu (aU (ag rfl) (.inl (S3.seq hS))) aD) _ ⟨(by show 2<=sizeLine;decide),λt ht=>⟨t,_,rfl,.inr (bZ.of ae),rfl,rfl,_,rfl,?_⟩⟩⟩;rw[aN];have S4:=S3.trans ((au.refl _).laid ht (o:=.tup [V.int 0,V.int ((cs.length:Int) - 1)]));have eI:oh (V.int (i:Nat)) [V.int 0,V.int ((cs.length:Int) - 1)]=decide (i=0∨i=cs.length - 1):=by
      show ((0:Int)==(i:Nat)||((cs.length:Int) - 1==(i:Nat)||false))=_;rw[X8];simp only[Yu,Yk,XB,ZI];omega
     show if oh (V.int (i:Nat)) [V.int 0,V.int ((cs.length:Int) - 1)]=true then _ else _;rw[eI];refine gH (λh2=>?_) (λh2=>?_)
     · refine pQ ?_;refine jN (ag rfl) (go h1 ?_);rcases XQ h2 with z|z
       · exact .inl (hg.mpr (.inl z))
       · exact .inr (Ny.mpr z)
     · have h2:¬(i=0∨i=cs.length - 1):=λz=>h2 (X9 z);have hi0:0 < i:=by omega
       refine aS (aI (cj (aZ (ag rfl) (qu (ag rfl) aD) (S4.seq hS) (by rw[show (((i:Nat):Int) - 1)=((i - 1:Nat):Int) by omega];exact IQ (by omega))) aD)) (λh3=>?_) (λh3=>?_)
       · refine jN (ag rfl) (go h1 (.inl (hg.mpr (.inr ?_))));rw[aY] at h3;have:=YY h3;rw[XD (by omega)];congr 1;omega
       · refine on _ S4 ?_;rintro⟨_,z|z⟩
         · rcases hg.mp z with z|z
           · omega
           · rw[XD (by omega)] at z;have z:=X7 z;rw[aY,z] at h3;cases h3
         · have:=Ny.mp z;omega
   · have h1:¬c=32:=λz=>by
      rw[aY,z] at h1;exact h1 rfl
     refine vt ?_;exact on _ S3 λz=>h1 z.1
 · rintro σ H' ⟨v1,v2,gap,rfl,S2,hg,hc⟩;rw[aN,Zl] at hc;exact q1 hc.symm H' S2
end
end Bw
namespace L2
open PySem PySem.Spec PyProof.Rows
theorem oE {K:aaf}{a:Addr}{xs:List V}{g:TG}{te:TE}{vs:aae}{σ:St}{H1:Hp}{D:Addr}{Qd:Hp->Prop}(F:Nat->V->Hp->Prop)(mono:∀i y H H',(∀b u,b≠D->H b=some u->H' b=some u)->F i y H->F i y H')(hA:aP K H1 a xs)(hD:H1 D=none)(hz:xs.length<=100000)
  (hs:∀i x H',xs[i]?=some x->au H1 H'->(∃acc,H' D=some (.lst acc))->∀R:VK,(∀y H4,au H' H4->F i y H4->R y H4)->g x (wipe σ vs) H' λσ2 H2=>wipe σ2 vs=wipe σ vs/\te σ2 H2 R)
  (hd:∀ys H',au H1 H'->H' D=some (.lst ys)->ys.length=xs.length->(∀i y,ys[i]?=some y->F i y H')->Qd H') :
  ∃W:Nat->Nat->Hp->Prop,(∃m,W 0 m (upd H1 D (.lst [])))/\∀i m H,W i m H ->
   ((AD K a).stop i H/\Qd H)∨((AD K a).go i H/\∃Nx:Hp->Prop,(∀H',Nx H'->∃m',m' < m/\W (i+1) m' H')/\∀x H',(AD K a).vZ i H x H'->g x (wipe σ vs) H' λσ2 H2=>wipe σ2 vs=wipe σ vs/\B6 σ2 H2 λb H3 =>
    if b=true then te σ2 H3 λy H4=>∃acc,H4 D=some (.lst acc)/\acc.length < sizeLine/\Nx (upd H4 D (.lst (acc++[y]))) else Nx H3):=by
 refine iH (tt:=B6) (xs:=xs) (λi H'=>au H1 H'/\∃ys,H' D=some (.lst ys)/\ys.length=i/\∀j y,ys[j]?=some y->F j y H') ⟨(au.refl H1).laid hD,[],ae,rfl,λj y h=>by simp at h⟩ (λi H' _ h=>h.1.seq hA) ?_ ?_
 · rintro i x H' hx ⟨S,ys,e,l,f⟩;refine hs i x H' hx S ⟨ys,e⟩ _ λy H4 S4 fy=>⟨ys,S4 _ _ e,?_,?_,ys++[y],ae,by rw[XS,l];rfl,?_⟩
   · have:=(XH.mp hx).1;rw[XY];omega
   · intro b u z;rw[aq (ao z hD)];exact S4 b u (S b u z)
   · have up:∀b u,b≠D->H4 b=some u->(upd H4 D (.lst (ys++[y]))) b=some u:=λb u n z=>by rw[aq n];exact z
     intro j v h;by_cases z:j < ys.length
     · rw[List.getElem?_append_left z] at h;exact mono j v _ _ (λb u n z=>up b u n (S4 b u z)) (f j v h)
     · rw[aab (by omega)] at h;have:j - ys.length=0:=by
        have:=(XH.mp h).1;rw[YH] at this;omega
       rw[this] at h;cases h;have:j=i:=by omega
       subst this;exact mono j _ _ _ up fy
 · rintro H' ⟨S,ys,e,l,f⟩;exact hd ys H' S e l f
theorem qC {xs:List V}{n:Nat}:fC xs (some ((n:Nat):Int)) none=xs.drop n:=by
 unfold fC;rw[HT.i6,HT.iB];by_cases h:n<=xs.length
 · rw[Zu h];exact Yq (by rw[Ym];omega)
 · rw[Nat.min_eq_right (by omega),Zo (by omega:xs.length<=n),Zl];simp
theorem p_ {xs:List V}{n:Nat}:fC xs none (some ((n:Nat):Int))=xs.take n:=by
 unfold fC;rw[HT.i6,HT.iB,List.drop_zero,Nat.sub_zero];by_cases h:n<=xs.length
 · rw[Zu h]
 · rw[Nat.min_eq_right (by omega),Yq (XC _),Yq (by omega)]
end L2
namespace Bw
open PySem PySem.Spec PyProof.Rows L2 Tote
structure GN (mg:aah):Prop where
 range:mg "range"=none
 list:mg "list"=none
 tuple:mg "tuple"=none
 sorted:mg "sorted"=none
 sum:mg "sum"=none
 runners:Gv mg "MOST_RUNNERS" (.int 24)
 zip:mg "zip"=none
 set:mg "set"=none
theorem zl (l:aae)(x:Nat):product (l++[x])=product l*x:=by
 unfold product;rw[List.foldl_append];rfl
theorem BB {n:Nat}{l:aae}:oh (V.int (n:Nat)) (nV l)=l.contains n:=by
 rw[nY,X8,XB,YB,XB]
 exact⟨λ⟨m,h1,h2⟩=>by have:n=m:=by omega
                      subst this;exact h1,λh=>⟨n,h,rfl⟩⟩
theorem Et {l:aae}{x:Nat}:nV (l++[x])=nV l++[V.int (x:Nat)]:=by
 unfold nV;rw[XO];rfl
theorem yI {l:aae}{i:Nat}{v:V}(h:(nV l)[i]?=some v):∃n,l[i]?=some n/\v=V.int (n:Nat):=by
 unfold nV at h;rw[Xy] at h;obtain⟨n,h1,h2⟩:=X5.mp h;exact⟨n,h1,h2.symm⟩
theorem jL {l:List Addr}{i:Nat}{v:V}(h:(l.map V.ref)[i]?=some v):∃n,l[i]?=some n/\v=V.ref n:=by
 rw[Xy] at h;obtain⟨n,h1,h2⟩:=X5.mp h;exact⟨n,h1,h2.symm⟩
section
variable {P:Program}{w:World}{K:aaf}{mg:aah}{base:Heap}
def AL (K:aaf):Sp:=λvs H Q _=>∃(a:Addr) (ns:aae),vs=[.ref a]/\aP K H a (nV ns)/\(∀n∈ns,n < 1000000)/\∀H',au H H'->Q (.int (product ns:Nat)) H'
theorem ou:aG ["numbers","product","number"] ["numbers"] (aw fY):=fs
theorem Dq {f:Addr}{fd:FuncData}(F:di K "product_of" "product_of" fY f fd):a8 P w K mg base bC 1 f fd ["numbers"] (AL K):=by
 refine F.oa ou λLF A outer s H vs Q E hr h=>?_;obtain⟨a,ns,rfl,hS,hn,q⟩:=h;refine⟨_,af (a7 1 ou.nd ax)
  (af (da Yz rfl (bJ (pv 0)) (bo 2 ou.nd) (ak (Bs (i:=1) ou.nd rfl (Or.inl rfl) (pv 2) DJ)))
  (ak (az (pv 1)))),?_⟩
 refine cB aD ?_;refine⟨_,rfl,a,rfl,⟨_,hS⟩,df (K:=K) (a:=a) (xs:=nV ns) (λi σ H'=>∃v2:Option V,σ=[some (.ref a),some (.int (product (ns.take i):Nat)),v2]/\au H H') ⟨none,rfl,au.refl H⟩ (λi σ H' _ ⟨_,_,S⟩=>S.seq hS) ?_ ?_⟩
 · rintro i x σ H' hi ⟨v2,rfl,S⟩;obtain⟨n,Tj,rfl⟩:=yI hi;have:=hn n (XZ Tj);refine⟨_,rfl,_,rfl,_,_,rfl,rfl,.inr ⟨by omega,by omega⟩,some (.int (n:Nat)),?_,S⟩;rw[take_snoc Tj,zl,Int.natCast_mul];rfl
 · rintro σ H' ⟨v2,rfl,S⟩;rw[aN,Yr];exact⟨_,rfl,q H' S⟩
def tG (K:aaf):Sp:=λvs H Q _=>∃(a t:Addr) (ns s:aae),vs=[.ref a,.ref t]/\aP K H a (nV ns)/\bZ K H t (nV s)/\ns.length<=1000/\∀H' x,au H H'->H x=none->H' x=some (.lst (nV (gF s ns)))->Q (.ref x) H'
theorem tu:aG ["numbers","taken","number"] ["numbers","taken"] (aw j3):=fs
theorem D1 {f:Addr}{fd:FuncData}(F:di K "without" "without" j3 f fd):a8 P w K mg base bC 1 f fd ["numbers","taken"] (tG K):=by
 refine F.oa tu λLF A outer s H vs Q E hr h=>?_;obtain⟨a,t,ns,s,rfl,hA,hT,hl,q⟩:=h;refine⟨_,ak (az (fA (te:=cI 2) (tt:=qx (kK (Gy K true) (cI 2) (cI 1))) rfl tu.nd (bJ (pv 0)) (bz (own:=[("number",2)]) rfl) (λ_ _ _ _ _=>bo 2 tu.nd) (λ_ _ _ _ _=>ow (aC eQ (pv 2) (pv 1) (by with_unfolding_all rfl))) (λ_ _ _ _ _=>pv 2))),?_⟩;refine⟨_,rfl,a,rfl,⟨_,hA⟩,λD hD=>iH (K:=K) (a:=a) (xs:=nV ns) (λi H'=>au H H'/\H' D=some (.lst (nV (gF s (ns.take i))))) ⟨(au.refl H).laid hD,ae⟩ (λi H' _ h=>h.1.seq hA) ?_ ?_⟩
 · rintro i v H' hi ⟨k1,k2⟩;obtain⟨n,hn,rfl⟩:=yI hi;refine⟨rfl,?_⟩;refine (aI (mG (neg:=true) (ag rfl) (ag rfl) (.inr (k1.tup hT)) rfl (fW s))) _ ?_;show if (!oh (V.int (n:Nat)) (nV s))=true then _ else _;rw[BB];have e:gF s (ns.take (i+1))=gF s (ns.take i)++if (!s.contains n)=true then [n] else []:=by
    unfold gF;rw[take_snoc hn,Zn];congr 1;simp[YG]
   refine gH (λh=>?_) (λh=>?_)
   · rw[Xv h] at e;refine⟨_,rfl,_,k2,?_,?_,?_⟩
     · have:(gF s (ns.take i)).length<=(ns.take i).length:=ZU ..;rw[XT] at this;rw[aN,XY];omega
     · intro b u z;rw[aq (ao z hD)];exact k1 b u z
     · rw[ae,e,Et]
   · rw[Xu h,Yw] at e;exact⟨k1,by rw[e];exact k2⟩
 · rintro H' ⟨k1,k2⟩;have k2:H' D=some (.lst (nV (gF s (ns.take (nV ns).length)))):=k2;rw[aN,Yr] at k2;exact q H' D k1 hD k2
def sU (K:aaf):Sp:=λvs H Q _=>∃(a t:Addr) (ss:aad) (s:aae),vs=[.ref a,.ref t]/\bD K H a ss/\bZ K H t (nV s)/\ss.length<=6/\s.length<=ss.length/\∀H',au H H'->Q (.bl (iG ss s)) H'
theorem oy:aG ["sets","start","number","numbers"] ["sets","start"] (aw oK):=fs
theorem DM (G:GW mg)(N:GN mg){f:Addr}{fd:FuncData}(F:di K "is_of" "is_of" oK f fd):a8 P w K mg base bC 1 f fd ["sets","start"] (sU K):=by
 refine F.oa oy λLF A outer s H vs Q E hr h=>?_;obtain⟨a,t,ss,s,rfl,⟨as,hA,hP⟩,hT,h6,hl,q⟩:=h;refine⟨_,ak (az (bY (xW rfl) (by rfl) G.all PyProof.Rows.boot_all (aa (fA (g:=Em K 2 (oS (fL 2) (oS (fL 3) E8))) (te:=kK (Gy K false) (cI 2) (cI 3)) rfl oy.nd (Dr rfl N.zip (aa (pv 1) (aa (pv 0) ah))) (bz (own:=[("number",2),("numbers",3)]) rfl)
  (λ_ _ _ _ _=>k_ rfl (b9 (bo 2 oy.nd) (b9 (bo 3 oy.nd) i9))) (λ_ _ _ _ _=>cz) (λ_ _ _ _ _=>ft gg (pv 2) (pv 3) (by with_unfolding_all rfl))) ah))),?_⟩
 have LG:as.length=ss.length:=Paired.length hP;refine⟨_,rfl,_,rfl,t,a,nV s,as.map V.ref,rfl,hT,hA,λD hD=>IG (K:=K) (a:=t) (b:=a) (xs:=nV s) (ys:=as.map V.ref) (by rw[aN,Xs];omega) (λi H'=>au H H'/\H' D=some (.lst (((s.zip ss).take i).map λz=>V.bl (z.2.contains z.1)))) ⟨(au.refl H).laid hD,ae⟩ (λi H' _ h=>⟨h.1.tup hT,h.1.seq hA⟩) ?_ ?_⟩
 · rintro i x y H' T hx hy ⟨k1,k2⟩ Tn;obtain⟨n,hn,rfl⟩:=yI hx;obtain⟨ai,L5,rfl⟩:=jL hy;obtain⟨si,Nz,hI⟩:=Paired.qR hP L5;have MC:au H' (upd H' T (.tup [.int (n:Nat),.ref ai])):=(au.refl H').laid Tn;have Qp:D≠T:=ao k2 Tn;refine⟨T,_,rfl,bZ.of ae,rfl,_,_,rfl,_,_,rfl,rfl,rfl,?_⟩;refine (mG (neg:=false) (ag rfl) (ag rfl) (.inl ((k1.trans MC).seq hI)) rfl (fW si)) _ ⟨_,by rw[aq Qp];exact k2,?_,?_,?_⟩
   · have:=(XH.mp hn).1;rw[Xs,XT,XY];omega
   · intro b u z;rw[aq (ao z hD)];exact MC b u (k1 b u z)
   · have ez:(s.zip ss)[i]?=some (n,si):=by rw[List.getElem?_zip_eq_some];exact⟨hn,Nz⟩
     rw[ae,take_snoc ez,XO];show some (HO.lst (_++[V.bl (oh (V.int (n:Nat)) (nV si))]))=_;rw[BB];rfl
 · rintro H' ⟨k1,k2⟩;have k2:H' D=some (.lst (((s.zip ss).take (nV s).length).map λz=>V.bl (z.2.contains z.1))):=k2;rw[aN,Yq (by rw[List.length_zip];omega)] at k2;refine⟨D,(s.zip ss).map λz=>z.2.contains z.1,rfl,aP.of (by rw[k2,XX];rfl),?_⟩;have e:((s.zip ss).map λz=>z.2.contains z.1).all id=iG ss s:=by unfold iG;rw[ZD];rfl
   rw[e];exact q H' k1
end
end Bw
namespace L2
open PySem PySem.Spec PyProof.Rows
def I_ (K:aaf):V->V->Hp->VK->Prop:=λo i H Q=>∃(p:Addr) (xs:List V) (k:Nat) (v:V),o=.ref p/\i=.int (k:Nat)/\aP K H p xs/\xs[k]?=some v/\Q v H
theorem BX {X:Cx}:JM X (I_ X.K):=by
 intro pins s σ H o i ov iv Q I ro ri h;obtain⟨p,xs,k,v,rfl,rfl,hq,he,q⟩:=h;cases ro;obtain⟨t,rfl⟩:=ri;obtain⟨LD,r,pl,hz⟩:=I.list hq;obtain⟨w,ew,NN⟩:=r.get he;have hl:=r.length;have hk:=(XH.mp he).1;have hn:=k7;exact wpAny_getItem_list pl.isList (by omega) (by omega) (by simpa using ew) ⟨v,H,I,NN,q⟩
theorem Dx {K:aaf}{a:Addr}{xs:List V}{g:TG}{tt:TT}{te:TE}{vs:aae}{σ:L2.St}{H1:Hp}{D:Addr}{Qd:Hp->Prop}(Pv:Nat->Hp->Prop)(h0:Pv 0 (upd H1 D (.lst [])))(hl:∀i H,i<=xs.length->Pv i H->aP K H a xs)
  (hs:∀i x H T,xs[i]?=some x->Pv i H->H T=none->g (.ref T) (wipe σ vs) (upd H T (.tup [.int (i:Nat),x])) λσ2 H2=>wipe σ2 vs=wipe σ vs/\tt σ2 H2 λb H3 =>
   if b=true then te σ2 H3 λy H4=>∃acc,H4 D=some (.lst acc)/\acc.length < sizeLine/\Pv (i+1) (upd H4 D (.lst (acc++[y]))) else Pv (i+1) H3) (hd:∀H,Pv xs.length H->Qd H) :
  ∃W:Nat->Nat->Hp->Prop,(∃m,W 0 m (upd H1 D (.lst [])))/\∀i m H,W i m H ->
   ((FU K a).stop i H/\Qd H)∨((FU K a).go i H/\∃Nx:Hp->Prop,(∀H',Nx H'->∃m',m' < m/\W (i+1) m' H')/\∀x H',(FU K a).vZ i H x H'->g x (wipe σ vs) H' λσ2 H2=>wipe σ2 vs=wipe σ vs/\tt σ2 H2 λb H3 =>
    if b=true then te σ2 H3 λy H4=>∃acc,H4 D=some (.lst acc)/\acc.length < sizeLine/\Nx (upd H4 D (.lst (acc++[y]))) else Nx H3):=by
 refine⟨λi m H=>m=xs.length - i/\i<=xs.length/\Pv i H,⟨xs.length,by simp,X1 _,h0⟩,?_⟩;rintro i m H ⟨rfl,hi,p⟩;have q:=hl i H hi p;by_cases LI:i < xs.length
 · refine .inr ⟨⟨xs,xs[i],q,by simp[LI]⟩,Pv (i+1),λH' p'=>⟨xs.length - (i+1),by omega,rfl,LI,p'⟩,λx H' y=>?_⟩;obtain⟨T,v,rfl,hT,rfl,hx⟩:=y;exact hs i v _ T (hx xs q) p hT
 · have e:i=xs.length:=by omega
   subst e;exact .inl ⟨⟨xs,q,XC _⟩,hd H p⟩
end L2
namespace Bw
open PySem PySem.Spec PyProof.Rows L2 Tote
theorem Bd {σ:L2.St}{H:Hp}{ta tb:TE}{i j:Int}(ha:Ev ta σ H (.int i))(hb:Ev tb σ H (.int j))(h:Ec i j):Ev (kK (rI Ec λi j=>.int (i*2 ^ j.toNat)) ta tb) σ H (.int (i*2 ^ j.toNat)):=λ_ r=>ha _ (hb _ ⟨i,j,rfl,rfl,h,r⟩)
theorem pz:∀l:aae,(l.map λn=>((n:Nat):Int)).sum=((l.sum:Nat):Int)
 |[]=>rfl
 |n::l=>by rw[XM,Y1,Y1,pz l,Int.natCast_add]
section
variable {P:Program}{w:World}{K:aaf}{mg:aah}{base:Heap}
def F9 (K:aaf):Sp:=λvs H Q _=>∃(a:Addr) (ss:aad),vs=[.ref a]/\bD K H a ss/\C4 ss/\∀H',au H H'->Q (.int (dm ss lC:Nat)) H'
theorem fG:aG ["sets","full","ways","number","bits","mask","place","numbers","bit"] ["sets"] (aw cW):=fs
theorem GA {aW:Addr}(G:GW mg)(B:GB K mg aW)(N:GN mg){f:Addr}{fd:FuncData}(F:di K "count_different" "count_different" cW f fd):a8 P w K mg base bC 1 f fd ["sets"] (F9 K):=by
 refine F.oa fG λLF A outer s H vs Q E hr h=>?_;obtain⟨a,ss,rfl,hL,hS,q⟩:=h;refine⟨_,af (a7 1 fG.nd (bG fJ (bG BJ ax (bh G.len (pv 0))) ax))
  (af (qj (i:=2) fG.nd rfl (Or.inr rfl) (bG wx (bV (aa ax ah)) (fA rfl fG.nd (gf rfl N.range (aa (pv 1) ah)) (bz (own:=[("mask",5)]) rfl) (λ_ _ _ _ _=>bo 5 fG.nd) (λ_ _ _ _ _=>cz) (λ_ _ _ _ _=>ax))))
  (af (da Yz rfl (rE rfl N.range (aa ax (aa (bG eJ (a_ N.runners) ax) ah))) (sS (i:=3) fG.nd rfl (Or.inr rfl))
   (af (pK (i:=4) (te:=kK (rI Ec λi j=>.int (i*2 ^ j.toNat)) (tC (.int 1)) (cI 6)) (tt:=qx (kK (Gy K false) (cI 3) (cI 7))) (g:=Em K 2 (oS (fL 6) (oS (fL 7) E8))) rfl fG.nd rfl rfl (tP rfl rfl rfl rfl) (tT rfl B.enum (aa (pv 0) ah)) (bz (own:=[("place",6),("numbers",7)]) rfl) (λ_ _ _ _ _=>k_ rfl (b9 (bo 6 fG.nd) (b9 (bo 7 fG.nd) i9)))
     (λ_ _ _ _ _=>ow (aC gg (pv 3) (pv 7) (by with_unfolding_all rfl))) (λ_ _ _ _ _=>bG BJ ax (pv 6)))
   (ak (da Yz rfl (rb rfl N.range (aa (pv 1) (aa ax (aa (vX ql ax) ah)))) (sS (i:=5) fG.nd rfl (Or.inr rfl))
    (ak (DV (pv 2) (pv 5) BX (bY (xY rfl) (by rfl) N.sum (by decide +kernel) (aa (fA (te:=kK (Ao K) (cI 2) (kK (qI λi j=>.int (i - j)) (cI 5) (cI 8))) rfl fG.nd (bJ (pv 4)) (bz (own:=[("bit",8)]) rfl) (λ_ _ _ _ _=>bo 8 fG.nd)
     (λ_ _ _ _ _=>ow (aC pO (bG Gr (pv 5) (pv 8)) ax (aJ _))) (λ_ _ _ _ _=>bp aM (pv 2) (bG fJ (pv 5) (pv 8)) (λ_ _=>rfl))) ah)) Bn set_list))))))
  (ak (az (bp aM (pv 2) (pv 1) (λ_ _=>rfl)))))),?_⟩
 obtain⟨as,hA,hP⟩:=hL;have LG:as.length=ss.length:=Paired.length hP;have h6:=hS.len;have hpow:0 < 2 ^ ss.length:=Nat.pow_pos (by decide);have hp64:2 ^ ss.length<=64:=Yh (Zw (by decide) h6) (by decide);obtain⟨f,hf⟩:∃f,f=2 ^ ss.length - 1:=⟨_,rfl⟩;have ef:(1:Int)*2 ^ ((as.map V.ref).length:Int).toNat - 1=((f:Nat):Int):=by
  rw[Xs,LG,Ye,hf,Int.one_mul];have:((2 ^ ss.length:Nat):Int)=2 ^ ss.length:=by rw[Int.natCast_pow];rfl
  omega
 have nd:∀s∈ss,s.Nodup:=λs hs=>(hS.good s hs).1.nodup;refine cB (qu (Bd aD (aU (ag rfl) (.inl hA)) ⟨by omega,by rw[Xs];omega,by decide⟩) aD) ?_;rw[ef];refine⟨by show 1<=sizeLine;decide,λp1 Pa=>?_⟩;refine yo (tU (ag rfl) (by omega) (by omega) λD0 M7=>?_);have RI:p1≠D0:=by
  rintro rfl;rw[ae] at M7;cases M7
 have Pp:H D0=none:=by rwa [aq RI.symm] at M7
 rw[Ye];refine lT (lo:=0) (n:=f) (λi H'=>au H H'/\H' p1=some (.lst [V.int 1])/\H' D0=some (.lst (nV (List.replicate i 0)))) ⟨((au.refl H).laid Pa).laid Pp,by rw[aq RI];exact ae,ae⟩ ?_ ?_
 · rintro i H' hi ⟨k0,k1,k2⟩;refine⟨rfl,?_⟩;refine⟨_,k2,by rw[aN,X4,XY];omega,λb u z=>?_,by rw[aq RI];exact k1,?_⟩
   · rw[aq (ao z Pp)];exact k0 b u z
   · rw[ae,List.replicate_succ'];unfold nV;rw[XO];rfl
 rintro H1 ⟨S1,e1,e0⟩;refine⟨p1,D0,_,_,rfl,rfl,e1,e0,?_,λwy To=>?_⟩
 · show 1+_<=_;rw[aN,X4,XY];omega
 have WA:[V.int 1]++nV (List.replicate f 0)=nV (tab ss 1 f):=by
  rw[hf,←zo];unfold nV;rw[XO];rfl
 rw[WA];have Pq:H wy=none:=by
  cases hz:H wy with
  |none=>rfl
  |some o=>rw[S1 wy o hz] at To;cases To
 have S2:au H (upd H1 wy (.lst (nV (tab ss 1 f)))):=λb u z=>by
  rw[aq (ao z Pq)];exact S1 b u z
 refine oP (zb aD (jO aD aD) (by omega) ?_);refine m9 (lo:=1) (n:=((24:Int)+1 - 1).toNat) (λi σ H'=>∃v3 v4 v5:Option V,σ=[some (.ref a),some (.int (f:Nat)),some (.ref wy),v3,v4,v5,none,none,none]/\au H H'/\H' wy=some (.lst (nV (tab ss (i+1) f))))
  ⟨none,none,none,rfl,S2,ae⟩ ?_ ?_
 · rintro i σ H2 hi ⟨v3,v4,v5,rfl,S3,e3⟩;have hi:i < 24:=hi;have ex:(1:Int)+(i:Nat)=((i+1:Nat):Int):=by omega
   rw[ex];obtain⟨x,hx⟩:∃x,x=i+1:=⟨_,rfl⟩;rw[←hx] at e3 ⊢;refine⟨_,rfl,a,_,rfl,S3.seq hA,λD hD=>Dx (K:=K) (a:=a) (xs:=as.map V.ref) (λj H'=>au H2 H'/\H' D=some (.lst (nV (bitsOf x 1 (ss.take j))))) ⟨(au.refl H2).laid hD,ae⟩ (λj H' _ h=>(S3.trans h.1).seq hA) ?_ ?_⟩
   · rintro j v H' T hj ⟨k1,k2⟩ hT;rw[Xy] at hj;obtain⟨aj,WB,rfl⟩:=X5.mp hj;obtain⟨sj,NZ,hI⟩:=Paired.qR hP WB;have Ob:j < ss.length:=(XH.mp NZ).1;have Qp:D≠T:=ao k2 hT;have RJ:au H2 (upd H' T (.tup [.int (j:Nat),.ref aj])):=k1.trans ((au.refl H').laid hT);have eb:=rF x (ss.take j) 1 sj;rw[←take_snoc NZ] at eb;refine⟨T,_,rfl,bZ.of ae,rfl,_,_,rfl,_,_,rfl,rfl,rfl,?_⟩;refine (aI (mG (neg:=false) (ag rfl) (ag rfl) (.inl ((S3.trans RJ).seq hI)) rfl (fW sj))) _ ?_;have eI:oh (V.int (x:Nat)) (nV sj)=sj.contains x:=by
      rw[nY,X8,XB,YB,XB]
      exact⟨λ⟨m,h1,h2⟩=>by have:x=m:=by omega
                           subst this;exact h1,λh=>⟨x,h,rfl⟩⟩
     show if oh (V.int (x:Nat)) (nV sj)=true then _ else _;rw[eI];refine gH (λh=>?_) (λh=>?_)
     · rw[Xv h] at eb;refine (Bd aD (ag rfl) ⟨by omega,by omega,by decide⟩) _ ⟨_,by rw[aq Qp];exact k2,?_,?_,?_⟩
       · rw[aN];have:=o5 x (ss.take j) 1;rw[XT] at this;rw[XY];omega
       · intro b u z;rw[aq (ao z hD)];exact RJ b u z
       · rw[ae,eb];have e2:(1:Int)*2 ^ ((j:Nat):Int).toNat=((1*2 ^ (ss.take j).length:Nat):Int):=by
          rw[Ye,XT,Zu (by omega),Int.one_mul,Nat.one_mul,Int.natCast_pow];rfl
         rw[e2];unfold nV;rw[XO];rfl
     · rw[Xu h,Yw] at eb;exact⟨RJ,by rw[aq Qp,eb];exact k2⟩
   rintro H3 ⟨k1,k2⟩;have k2:H3 D=some (.lst (nV (bitsOf x 1 (ss.take (as.map V.ref).length)))):=k2;rw[Xs,LG,Yr] at k2;obtain⟨bits,Mw⟩:∃bits,bits=bitsOf x 1 ss:=⟨_,rfl⟩;rw[←Mw] at k2;have WC:D≠wy:=by
    rintro rfl;rw[e3] at hD;cases hD
   have e4:=k1 _ _ e3;have S4:=S3.trans k1;have hDH:H D=none:=by
    cases hz:H D with
    |none=>rfl
    |some o=>rw[S3 D o hz] at hD;cases hD
   refine oP (yA (n:=f) (ag rfl) aD (tZ aD) ?_ ?_)
   · have:=Jf.neg (i:=(f:Int)) (j:=0) (by omega) (by omega) (by omega) (by omega);rw[show ((f:Int) - 0).toNat=f by omega] at this;exact this
   refine pE (lo:=(f:Nat)) (c:=-1) (n:=f) (λj σ H'=>∃v5:Option V,σ=[some (.ref a),some (.int (f:Nat)),some (.ref wy),some (.int (x:Nat)),some (.ref D),v5,none,none,none]/\au H H'/\H' wy=some (.lst (nV (jA ss x f j)))/\H' D=some (.lst (nV bits)))
    ⟨v5,rfl,S4,by rw[C0];exact e4,k2⟩ ?_ ?_
   · rintro j σ H4 hj ⟨v5,rfl,S5,e5,e6⟩;obtain⟨m,hm⟩:∃m,m=f - j:=⟨_,rfl⟩;have em:((f:Nat):Int)+((j:Nat):Int)*(-1)=((m:Nat):Int):=by omega
     rw[em];have WD:m<=f:=by omega
     have old:(nV (jA ss x f j))[m]?=some (.int (cA ss x m:Nat)):=by
      unfold nV;rw[Xy,tj WD,Xu (by omega)];rfl
     refine⟨_,rfl,_,rfl,wy,_,m,_,rfl,rfl,aP.of e5,old,?_⟩;refine⟨_,rfl,D,rfl,⟨_,aP.of e6⟩,λD2 Tp=>iH (K:=K) (a:=D) (xs:=nV bits) (λt H'=>au H4 H'/\H' D2=some (.lst (nV (((bits.take t).filter (bF m)).map λb=>cA ss x (m - b))))) ⟨(au.refl H4).laid Tp,ae⟩ (λt H' _ h=>aP.of (h.1 _ _ e6)) ?_ ?_⟩
     · rintro t v H' ht ⟨k3,k4⟩;unfold nV at ht;rw[Xy] at ht;obtain⟨b,hb,rfl⟩:=X5.mp ht;obtain⟨pw,hpw,RK⟩:=vI x ss 1 b (by rw[←Mw];exact XZ hb);rw[Nat.one_mul] at RK;have Ox:0 < b:=by rw[RK];exact Nat.pow_pos (by decide)
       refine⟨rfl,?_⟩;refine (aI (qk (mI (f:=λi j=>.int (Builtin.bitAnd i j)) (ag rfl) (ag rfl)) aD)) _ ?_;have eA:(!decide (V.int (Builtin.bitAnd ((m:Nat):Int) ((b:Nat):Int))=V.int 0))=bF m b:=by
        rw[aY];have e1:Builtin.bitAnd ((m:Nat):Int) ((b:Nat):Int)=((m &&& b:Nat):Int):=by
         unfold Builtin.bitAnd;rw[X9 (by omega:(0:Int)<=((m:Nat):Int)),X9 (by omega:(0:Int)<=((b:Nat):Int))];rfl
        rw[e1,X8,RK,←Ek,Yl,X2];omega
       rw[eA];refine gH (λh=>?_) (λh=>?_)
       · have hbm:=GU h Ox;have at2:nU (nV (jA ss x f j)) (((m:Nat):Int) - ((b:Nat):Int))=some (.int (cA ss x (m - b):Nat)):=by
          rw[show ((m:Nat):Int) - ((b:Nat):Int)=((m - b:Nat):Int) by omega];refine cu ?_;unfold nV;rw[Xy,tj (by omega),Xu (by omega)];rfl
         refine (aZ (ag rfl) (qu (ag rfl) (ag rfl)) (aP.of (k3 _ _ e5)) at2) _ ⟨_,k4,?_,?_,?_⟩
         · rw[aN,Xs,XY];have l1:=ZU (bF m) (bits.take t);have l2:=o5 x ss 1;rw[←Mw] at l2;rw[XT] at l1;omega
         · intro c u z;rw[aq (ao z Tp)];exact k3 c u z
         · rw[ae,take_snoc hb,Zn,XO];have:[b].filter (bF m)=[b]:=by rw[YG,Xv h];rfl
           rw[this];unfold nV;rw[XO];rfl
       · refine⟨k3,?_⟩;have:[b].filter (bF m)=[]:=by rw[YG,Xu h];rfl
         rw[take_snoc hb,Zn,this,Yw];exact k4
     rintro H5 ⟨k3,k4⟩;have k4:H5 D2=some (.lst (nV (((bits.take (nV bits).length).filter (bF m)).map λb=>cA ss x (m - b)))):=k4;rw[aN,Yr] at k4;refine⟨D2,((bits.filter (bF m)).map λb=>cA ss x (m - b)).map λn=>((n:Nat):Int),rfl,aP.of (by rw[k4];unfold nV;rw[XX,XX,XX];rfl),?_⟩;rw[pz];refine⟨_,_,rfl,rfl,wy,_,_,m,rfl,rfl,k3 _ _ e5,?_,?_⟩
     · unfold C8;rw[Xv (by omega),aN,Xv (by unfold jA;rw[Xs,ZM];omega)];rfl
     have ew:((cA ss x m:Nat):Int)+((((bits.filter (bF m)).map λb=>cA ss x (m - b)).sum:Nat):Int)=((cA ss (x+1) m:Nat):Int):=by
      rw[B0 nd (by omega),←Mw,Int.natCast_add]
     refine⟨_,rfl,λc u z=>?_,?_,?_⟩
     · rw[aq (ao z Pq)];exact k3 c u (S5 c u z)
     · rw[ae];show some (HO.lst ((nV (jA ss x f j)).set m (V.int (((cA ss x m:Nat):Int)+((((bits.filter (bF m)).map λb=>cA ss x (m - b)).sum:Nat):Int)))))=_;rw[ew,←BP (by omega),hm];unfold nV;rw[List.map_set]
     · rw[aq WC];exact k3 _ _ e6
   · rintro σ H4 ⟨v5,rfl,S5,e5,e6⟩;rw[CL] at e5;exact⟨_,_,_,rfl,S5,e5⟩
 · rintro σ H2 ⟨v3,v4,v5,rfl,S3,e3⟩;have e3:H2 wy=some (.lst (nV (tab ss 25 f))):=e3;refine bU (aZ (ag rfl) (ag rfl) (aP.of e3) (cu (v:=.int (dm ss lC:Nat)) ?_)) (q H2 S3);unfold nV;rw[Xy,B3 (XC _),←Cy,hf];rfl
end
end Bw
namespace L2
open PySem PySem.Spec PyProof.Rows
section
variable {P:Program}{w:World}{d:Addr}{o:Obj}{es:Array DictEntry}{ep:Nat}
theorem zC {A:Around} (hh:A.handled=none) (it:Addr) (ne:d≠it) (dt:o.data=.dict es ep) :
  Walks P w A it [it,d] [it] es.size (λi v=>∃en,es[i]?=some en/\v=en.key) (λi h=>h.IsKeyIter it d i es.size ep/\h.get? d=some o) where
 sub:=λb hb=>Xx.mpr (.inl (XI.mp hb))
 frame:=λi h h' st k=>⟨st.1.at λob e=>k it (Yg ..) ob e,k d (by simp) o st.2⟩
 item:=λi s Q E hi st hQ=>by
  obtain⟨en,Oc⟩:∃en,es[i]?=some en:=⟨es[i],Array.getElem?_eq_getElem hi⟩;refine qO st.1 st.2 dt rfl Oc λh' WE sb=>?_;exact hQ _ h' s.toks ⟨en,Oc,rfl⟩ ⟨WE,(sb.2 d ne).trans st.2⟩ λb ob hb e=>(sb.2 b λz=>hb (by simp[z])).trans e
 done:=λs Q E st hQ=>sY hh st.1 st.2 dt rfl (XC _) λh' eb=>hQ h' s.toks λb ob hb e=>eb b ob (λz=>hb (by simp[z])) e
 self:=λi s Q E st hQ=>wpAny_pyIter_keyiter st.1 hQ
theorem AG (lo:(d==sysModules)=false)(hx:o.ExactDict)(dt:o.data=.dict es ep):W.KdlSrc P w "dict" d d es.size (λi v=>∃en,es[i]?=some en/\v=en.key) (λh=>h.get? d=some o) where
 type:=λs e=>⟨o,e,hx.1⟩
 there:=λh e=>⟨XG e,XG e⟩
 keep:=λh h' e k=>k d (.inl rfl) o e
 notList:=by decide
 notTuple:=by decide
 hint:=λA E s Q e q=>W.kdl_hint_dict ⟨o,e,hx.1⟩ q
 iter:=λA s hh e=>⟨_,_,(λE Q q=>Ah lo e hx dt q),zC hh _ (X6 (XG e)) dt,⟨⟨_,XJ _ rfl,rfl,rfl⟩,Xw _ e⟩⟩
end
section
variable {X:Cx}
theorem xF (hc:X.calm=true):ir X (.type "list") (λxs H Q=>∃(d:Addr) (LC:List (List Key×V)),xs=[.ref d]/\H d=some (.dT LC) /\
  ∀(qs:List Addr) (l:Addr),Paired (λq (kv:List Key×V)=>H q=some (.tup (kv.1.map kV))) qs LC->H l=none->Q (.ref l) (upd H l (.lst (qs.map V.ref)))):=by
 intro pins s σ H xs us Q I r h;obtain⟨d,LC,rfl,hd,q⟩:=h;rw[Vals.wA r];obtain⟨z,lo,ys,pr,ob,es,ep,ho,hx,dt,he,_⟩:=I.bu d _ hd;have l1:es.size=ys.length:=size_of_entries he;have l2:LC.length=ys.length:=Paired.length pr;refine W.kdl_call (AG lo hx dt) (I.ok.hd hc) ho (by omega) λh' tk acc c' kp hl it=>?_;have pq:Paired (λq (kv:List Key×V)=>H q=some (.tup (kv.1.map kV))) (ys.map λy=>y.2.1) LC:=by
  refine j9 (by rw[Xs,l2]) λi a b ha hb=>?_;rw[Xy] at ha;obtain⟨y,hy,rfl⟩:=X5.mp ha;obtain⟨y',Nm,e1,e2,_⟩:=xg pr hb;rw[hy] at Nm;injection Nm with Nm;subst Nm;exact e2
 have rv:Vals ((ys.map λy=>y.2.1).map V.ref) acc.toList:=by
  have l3:acc.toList.length=es.size:=by rw[Ze];exact it.1
  refine j9 (by rw[Xs,Xs];omega) λi a b ha hb=>?_;obtain⟨en,Oc,rfl⟩:=it.2 i b (by simpa using hb);rw[Xy,Xy] at ha;have qe:=entry_at he i;cases hy:ys[i]? with
  |none=>rw[hy] at ha;cases ha
  |some y =>
   rw[hy] at ha qe;have ha:some (V.ref y.2.1)=some a:=ha;injection ha with ha;subst ha;rw[Oc] at qe;injection qe with qe;rw[qe];rfl
 have hlen:((ys.map λy=>y.2.1).map V.ref).length<=sizeLine:=by rw[Xs,Xs];omega
 exact⟨.ref s.heap.objs.size,_,I.laid (t':=tk) kp (XC _) (show bK X.prog X.w _ h' _ (.lst _) from ⟨hlen,acc.toList,c',rv,by simpa using hl⟩),rfl,q _ _ pq (I.bu.fresh (XC _))⟩
end
section
variable {P:Program}{w:World}{A:Around}{E:aag}{s:Shared}
theorem Cz {t b:Addr} {ws:aaj} {R:aag} (ht:IsTup s.heap t #[]) (hb:IsTup s.heap b ws.toArray) (hR:R (.ref b) s):wpAny (model P w) A (binaryOp .Add (.ref t) (.ref b)) R E s:=by
 obtain⟨⟨c1,d1,f1,l1⟩,g1,k1,n1,e1⟩:=id ht;obtain⟨⟨c2,d2,f2,l2⟩,g2,k2,n2,e2⟩:=id hb;simp only at k1 e1 k2 e2;subst k1 e1 k2 e2;have m:=tuple_addW0 t b #[] ws.toArray n1 n2 d1 d2 l1 l2 rfl;exact concat_meets ⟨_,g1,rfl⟩ ⟨_,g2,rfl⟩ noFill_tuple_add seq_tuple_add F.slot_tuple_add F.entry_tuple_add (F.args_tuple_add_2 _ _) m ⟨g1,g2,hR⟩
end
section
variable {X:Cx}
def JF (K:aaf):R2:=λx y H Q=>∃a b xs ys,x=.ref a/\y=.ref b/\bZ K H a xs/\H b=some (.tup ys)/\ys≠[]/\xs.length+ys.length<=sizeLine/\∀p H',au H H'->H' p=some (.tup (xs++ys))->Q (.ref p) H'
theorem Dy:jT X (binaryOp .Add) (JF X.K):=by
 intro pins s σ H x y v u Q I rx ry h;obtain⟨a,b,xs,ys,rfl,rfl,ha,hb,hy,hz,q⟩:=h;by_cases e:xs=[]
 · subst e;cases rx;cases ry;obtain⟨LD,r1,p1,_⟩:=I.tuple ha;obtain⟨L6,r2,p2,_⟩:=I.tuple (bZ.of hb);have:LD=[]:=r1.oF.mpr rfl;subst this;exact Cz p1 p2 ⟨.ref b,H,I,rfl,q b H (au.refl H) hb⟩
 · exact EJ pins s σ H _ _ v u Q I rx ry ⟨a,b,xs,ys,rfl,rfl,ha,bZ.of hb,e,hz,λz=>absurd z hy,λ_ p hp=>q p _ ((au.refl H).laid hp) ae⟩
end
end L2
namespace Bw
open PySem PySem.Spec PyProof.Rows L2 Tote
def kL (l:aae):List Key:=l.map λn=>Sum.inl ((n:Nat):Int)
theorem Dg (l:aae):(kL l).map kV=nV l:=by
 unfold kL nV;rw[XX];rfl
theorem Ca {l m:aae}(h:kL l=kL m):l=m:=by
 unfold kL at h;refine List.map_inj_right (λa b e=>?_) |>.mp h;have:=Sum.inl.inj e;omega
theorem vi {LC:List (List Key×V)}{K:aad}{k:aae}{v:V}(h:LC.map (·.1)=K.map kL):(putK LC (kL k) v).map (·.1)=(jx K k).map kL:=by
 have RM:(LC.any λkv=>decide (kv.1=kL k))=K.contains k:=by
  have e1:(LC.any λkv=>decide (kv.1=kL k))=(LC.map (·.1)).any λz=>decide (z=kL k):=by rw[ZR];rfl
  rw[e1,h,ZR,X8,Y7,YB,XB];constructor
  · rintro⟨x,h1,h2⟩;have:=Ca (XQ h2);rw[←this];exact h1
  · intro hk;exact⟨k,hk,X9 rfl⟩
 unfold putK jx;rw[RM];by_cases c:K.contains k=true
 · rw[Xv c,Xv c,←h,XX];refine Yn λkv _=>?_;show (if kv.1=kL k then (kv.1,v) else kv).1=kv.1;split <;> rfl
 · rw[Xu c,Xu c,XO,XO,h];rfl
theorem xA {pick:aae}{n:Nat}{ms:List Int}(hp:cq pick)(hn:¬n∈pick)(h1:ms.Perm ((pick++[n]).map λx=>((x:Nat):Int)))(h2:ms.Pairwise (·<=·)):ms=(gd n pick).map λx=>((x:Nat):Int):=by
 have hr:=ly hp hn;have nd:(pick++[n]).Nodup:=by
  rw[Y_];refine⟨hp.nodup,by simp,λa ha b hb=>?_⟩;rw[XI] at hb;subst hb;exact λz=>hn (z ▸ ha)
 have pm:(gd n pick).Perm (pick++[n]):=(Z_ hr.nodup nd).mpr λx=>by
  rw[mK];simp[or_comm]
 refine List.Perm.eq_of_pairwise (le:=(·<=·)) (λa b _ _ x y=>by omega) h2 ?_ (h1.trans (pm.map _).symm);rw[List.pairwise_map];exact hr.imp λh=>by omega
theorem ll {pick:aae}:∀(s:aae) (K:aad),(cS s K pick).length<=K.length+s.length
 |[],K=>XC _
 |n::s,K=>by
  show (cS s (cx pick K n) pick).length<=_;have:=ll (pick:=pick) s (cx pick K n);have h2:(cx pick K n).length<=K.length+1:=by
   unfold cx jx;split
   · omega
   · split
     · omega
     · simp
  rw[XE];omega
theorem qm {s:aae}{c:Nat}(hs:s.length<=c):∀(ps K:aad),(ps.foldl (cS s) K).length<=K.length+ps.length*c
 |[],K=>by simp
 |p::ps,K=>by
  rw[YZ,XE];have h1:=qm hs ps (cS s K p);have h2:=ll (pick:=p) s K;rw[Nat.add_mul];omega
theorem pA {α β:Type}(f:β->α->β)(b:β)(l:List α)(x:α):(l++[x]).foldl f b=f (l.foldl f b) x:=by rw[List.foldl_append];rfl
theorem ng:∀(i:Nat) (ss:aad),(∀s∈ss,s.length<=25)->(bx (ss.take i)).length<=25 ^ i
 |0,ss,_=>by show 1<=1;decide
 |i+1,ss,h=>by
  have ih:=ng i ss h;by_cases hi:i < ss.length
  · rw[List.take_add_one,XD hi];show (bx (ss.take i++[ss[i]])).length<=_;rw[iV];have:=qm (h _ (Zk hi)) (bx (ss.take i)) [];unfold fe;rw[Zy];have h2:(bx (ss.take i)).length*25<=25 ^ i*25:=Nat.mul_le_mul_right _ ih;simp only[Y4] at this;omega
  · have:ss.take (i+1)=ss.take i:=by rw[Yq (by omega),Yq (by omega)]
    rw[this,Zy];omega
section
variable {P:Program}{w:World}{K:aaf}{mg:aah}{base:Heap}
def Bz (H:Hp) (x:Addr) (R:aad):Prop:=∃qs:List Addr,H x=some (.lst (qs.map V.ref))/\Paired (λq l=>H q=some (.tup (nV l))) qs R
def rq (K:aaf):Sp:=λvs H Q _=>∃(a:Addr) (ss:aad),vs=[.ref a]/\bD K H a ss/\C4 ss/\ss.length<=3/\∀H' x,au H H'->Bz H' x (bx ss)->Q (.ref x) H'
theorem lj:aG ["sets","picks","numbers","longer","pick","number"] ["sets"] (aw iN):=fs
theorem HP (N:GN mg){f:Addr}{fd:FuncData}(F:di K "picks_of" "picks_of" iN f fd):a8 P w K mg base bC 1 f fd ["sets"] (rq K):=by
 refine F.oa lj λLF A outer s H vs Q E hr h=>?_;obtain⟨a,ss,rfl,⟨as,hA,hP⟩,hS,h3,q⟩:=h;have hu:=vO hr;refine⟨_,af (a7 1 lj.nd (bV (aa (dq ah) ah)))
  (af (da Yz rfl (bJ (pv 0)) (bo 2 lj.nd)
   (af (a7 3 lj.nd pN)
   (af (da Yz rfl (bJ (pv 1)) (bo 4 lj.nd)
    (ak (da Yz rfl (bJ (pv 2)) (bo 5 lj.nd)
     (ak (aO (aC eQ (pv 5) (pv 4) (by with_unfolding_all rfl)) (ak (mL hu (pv 3) (j0 qL (by rfl) N.tuple (by decide +kernel) (aa (bY xa (by rfl) N.sorted PyProof.Rows.boot_sorted (aa (bG Dy (pv 4) (dq (aa (pv 5) ah))) ah)) ah)) lU rfl)) aB)))))
   (ak (a7 1 lj.nd (j0 (xF rfl) (by rfl) N.list (by decide +kernel) (aa (pv 3) ah)))))))
  (ak (az (pv 1)))),?_⟩
 have LG:as.length=ss.length:=Paired.length hP;have Tq:∀s∈ss,s.length<=25:=λs hs=>mD (hS.good s hs).1 (hS.good s hs).2;refine⟨X1 _,λt0 WG=>⟨by show 1<=sizeLine;decide,λp0 OB=>?_⟩⟩;have n0:p0≠t0:=by
  rintro rfl;rw[ae] at OB;cases OB
 have S0:au H (upd (upd H t0 (.tup [])) p0 (.lst [V.ref t0])):=((au.refl H).laid WG).trans ((au.refl _).laid OB);refine⟨_,rfl,a,rfl,⟨_,S0.seq hA⟩,df (K:=K) (a:=a) (xs:=as.map V.ref) (λi σ H'=>∃(pk:Addr) (qs:List Addr) (v2 v3 v4 v5:Option V),σ=[some (.ref a),some (.ref pk),v2,v3,v4,v5]/\au H H'/\H' pk=some (.lst (qs.map V.ref))/\Paired (λq l=>H' q=some (.tup (nV l))) qs (bx (ss.take i)))
  ⟨p0,[t0],none,none,none,none,rfl,S0,ae,.cons (by rw[aq n0.symm];exact ae) .nil⟩ (λi σ H' _ ⟨_,_,_,_,_,_,_,S,_⟩=>S.seq hA) ?_ ?_⟩
 · rintro i x σ H1 hi ⟨pk,qs,v2,v3,v4,v5,rfl,S1,e1,hQ⟩;rw[Xy] at hi;obtain⟨ai,L5,rfl⟩:=X5.mp hi;obtain⟨sj,NZ,hI⟩:=Paired.qR hP L5;have LM:i < ss.length:=(XH.mp NZ).1;have gs:=hS.good sj (XZ NZ);have WH:=Tq sj (XZ NZ);have lp:=ng i ss Tq;have WI:(bx (ss.take i)).length<=625:=Yh lp (Yh (Zw (by decide) (show i<=2 by omega)) (by decide));have Pr:∀l∈bx (ss.take i),cq l/\l.length<=6:=λl hl=>by
    obtain⟨z1,z2⟩:=(j7 (ss.take i) l).mp hl;refine⟨z1,?_⟩;have:=(jW z2).1;rw[XT] at this;omega
   have NA:bx (ss.take (i+1))=fe (bx (ss.take i)) sj:=by rw[take_snoc NZ,iV]
   generalize bx (ss.take i)=M_ at hQ WI Pr NA;have N0:qs.length=M_.length:=Paired.length hQ;intro lg Tr;have S2:au H1 (upd H1 lg (.dT [])):=(au.refl H1).laid Tr;refine⟨_,rfl,pk,rfl,⟨_,S2.seq (aP.of e1)⟩,df (K:=K) (a:=pk) (xs:=qs.map V.ref) (λj σ H'=>∃(v4 v5:Option V) (LC:List (List Key×V)),σ=[some (.ref a),some (.ref pk),some (.ref ai),some (.ref lg),v4,v5]/\au H1 H'/\H' lg=some (.dT LC)/\LC.map (·.1)=((M_.take j).foldl (cS sj) []).map kL)
    ⟨v4,v5,[],rfl,S2,ae,rfl⟩ (λj σ H' _ ⟨_,_,_,_,S,_⟩=>aP.of (S _ _ e1)) ?_ ?_⟩
   · rintro j x σ H2 hj ⟨v4,v5,LC,rfl,S3,e3,hk⟩;rw[Xy] at hj;obtain⟨qa,RN,rfl⟩:=X5.mp hj;obtain⟨pick,MP,hT⟩:=Paired.qR hQ RN;have Ob:j < M_.length:=(XH.mp MP).1;obtain⟨NT,hr6⟩:=Pr pick (XZ MP);have lk:=qm WH (M_.take j) [];rw[XT,Y4] at lk;have Ts:(M_.take (j+1)).foldl (cS sj) []=cS sj ((M_.take j).foldl (cS sj) []) pick:=by rw[take_snoc MP,pA]
     generalize (M_.take j).foldl (cS sj) []=K2 at hk lk Ts;refine⟨_,rfl,ai,rfl,⟨_,(S1.trans S3).seq hI⟩,df (K:=K) (a:=ai) (xs:=nV sj) (λm σ H'=>∃(v5:Option V) (LC:List (List Key×V)),σ=[some (.ref a),some (.ref pk),some (.ref ai),some (.ref lg),some (.ref qa),v5]/\au H1 H'/\H' lg=some (.dT LC)/\LC.map (·.1)=((sj.take m).foldl (cx pick) K2).map kL)
      ⟨v5,LC,rfl,S3,e3,hk⟩ (λm σ H' _ ⟨_,_,_,S,_⟩=>(S1.trans S).seq hI) ?_ ?_⟩
     · rintro m x σ H3 hm ⟨v5,LC,rfl,S4,e4,hk⟩;unfold nV at hm;rw[Xy] at hm;obtain⟨n,hn,rfl⟩:=X5.mp hm;have lk3:LC.length<=K2.length+25:=by
        have z1:LC.length=(cS (sj.take m) K2 pick).length:=by
         have:=YA List.length hk;rw[Xs,Xs] at this;exact this
        have z2:=ll (pick:=pick) (sj.take m) K2;rw[XT] at z2;omega
       have RO:(sj.take (m+1)).foldl (cx pick) K2=cx pick ((sj.take m).foldl (cx pick) K2) n:=by rw[take_snoc hn,pA]
       generalize (sj.take m).foldl (cx pick) K2=K3 at hk RO;have Tt:=S4 _ _ hT;have eI:(!oh (V.int (n:Nat)) (nV pick))=!decide (n∈pick):=by
        congr 1;rw[nY,Zf]
        exact⟨λ⟨y,h1,h2⟩=>by have:n=y:=by omega
                             subst this;exact h1,λh=>⟨n,h,rfl⟩⟩
       refine aS (b:=!decide (n∈pick)) (yl (aI (mG (neg:=true) (ag rfl) (ag rfl) (.inr (bZ.of Tt)) rfl (fW pick))) eI) (λh=>?_) (λh=>?_)
       · have Oj:¬n∈pick:=by simpa using h
         refine⟨_,rfl,_,rfl,_,rfl,by show 1<=sizeLine;decide,λt1 WJ=>?_⟩;have S5:au H3 (upd H3 t1 (.tup [V.int (n:Nat)])):=(au.refl H3).laid WJ;refine⟨qa,t1,nV pick,[V.int (n:Nat)],rfl,rfl,bZ.of (S5 _ _ Tt),ae,by simp,by rw[aN,XY];simp;omega,λp4 H4 S6 WK=>?_⟩;have RP:nV pick++[V.int (n:Nat)]=((pick++[n]).map λx=>((x:Nat):Int)).map V.int:=by
          unfold nV;rw[XO,XO,XX];rfl
         refine⟨p4,(pick++[n]).map λx=>((x:Nat):Int),rfl,bZ.of (by rw[WK,RP]),by rw[Xs,XS];simp;omega,λms p5 WL WM P9=>?_⟩;have WN:=xA NT Oj WL WM;subst WN;have e7:((gd n pick).map λx=>((x:Nat):Int)).map V.int=(kL (gd n pick)).map kV:=by
          rw[Dg];unfold nV;rw[XX];rfl
         rw[e7];refine⟨p5,_,rfl,.inl ⟨aP.of ae,λp6 WO=>?_⟩⟩;have S7:au H3 (upd (upd H4 p5 (.lst ((kL (gd n pick)).map kV))) p6 (.tup ((kL (gd n pick)).map kV))):=(S5.trans S6).trans (((au.refl H4).laid P9).trans ((au.refl _).laid WO));have RQ:=S7 _ _ e4;refine⟨lg,_,rfl,.inr ⟨LC,kL (gd n pick),p6,RQ,rfl,ae,by rw[XY];omega,rfl⟩,some (.int (n:Nat)),putK LC (kL (gd n pick)) (V.bl true),rfl,?_,ae,?_⟩
         · intro c u z;rw[aq (ao z Tr)];exact S7 c u (S4 c u z)
         · rw[RO,vi hk];unfold cx;rw[Xu (by rw[YB,XB];exact Oj)]
       · have Oj:n∈pick:=by simpa using h
         refine⟨_,LC,rfl,S4,e4,?_⟩;rw[RO,hk];unfold cx;rw[Xv (by rw[YB,XB];exact Oj)]
     · rintro σ H3 ⟨v5,LC,rfl,S4,e4,hk⟩;rw[aN,Yr] at hk;exact⟨_,_,LC,rfl,S4,e4,by rw[Ts];exact hk⟩
   · rintro σ H2 ⟨v4,v5,LC,rfl,S3,e3,hk⟩;rw[Xs,N0,Yr] at hk;refine⟨_,rfl,lg,LC,rfl,e3,λrs l Tu hl=>?_⟩;refine⟨l,rs,_,_,_,_,rfl,(S1.trans S3).laid ?_,ae,?_⟩
     · cases hz:H l with
       |none=>rfl
       |some o=>rw[S3 l o (S1 l o hz)] at hl;cases hl
     · rw[NA];have hk:LC.map (·.1)=(fe M_ sj).map kL:=hk;have RR:LC.length=(fe M_ sj).length:=by
        have:=YA List.length hk
        rwa [Xs,Xs] at this
       refine j9 (by rw[Paired.length Tu,RR]) λt q' l' MT OD=>?_;obtain⟨kv,WQ,hH⟩:=Paired.qR Tu MT;have WR:kv.1=kL l':=by
        have z1:(LC.map (·.1))[t]?=some kv.1:=by rw[Xy,WQ];rfl
        rw[hk,Xy,OD] at z1;exact (X7 z1).symm
       rw[aq (ao hH hl),hH,WR,Dg]
 · rintro σ H1 ⟨pk,qs,v2,v3,v4,v5,rfl,S1,e1,hQ⟩;rw[Xs,LG,Yr] at hQ;exact⟨_,rfl,q H1 pk S1 ⟨qs,e1,hQ⟩⟩
end
theorem wQ {α:Type}{ys zs:List α}(l:ys.length=zs.length)(f:∀(i:Nat) y,ys[i]?=some y->zs[i]?=some y):ys=zs:=ZQ λi=>by
 cases h:ys[i]? with
 |some y=>exact (f i y h).symm
 |none =>
  rw[List.getElem?_eq_none_iff] at h;exact (Yx (by omega)).symm
theorem yT {β:Type}{G:Addr->β->Prop}:∀{ys:List V} {zs:List β},ys.length=zs.length->(∀(i:Nat) (y:V),ys[i]?=some y->∃b z,zs[i]?=some z/\y=V.ref b/\G b z)->∃bs:List Addr,ys=bs.map V.ref/\Paired G bs zs
 |[],[],_,_=>⟨[],rfl,.nil⟩
 |y::ys,z::zs,l,f=>by
  obtain⟨b,z',h1,h2,h3⟩:=f 0 y rfl;obtain⟨bs,e,p⟩:=yT (ys:=ys) (zs:=zs) (G:=G) (by simpa using l) λi v h=>f (i+1) v h;cases h1;exact⟨b::bs,by rw[h2,e];rfl,.cons h3 p⟩
 |[],_::_,l,_=>by simp at l
 |_::_,[],l,_=>by simp at l
theorem nQ {α β γ:Type}{F:α->β->Prop}{G:α->γ->Prop}{f:β->γ}:∀{l:List α} {m:List β},Paired F l m->(∀a b,F a b->G a (f b))->Paired G l (m.map f)
 |_,_,.nil,_=>.nil
 |_,_,.cons h t,k=>.cons (k _ _ h) (nQ t k)
theorem yb {s:aae}:(s.map λn=>((n:Nat):Int)).Nodup↔s.Nodup:=by
 unfold List.Nodup;rw[List.pairwise_map];exact⟨λh=>h.imp λn e=>n (by rw[e]),λh=>h.imp λn e=>n (by omega)⟩
theorem DY {s:aae}:nV s=(s.map λn=>((n:Nat):Int)).map V.int:=by
 unfold nV;rw[XX];rfl
section
variable {P:Program}{w:World}{K:aaf}{mg:aah}{base:Heap}
def je (K:aaf) (r:aad->aae->Nat):Sp:=λvs H Q _=>∃(a t:Addr) (ss:aad) (s:aae),vs=[.ref a,.ref t]/\bD K H a ss/\bZ K H t (nV s)/\C4 ss/\s.length<=ss.length/\∀H',au H H'->Q (.int (r ss s:Nat)) H'
theorem s_:aG ["sets","start","numbers"] ["sets","start"] (aw fR):=fs
theorem DS (G:GW mg){k:Nat}(FI:Fn P w K mg base bC k "is_of" ["sets","start"] (sU K))(FP:Fn P w K mg base bC k "product_of" ["numbers"] (AL K)){f:Addr}{fd:FuncData}(F:di K "count_legs" "count_legs" fR f fd):a8 P w K mg base bC (k+1) f fd ["sets","start"] (je K kM):=by
 refine F.oa s_ λLF A outer s H vs Q E hr h=>?_;obtain⟨a,t,ss,s,rfl,hL,hT,hS,hl,q⟩:=h;refine⟨_,af (aO (cG (hU (aR FI hr bb (aa (pv 0) (aa (pv 1) ah))))) (ak (az ax)) aB)
  (ak (az (aR FP hr bb (aa (fA (te:=G_ (λxs H Q=>∃p ys,xs=[.ref p]/\(aP K H p ys∨bZ K H p ys)/\Q (.int ys.length) H) (cO (cI 2) eV)) rfl s_.nd (bJ (cN fw (pv 0) (cY (bh G.len (pv 1))) fk)) (bz (own:=[("numbers",2)]) rfl)
   (λ_ _ _ _ _=>bo 2 s_.nd) (λ_ _ _ _ _=>cz) (λ_ _ _ _ _=>bh G.len (pv 2))) ah)))),?_⟩
 refine⟨_,rfl,_,rfl,a,t,ss,s,rfl,hL,hT,hS.len,hl,λH1 S1=>⟨_,rfl,?_⟩⟩;obtain⟨as,hA,hP⟩:=hL;have LG:as.length=ss.length:=Paired.length hP;unfold kM at q;refine gH (λh=>?_) (λh=>?_)
 · have h:¬iG ss s=true:=by simpa using h
   rw[Xu h] at q;exact q H1 S1
 have h:iG ss s=true:=by simpa using h
 rw[Xv h] at q;refine⟨_,rfl,_,rfl,t,_,rfl,.inr (S1.tup hT),_,rfl,a,_,rfl,S1.seq hA,λp hp=>?_⟩;rw[aN,qC,←ZY];have S2:au H (upd H1 p (.lst ((as.drop s.length).map V.ref))):=S1.trans ((au.refl H1).laid hp);refine⟨p,rfl,⟨_,aP.of ae⟩,λD hD=>oE (K:=K) (a:=p) (xs:=(as.drop s.length).map V.ref) (λi y _=>∃si,(ss.drop s.length)[i]?=some si/\y=.int (si.length:Nat)) (λi y H H' _ z=>z) (aP.of ae) hD (by rw[Xs,Ym];have:=hS.len;omega) ?_ ?_⟩
 · rintro i x H' hx S _ R hR;obtain⟨ai,L5,rfl⟩:=jL hx;obtain⟨si,Nz,hI⟩:=Paired.qR (Paired.dp s.length hP) L5;exact⟨rfl,_,rfl,ai,nV si,rfl,.inl ((S2.trans S).seq hI),hR _ _ (au.refl _) ⟨si,Nz,by rw[aN]⟩⟩
 · rintro ys H' S e l f;have ey:ys=nV ((ss.drop s.length).map List.length):=by
    refine wQ (by rw[l,aN,Xs,Xs,Ym,Ym,LG]) λi y hy=>?_;obtain⟨si,Nz,rfl⟩:=f i y hy;unfold nV;rw[Xy,Xy,Nz];rfl
   subst ey;refine⟨D,_,rfl,aP.of e,λn hn=>?_,λH2 S3=>q H2 ((S2.trans S).trans S3)⟩;obtain⟨s0,Rq,rfl⟩:=X3.mp hn;have g:=hS.good s0 (Y3 Rq);have:=mD g.1 g.2;omega
theorem C4.out {ss:aad}{s:aae}(o:C4 ss)(n:Nat):C4 ((ss.drop n).map (gF s)):=by
 refine⟨by rw[Xs,Ym];have:=o.len;omega,λu hu=>?_,λu hu x hx=>?_⟩
 · obtain⟨v,hv,rfl⟩:=X3.mp hu;have g:=o.good v (Y3 hv);exact⟨List.Pairwise.filter _ g.1,λx hx=>g.2 x (YD.mp hx).1⟩
 · obtain⟨v,hv,rfl⟩:=X3.mp hu;exact o.lo v (Y3 hv) x (YD.mp hx).1
theorem tL:aG ["sets","start","numbers"] ["sets","start"] (aw eh):=fs
theorem Fb (G:GW mg)(N:GN mg){k:Nat}(FI:Fn P w K mg base bC k "is_of" ["sets","start"] (sU K))(FD:Fn P w K mg base bC k "count_different" ["sets"] (F9 K))(FW:Fn P w K mg base bC k "without" ["numbers","taken"] (tG K)){f:Addr}{fd:FuncData}(F:di K "count_orders" "count_orders" eh f fd):a8 P w K mg base bC (k+1) f fd ["sets","start"] (je K tO):=by
 refine F.oa tL λLF A outer s H vs Q E hr h=>?_;obtain⟨a,t,ss,s,rfl,hL,hT,hS,hl,q⟩:=h;refine⟨_,af (aO (PW.pt (eG (cG (hU (aR FI hr bb (aa (pv 0) (aa (pv 1) ah))))) (cQ (aC nX (bY EG (by rfl) G.len PySem.boot_len (aa (j0 (D5 rfl) (by rfl) N.set (by decide +kernel) (aa (pv 1) ah)) ah)) (bh G.len (pv 1)) (aJ _))))) (ak (az ax)) aB)
  (ak (az (aR FD hr bb (aa (fA (te:=nH (tG K) [] E0 (cO (cI 2) (cO (cI 1) eV))) rfl tL.nd (bJ (cN fw (pv 0) (cY (bh G.len (pv 1))) fk)) (bz (own:=[("numbers",2)]) rfl)
   (λ_ _ _ _ _=>bo 2 tL.nd) (λ_ _ _ _ _=>cz) (λ_ _ _ _ _=>aR FW (by first|exact hr|exact hr.qJ) bb (aa (pv 2) (aa (pv 1) ah)))) ah)))),?_⟩
 refine⟨_,rfl,_,rfl,a,t,ss,s,rfl,hL,hT,hS.len,hl,λH1 S1=>⟨_,rfl,?_⟩⟩;obtain⟨as,hA,hP⟩:=hL;have LG:as.length=ss.length:=Paired.length hP;have h6:=hS.len;unfold tO at q;refine gH (λh=>?_) (λh=>?_)
 · have h:¬iG ss s=true:=by simpa using h
   rw[Xu λz=>h z.1] at q;exact pQ (q H1 S1)
 have h:iG ss s=true:=by simpa using h
 refine⟨_,rfl,t,s.map λn=>((n:Nat):Int),rfl,by rw[←DY];exact S1.tup hT,by rw[Xs];omega,λp S n hp hn Na=>?_⟩;rw[Xs] at hn Na;rw[yb] at Na;have Sp:au H (upd H1 p (.set S n)):=S1.trans ((au.refl H1).laid hp);refine⟨p,S,n,rfl,ae,by omega,_,rfl,t,_,rfl,.inr (Sp.tup hT),_,_,rfl,rfl,_,rfl,?_⟩;rw[aN];refine gH (λh2=>?_) (λh2=>?_)
 · have h2:=XQ h2;rw[Xu λz=>by have:=Na.mpr z.2;omega] at q;exact q _ Sp
 have h2:s.Nodup:=Na.mp (by have:¬((n:Nat):Int) < ((s.length:Nat):Int):=by simpa using h2
                            omega)
 rw[Xv ⟨h,h2⟩] at q;refine⟨_,rfl,_,rfl,t,_,rfl,.inr (Sp.tup hT),_,rfl,a,_,rfl,Sp.seq hA,λp2 NV=>?_⟩;rw[aN,qC,←ZY];have S2:au H (upd (upd H1 p (.set S n)) p2 (.lst ((as.drop s.length).map V.ref))):=Sp.trans ((au.refl _).laid NV);refine⟨p2,rfl,⟨_,aP.of ae⟩,λD hD=>oE (K:=K) (a:=p2) (xs:=(as.drop s.length).map V.ref) (λi y H=>∃b si,(ss.drop s.length)[i]?=some si/\y=.ref b/\b≠D/\H b=some (.lst (nV (gF s si)))) (λi y H H' z ⟨b,si,z1,z2,z3,z4⟩=>⟨b,si,z1,z2,z3,z b _ z3 z4⟩) (aP.of ae) hD (by rw[Xs,Ym];omega) ?_ ?_⟩
 · rintro i x H' hx S3 ⟨acc,RT⟩ R hR;obtain⟨ai,L5,rfl⟩:=jL hx;obtain⟨si,Nz,hI⟩:=Paired.qR (Paired.dp s.length hP) L5;have g:=hS.good si (Y3 (XZ Nz));have:=mD g.1 g.2;refine⟨rfl,_,rfl,_,rfl,ai,t,si,s,rfl,(S2.trans S3).seq hI,(S2.trans S3).tup hT,by omega,λH4 x S4 Tw NX=>hR _ _ S4 ⟨x,si,Nz,rfl,?_,NX⟩⟩;rintro rfl;rw[RT] at Tw;cases Tw
 · rintro ys H' S3 e l f;obtain⟨bs,rfl,hB⟩:=yT (zs:=ss.drop s.length) (G:=λb si=>b≠D/\H' b=some (.lst (nV (gF s si)))) (by rw[l,Xs,Ym,Ym,LG]) f;refine⟨D,(ss.drop s.length).map (gF s),rfl,⟨bs,aP.of e,nQ hB λb si z=>aP.of z.2⟩,hS.out _,λH2 S4=>q H2 ((S2.trans S3).trans S4)⟩
end
structure pU (LC:List (List Key×V))(f:aae->Nat):Prop where
 val:∀s,cR LC (kL s)=if f s=0 then none else some (.int (f s:Nat))
 keys:∃ks:aad,LC.map (·.1)=ks.map kL/\ks.Nodup
theorem pU.get {LC:List (List Key×V)}{f:aae->Nat}(h:pU LC f)(s:aae):(cR LC (kL s)).getD (.int 0)=.int (f s:Nat):=by
 rw[h.val s];by_cases z:f s=0
 · rw[Xv z,z];rfl
 · rw[Xu z];rfl
theorem pU.put {LC:List (List Key×V)}{f g:aae->Nat}(h:pU LC f)(s:aae)(hg:∀r,g r=if r=s then f s+1 else f r):pU (putK LC (kL s) (.int (f s+1:Nat))) g:=by
 refine⟨λr=>?_,?_⟩
 · rw[oU,hg r];by_cases e:r=s
   · subst e;rw[Xv rfl,Xv rfl,Xu (by omega)]
   · rw[Xu λz=>e (Ca z),Xu e,h.val r]
 · obtain⟨ks,e,nd⟩:=h.keys;exact⟨_,vi e,mr nd⟩
theorem CN {LC:List (List Key×V)}{k:List Key}{v:V}:(putK LC k v).length<=LC.length+1:=by
 unfold putK;split
 · rw[Xs];omega
 · rw[XS];exact XC _
def tM (R:aad)(row:aae)(j:Nat)(s:aae):Nat:=pre R s+if s.length < j/\s.isPrefixOf row=true then 1 else 0
theorem zH (R:aad)(row s:aae):tM R row 0 s=pre R s:=by
 unfold tM;rw[Xu (by omega),Nat.add_zero]
theorem Bc (R:aad)(row s:aae):tM R row (row.length+1) s=pre (R++[row]) s:=by
 unfold tM pre;rw[List.countP_append,List.countP_singleton];congr 1;refine kl ⟨λh=>h.2,λh=>⟨?_,h⟩⟩;have:=(aaa.mp h).length_le;omega
theorem zE {R:aad}{row:aae}{j:Nat}(hj:j<=row.length)(s:aae):tM R row (j+1) s=if s=row.take j then tM R row j (row.take j)+1 else tM R row j s:=by
 have l:(row.take j).length=j:=by rw[XT];omega
 unfold tM;by_cases e:s=row.take j
 · subst e;rw[Xv rfl,Xv ⟨by omega,aaa.mpr (List.take_prefix ..)⟩,Xu (by omega)]
 · rw[Xu e];congr 1;refine kl ⟨λh=>⟨?_,h.2⟩,λh=>⟨by omega,h.2⟩⟩;have:s.length≠j:=λz=>e (by rw[(List.prefix_iff_eq_take.mp (aaa.mp h.2)),z]);omega
section
variable {P:Program}{w:World}{K:aaf}{mg:aah}{base:Heap}
def Fq:Sp:=λvs H Q _=>∃(a:Addr) (R:aad),vs=[.ref a]/\Bz H a R/\(∀r∈R,r.length<=3)/\R.length<=20000/\∀H' x LC,au H H'->H x=none->H' x=some (.dT LC)->pU LC (pre R)->Q (.ref x) H'
theorem qp:aG ["rows","counts","row","size","start"] ["rows"] (aw eU):=fs
theorem G0 (G:GW mg)(N:GN mg){f:Addr}{fd:FuncData}(F:di K "count_starts" "count_starts" eU f fd):a8 P w K mg base bC 1 f fd ["rows"] Fq:=by
 refine F.oa qp λLF A outer s H vs Q E hr h=>?_;obtain⟨a,R,rfl,⟨qs,hA,hP⟩,h3,hl,q⟩:=h;have hu:=vO hr;refine⟨_,af (a7 1 qp.nd pN)
  (af (da Yz rfl (bJ (pv 0)) (bo 2 qp.nd)
   (ak (da Yz rfl (gf rfl N.range (aa (bG eJ (bh G.len (pv 2)) ax) ah)) (bo 3 qp.nd)
    (af (a7 4 qp.nd (cN EZ (pv 2) fk (cY (pv 3))))
    (ak (mL hu (pv 1) (pv 4) (bG eJ (vS hu (pv 1) (pv 4) ax ⟨rfl,rfl,rfl,rfl⟩) ax) rfl))))))
  (ak (az (pv 1)))),?_⟩
 have N0:qs.length=R.length:=Paired.length hP;intro dc RU;have S0:au H (upd H dc (.dT [])):=(au.refl H).laid RU;refine⟨_,rfl,a,rfl,⟨_,aP.of (S0 _ _ hA)⟩,df (K:=K) (a:=a) (xs:=qs.map V.ref) (λi σ H'=>∃(v2 v3 v4:Option V) (LC:List (List Key×V)),σ=[some (.ref a),some (.ref dc),v2,v3,v4]/\au H H'/\H' dc=some (.dT LC)/\pU LC (pre (R.take i))/\LC.length<=4*i)
  ⟨none,none,none,[],rfl,S0,ae,⟨λs=>rfl,[],rfl,by simp⟩,by simp⟩ (λi σ H' _ ⟨_,_,_,_,_,S,_⟩=>aP.of (S _ _ hA)) ?_ ?_⟩
 · rintro i x σ H1 hi ⟨v2,v3,v4,LC,rfl,S1,e1,k1,l1⟩;obtain⟨qa,RN,rfl⟩:=jL hi;obtain⟨row,N2,hT⟩:=Paired.qR hP RN;have LM:i < R.length:=(XH.mp N2).1;have r3:=h3 row (XZ N2);refine oP (tU (jO (aU (ag rfl) (.inr (bZ.of (S1 _ _ hT)))) aD) (by omega) (by rw[aN];omega) ?_);rw[aN,show (((row.length:Nat):Int)+1).toNat=row.length+1 by omega];refine m9 (lo:=0) (n:=row.length+1) (λj σ H'=>∃(v3 v4:Option V) (LC:List (List Key×V)),σ=[some (.ref a),some (.ref dc),some (.ref qa),v3,v4]/\au H H'/\H' dc=some (.dT LC)/\pU LC (tM (R.take i) row j)/\LC.length<=4*i+j)
    ⟨v3,v4,LC,rfl,S1,e1,⟨λs=>by rw[zH];exact k1.val s,k1.keys⟩,l1⟩ ?_ ?_
   · rintro j σ H2 hj ⟨v3,v4,LC,rfl,S2,e2,k2,l2⟩;rw[Int.zero_add];refine⟨_,rfl,_,rfl,_,rfl,qa,_,rfl,S2 _ _ hT,λp H3 S3 hp=>?_⟩;rw[p_] at hp;have et:(nV row).take j=(kL (row.take j)).map kV:=by rw[Dg];unfold nV;rw[List.map_take]
     rw[et] at hp;have e3:=S3 _ _ e2;refine⟨_,rfl,dc,rfl,.inr ⟨LC,.inl e3⟩,_,rfl,_,gu.t e3 hp,_,_,k2.get _,rfl,_,rfl,_,rfl,dc,_,rfl,.inr ⟨LC,_,p,e3,rfl,hp,by rw[XY];omega,rfl⟩,_,_,_,rfl,?_,ae,?_,?_⟩
     · intro b u z;rw[aq (ao z RU)];exact S3 b u (S2 b u z)
     · have:=k2.put (row.take j) (zE (R:=R.take i) (row:=row) (j:=j) (by omega));exact this
     · exact Yh CN (by omega)
   · rintro σ H2 ⟨v3,v4,LC,rfl,S2,e2,k2,l2⟩;refine⟨_,_,_,LC,rfl,S2,e2,⟨λs=>?_,k2.keys⟩,by omega⟩;rw[k2.val s,Bc,←take_snoc N2]
 · rintro σ H1 ⟨v2,v3,v4,LC,rfl,S1,e1,k1,l1⟩;rw[Xs,N0,Yr] at k1;exact⟨_,rfl,q H1 dc LC S1 RU e1 k1⟩
end
def ma (k g p:V):List (Str×V):=[("kind",k),("grids",g),("picks",p)]
abbrev jI:List Str:=["kind","grids","picks"]
section
variable {a b c:V}
theorem wX:(ma a b c).lookup ("kind":Str)=some a:=bS
theorem vA:(ma a b c).lookup ("grids":Str)=some b:=by unfold ma;rw[a9 (by decide +kernel)];exact bS
theorem vo:(ma a b c).lookup ("picks":Str)=some c:=by unfold ma;rw[a9 (by decide +kernel),a9 (by decide +kernel)];exact bS
theorem A0 {f:Str}(h:¬f∈jI):(ma a b c).lookup f=none:=ot h
end
def dA (K:aaf)(H:Hp)(a:Addr)(gs:List (aad)):Prop:=∃as:List Addr,aP K H a (as.map V.ref)/\Paired (bD K H) as gs
def dZ (K:aaf)(CR:Addr)(H:Hp)(x:Addr)(kd:Tote.Kind)(gs:List (aad)):Prop :=
 ∃dx ga pa LC,H x=some (.ins CR dx (ma (.str (st (cd (kindS kd)))) (.ref ga) (.ref pa)))/\dA K H ga gs/\uD kd gs/\H pa=some (.dT LC)/\(kd=.any->pU LC (pre (bx (gs.headD []))))
section
variable {K:aaf}{H H':Hp}{CR a x:Addr}{kd:Tote.Kind}{gs:List (aad)}
theorem dA.same (h:dA K H a gs) (e:au H H'):dA K H' a gs:=by
 obtain⟨as,h1,h2⟩:=h;exact⟨as,e.seq h1,Paired.d9 h2 λ_ _ z=>z.same e⟩
theorem dA.jB {C dx:Addr}{fs:List (Str×V)}(h:dA K H a gs)(S:aL x H H')(hx:H x=some (.ins C dx fs)):dA K H' a gs:=by
 obtain⟨as,h1,h2⟩:=h;exact⟨as,S.seq hx h1,Paired.d9 h2 λ_ _ z=>aL.lists S hx z⟩
theorem dA.first (h:dA K H a gs)(ne:gs≠[]):∃(as:List Addr) (a0:Addr),aP K H a (as.map V.ref)/\nU (as.map V.ref) 0=some (V.ref a0)/\bD K H a0 (gs.headD [])/\gs.headD []∈gs:=by
 obtain⟨as,h1,h2⟩:=h;cases h2 with
 |nil=>exact absurd rfl ne
 |@cons a0 g as gs h t=>exact⟨_,a0,h1,cu (j:=0) rfl,h,by simp⟩
theorem dZ.same (h:dZ K CR H x kd gs)(e:au H H'):dZ K CR H' x kd gs:=by
 obtain⟨dx,ga,pa,LC,h1,h2,h3,h4,h5⟩:=h;exact⟨dx,ga,pa,LC,e _ _ h1,h2.same e,h3,e _ _ h4,h5⟩
theorem dZ.jB {y C dy:Addr}{fs:List (Str×V)}(h:dZ K CR H x kd gs)(S:aL y H H')(hy:H y=some (.ins C dy fs))(hl:fs.length≠3):dZ K CR H' x kd gs:=by
 obtain⟨dx,ga,pa,LC,h1,h2,h3,h4,h5⟩:=h;exact⟨dx,ga,pa,LC,S _ _ h1 (dE h1 hy (Bh λz=>hl z.symm)),h2.jB S hy,h3,S _ _ h4 (dE h4 hy (by intro z;cases z)),h5⟩
end
theorem kind_any {kd:Tote.Kind}:decide (V.str (st (cd (kindS kd)))=V.str (Str.ofString "any"))=decide (kd=.any):=by
 rw[ij];cases kd <;> decide
theorem kind_ord {kd:Tote.Kind}:decide (V.str (st (cd (kindS kd)))=V.str (Str.ofString "order"))=decide (kd=.order):=by
 rw[ij];cases kd <;> decide
section
variable {P:Program}{w:World}{K:aaf}{mg:aah}{base:Heap}
def j2 (K:aaf) (CR:Addr):Sp:=λvs H Q _=>∃(x dx ga:Addr) (kd:Tote.Kind) (gs:List (aad)),vs=[.ref x,.str (st (cd (kindS kd))),.ref ga]/\H x=some (.ins CR dx [])/\dA K H ga gs/\uD kd gs/\∀H',aL x H H'->dZ K CR H' x kd gs->Q .cb H'
theorem CS:aG ["self","kind","grids"] ["self","kind","grids"] (aw gR):=fs
theorem Cw {CR:Addr}(T:CK K mg "Rows" jI CR){k:Nat}(FC:Fn P w K mg base bC k "count_starts" ["rows"] Fq)(FP:Fn P w K mg base bC k "picks_of" ["sets"] (rq K)){f:Addr}{fd:FuncData}(F:di K "__init__" "Rows.__init__" gR f fd):a8 P w K mg base bC (k+1) f fd ["self","kind","grids"] (j2 K CR):=by
 refine F.oa CS λLF A outer s H vs Q E hr h=>?_;obtain⟨x,dx,ga,kd,gs,rfl,hx,hG,o,q⟩:=h;refine⟨_,af (cD (pv 0) (pv 1) rfl) (af (cD (pv 0) (pv 2) rfl) (ak (cD (pv 0) (BH (aC cp (pv 1) bq (aJ _)) (aR FC hr bb (aa (aR FP hr bb (aa (bp aM (pv 2) ax (λ_ _=>rfl)) ah)) ah)) pN) rfl))),?_⟩;refine⟨_,rfl,_,rfl,x,CR,dx,[],rfl,hx,T.cl,T.no _ (by simp),(by show 0 < 1000;decide),?_⟩;refine⟨_,rfl,_,rfl,x,CR,dx,_,rfl,ae,T.cl,T.no _ (by simp),(by show 1 < 1000;decide),?_⟩;rw[cJ]
 repeat (first|rw[bR]|rw[bc (by decide +kernel)])
 have S1:aL x H (upd H x (.ins CR dx [("kind",.str (st (cd (kindS kd)))),("grids",.ref ga)])):=(aL.refl x H).upd;have Mv:(upd H x (.ins CR dx [("kind",.str (st (cd (kindS kd)))),("grids",.ref ga)])) x=some (.ins CR dx [("kind",.str (st (cd (kindS kd)))),("grids",.ref ga)]):=ae;generalize upd H x (.ins CR dx [("kind",.str (st (cd (kindS kd)))),("grids",.ref ga)])=H1 at S1 Mv;have WS:=hG.jB S1 hx;have fin:∀(H2:Hp) (pa:Addr) (LC:List (List Key×V)),au H1 H2->H2 pa=some (.dT LC)->(kd=.any->pU LC (pre (bx (gs.headD []))))->Q .cb (upd H2 x (.ins CR dx (ma (.str (st (cd (kindS kd)))) (.ref ga) (.ref pa)))):=λH2 pa LC S2 hp hk=>by
  have SX:aL x H (upd H2 x (.ins CR dx (ma (.str (st (cd (kindS kd)))) (.ref ga) (.ref pa)))):=(S1.trans S2.x).upd;exact q _ SX ⟨dx,ga,pa,LC,ae,hG.jB SX hx,o,by rw[aq (dE hp (S2 _ _ Mv) (by intro z;cases z))];exact hp,hk⟩
 have last:∀(H2:Hp) (pa:Addr) (LC:List (List Key×V)),au H1 H2->H2 pa=some (.dT LC)->(kd=.any->pU LC (pre (bx (gs.headD []))))->Q .cb (upd H2 x (.ins CR dx (eN "picks" (.ref pa) [("kind",.str (st (cd (kindS kd)))),("grids",.ref ga)]))):=λH2 pa LC S2 hp hk=>by
  rw[bc (by decide +kernel),bc (by decide +kernel),bR];exact fin H2 pa LC S2 hp hk
 refine (aI (cj (ag rfl) aD)) _ ?_;rw[kind_any];refine gH (λh=>?_) (λh=>?_)
 · have h:=XQ h;obtain⟨as,a0,hA,h0,hL,hm⟩:=WS.first o.ne
   have sg:=o.ok _ hm;have l3:=o.any h _ hm;generalize gs.headD []=g at hL sg l3 last;refine (aZ (ag rfl) aD hA h0) _ ⟨a0,g,rfl,hL,sg,l3,λH2 xp S2 MC=>⟨xp,_,rfl,MC,λr hm=>?_,?_,λH3 xd LC S3 hxd e3 k3=>?_⟩⟩
   · rw[(jW ((j7 g r).mp hm).2).1];exact l3
   · have:=ng 3 g λs hs=>mD (sg.good s hs).1 (sg.good s hs).2;rw[Yq l3] at this;exact Yh this (by decide)
   · exact⟨_,rfl,x,CR,dx,_,rfl,S3 _ _ (S2 _ _ Mv),T.cl,T.no _ (by simp),(by show 2 < 1000;decide),last H3 xd LC (S2.trans S3) e3 λ_=>k3⟩
 · have h:=Yd (by simpa using h);intro d hd;exact⟨_,rfl,x,CR,dx,_,rfl,((au.refl H1).laid hd) _ _ Mv,T.cl,T.no _ (by simp),(by show 2 < 1000;decide),last _ d [] ((au.refl H1).laid hd) ae λz=>absurd z h⟩
def tW (K:aaf)(CR:Addr):Sp:=λvs H Q _=>∃(x t:Addr) (kd:Tote.Kind) (gs:List (aad)) (s:aae),vs=[.ref x,.ref t]/\dZ K CR H x kd gs/\H t=some (.tup (nV s))/\(∀g∈gs,s.length<=g.length)/\∀H',au H H'->Q (.int (pre (rA kd gs) s:Nat)) H'
theorem jr:aG ["self","start","grid"] ["self","start"] (aw dQ):=fs
theorem A7 {CR:Addr}(N:GN mg)(T:CK K mg "Rows" jI CR){k:Nat}(FO:Fn P w K mg base bC k "count_orders" ["sets","start"] (je K tO))(FL:Fn P w K mg base bC k "count_legs" ["sets","start"] (je K kM)){f:Addr}{fd:FuncData}(F:di K "starting" "Rows.starting" dQ f fd):a8 P w K mg base bC (k+1) f fd ["self","start"] (tW K CR):=by
 refine F.oa jr λLF A outer s H vs Q E hr h=>?_;obtain⟨x,t,kd,gs,s,rfl,⟨dx,ga,pa,LC,hx,hG,o,hp,hk⟩,hT,hl,q⟩:=h;have hu:=vO hr;refine⟨_,af (aO (aC cp (aV (pv 0) rfl) bq (aJ _)) (ak (az (vS hu (aV (pv 0) rfl) (pv 1) ax ⟨rfl,rfl,rfl,rfl⟩))) aB)
  (af (aO (aC cp (aV (pv 0) rfl) bq (aJ _)) (ak (az (bY (xY rfl) (by rfl) N.sum (by decide +kernel) (aa (fA (te:=nH (je K tO) [] E0 (cO (cI 2) (cO (cI 1) eV))) rfl jr.nd (bJ (aV (pv 0) rfl)) (bz (own:=[("grid",2)]) rfl) (λ_ _ _ _ _=>bo 2 jr.nd) (λ_ _ _ _ _=>cz) (λ_ _ _ _ _=>aR FO (by first|exact hr|exact hr.qJ) bb (aa (pv 2) (aa (pv 1) ah)))) ah)))) aB)
  (ak (az (bY (xY rfl) (by rfl) N.sum (by decide +kernel) (aa (fA (te:=nH (je K kM) [] E0 (cO (cI 2) (cO (cI 1) eV))) rfl jr.nd (bJ (aV (pv 0) rfl)) (bz (own:=[("grid",2)]) rfl) (λ_ _ _ _ _=>bo 2 jr.nd) (λ_ _ _ _ _=>cz) (λ_ _ _ _ _=>aR FL (by first|exact hr|exact hr.qJ) bb (aa (pv 2) (aa (pv 1) ah)))) ah))))),?_⟩
 have Tx:∀{σ:L2.St},σ[0]?=some (some (V.ref x))->Ev (vn K (cI 0) "kind") σ H (.str (st (cd (kindS kd)))):=λz=>bf (ag z) hx T.cl (T.no _ (by simp)) wX;have WT:∀{σ:L2.St},σ[0]?=some (some (V.ref x))->Ev (vn K (cI 0) "grids") σ H (.ref ga):=λz=>bf (ag z) hx T.cl (T.no _ (by simp)) vA;have many:∀(r:aad->aae->Nat) (R:VK),(∀H',au H H'->R (.int (((gs.map λg=>r g s).sum:Nat))) H')->(G2 (Fi K (vn K (cI 0) "grids")) (fL 2) B6 (nH (je K r) [] E0 (cO (cI 2) (cO (cI 1) eV))) [2]) [some (.ref x),some (.ref t),none] H λv H'=>IE K [v] H' R:=by
  intro r R hR;obtain⟨as,hA,hP⟩:=hG;have LG:as.length=gs.length:=Paired.length hP;refine yo ?_;show vn _ _ _ _ _ _;refine WT rfl _ ⟨ga,rfl,⟨_,hA⟩,λD hD=>oE (K:=K) (a:=ga) (xs:=as.map V.ref) (λi y _=>∃g,gs[i]?=some g/\y=.int (r g s:Nat)) (λi y H H' _ z=>z) hA hD (by rw[Xs,LG];have:=o.v9;omega) ?_ ?_⟩
  · rintro i v H' hi S _ R hR;obtain⟨ai,L5,rfl⟩:=jL hi;obtain⟨g,hg,hL⟩:=Paired.qR hP L5;have mg:=XZ hg;exact⟨rfl,_,rfl,_,rfl,ai,t,g,s,rfl,hL.same S,bZ.of (S _ _ hT),o.ok g mg,hl g mg,λH4 S4=>hR _ _ S4 ⟨g,hg,rfl⟩⟩
  · rintro ys H' S e l f;have ey:ys=((gs.map λg=>r g s).map λn=>((n:Nat):Int)).map V.int:=by
     refine wQ (by rw[l];simp[LG]) λi y hy=>?_;obtain⟨g,hg,rfl⟩:=f i y hy;rw[Xy,Xy,Xy,hg];rfl
    subst ey;refine⟨D,_,rfl,aP.of e,?_⟩;rw[pz];exact hR H' S
 refine aS (aI (cj (Tx rfl) aD)) (λh=>?_) (λh=>?_)
 · rw[kind_any] at h;have h:=XQ h;have SN:=hk h;subst h;show vn _ _ _ _ _ _;refine (bf (ag rfl) hx T.cl (T.no _ (by simp)) vo) _ ⟨pa,rfl,.inr ⟨LC,.inl hp⟩,_,rfl,_,gu.t hp (k:=kL s) (by rw[Dg];exact hT),?_⟩;show Q ((cR LC (kL s)).getD (.int 0)) H;rw[SN.get s];exact q H (au.refl H)
 rw[kind_any] at h;have na:=Yd h;refine aS (aI (cj (Tx rfl) aD)) (λh=>?_) (λh=>?_)
 · rw[kind_ord] at h;have h:=XQ h;subst h;refine many tO _ λH' S=>?_;rw[zR o hl];exact q H' S
 rw[kind_ord] at h;have no:=Yd h;refine many kM _ λH' S=>?_;rw[BZ no na o hl];exact q H' S
end
abbrev dN (s:aae):List PyData:=s.map λn=>.int (n:Nat)
theorem vq:∀s t:aae,PyData.eqvAll (dN s) (dN t)=(s==t)
 |[],[]=>by simp[PyData.eqvAll]
 |[],_::_=>by simp[PyData.eqvAll]
 |_::_,[]=>by simp[PyData.eqvAll]
 |x::s,y::t=>by
  have ih:=vq s t;have e:(((x:Nat):Int)==((y:Nat):Int))=(x==y):=by rw[X8,Yk,Yk];omega
  show (PyData.eqv (.int (x:Nat)) (.int (y:Nat))&&PyData.eqvAll (dN s) (dN t))=_;rw[ih];simp only[PyData.eqv];rw[e];rfl
theorem shaped_ints (s:aae):SeqAt.shaped (.list (dN s))=true:=by
 have h1:∀s:aae,PyData.canLayAll0 (dN s)=true:=λs=>by
  induction s with
  |nil=>simp[PyData.canLayAll0]
  |cons x s ih=>show (PyData.canLay0 (.int (x:Nat))&&PyData.canLayAll0 (dN s))=true;rw[ih];simp[PyData.canLay0]
 have h2:∀s:aae,PyData.depthAll (dN s)=0:=λs=>by
  induction s with
  |nil=>simp[PyData.depthAll]
  |cons x s ih=>show max (PyData.depth (.int (x:Nat))) (PyData.depthAll (dN s))=0;rw[ih];simp[PyData.depth]
 unfold SeqAt.shaped;rw[XA,XB];refine⟨?_,?_⟩
 · simp only[PyData.canLay0];exact h1 s
 · simp only[PyData.depth];rw[h2];decide
theorem zd {K:aaf}{H:Hp}{c:Addr}{s:aae}(h:aP K H c (nV s)):Dp K H (.ref c) (.list (dN s)):=by
 refine .lst h ?_;clear h
 induction s with
 |nil=>exact .nil
 |cons x s ih=>exact .cons (.int _) ih
def RS (K:aaf)(sd:Addr)(H:Hp)(c:Addr)(xs:List V):Prop:=∀H',aL sd H H'->aP K H' c xs
def RL (K:aaf)(sd:Addr)(H:Hp)(b:Addr)(g:aad):Prop:=∃as:List Addr,RS K sd H b (as.map V.ref)/\Paired (λc s=>RS K sd H c (nV s)) as g
section
variable {K:aaf}{sd b c:Addr}{H H':Hp}{xs:List V}{g:aad}
theorem RS.of (h:H c=some (.lst xs)) (n:c≠sd):RS K sd H c xs:=λ_ S=>aP.of (S _ _ h n)
theorem RS.old (h:aP K H c xs)(n:H sd=none)(S:au H H'):RS K sd H' c xs:=λ_ SX=>au.seq (λb u z=>SX b u (S b u z) (ao z n)) h
theorem RS.step (h:RS K sd H c xs)(S:aL sd H H'):RS K sd H' c xs:=λ_ T=>h _ (S.trans T)
theorem RL.step (h:RL K sd H b g)(S:aL sd H H'):RL K sd H' b g:=by
 obtain⟨as,h1,h2⟩:=h;exact⟨as,h1.step S,Paired.d9 h2 λ_ _ z=>z.step S⟩
theorem RL.lists (h:RL K sd H b g):bD K H b g:=by
 obtain⟨as,h1,h2⟩:=h;exact⟨as,h1 _ (aL.refl sd H),Paired.d9 h2 λ_ _ z=>z _ (aL.refl sd H)⟩
end
theorem gi {α β:Type}{F:α->β->Prop}:∀{l:List α} {m:List β} {l':List α} {m':List β},Paired F l m->Paired F l' m'->Paired F (l++l') (m++m')
 |_,_,_,_,.nil,h=>h
 |_,_,_,_,.cons h t,k=>.cons h (gi t k)
section
variable {P:Program}{w:World}{K:aaf}{mg:aah}{base:Heap}
def oX (K:aaf) (CR:Addr):Sp:=λvs H Q _=>∃(a:Addr) (kd:Tote.Kind) (ss:aad),vs=[.str (st (cd (kindS kd))),.ref a]/\bD K H a ss/\uD kd [ss]/\∀H' x,au H H'->dZ K CR H' x kd [ss]->Q (.ref x) H'
theorem Hu:aG ["kind","sets"] ["kind","sets"] (aw jY):=fs
theorem made {CR:Addr}{H H1:Hp}{Q:VK}{ga:Addr}{kd:Tote.Kind}{gs:List (aad)}(S:au H H1)(hG:dA K H1 ga gs)(o:uD kd gs)(q:∀H' x,au H H'->dZ K CR H' x kd gs->Q (.ref x) H')(x dx:Addr)(hx:H1 x=none)(Mm:H1 dx=none)(nx:dx≠x) :
  j2 K CR [.ref x,.str (st (cd (kindS kd))),.ref ga] (upd (upd H1 dx (.own x)) x (.ins CR dx [])) (λv H2=>v=.cb/\Q (.ref x) H2) E0:=by
 have S1:au H1 (upd (upd H1 dx (.own x)) x (.ins CR dx [])):=((au.refl H1).laid Mm).laid hx;exact⟨x,dx,ga,kd,gs,rfl,ae,hG.same S1,o,λH' SX hR=>⟨rfl,q H' x (λb u z=>SX b u (S1 b u (S b u z)) (ao (S b u z) hx)) hR⟩⟩
theorem HM {CR:Addr}(T:CK K mg "Rows" jI CR){k:Nat}(FR:xn P w K mg base bC k CR ["self","kind","grids"] (j2 K CR)){f:Addr}{fd:FuncData}(F:di K "rows_on" "rows_on" jY f fd):a8 P w K mg base bC (k+2) f fd ["kind","sets"] (oX K CR):=by
 refine F.oa Hu λLF A outer s H vs Q E hr h=>?_;obtain⟨a,kd,ss,rfl,hL,o,q⟩:=h;refine⟨_,ak (az (pI FR hr T.mg bb (aa (pv 0) (aa (bV (aa (pv 1) ah)) ah)))),?_⟩;refine⟨_,rfl,_,rfl,by show 1<=sizeLine;decide,λl hl=>?_⟩;have S1:au H (upd H l (.lst [V.ref a])):=(au.refl H).laid hl;exact λx dx hx Mm nx=>made S1 ⟨[a],aP.of ae,.cons (hL.same S1) .nil⟩ o q x dx hx Mm nx
def qX (K:aaf)(CR:Addr):Sp:=λvs H Q _=>∃(a:Addr) (k:Nat) (kd:Tote.Kind) (s:aae),vs=[.str (st (cd (kindS kd))),.int (k:Nat),.ref a]/\aP K H a (nV s)/\k<=6/\uD kd [List.replicate k s]/\∀H' x,au H H'->dZ K CR H' x kd [List.replicate k s]->Q (.ref x) H'
theorem ud:aG ["kind","size","numbers","place"] ["kind","size","numbers"] (aw iX):=fs
theorem yt {te:TE}{σ:L2.St}{H:Hp}{Q:VK}(h:te σ H λx H1=>1<=sizeLine/\∀p,H1 p=none->Q (.ref p) (upd H1 p (.lst [x]))):JS (cO te eV) σ H Q:=h
theorem HN {te:TE}{n:Nat}{D:Ends}{σ:L2.St}{H:Hp}(h:te σ H λv H'=>D.nx (σ.set n (some v)) H'):zX te (fL n) D σ H:=h
theorem yY {k n m:Nat}{vs:aae}{a:Addr}{σ:L2.St}{H:Hp}{Q:VK}{ta:TA}{g:TG}(hk:k<=6)(ha:∀R:List V->Hp->Prop,R [.int (k:Nat)] H->ta σ H R)(hg:g=fL n)(WU:vs=[n])(hv:∀i:Int,((wipe σ [n]).set n (some (.int i)))[m]?=some (some (.ref a))/\wipe ((wipe σ [n]).set n (some (.int i))) [n]=wipe σ [n])
  (q:∀D H',H D=none->au H H'->H' D=some (.lst (List.replicate k (V.ref a)))->Q (.ref D) H'):(G2 (A_ ta) g B6 (cI m) vs) σ H Q:=by
 subst hg WU;refine yo (ha _ ⟨_,rfl,by omega,by omega,λD hD=>?_⟩);rw[Ye];refine lT (lo:=0) (n:=k) (λi H'=>au H H'/\H' D=some (.lst (List.replicate i (V.ref a)))) ⟨(au.refl H).laid hD,ae⟩ ?_ ?_
 · rintro i H' hi ⟨k1,k2⟩;refine⟨(hv _).2,_,(hv _).1,_,k2,by rw[X4,XY];omega,λb u z=>?_,?_⟩
   · rw[aq (ao z hD)];exact k1 b u z
   · rw[ae,List.replicate_succ']
 · rintro H' ⟨k1,k2⟩;exact q D H' hD k1 k2
theorem rC {H:Hp}{D a:Addr}{k:Nat}{s:aae}(h:H D=some (.lst (List.replicate k (V.ref a))))(hs:aP K H a (nV s)):bD K H D (List.replicate k s):=⟨List.replicate k a,aP.of (by rw[h,List.map_replicate]),Paired.rep (F:=hZ K H) hs k⟩
theorem Ez {CR:Addr}(N:GN mg)(T:CK K mg "Rows" jI CR){k:Nat}(FR:xn P w K mg base bC k CR ["self","kind","grids"] (j2 K CR)){f:Addr}{fd:FuncData}(F:di K "rows_box" "rows_box" iX f fd):a8 P w K mg base bC (k+2) f fd ["kind","size","numbers"] (qX K CR):=by
 refine F.oa ud λLF A outer s H vs Q E hr h=>?_;obtain⟨a,n,kd,ss,rfl,hS,h6,o,q⟩:=h;refine⟨_,ak (az (pI FR hr T.mg bb (aa (pv 0) (aa (bV (aa (fA (te:=cI 2) rfl ud.nd (gf rfl N.range (aa (pv 1) ah)) (bz (own:=[("place",3)]) rfl) (λ_ _ _ _ _=>bo 3 ud.nd) (λ_ _ _ _ _=>cz) (λ_ _ _ _ _=>pv 2)) ah)) ah)))),?_⟩;refine⟨_,rfl,yt (yY h6 (λR r=>⟨_,rfl,r⟩) rfl rfl (λi=>⟨rfl,rfl⟩) λD H1 hD S1 e1=>⟨by show 1<=sizeLine;decide,λl hl=>?_⟩)⟩;have S2:au H1 (upd H1 l (.lst [V.ref D])):=(au.refl H1).laid hl;exact λx dx hx Mm nx=>made (S1.trans S2) ⟨[D],aP.of ae,.cons ((rC e1 (S1.seq hS)).same S2) .nil⟩ o q x dx hx Mm nx
end
section
variable {P:Program}{w:World}{K:aaf}{mg:aah}{base:Heap}
def Ld (K:aaf) (H:Hp) (a:Addr) (gs:List (aad)):Prop:=∃bs:List Addr,H a=some (.lst (bs.map V.ref))/\Paired (bD K H) bs gs
def wY (K:aaf):Sp:=λvs H Q _=>∃(a b:Addr) (k:Nat) (A B:aae),vs=[.int (k:Nat),.ref a,.ref b]/\aP K H a (nV A)/\aP K H b (nV B)/\k<=4/\A.length<=3/\∀H' x,au H H'->Ld K H' x (bE B A [List.replicate k B])->Q (.ref x) H'
theorem fU:aG ["size","bankers","others","grids","banker","seated","grid","place"] ["size","bankers","others"] (aw gj):=fs
theorem EV (N:GN mg){f:Addr}{fd:FuncData}(F:di K "seatings" "seatings" gj f fd):a8 P w K mg base bC 1 f fd ["size","bankers","others"] (wY K):=by
 refine F.oa fU λLF A outer s H vs Q E hr h=>?_;obtain⟨a,b,k,Bk,B,rfl,hA,hB,h4,h3,q⟩:=h;have hu:(A.deeper (envOfC "seatings" (aw gj) s.heap.objs.size f LF)).units+64 < cLine:=by have:=hr.un;omega
 refine⟨_,af (a7 3 fU.nd (bV (aa (fA (te:=cI 2) rfl fU.nd (gf rfl N.range (aa (pv 0) ah)) (bz (own:=[("place",7)]) rfl) (λ_ _ _ _ _=>bo 7 fU.nd) (λ_ _ _ _ _=>cz) (λ_ _ _ _ _=>pv 2)) ah)))
  (af (da Yz rfl (bJ (pv 1)) (bo 4 fU.nd)
   (af (a7 5 fU.nd (bV ah))
   (af (da Yz rfl (bJ (pv 3)) (bo 6 fU.nd)
    (ak (da Yz rfl (gf rfl N.range (aa (pv 0) ah)) (bo 7 fU.nd)
     (ak (aO (aC (GS hu) (bp aM (pv 6) (pv 7) (λ_ _=>rfl)) (pv 2) (aJ _))
      (ak (dR (qr PySem.F.plainAttrs_list PySem.F.slot_list_append PySem.F.type_list_append iz (pv 5) (aa (bG wx (bG wx (cN fw (pv 6) fk (cY (pv 7))) (bV (aa (bV (aa (pv 4) ah)) ah))) (cN fw (pv 6) (cY (bG eJ (pv 7) ax)) fk)) ah)))) aB)))))
   (ak (a7 3 fU.nd (pv 5))))))
  (ak (az (pv 3)))),?_⟩
 refine HY (HN (yt (yY (by omega) (λR r=>⟨_,rfl,r⟩) rfl rfl (λi=>⟨rfl,rfl⟩) λD0 H0 M7 S0 e0=>⟨by show 1<=sizeLine;decide,λg0 WV=>?_⟩)));have S1:au H0 (upd H0 g0 (.lst [V.ref D0])):=(au.refl H0).laid WV;have gk:∀i,∀g∈bE B (Bk.take i) [List.replicate k B],g.length=k:=λi=>yp λg hg=>by rw[XI.mp hg,X4]
 have gn:∀i,(bE B (Bk.take i) [List.replicate k B]).length<=64:=λi=>by
  have z:=mU (B:=B) (A:=Bk.take i) (k:=k) (gs:=[List.replicate k B]) (λg hg=>by rw[XI.mp hg,X4]);have pw:k ^ (Bk.take i).length<=4 ^ 3:=Yh (Nat.pow_le_pow_left h4 _) (Zw (by decide) (by rw[XT];omega));rw[YH,Nat.one_mul] at z;omega
 refine⟨_,rfl,a,rfl,⟨_,(S0.trans S1).seq hA⟩,df (K:=K) (a:=a) (xs:=nV Bk) (λi σ H'=>∃(gr:Addr) (v4 v5 v6 v7:Option V),σ=[some (.int (k:Nat)),some (.ref a),some (.ref b),some (.ref gr),v4,v5,v6,v7]/\au H H'/\Ld K H' gr (bE B (Bk.take i) [List.replicate k B]))
  ⟨g0,none,none,none,none,rfl,S0.trans S1,[D0],ae,.cons ((rC e0 (S0.seq hB)).same S1) .nil⟩ (λi σ H' _ ⟨_,_,_,_,_,_,S,_⟩=>S.seq hA) ?_ ?_⟩
 · rintro i x σ H1 hi ⟨gr,v4,v5,v6,v7,rfl,SH,bs,eg,hP⟩;obtain⟨bk,WW,rfl⟩:=yI hi;have k1:=gk i;have n1:=gn i;have en:bE B (Bk.take (i+1)) [List.replicate k B]=(bE B (Bk.take i) [List.replicate k B]).flatMap (jq bk B):=by rw[take_snoc WW,wZ]
   generalize bE B (Bk.take i) [List.replicate k B]=gs at hP k1 n1 en;have RV:bs.length=gs.length:=Paired.length hP;refine⟨X1 _,λsd RW=>?_⟩;have S2:au H1 (upd H1 sd (.lst [])):=(au.refl H1).laid RW;refine⟨_,rfl,gr,rfl,⟨_,S2.seq (aP.of eg)⟩,df (K:=K) (a:=gr) (xs:=bs.map V.ref) (λj σ H'=>∃(v6 v7:Option V) (cs:List Addr),σ=[some (.int (k:Nat)),some (.ref a),some (.ref b),some (.ref gr),some (.int (bk:Nat)),some (.ref sd),v6,v7]/\au H1 H'/\H' sd=some (.lst (cs.map V.ref))/\Paired (RL K sd H') cs ((gs.take j).flatMap (jq bk B)))
    ⟨v6,v7,[],rfl,S2,ae,.nil⟩ (λj σ H' _ ⟨_,_,_,_,S,_⟩=>aP.of (S _ _ eg)) ?_ ?_⟩
   · rintro j x σ H2 hj ⟨v6,v7,cs,rfl,S3,e3,hC⟩;obtain⟨bj,WX,rfl⟩:=jL hj;obtain⟨g,hg,as,RX,ME⟩:=Paired.qR hP WX;have Ob:j < gs.length:=(XH.mp hg).1;have gl:=k1 g (XZ hg);have LG:as.length=g.length:=Paired.length ME;have Tz:(gs.take (j+1)).flatMap (jq bk B)=(gs.take j).flatMap (jq bk B)++kU bk B g k:=by
      rw[take_snoc hg,List.flatMap_append,←gl,rM];simp
     have ln:((gs.take j).flatMap (jq bk B)).length<=256:=by
      have z:=oV (f:=jq bk B) (c:=4) (l:=gs.take j) λg' WY=>Yh (tS g') (by rw[k1 g' (Za WY)];exact h4);rw[XT] at z;have:min j gs.length<=64:=by omega
      omega
     generalize (gs.take j).flatMap (jq bk B)=had at hC Tz ln;refine oP (tU (ag rfl) (by omega) (by omega) ?_);rw[Ye];refine m9 (lo:=0) (n:=k) (λp σ H'=>∃(v7:Option V) (cs:List Addr),σ=[some (.int (k:Nat)),some (.ref a),some (.ref b),some (.ref gr),some (.int (bk:Nat)),some (.ref sd),some (.ref bj),v7]/\au H1 H'/\H' sd=some (.lst (cs.map V.ref))/\Paired (RL K sd H') cs (had++kU bk B g p))
      ⟨v7,cs,rfl,S3,e3,by simpa [kU] using hC⟩ ?_ ?_
     · rintro p σ H3 hp ⟨v7,cs,rfl,S4,e4,hC⟩;rw[Int.zero_add];have hpg:p < g.length:=by omega
       have MX:p < as.length:=by omega
       have ha:as[p]?=some as[p]:=XD MX;obtain⟨sp,Mg,hI⟩:=Paired.qR ME ha;have WZ:g.getD p []=sp:=by rw[Yc,Mg];rfl
       have eS:=xH bk B g p;rw[WZ] at eS;have lc:cs.length<=300:=by
        have z:=Paired.length hC;rw[XS] at z;have:=zO (a:=bk) (B:=B) (g:=g) (j:=p);omega
       refine (aZ (ag rfl) (ag rfl) (S4.seq RX) (cu (by rw[Xy,ha];rfl))) _ ⟨_,rfl,_,_,zd (S4.seq hI),zd ((SH.trans S4).seq hB),shaped_ints sp,shaped_ints B,_,rfl,?_⟩;have ee:PyData.eqv (.list (dN sp)) (.list (dN B))=(sp==B):=by simp only[PyData.eqv];exact vq sp B
       rw[ee];refine gH (λh=>?_) (λh=>?_)
       · rw[Xv h] at eS;refine⟨_,rfl,.inl ⟨rfl,_,aP.of e4⟩,_,rfl,_,rfl,_,rfl,bj,_,rfl,S4.seq RX,λq1 W0=>?_⟩;rw[p_];refine⟨_,rfl,by show 1<=sizeLine;decide,λq2 RY=>⟨by show 1<=sizeLine;decide,λq3 RZ=>?_⟩⟩;have T1:au H3 (upd H3 q1 (.lst ((as.map V.ref).take p))):=(au.refl H3).laid W0;have f1:(upd H3 q1 (.lst ((as.map V.ref).take p))) q1=some (.lst ((as.map V.ref).take p)):=ae;generalize upd H3 q1 (.lst ((as.map V.ref).take p))=h1 at T1 f1 RY RZ ⊢;have T2:au h1 (upd h1 q2 (.lst [V.int (bk:Nat)])):=(au.refl h1).laid RY;have f2:(upd h1 q2 (.lst [V.int (bk:Nat)])) q2=some (.lst [V.int (bk:Nat)]):=ae;generalize upd h1 q2 (.lst [V.int (bk:Nat)])=h2 at T2 f2 RZ ⊢;have T3:au h2 (upd h2 q3 (.lst [V.ref q2])):=(au.refl h2).laid RZ;have f3:(upd h2 q3 (.lst [V.ref q2])) q3=some (.lst [V.ref q2]):=ae;generalize upd h2 q3 (.lst [V.ref q2])=h3 at T3 f3 ⊢;refine⟨q1,q3,_,_,rfl,rfl,T3 _ _ (T2 _ _ f1),f3,by rw[XT,Xs,XY];show _+1<=_;omega,λq4 W2=>?_⟩;have T4:au h3 (upd h3 q4 (.lst ((as.map V.ref).take p++[V.ref q2]))):=(au.refl h3).laid W2;have f4:(upd h3 q4 (.lst ((as.map V.ref).take p++[V.ref q2]))) q4=some (.lst ((as.map V.ref).take p++[V.ref q2])):=ae;generalize upd h3 q4 (.lst ((as.map V.ref).take p++[V.ref q2]))=Ou at T4 f4 ⊢;have T:au H3 Ou:=((T1.trans T2).trans T3).trans T4;refine⟨_,rfl,(jO (ag rfl) aD) _ ⟨_,rfl,bj,_,rfl,(S4.trans T).seq RX,λq5 W3=>?_⟩⟩;rw[show ((p:Nat):Int)+1=((p+1:Nat):Int) by omega,qC];have T5:au Ou (upd Ou q5 (.lst ((as.map V.ref).drop (p+1)))):=(au.refl Ou).laid W3;have f5:(upd Ou q5 (.lst ((as.map V.ref).drop (p+1)))) q5=some (.lst ((as.map V.ref).drop (p+1))):=ae;generalize upd Ou q5 (.lst ((as.map V.ref).drop (p+1)))=h5 at T5 f5 ⊢;refine⟨q4,q5,_,_,rfl,rfl,T5 _ _ f4,f5,by rw[XS,XT,Ym,Xs,XY];show _+1+_<=_;omega,λq6 TC=>?_⟩;have T6:au h5 (upd h5 q6 (.lst ((as.map V.ref).take p++[V.ref q2]++(as.map V.ref).drop (p+1)))):=(au.refl h5).laid TC;have f6:(upd h5 q6 (.lst ((as.map V.ref).take p++[V.ref q2]++(as.map V.ref).drop (p+1)))) q6=some (.lst ((as.map V.ref).take p++[V.ref q2]++(as.map V.ref).drop (p+1))):=ae;have W4:q6≠sd:=(ao (T5 _ _ (T _ _ e4)) TC).symm;have W5:q2≠sd:=(ao (T1 _ _ e4) RY).symm;generalize upd h5 q6 (.lst ((as.map V.ref).take p++[V.ref q2]++(as.map V.ref).drop (p+1)))=h6 at T6 f6 ⊢;have TT:au H3 h6:=(T.trans T5).trans T6;have W6:h6 q2=some (.lst [V.int (bk:Nat)]):=T6 _ _ (T5 _ _ (T4 _ _ (T3 _ _ f2)));refine⟨sd,_,_,rfl,rfl,TT _ _ e4,by rw[Xs,XY];omega,some (.int (p:Nat)),cs++[q6],rfl,?_,by rw[ae,XO];rfl,?_⟩
         · intro c u z;rw[aq (ao z RW)];exact TT c u (S4 c u z)
         · have SX:aL sd H3 (upd h6 sd (.lst (cs.map V.ref++[V.ref q6]))):=(TT.x).upd;have Ov:aL sd h6 (upd h6 sd (.lst (cs.map V.ref++[V.ref q6]))):=(aL.refl sd h6).upd;have S6:au H1 h6:=S4.trans TT;rw[eS,←YX];refine gi (Paired.d9 hC λ_ _ z=>z.step SX) (.cons ⟨as.take p++[q2]++as.drop (p+1),?_,?_⟩ .nil)
           · refine RS.step (RS.of ?_ W4) Ov;rw[f6,XO,XO,List.map_take,ZY];rfl
           · have old:Paired (λc s=>RS K sd (upd h6 sd (.lst (cs.map V.ref++[V.ref q6]))) c (nV s)) as g:=Paired.d9 ME λc s z=>RS.step (RS.old z RW S6) Ov;exact gi (gi (Paired.tk p old) (.cons (RS.step (RS.of W6 W5) Ov) .nil)) (Paired.dp (p+1) old)
       · rw[Xu h,Yw] at eS;exact⟨_,cs,rfl,S4,e4,by rw[eS];exact hC⟩
     · rintro σ H3 ⟨v7,cs,rfl,S4,e4,hC⟩;exact⟨_,_,cs,rfl,S4,e4,by rw[Tz];exact hC⟩
   · rintro σ H2 ⟨v6,v7,cs,rfl,S3,e3,hC⟩;rw[Xs,RV,Yr,←en] at hC;exact⟨_,rfl,sd,_,_,_,_,rfl,SH.trans S3,cs,e3,Paired.d9 hC λ_ _ z=>z.lists⟩
 · rintro σ H1 ⟨gr,v4,v5,v6,v7,rfl,SH,hG⟩;rw[aN,Yr] at hG;exact⟨_,rfl,q H1 gr SH hG⟩
end
theorem sZ {sp:Sp}{LX:List V}{E:XK}{te:TE}{t:TA}{D:Ends}{σ:L2.St}{H:Hp}{v:V}(h:Ev te σ H v)(q:t σ H λxs H2=>sp ((v::xs)++LX) H2 D.rt E):Ff (nH sp LX E (cO te t)) D σ H:=h _ q
section
variable {P:Program}{w:World}{K:aaf}{mg:aah}{base:Heap}
abbrev DA (kd:Tote.Kind) (k:Nat) (A B:aae):List (aad):=if kd=.any then (bE B A [List.replicate k B]).take 1 else bE B A [List.replicate k B]
def sD (K:aaf)(CR:Addr):Sp:=λvs H Q _=>∃(a b:Addr) (k:Nat) (kd:Tote.Kind) (A B:aae),vs=[.str (st (cd (kindS kd))),.int (k:Nat),.ref a,.ref b]/\aP K H a (nV A)/\aP K H b (nV B)/\k<=4/\A.length<=3/\uD kd (DA kd k A B)/\∀H' x,au H H'->dZ K CR H' x kd (DA kd k A B)->Q (.ref x) H'
theorem yF:aG ["kind","size","bankers","others","grids"] ["kind","size","bankers","others"] (aw iQ):=fs
theorem DI {CR:Addr}(T:CK K mg "Rows" jI CR){k:Nat}(FS:Fn P w K mg base bC (k+1) "seatings" ["size","bankers","others"] (wY K))(FR:xn P w K mg base bC k CR ["self","kind","grids"] (j2 K CR)){f:Addr}{fd:FuncData}(F:di K "rows_key" "rows_key" iQ f fd):a8 P w K mg base bC (k+2) f fd ["kind","size","bankers","others"] (sD K CR):=by
 refine F.oa yF λLF A outer s H vs Q E hr h=>?_;obtain⟨a,b,n,kd,Bk,B,rfl,hA,hB,h4,h3,o,q⟩:=h;refine⟨_,af (a7 4 yF.nd (aR FS hr bb (aa (pv 1) (aa (pv 2) (aa (pv 3) ah)))))
  (af (aO (aC cp (pv 0) bq (aJ _)) (ak (az (pI FR hr T.mg bb (aa (pv 0) (aa (cN fw (pv 4) fk (cY ax)) ah))))) aB)
  (ak (az (pI FR hr T.mg bb (aa (pv 0) (aa (pv 4) ah)))))),?_⟩
 refine⟨_,rfl,_,rfl,_,rfl,a,b,n,Bk,B,rfl,hA,hB,h4,h3,λH1 x S1 ⟨bs,e1,hP⟩=>?_⟩;refine aS (aI (cj (ag rfl) aD)) (λh=>?_) (λh=>?_)
 · rw[kind_any] at h;have h:=XQ h;unfold DA at o q;rw[Xv h] at o q;refine⟨_,rfl,_,rfl,_,rfl,x,_,rfl,aP.of e1,λl hl=>?_⟩;have ec:fC (bs.map V.ref) none (some 1)=(bs.take 1).map V.ref:=by rw[show (1:Int)=((1:Nat):Int) from rfl,p_,List.map_take]
   rw[ec];have S2:au H1 (upd H1 l (.lst ((bs.take 1).map V.ref))):=(au.refl H1).laid hl;exact λy dy hy R0 ny=>made (S1.trans S2) ⟨bs.take 1,aP.of ae,Paired.d9 (Paired.tk 1 hP) λ_ _ z=>z.same S2⟩ o q y dy hy R0 ny
 · rw[kind_any] at h;have h:=Yd h;unfold DA at o q;rw[Xu h] at o q;refine⟨_,rfl,_,rfl,?_⟩;exact λy dy hy R0 ny=>made S1 ⟨bs,aP.of e1,hP⟩ o q y dy hy R0 ny
def zf (K:aaf)(CP CR:Addr):Sp:=λvs H Q _=>∃(pa sa:Addr) (p:aK) (how:Nat) (sets:aad),vs=[.ref pa,.int (how:Nat),.ref sa]/\dw K CP H pa p/\bD K H sa sets/\uC p how sets/\∀H' x,au H H'->dZ K CR H' x p.kind (jP p.kind (ck how) p.fields.length sets)->Q (.ref x) H'
theorem AO:aG ["pool","how","sets","size"] ["pool","how","sets"] (aw kg):=fs
theorem Gn {CP CR aW:Addr}(G:GW mg)(B:GB K mg aW)(TP:CK K mg "Pool" hX CP){k:Nat}(FO:Fn P w K mg base bC k "rows_on" ["kind","sets"] (oX K CR))(FB:Fn P w K mg base bC k "rows_box" ["kind","size","numbers"] (qX K CR))(FK:Fn P w K mg base bC k "rows_key" ["kind","size","bankers","others"] (sD K CR))
  {f:Addr}{fd:FuncData}(F:di K "rows_of" "rows_of" kg f fd):a8 P w K mg base bC (k+1) f fd ["pool","how","sets"] (zf K CP CR):=by
 refine F.oa AO λLF A outer s H vs Q E hr h=>?_;obtain⟨pa,sa,p,how,sets,rfl,⟨dp,fa,MX,⟨MD,Qk,Ql⟩⟩,Pt,m,q⟩:=h;refine⟨_,af (aO (aC cp (pv 1) (a_ B.on) (aJ _)) (ak (az (aR FO hr bb (aa (aV (pv 0) rfl) (aa (pv 2) ah))))) aB)
  (af (a7 3 AO.nd (bh G.len (aV (pv 0) rfl)))
  (af (aO (aC cp (pv 1) (a_ B.box) (aJ _)) (ak (az (aR FB hr bb (aa (aV (pv 0) rfl) (aa (pv 3) (aa (bp aM (pv 2) ax (λ_ _=>rfl)) ah)))))) aB)
  (ak (az (aR FK hr bb (aa (aV (pv 0) rfl) (aa (pv 3) (aa (bp aM (pv 2) ax (λ_ _=>rfl)) (aa (bp aM (pv 2) ax (λ_ _=>rfl)) ah))))))))),?_⟩
 have ML:MD.length=p.fields.length:=Paired.length Ql;have o:=m.Iy;obtain⟨_,_,mb,mk⟩:=m.all;refine aS (aI (cj (ag rfl) aD)) (λh=>?_) (λh=>?_)
 · rw[aY] at h;have h:how=0:=by have:=YY h;omega
   rw[vk.mpr h] at q o;exact sZ (bf (ag rfl) MX TP.cl (TP.no _ (by simp)) iR) ⟨_,rfl,sa,p.kind,sets,rfl,Pt,o,q⟩
 rw[aY] at h;have h0:how≠0:=λz=>by rw[z] at h;cases h
 obtain⟨as,hA,hP⟩:=Pt;refine cB (aU (bf (ag rfl) MX TP.cl (TP.no _ (by simp)) mn) (.inl Qk)) ?_;rw[Xs,ML];refine aS (aI (cj (ag rfl) aD)) (λh=>?_) (λh=>?_)
 · rw[aY] at h;have h:how=1:=by have:=YY h;omega
   obtain⟨t,e,h2⟩:=mb h;rw[BC.mpr h] at q o;rw[e] at hP q o;cases hP with
   |cons hI hn =>
    cases hn;rename_i a0;exact sZ (bf (ag rfl) MX TP.cl (TP.no _ (by simp)) iR) ⟨_,rfl,(aZ (ag rfl) aD hA (v:=.ref a0) rfl) _ ⟨a0,p.fields.length,p.kind,t,rfl,hI,m.ok.six,o,q⟩⟩
 rw[aY] at h;have h1:how≠1:=λz=>by rw[z] at h;cases h
 obtain⟨t,u,e,h2,h3,h4⟩:=mk h0 h1;have k4:=m.k4 h0;rw[CV.mpr ⟨h0,h1⟩] at q o;rw[e] at hP q o;cases hP with
 |cons hI hn =>
  cases hn with
  |cons hJ hn =>
   cases hn;rename_i a0 a1;exact sZ (bf (ag rfl) MX TP.cl (TP.no _ (by simp)) iR) ⟨_,rfl,(aZ (ag rfl) aD hA (v:=.ref a0) rfl) _ ((aZ (ag rfl) aD hA (v:=.ref a1) rfl) _ ⟨a0,a1,p.fields.length,p.kind,t,u,rfl,hI,hJ,k4,by omega,o,q⟩)⟩
def w9 (K:aaf)(CB CR:Addr):Sp:=λvs H Q _=>∃(x dx r:Addr) (a b c d e:V) (kd:Tote.Kind) (gs:List (aad)),vs=[.ref x,a,b,c,d,e,.ref r]/\H x=some (.ins CB dx [])/\dZ K CR H r kd gs/\∀H',aL x H H'->H' x=some (.ins CB dx (vR a b c d e (.ref r) (.int ((rA kd gs).length:Nat))))->Q .cb H'
theorem EA:aG ["self","pool","pool_number","how","stake","sets","rows"] ["self","pool","pool_number","how","stake","sets","rows"] (aw iO):=fs
theorem C9 {CB CR:Addr}(T:CK K mg "Bet" sq CB)(TR:CK K mg "Rows" jI CR){k:Nat}(FS:pD P w K mg base bC k CR "starting" ["self","start"] (tW K CR)){f:Addr}{fd:FuncData}(F:di K "__init__" "Bet.__init__" iO f fd):a8 P w K mg base bC (k+1) f fd ["self","pool","pool_number","how","stake","sets","rows"] (w9 K CB CR):=by
 refine F.oa EA λLF A outer s H vs Q E hr h=>?_;obtain⟨x,dx,r,a,b,c,d,e,kd,gs,rfl,hx,hR,q⟩:=h;refine⟨_,af (cD (pv 0) (pv 1) rfl) (af (cD (pv 0) (pv 2) rfl) (af (cD (pv 0) (pv 3) rfl) (af (cD (pv 0) (pv 4) rfl) (af (cD (pv 0) (pv 5) rfl) (af (cD (pv 0) (pv 6) rfl) (ak (cD (pv 0) (kZ FS TR.cl (pv 6) hr bb (aa (dq ah) ah)) rfl))))))),?_⟩;refine⟨_,rfl,_,rfl,x,CB,dx,[],rfl,hx,T.cl,T.no _ (by simp),(by show 0 < 1000;decide),?_⟩;refine⟨_,rfl,_,rfl,x,CB,dx,_,rfl,ae,T.cl,T.no _ (by simp),(by show 1 < 1000;decide),?_⟩;refine⟨_,rfl,_,rfl,x,CB,dx,_,rfl,ae,T.cl,T.no _ (by simp),(by repeat (first|rw[bR]|rw[bc (by decide +kernel)]);show 2 < 1000;decide),?_⟩;refine⟨_,rfl,_,rfl,x,CB,dx,_,rfl,ae,T.cl,T.no _ (by simp),(by repeat (first|rw[bR]|rw[bc (by decide +kernel)]);show 3 < 1000;decide),?_⟩;refine⟨_,rfl,_,rfl,x,CB,dx,_,rfl,ae,T.cl,T.no _ (by simp),(by repeat (first|rw[bR]|rw[bc (by decide +kernel)]);show 4 < 1000;decide),?_⟩;refine⟨_,rfl,_,rfl,x,CB,dx,_,rfl,ae,T.cl,T.no _ (by simp),(by repeat (first|rw[bR]|rw[bc (by decide +kernel)]);show 5 < 1000;decide),?_⟩;rw[cJ,cJ,cJ,cJ,cJ]
 repeat (first|rw[bR]|rw[bc (by decide +kernel)])
 have S1:aL x H (upd H x (.ins CB dx [("pool",a),("pool_number",b),("how",c),("stake",d),("sets",e),("rows",.ref r)])):=(aL.refl x H).upd;have Mv:(upd H x (.ins CB dx [("pool",a),("pool_number",b),("how",c),("stake",d),("sets",e),("rows",.ref r)])) x=some (.ins CB dx [("pool",a),("pool_number",b),("how",c),("stake",d),("sets",e),("rows",.ref r)]):=ae;generalize upd H x (.ins CB dx [("pool",a),("pool_number",b),("how",c),("stake",d),("sets",e),("rows",.ref r)])=H1 at S1 Mv;have TF:=hR.jB S1 hx (by decide);obtain⟨dr,_,_,_,NT,_⟩:=id TF;refine⟨_,rfl,r,dr,_,rfl,NT,A0 (by decide +kernel),X1 _,λt ht=>?_⟩;have S2:au H1 (upd H1 t (.tup [])):=(au.refl H1).laid ht;show eV _ _ _;unfold eV;dsimp only [Yw];refine⟨r,t,kd,gs,[],rfl,TF.same S2,ae,λg _=>X1 _,λH2 S3=>?_⟩;rw[mm];refine⟨_,rfl,x,CB,dx,_,rfl,S3 _ _ (S2 _ _ Mv),T.cl,T.no _ (by simp),(by show 6 < 1000;decide),?_⟩;rw[bc (by decide +kernel),bc (by decide +kernel),bc (by decide +kernel),bc (by decide +kernel),bc (by decide +kernel),bc (by decide +kernel),bR];exact q _ ((S1.trans (S2.trans S3).x).upd) ae
end
def js (K:aaf)(CB CP CR:Addr)(H:Hp)(x:Addr)(p:aK)(b:bO):Prop:=∃dx pa sa ra,H x=some (.ins CB dx (vR (.ref pa) (.int (b.pool:Nat)) (.int (b.how:Nat)) (.int (b.stake:Nat)) (.ref sa) (.ref ra) (.int (countM p.kind (ck b.how) p.fields.length b.sets:Nat))))/\dw K CP H pa p/\lr H sa b.sets/\dZ K CR H ra p.kind (jP p.kind (ck b.how) p.fields.length b.sets)/\b.stake<=1000000/\uC p b.how b.sets
section
variable {a b c d e r m:V}
theorem wg:(vR a b c d e r m).lookup ("stake":Str)=some d:=by unfold vR;rw[a9 (by decide +kernel),a9 (by decide +kernel),a9 (by decide +kernel)];exact bS
theorem ni:(vR a b c d e r m).lookup ("many":Str)=some m:=by unfold vR;rw[a9 (by decide +kernel),a9 (by decide +kernel),a9 (by decide +kernel),a9 (by decide +kernel),a9 (by decide +kernel),a9 (by decide +kernel)];exact bS
theorem EU {f:Str}(h:¬f∈sq):(vR a b c d e r m).lookup f=none:=ot h
end
theorem Gz {σ:L2.St}{H:Hp}{ta tb:TE}{i j:Int}(ha:Ev ta σ H (.int i))(hb:Ev tb σ H (.int j))(h:zK i j):Ev (kK (rI zK λi j=>.int (i*j)) ta tb) σ H (.int (i*j)):=λ_ r=>ha _ (hb _ ⟨i,j,rfl,rfl,h,r⟩)
section
variable {K:aaf}{CB CP CR CW:Addr}{H H':Hp}{a x:Addr}{p:aK}{b:bO}
theorem js.same (h:js K CB CP CR H x p b) (e:au H H'):js K CB CP CR H' x p b:=by
 obtain⟨dx,pa,sa,ra,h1,h2,h3,h5,h4⟩:=h;exact⟨dx,pa,sa,ra,e _ _ h1,h2.same e,h3.same e,h5.same e,h4⟩
end
section
variable {P:Program}{w:World}{K:aaf}{mg:aah}{base:Heap}
def qy (K:aaf) (CB CP CR:Addr):Sp:=λvs H Q _=>∃(x:Addr) (p:aK) (b:bO),vs=[.ref x]/\js K CB CP CR H x p b/\Q (.int ((b.stake:Int)*(countM p.kind (ck b.how) p.fields.length b.sets:Nat))) H
theorem DW:aG ["self"] ["self"] (aw iT):=fs
theorem DG {CB CP CR:Addr}(TB:CK K mg "Bet" sq CB){f:Addr}{fd:FuncData}(F:di K "cost" "Bet.cost" iT f fd):a8 P w K mg base bC 1 f fd ["self"] (qy K CB CP CR):=by
 refine F.oa DW λLF A outer s H vs Q E hr h=>?_;obtain⟨x,p,b,rfl,⟨dx,pa,sa,ra,h1,_,_,_,h4,_⟩,q⟩:=h;refine⟨_,ak (az (bG xO (aV (pv 0) rfl) (aV (pv 0) rfl))),?_⟩;exact (Gz (bf (ag rfl) h1 TB.cl (TB.no _ (by simp)) wg) (bf (ag rfl) h1 TB.cl (TB.no _ (by simp)) ni) (.inl ⟨by omega,by omega⟩)) _ q
def wJ (K:aaf)(CW CF CB CP CR:Addr):Sp:=λvs H Q E=>∃(a b:Addr) (ps:List aK) (e:Nat) (l:List Word) (pl:Nat),vs=[.ref b,.ref a]/\aT K CW H a e l pl/\cU K CP H b ps/\(∀p∈ps,Fg p) /\
 (∀t,Cq e ps l=.error t->Rz CF E (t.kind:Nat) (t.place:Nat))/\(∀y,Cq e ps l=.ok y->∀H' x p,aL a H H'->js K CB CP CR H' x p y->ps[y.pool]?=some p->Q (.ref x) H')
theorem fZ:aG ["pools","words","pool_number","pool","stake","stake_place","how","how_place","sets","bet"] ["pools","words"] (aw fV):=fs
theorem Ea {CW CF CB CP CR aW:Addr}(B:GB K mg aW)(T:CK K mg "Words" cw CW)(TP:CK K mg "Pool" hX CP)(TB:CK K mg "Bet" sq CB)(FL:Flt P w K mg base CF){k:Nat}(hk:5<=k)
  (FO:pD P w K mg base (eW P w CF) k CW "take_one_of" ["self","known"] (qf K CW CF))(W7:Fn P w K mg base (eW P w CF) k "take_pool" ["pools","words"] (ui K CW CF CP))(FS:Fn P w K mg base (eW P w CF) k "take_stake" ["words","unit"] (uj K CW CF))
  (FH:Fn P w K mg base (eW P w CF) k "take_how" ["words","pool"] (Bf K CW CF CP))(W8:Fn P w K mg base (eW P w CF) k "take_sets" ["words","pool","how"] (xI K CW CF CP))(FB:xn P w K mg base bC 4 CB ["self","pool","pool_number","how","stake","sets","rows"] (w9 K CB CR))
  (FF:pD P w K mg base (eW P w CF) k CW "finish" ["self"] (BI K CW CF))(FM:Fn P w K mg base bC k "rows_of" ["pool","how","sets"] (zf K CP CR))(FC:pD P w K mg base bC k CB "cost" ["self"] (qy K CB CP CR))
  {f:Addr}{fd:FuncData}(F:di K "read_words" "read_words" fV f fd):a8 P w K mg base (eW P w CF) (k+1) f fd ["pools","words"] (wJ K CW CF CB CP CR):=by
 refine F.lM fZ λLF A outer s H vs Q E hr h=>?_;obtain⟨a,b,ps,e,l,pl,rfl,hW,ME,bu,q0,q1⟩:=h;refine⟨_,af (dR (kZ FO T.cl (pv 1) hr (bQ aH rfl rfl) (aa (dq (aa bq ah)) ah)))
  (af (a7 2 fZ.nd (aR W7 hr (bQ aH rfl rfl) (aa (pv 0) (aa (pv 1) ah))))
  (af (a7 3 fZ.nd (bp aM (pv 0) (pv 2) (λ_ _=>rfl)))
  (af (dR (kZ FO T.cl (pv 1) hr (bQ aH rfl rfl) (aa (dq (aa bq ah)) ah)))
  (af (a7 4 fZ.nd (aR FS hr (bQ aH rfl rfl) (aa (pv 1) (aa (aV (pv 3) rfl) ah))))
  (af (a7 5 fZ.nd (aV (pv 1) rfl))
  (af (a7 6 fZ.nd (aR FH hr (bQ aH rfl rfl) (aa (pv 1) (aa (pv 3) ah))))
  (af (a7 7 fZ.nd (aV (pv 1) rfl))
  (af (a7 8 fZ.nd (aR W8 hr (bQ aH rfl rfl) (aa (pv 1) (aa (pv 3) (aa (pv 6) ah)))))
  (af (dR (kh FF T.cl (pv 1) hr (bQ aH rfl rfl)))
  (af (a7 9 fZ.nd (pI FB (hr.mono hk) TB.mg bb (aa (pv 3) (aa (pv 2) (aa (pv 6) (aa (pv 4) (aa (pv 8) (aa (aR FM hr bb (aa (pv 3) (aa (pv 6) (aa (pv 8) ah)))) ah))))))))
  (af (aO (aC cp (aV (pv 9) rfl) ax (aJ _)) (ak (fM FL aH (hr.mono (by omega)) (aa (a_ B.comb) (aa (pv 7) ah)))) aB)
  (af (aO (aC kX (kh FC TB.cl (pv 9) hr bb) (a_ B.cost) (aJ _)) (ak (fM FL aH (hr.mono (by omega)) (aa (a_ B.KC) (aa (pv 5) ah)))) aB)
  (ak (az (pv 9))))))))))))))),?_⟩
 obtain⟨d0,w0,m0,n0,L_⟩:=hW.obj;unfold Cq at q0 q1;refine⟨_,rfl,a,d0,_,rfl,L_,cH (by decide +kernel),(by show 1<=sizeLine;decide),λt ht=>?_⟩;have St:au H (upd H t (.tup [V.str (Str.ofString "bet")])):=(au.refl H).laid ht;show eV _ _ _;unfold eV;dsimp only [Yw];refine mz (s:="bet") (by decide +kernel) (hW.same St) (bZ.of ae) (λy hy=>?_) (λm hm H1 v W9 S1 L8=>?_)
 · rw[hy] at q0;exact q0 _ rfl
 rw[hm] at q0 q1;have q0:∀t,Jv e ps m=.error t->Rz CF E (t.kind:Nat) (t.place:Nat):=q0;have q1:∀y,Jv e ps m=.ok y->_:=q1;have Ph:aL a H H1:=St.x.trans S1;refine⟨_,rfl,_,rfl,a,b,ps,e,m,W9,rfl,L8,cU.jB ME Ph L_,λz=>?_,λwn r hl hn=>?_,λwn r i hl hi H2 S2 Nw=>?_⟩
 · subst z;exact q0 ⟨3,e⟩ rfl
 · subst hl;refine q0 ⟨5,wn.at_⟩ ?_;show (match dP ps (tx wn.w) with
    |none=>(Except.error ⟨5,wn.at_⟩:Except Fault bO)
    |some i=>match ps[i]? with
     |none=>.error ⟨5,wn.at_⟩
     |some p=>A8 e i p r)=_
   rw[hn]
 subst hl;have Oq:=Ph.trans S2;have LM:=we hi;have eB:Jv e ps (wn::r)=A8 e i ps[i] r:=by
  show (match dP ps (tx wn.w) with
   |none=>(Except.error ⟨5,wn.at_⟩:Except Fault bO)
   |some i=>match ps[i]? with
    |none=>.error ⟨5,wn.at_⟩
    |some p=>A8 e i p r)=_
  rw[hi];show (match ps[i]? with
    |none=>(Except.error ⟨5,wn.at_⟩:Except Fault bO)
    |some p=>A8 e i p r)=_
  rw[XD LM]
 rw[eB] at q0 q1;have hO:=bu _ (Zk LM);have TH:∃(as:List Addr) (pa:Addr),aP K H b (as.map V.ref)/\as[i]?=some pa/\dw K CP H pa ps[i]:=by
  obtain⟨as,h1,h2⟩:=ME;obtain⟨pa,h3,h4⟩:=Paired.at2 h2 (XD LM);exact⟨as,pa,h1,h3,h4⟩
 have TJ:ps[i]?=some ps[i]:=XD LM;generalize ps[i]=p at q0 q1 hO TH TJ;obtain⟨as,pa,hA,MX,W_⟩:=TH;have pool:∀{H'},aL a H H'->dw K CP H' pa p:=λS=>dw.jB W_ S L_;refine cB (aZ (ag rfl) (ag rfl) (Oq.seq L_ hA) (cu (by rw[Xy,MX];rfl))) ?_;unfold A8 at q0 q1;obtain⟨d2,w2,m2,n2,Pk⟩:=Nw.obj;refine⟨_,rfl,a,d2,_,rfl,Pk,cH (by decide +kernel),(by show 1<=sizeLine;decide),λt3 Xa=>?_⟩;have TK:au H2 (upd H2 t3 (.tup [V.str (Str.ofString "for")])):=(au.refl H2).laid Xa;dsimp only [Yw];refine mz (s:="for") (by decide +kernel) (Nw.same TK) (bZ.of ae) (λy hy=>?_) (λm3 Xb H3 v3 Xc S3 Oo=>?_)
 · rw[hy] at q0;exact q0 _ rfl
 rw[Xb] at q0 q1;have q0:∀t,Jm e i p m3=.error t->Rz CF E (t.kind:Nat) (t.place:Nat):=q0;have q1:∀y,Jm e i p m3=.ok y->_:=q1;have TM:aL a H H3:=(Oq.trans TK.x).trans S3;obtain⟨dp,fap,Qb,LN⟩:=pool TM;refine⟨_,rfl,(bf (ag rfl) Qb TP.cl (TP.no _ (by simp)) wN) _ ⟨a,p.unit,e,m3,Xc,rfl,hO.unit,Oo,λz=>?_,λws r4 hl hn=>?_,λws r4 hl hs H4 S4 Qj=>?_⟩⟩
 · subst z;exact q0 ⟨3,e⟩ rfl
 · subst hl;refine q0 ⟨4,ws.at_⟩ ?_;show (if eD p.unit (tx ws.w) then _ else _)=_;rw[Xu (show ¬eD p.unit (tx ws.w) from hn)]
 subst hl;have eB:Jm e i p (ws::r4)=Jb e i p (ay (tx ws.w)).toNat ws.at_ r4:=by
  show (if eD p.unit (tx ws.w) then _ else _)=_;rw[Xv (show eD p.unit (tx ws.w) from hs)]
 rw[eB] at q0 q1;have Mi:ay (tx ws.w)=(((ay (tx ws.w)).toNat:Nat):Int):=by have:=hs.1;omega
 have MO:(ay (tx ws.w)).toNat<=1000000:=by have:=hs.2.1;omega
 generalize (ay (tx ws.w)).toNat=stake at q0 q1 Mi MO;rw[Mi];have TN:=TM.trans S4;obtain⟨d4,w4,m4,n4,Qi⟩:=Qj.obj;refine cB (bf (ag rfl) Qi T.cl (T.no _ (by simp)) bM) ?_;refine⟨_,rfl,_,rfl,a,pa,p,e,r4,ws.at_,rfl,Qj,pool TN,λz=>?_,λwh r5 hl hn=>?_,λwh r5 how hl hh H5 S5 TQ=>?_⟩
 · subst z;exact q0 ⟨3,e⟩ rfl
 · subst hl;refine q0 ⟨3,wh.at_⟩ ?_;show (match ji p wh.w with
    |none=>(Except.error ⟨3,wh.at_⟩:Except Fault bO)
    |some how=>xX e i how stake wh.at_ ws.at_ p (fD e p how r5))=_
   rw[hn]
 subst hl;have eB:Jb e i p stake ws.at_ (wh::r5)=xX e i how stake wh.at_ ws.at_ p (fD e p how r5):=by
  show (match ji p wh.w with
   |none=>(Except.error ⟨3,wh.at_⟩:Except Fault bO)
   |some how=>xX e i how stake wh.at_ ws.at_ p (fD e p how r5))=_
  rw[hh]
 rw[eB] at q0 q1;have TU:=TN.trans S5;obtain⟨d5,w5,m5,n5,Xd⟩:=TQ.obj;refine cB (bf (ag rfl) Xd T.cl (T.no _ (by simp)) bM) ?_;have R1:how=0∨cT p=true:=by
  unfold ji at hh;split at hh
  · exact .inl (X7 hh).symm
  · split at hh
    · rename_i z;exact .inr z.2
    · split at hh
      · rename_i z;exact .inr z.2
      · cases hh
 refine⟨_,rfl,_,rfl,_,rfl,a,pa,p,how,e,r5,wh.at_,rfl,TQ,pool TU,hO,λt ht=>?_,λsets r6 TV H6 sa Xe S6 Pt TX=>?_⟩
 · rw[ht] at q0;exact q0 t rfl
 rw[TV] at q0 q1;have Ov:=TU.trans S6;obtain⟨d6,w6,m6,n6,Xf⟩:=TX.obj;refine⟨_,rfl,a,d6,_,rfl,Xf,cH (by decide +kernel),a,e,r6,Xe,rfl,TX,λwr r7 hl=>?_,λhl=>?_⟩
 · subst hl;exact q0 ⟨3,wr.at_⟩ rfl
 subst hl;have q0:∀t,Gf i how stake wh.at_ ws.at_ p sets=.error t->Rz CF E (t.kind:Nat) (t.place:Nat):=q0;have q1:∀y,Gf i how stake wh.at_ ws.at_ p sets=.ok y->_:=q1;unfold Gf at q0 q1;have hM:uC p how sets:=⟨hO,R1,e,r5,[],TV⟩;refine⟨_,rfl,_,rfl,_,rfl,_,rfl,_,rfl,_,rfl,_,rfl,_,rfl,pa,sa,p,how,sets,rfl,pool Ov,Pt.lists,hM,λH7 ra S7 hR=>?_⟩;have TY:aL a H H7:=Ov.trans S7.x;intro x dx hx Mm P2;have Sn:au H7 (upd (upd H7 dx (.own x)) x (.ins CB dx [])):=((au.refl H7).laid Mm).laid hx;refine⟨x,dx,ra,_,_,_,_,_,p.kind,_,rfl,ae,hR.same Sn,λH8 SX Pu=>⟨rfl,?_⟩⟩;have Pu:H8 x=some (.ins CB dx (vR (.ref pa) (.int (i:Nat)) (.int (how:Nat)) (.int (stake:Nat)) (.ref sa) (.ref ra) (.int (countM p.kind (ck how) p.fields.length sets:Nat)))):=Pu;have S8:au H7 H8:=λb u z=>SX b u (Sn b u z) (ao z hx);have TZ:js K CB CP CR H8 x p ⟨i,how,stake,sets⟩:=⟨dx,pa,sa,ra,Pu,(pool TY).same S8,(Pt.same S7).same S8,hR.same S8,MO,hM⟩;have Xg:aL a H H8:=TY.trans S8.x;refine aS (aI (cj (bf (ag rfl) Pu TB.cl (TB.no _ (by simp)) ni) aD)) (λh=>?_) (λh=>?_)
 · rw[aY] at h;rw[Xv (by have:=YY h;omega)] at q0;exact jN (ag rfl) (q0 _ rfl)
 have Xh:¬countM p.kind (ck how) p.fields.length sets=0:=λz=>by rw[z] at h;cases h
 rw[Xu Xh] at q0 q1;have Xi:∀{σ:L2.St},σ[9]?=some (some (V.ref x))->Ev (vh CB "cost" (qy K CB CP CR) [] E0 (cI 9) λ_ H Q=>Q [] H) σ H8 (.int ((stake:Int)*(countM p.kind (ck how) p.fields.length sets:Nat))):=λz _ r =>
  ⟨_,z,x,dx,_,rfl,Pu,EU (by decide +kernel),x,p,⟨i,how,stake,sets⟩,rfl,TZ,r⟩
 refine aS (jy (Xi rfl) aD) (λh=>?_) (λh=>?_)
 · have h:=XQ h;have h:2147483647 < stake*countM p.kind (ck how) p.fields.length sets:=by
    have e1:((stake:Int)*(countM p.kind (ck how) p.fields.length sets:Int))=((stake*countM p.kind (ck how) p.fields.length sets:Nat):Int):=by rw[Int.natCast_mul]
    rw[e1] at h;omega
   rw[Xv h] at q0;exact jN (ag rfl) (q0 _ rfl)
 · have h:=Yd h;have h:¬2147483647 < stake*countM p.kind (ck how) p.fields.length sets:=by
    have e1:((stake:Int)*(countM p.kind (ck how) p.fields.length sets:Int))=((stake*countM p.kind (ck how) p.fields.length sets:Nat):Int):=by rw[Int.natCast_mul]
    rw[e1] at h;omega
   rw[Xu h] at q1;exact⟨_,rfl,q1 _ rfl H8 x p Xg TZ TJ⟩
end
def ia (b:Bytes):aae:=b.map UInt8.toNat
theorem yB {b:Bytes}:10∈ia b↔(10:UInt8)∈b:=by
 unfold ia;rw[X3]
 exact⟨λ⟨x,h1,h2⟩=>by have:x=10:=jU h2
                      rwa [←this],λh=>⟨10,h,rfl⟩⟩
theorem p_ {xs:List V}{j:Nat}(h:j<=xs.length):fC xs none (some (j:Int))=xs.take j:=by
 unfold fC;rw[HT.i6,HT.iB,Zu h];simp
section
variable {P:Program}{w:World}{K:aaf}{mg:aah}{base:Heap}
def Cj (K:aaf) (CF CB CP CR:Addr):Sp:=λvs H Q E=>∃(c b:Addr) (ps:List aK) (bs:Bytes),vs=[.ref b,.ref c]/\aP K H c (nV (ia bs))/\bs.length<=4096/\cU K CP H b ps/\(∀p∈ps,Fg p) /\
 (∀t,cZ ps bs=.error t->Rz CF E (t.kind:Nat) (t.place:Nat))/\(∀y,cZ ps bs=.ok y->∀H' x p,au H H'->js K CB CP CR H' x p y->ps[y.pool]?=some p->Q (.ref x) H')
theorem sL:aG ["pools","codes","line_end","line","bet"] ["pools","codes"] (aw iS):=fs
theorem Ga {CW CF CB CP CR aW:Addr}(G:GW mg)(B:GB K mg aW)(T:CK K mg "Words" cw CW)(FL:Flt P w K mg base CF){k:Nat}(hk:2<=k)
  (FC:Fn P w K mg base (eW P w CF) k "check_line" ["line"] (xS K CF))(FR:Fn P w K mg base (eW P w CF) k "read_words" ["pools","words"] (wJ K CW CF CB CP CR))(FX:Fn P w K mg base bC k "text_of" ["codes"] (sI K))(FW:xn P w K mg base bC 1 CW ["self","line"] (oW K CW))
  {f:Addr}{fd:FuncData}(F:di K "read_bet" "read_bet" iS f fd):a8 P w K mg base (eW P w CF) (k+1) f fd ["pools","codes"] (Cj K CF CB CP CR):=by
 refine F.lM sL λLF A outer s H vs Q E hr h=>?_;obtain⟨c,b,ps,bs,rfl,hS,hlen,ME,bu,q0,q1⟩:=h;refine⟨_,af (aO (aC eQ (a_ B.nl) (pv 1) (by with_unfolding_all rfl)) (ak (fM FL aH (hr.mono hk) (aa (a_ B.ended) (aa (bh G.len (pv 1)) ah)))) aB)
  (af (a7 2 sL.nd (qr PySem.F.plainAttrs_list PySem.F.slot_list_index PySem.F.type_list_index BE (pv 1) (aa (a_ B.nl) ah)))
  (af (a7 3 sL.nd (cN fw (pv 1) fk (cY (pv 2))))
  (af (dR (aR FC hr (bQ aH rfl rfl) (aa (pv 3) ah)))
  (af (a7 4 sL.nd (aR FR hr (bQ aH rfl rfl) (aa (pv 0) (aa (pI FW (hr.mono hk) T.mg bb (aa (aR FX hr bb (aa (pv 3) ah)) ah)) ah))))
  (af (aO (aC nX (bG eJ (pv 2) ax) (bh G.len (pv 1)) (aJ _)) (ak (fM FL aH (hr.mono hk) (aa (a_ B.more) (aa (bG eJ (pv 2) ax) ah)))) aB)
  (ak (az (pv 4)))))))),?_⟩
 have Qq:(ia bs).length=bs.length:=by unfold ia;rw[Xs]
 refine aS (aI (mG aD (ag rfl) (.inl hS) rfl (fW _))) (λh=>?_) (λh=>?_)
 · have h:(!oh (V.int 10) (nV (ia bs)))=true:=h;rw[nY,Yl,Yb] at h;have hn:¬(10:UInt8)∈bs:=λz=>h ⟨10,yB.mpr z,rfl⟩;have hu:upTo bs=none:=by
    cases hu:upTo bs with
    |none=>rfl
    |some x =>
     obtain⟨l,r⟩:=x;obtain⟨e,_⟩:=jV hu;exact absurd (by rw[e];simp) hn
   rw[wI hu] at q0;refine jN (p:=(bs.length:Nat)) ?_ (q0 _ rfl);have:=aU (K:=K) (σ:=L2.start ["pools","codes","line_end","line","bet"] [V.ref b,V.ref c]) (H:=H) (ag (n:=1) rfl) (.inl hS);rw[aN,Qq] at this;exact this
 have h:(!oh (V.int 10) (nV (ia bs)))=false:=h;rw[nY,Yo,XB] at h;have Xj:(10:UInt8)∈bs:=by
  obtain⟨n,h1,h2⟩:=h;have:n=10:=by omega
  subst this;exact yB.mp h1
 cases hu:upTo bs with
 |none=>exact absurd Xj (sr hu)
 |some x =>
 obtain⟨l,r⟩:=x;obtain⟨T7,R3⟩:=jV hu;rw[xR hu] at q0 q1;have R4:nV (ia bs)=nV (ia l)++V.int 10::nV (ia r):=by
  rw[T7];unfold nV ia;rw[XO,XO];rfl
 have Xk:(nV (ia l)).length=l.length:=by rw[aN];unfold ia;rw[Xs]
 have R5:bs.length=l.length+1+r.length:=by rw[T7];simp;omega
 refine⟨_,rfl,.inl ⟨rfl,_,hS⟩,c,nV (ia bs),.int 10,l.length,.int 10,rfl,rfl,hS,rfl,fW _,?_,rfl,?_,?_⟩
 · rw[R4,aab (by omega),Xk];simp
 · intro m z hm hz;rw[R4,List.getElem?_append_left (by omega)] at hz;unfold nV ia at hz;rw[Xy,Xy,Option.map_map] at hz;obtain⟨y,hy,rfl⟩:=X5.mp hz
   have hny:¬y.toNat=10:=λq=>R3 (by have:y=10:=jU q
                                    rw[←this];exact XZ hy)
   show ((y.toNat:Int)==10)=false;rw[X2];omega
 refine⟨_,rfl,_,rfl,_,rfl,c,_,rfl,hS,λp hp=>?_⟩;rw[p_ (by rw[aN,Qq,R5];omega),R4,List.take_append_of_le_length (by omega),Yq (by omega)];have S1:au H (upd H p (.lst (nV (ia l)))):=(au.refl H).laid hp;have e1:(upd H p (.lst (nV (ia l)))) p=some (.lst (nV (ia l))):=ae;generalize upd H p (.lst (nV (ia l)))=H1 at S1 e1;have Nb:badByte true 0 l=vD (ia l):=Dz l;unfold FY at q0 q1;rw[Nb] at q0 q1;refine⟨_,rfl,p,ia l,rfl,aP.of e1,λi hi=>?_,λhi H2 S2=>?_⟩
 · rw[hi] at q0;exact q0 ⟨2,i⟩ rfl
 rw[hi] at q0 q1 Nb;have q0:∀t,(match Cq l.length ps (wordsFrom 0 [] l) with
  |.error t=>(Except.error t:Except Fault bO)
  |.ok x=>if r=[] then .ok x else .error ⟨8,l.length+1⟩)=.error t->Rz CF E (t.kind:Nat) (t.place:Nat):=q0
 have q1:∀y,(match Cq l.length ps (wordsFrom 0 [] l) with
  |.error t=>(Except.error t:Except Fault bO)
  |.ok x=>if r=[] then .ok x else .error ⟨8,l.length+1⟩)=.ok y->_:=q1
 have Qe:=S1.trans S2;have Qr:(ia l).map sg=tx l:=by
  unfold ia tx;rw[XX];rfl
 have hl4:l.length<=4096:=by omega
 refine⟨_,rfl,_,rfl,p,ia l,rfl,aP.of (S2 _ _ e1),by unfold ia;rw[Xs];omega,λH3 S3=>?_⟩;rw[Qr];intro x dx hx Mm P2;have Xl:(tx l).length=l.length:=ic l;refine⟨x,dx,tx l,rfl,ae,by omega,λH4 wl S4 MV R6 NX=>⟨rfl,?_⟩⟩;have Qh:=Qe.trans S3;have R7:au H H4:=λd o z=>by
  have z3:=Qh d o z;have n1:d≠x:=ao z3 hx;have n2:d≠dx:=ao z3 Mm;exact S4 d o (by rw[aq n1,aq n2];exact z3) n1
 have Xm:H x=none:=by
  cases hz:H x with
  |none=>rfl
  |some o=>rw[Qh x o hz] at hx;cases hx
 have R8:∀c∈tx l,c < 128:=λc hc=>by
  unfold tx at hc;obtain⟨d,_,rfl⟩:=X3.mp hc;exact F6 _
 have R9:nE (aX 32 [] (tx l)):=by
  have h3:=eZ 32 (tx l) [];refine⟨by omega,λv hv=>?_⟩;obtain⟨z1,z2⟩:=dW 32 (tx l) [] v hv;refine⟨by simp at z1;omega,λc hc=>?_⟩;rcases z2 c hc with z|z
  · simp at z
  · exact R8 c z
 have N3:=(words_of l [] 0 0 (XC _) Nb).2;have Xn:aT K CW H4 x l.length (wordsFrom 0 [] l) 0:=by
  refine⟨dx,wl,aX 32 [] (tx l),0,0,?_,aP.of R6,⟨R9,j5 32 _ []⟩,X1 _,?_,N3⟩
  · rw[NX,Xl]
  · rw[o_ 0 Nb];rfl
 have R_:cU K CP H4 b ps:=by
  obtain⟨as,h1,h2⟩:=ME;exact⟨as,R7.seq h1,o8 h2 R7⟩
 refine⟨x,b,ps,l.length,wordsFrom 0 [] l,0,rfl,Xn,R_,bu,λt ht=>?_,λy hy H5 xb pp S5 hB N4=>?_⟩
 · rw[ht] at q0;exact q0 t rfl
 rw[hy] at q0 q1;have q0:∀t,(if r=[] then (Except.ok y:Except Fault bO) else .error ⟨8,l.length+1⟩)=.error t->Rz CF E (t.kind:Nat) (t.place:Nat):=q0;have q1:∀y',(if r=[] then (Except.ok y:Except Fault bO) else .error ⟨8,l.length+1⟩)=.ok y'->_:=q1;have T8:au H H5:=λd o z=>S5 d o (R7 d o z) (ao z Xm);refine aS (jy (jO (ag rfl) aD) (aU (ag rfl) (.inl (T8.seq hS)))) (λh=>?_) (λh=>?_)
 · rw[aN,Qq,R5] at h;have h:=XQ h;rw[Xu (λz=>by rw[z] at h;simp at h)] at q0;have e8:((l.length+1:Nat):Int)=(l.length:Int)+1:=by omega
   have q8:=q0 _ rfl;dsimp only at q8;rw[e8] at q8;exact jN (jO (ag rfl) aD) q8
 · rw[aN,Qq,R5] at h;have h:=Yd h;rw[Xv (Zj.mp (by omega))] at q1;exact⟨_,rfl,q1 _ rfl H5 xb pp T8 hB N4⟩
end
end Bw
namespace L2
open PySem PySem.Spec PyProof.Rows
def yd (K:aaf)(H:Hp):Prop:=∀b o,K.lookup b=some o->H b=none
def BR (K:aaf):V->List V->Hp->VK->Prop:=λx vs H Q=>∃l xs y,x=.ref l/\vs=[y]/\H l=some (.lst xs)/\xs.length < sizeLine/\(yd K H->Q .cb (upd H l (.lst (xs++[y]))))
theorem xj {X:Cx}:K7 X "list.append" (BR X.K):=by
 intro pins s σ H x vs v us Q I rx rv h;obtain⟨l,xs,y,e1,e2,hH,hz,q⟩:=h;exact iz pins s σ H x vs v us Q I rx rv ⟨l,xs,y,e1,e2,hH,hz,q λb o hb=>(I.bs b o (I.ok.mod.Fj _ _ hb)).2⟩
end L2
namespace Bw
open PySem PySem.Spec PyProof.Rows L2 Tote
section
variable {K:aaf}{H:Hp}{c fo a x:Addr}{ys zs:List V}{o:HO}{xs:List Addr}
theorem wo (h:aP K H c ys) (hf:H fo=some (.lst zs)) (ne:ys≠zs):aP K (upd H fo o) c ys:=by
 rcases h with (h|⟨u,h⟩)|h
 · exact .inl (.inl (by rw[aq (dE h hf (by intro z;cases z;exact ne rfl))];exact h))
 · exact .inl (.inr ⟨u,by rw[aq (dE h hf (by intro z;cases z))];exact h⟩)
 · exact .inr h
theorem Hi (hK:yd K H)(h:aP K H c ys){C dx:Addr}{fs:List (Str×V)}(hi:H c=some (.ins C dx fs)):False:=by
 rcases h with (h|⟨u,h⟩)|⟨u,_,_,h,_⟩
 · rw[hi] at h;cases h
 · rw[hi] at h;cases h
 · rw[hK _ _ h] at hi;cases hi
def Kt (H:Hp)(xs:List Addr):Prop:=∀x∈xs,∃C dx fs,H x=some (.ins C dx fs)
theorem yf {s:aae}(h:s≠[]):nV s≠xs.map V.ref:=λe=>by
 cases s with
 |nil=>exact h rfl
 |cons n s =>
  cases xs with
  |nil=>cases e
  |cons x xs=>cases e
theorem uv {bs:List Addr}(ne:bs≠[])(hK:yd K H)(hG:∀b∈bs,∃ys,aP K H b ys)(hi:Kt H xs):bs.map V.ref≠xs.map V.ref:=λe=>by
 cases bs with
 |nil=>exact ne rfl
 |cons b bs =>
  cases xs with
  |nil=>cases e
  |cons x xs =>
   injection e with e1 e2;injection e1 with e1;subst e1;obtain⟨ys,h⟩:=hG b (by simp);obtain⟨C,dx,fs,hx⟩:=hi b (by simp);exact Hi hK h hx
theorem gy {α β:Type}{F:α->β->Prop}{G:α->Prop}(k:∀a b,F a b->G a):∀{l:List α} {m:List β},Paired F l m->∀a∈l,G a
 |_,_,.nil,_,h=>by cases h
 |_,_,.cons h t,a,hm=>by
  rcases Xx.mp hm with rfl|hm
  · exact k _ _ h
  · exact gy k t a hm
theorem ki {α β:Type}{F G:α->β->Prop}:∀{l:List α} {m:List β},Paired F l m->(∀a b,b∈m->F a b->G a b)->Paired G l m
 |_,_,.nil,_=>.nil
 |_,_,.cons h t,k=>.cons (k _ _ (by simp) h) (ki t λa b hb z=>k a b (by simp[hb]) z)
theorem m7 {α β:Type}{F:α->β->Prop}{l:List α}{m:List β}(h:Paired F l m)(n:m≠[]):l≠[]:=λe=>by
 subst e;cases h;exact n rfl
variable (hK:yd K H)(hf:H fo=some (.lst (xs.map V.ref)))(hi:Kt H xs)
include hK hf hi
theorem rV {g:aad}(h:bD K H a g)(ne:g≠[])(hs:∀s∈g,s≠[]):bD K (upd H fo o) a g:=by
 obtain⟨as,h1,h2⟩:=h;exact⟨as,wo h1 hf (uv (m7 h2 ne) hK (gy (λ_ _ z=>⟨_,z⟩) h2) hi),ki h2 λ_ s m z=>wo z hf (yf (hs s m))⟩
theorem Aj {gs:List (aad)}(h:dA K H a gs)(ne:gs≠[])(hs:∀g∈gs,g≠[]/\∀s∈g,s≠[]):dA K (upd H fo o) a gs:=by
 obtain⟨as,h1,h2⟩:=h;exact⟨as,wo h1 hf (uv (m7 h2 ne) hK (gy (λ_ _ ⟨_,z,_⟩=>⟨_,z⟩) h2) hi),ki h2 λ_ g m z=>rV hK hf hi z (hs g m).1 (hs g m).2⟩
theorem yq {CB CP CR:Addr}{p:aK}{y:bO}(h:js K CB CP CR H x p y):js K CB CP CR (upd H fo o) x p y:=by
 obtain⟨dx,pa,sa,ra,h1,⟨dp,fa,h2,h3⟩,⟨as,h4,h5⟩,⟨dr,ga,qa,LC,h6,h7,h8,h9,Qw⟩,Qy,m⟩:=h;have ins:∀{b C d:Addr} {fs:List (Str×V)},H b=some (.ins C d fs)->(upd H fo o) b=some (.ins C d fs):=λz=>by rw[aq (dE z hf (by intro z;cases z))];exact z
 have Xo:y.sets≠[]:=λz=>by
  obtain⟨_,m0,m1,m2⟩:=m.all;have pos:0 < p.fields.length:=Yy.mpr m.ok.ne;by_cases z0:y.how=0
  · have:=(m0 z0).1;rw[z] at this;have:0=p.fields.length:=this;omega
  · by_cases z1:y.how=1
    · obtain⟨t,e,_⟩:=m1 z1;rw[e] at z;cases z
    · obtain⟨t,u,e,_⟩:=m2 z0 z1;rw[e] at z;cases z
 refine⟨dx,pa,sa,ra,ins h1,⟨dp,fa,ins h2,rV hK hf hi h3 m.ok.ne m.Ku⟩,⟨as,?_,ki h5 λb s hm z=>?_⟩,⟨dr,ga,qa,LC,ins h6,Aj hK hf hi h7 h8.ne m.Lf,h8,?_,Qw⟩,Qy,m⟩
 · rw[aq (dE h4 hf (by
    intro z;injection z with z;exact uv (m7 h5 Xo) hK (gy (λ_ _ z=>⟨_,aP.of z⟩) h5) hi z))]
   exact h4
 · rw[aq (dE z hf (by intro q;injection q with q;exact yf (m.all.1 s hm).1 q))];exact z
 · rw[aq (dE h9 hf (by intro z;cases z))];exact h9
end
structure GD (mg:aah):Prop where
 long:Gv mg "TOO_LONG" (.int (-2))
 GO:Gv mg "FAULTY_BET" (.int (-6))
 G6:Gv mg "NO_CARD" (.int (-8))
 Jr:Gv mg "MOST_CARD" (.int 65536)
 JK:Gv mg "MOST_BET" (.int 4096)
theorem Dv {zs:List Int}:fC (zs.map V.int) none (some ((1:Nat):Int))=(zs.take 1).map V.int:=by
 unfold fC;rw[HT.i6,HT.iB];cases zs <;> simp
def readAll (ps:List aK):List Bytes->Except Fault (List bO)
 |[]=>.ok []
 |b::bs=>match cZ ps b with
  |.error f=>.error f
  |.ok y=>match readAll ps bs with
   |.error f=>.error f
   |.ok ys=>.ok (y::ys)
theorem jQ {ps:List aK}:∀{l m:List Bytes} {ys:List bO},readAll ps l=.ok ys->readAll ps (l++m)=match readAll ps m with
  |.error f=>.error f
  |.ok zs=>.ok (ys++zs)
 |[],m,ys,h=>by
  injection h with h;subst h;cases h2:readAll ps m with
  |error f=>exact h2
  |ok zs=>exact h2
 |b::l,m,ys,h=>by
  show (match cZ ps b with
   |.error f=>(Except.error f:Except Fault (List bO))
   |.ok y=>match readAll ps (l++m) with
    |.error f=>.error f
    |.ok ys=>.ok (y::ys))=_
  have h:(match cZ ps b with
   |.error f=>(Except.error f:Except Fault (List bO))
   |.ok y=>match readAll ps l with
    |.error f=>.error f
    |.ok ys=>.ok (y::ys))=.ok ys:=h
  cases hb:cZ ps b with
  |error f=>rw[hb] at h;cases h
  |ok y =>
   rw[hb] at h;cases hl:readAll ps l with
   |error f=>rw[hl] at h;cases h
   |ok xs =>
    rw[hl] at h;injection h with h;subst h;show (match readAll ps (l++m) with
     |.error f=>(Except.error f:Except Fault (List bO))
     |.ok ys=>.ok (y::ys))=_
    rw[jQ hl];cases readAll ps m <;> rfl
theorem nP {ps:List aK}{b:Bytes}:readAll ps [b]=match cZ ps b with
  |.error f=>.error f
  |.ok y=>.ok [y]:=by
 show (match cZ ps b with
   |.error f=>(Except.error f:Except Fault (List bO))
   |.ok y=>.ok [y])=_
 cases cZ ps b <;> rfl
def jZ (t:Bytes)(bs:List Bytes):Except (List Int) (List bO):=if 65536 < t.length∨(bs.any λb=>decide (4096 < b.length))=true then .error [-2] else match dF (tx t) with
 |none=>.error [-8]
 |some ps=>match readAll ps bs with
  |.error f=>.error [-6,(f.kind:Nat),(f.place:Nat)]
  |.ok ys=>.ok ys
theorem vH {t b:Bytes}:jZ t [b]=match fN t b with
  |.error z=>.error z
  |.ok y=>.ok [y]:=by
 unfold jZ fN;have e:([b].any λb=>decide (4096 < b.length))=true↔4096 < b.length:=by simp
 rw[kl (p:=65536 < t.length∨([b].any λb=>decide (4096 < b.length))=true) (q:=65536 < t.length∨4096 < b.length) ⟨λh=>h.imp id e.mp,λh=>h.imp id e.mpr⟩];by_cases h:65536 < t.length∨4096 < b.length
 · rw[Xv h,Xv h]
 · rw[Xu h,Xu h];cases dF (tx t) with
   |none=>rfl
   |some ps =>
    show (match readAll ps [b] with
     |.error f=>(Except.error [-6,((f.kind:Nat):Int),((f.place:Nat):Int)]:Except (List Int) (List bO))
     |.ok ys=>.ok ys)=_
    rw[nP];show _=(match (match cZ ps b with
     |.error f=>(Except.error [-6,((f.kind:Nat):Int),((f.place:Nat):Int)]:Except (List Int) bO)
     |.ok y=>.ok y) with
     |.error z=>(Except.error z:Except (List Int) (List bO))
     |.ok y=>.ok [y])
    cases cZ ps b <;> rfl
section
variable {P:Program}{w:World}{K:aaf}{mg:aah}{base:Heap}
theorem yQ {CX:mH} {N:List Str} {qual:Str} {scope:Scope} {f:Addr} {cd:Value} {A:Around} {outer:List Env} {s:Shared} {H:Hp} {E:XK}:l_ (mO CX P w K mg base N qual scope f cd A outer s H E).Ib:=⟨rfl,rfl,rfl,rfl⟩
def sX (K:aaf)(CB CP CR:Addr)(ps:List aK)(H:Hp)(x:Addr)(y:bO):Prop:=∃p,js K CB CP CR H x p y/\ps[y.pool]?=some p
def sW (K:aaf)(CB CP CR:Addr):Sp:=λvs H Q _=>∃(c d:Addr) (ds:List Addr) (t:Bytes) (bs:List Bytes),vs=[.ref c,.ref d]/\aP K H c (nV (ia t))/\aP K H d (ds.map V.ref)/\Paired (λa b=>aP K H a (nV (ia b))) ds bs/\bs.length<=2 /\
 (∀zs,jZ t bs=.error zs->∀H' T L F,H' T=some (.tup [.ref L,.ref F])->H' L=some (.lst (zs.map V.int))->H' F=some (.lst [])->Q (.ref T) H') /\
 (∀ys,jZ t bs=.ok ys->∀H' T L F xs ps,H' T=some (.tup [.ref L,.ref F])->H' L=some (.lst [])->H' F=some (.lst (xs.map V.ref))->Paired (sX K CB CP CR ps H') xs ys->dF (tx t)=some ps->Q (.ref T) H')
theorem gp:aG ["card","bets","bet","pools","found","fault"] ["card","bets"] (aw fq):=fs
theorem By {CF CB CP CR aW N fI:Addr}(Sa:∀t ps,dF (tx t)=some ps->∀p∈ps,Fg p)(G:GW mg)(B:GB K mg aW)(D:GD mg)(Z:pW K CF N fI)(hF:mg "Fault"=some (.ref CF)){k:Nat}
  (FC:Fn P w K mg base bC k "read_card" ["codes"] (wc K CP))(FB:Fn P w K mg base (eW P w CF) k "read_bet" ["pools","codes"] (Cj K CF CB CP CR))
  {f:Addr}{fd:FuncData}(F:di K "look_at_all" "look_at_all" fq f fd):a8 P w K mg base bC (k+1) f fd ["card","bets"] (sW K CB CP CR):=by
 refine F.KL gp (λvs H Q E h=>?_) (λLF A outer s H vs Q E hr h=>?_)
 · obtain⟨_,_,_,_,_,rfl,_⟩:=h;rfl
 · obtain⟨c,d,ds,t,bs,rfl,hC,hD,hP,h2,q0,q1⟩:=h
   refine⟨_,ig (PS.zero (aO (PW.pt (eG (aC kX (bh G.len (pv 0)) (a_ D.Jr) (aJ _)) (cQ (hU (bY (AH rfl) (by rfl) B.any (by decide +kernel) (aa (fA (te:=kK (qI λi j=>.bl (decide (j < i))) (G_ (λxs H Q=>∃p ys,xs=[.ref p]/\(aP K H p ys∨bZ K H p ys)/\Q (.int ys.length) H) (cO (cI 2) eV)) (tC (.int 4096))) rfl gp.nd (bJ (pv 1)) (bz (own:=[("bet",2)]) rfl)
         (λ_ _ _ _ _=>bo 2 gp.nd) (λ_ _ _ _ _=>cz) (λ_ _ _ _ _=>ft kX (bh G.len (pv 2)) (a_ D.JK) (aJ _))) ah))))))
     (ak (az (dq (aa (bV (aa (a_ D.long) ah)) (aa (bV ah) ah))))) aB))
    (ig (PS.zero (a7 3 gp.nd (aR FC hr bb (aa (pv 0) ah))))
    (ig (PS.zero (aO (aC tJ (pv 3) cC (aJ _)) (ak (az (dq (aa (bV (aa (a_ D.G6) ah)) (aa (bV ah) ah))))) aB))
    (ig (PS.zero (a7 4 gp.nd (bV ah)))
    (ig (D6 Yz rfl (bJ (pv 1)) (bo 2 gp.nd)
      (Hm (i:=5) (R:=λk p=>∃ps y,dF (tx t)=some ps/\readAll ps bs=.error y/\k=(y.kind:Nat)/\p=(y.place:Nat)) yQ Z (by rfl) hF gp.nd rfl rfl
       (ak (dR (qr PySem.F.plainAttrs_list PySem.F.slot_list_append PySem.F.type_list_append xj (pv 4) (aa (aR FB hr (bQ yQ rfl rfl) (aa (pv 3) (aa (pv 2) ah))) ah))))
       (λ_=>ak (az (dq (aa (bV (aa (a_ D.GO) (aa (yO Z Z.fK (pv 5) rfl) (aa (yO Z Z.fP (pv 5) rfl) ah)))) (aa (bV ah) ah)))))))
    (qP.zero (ak (az (dq (aa (bV ah) (aa (pv 4) ah)))))))))),?_⟩
   have MM:ds.length=bs.length:=Paired.length hP;have tl:(ia t).length=t.length:=by unfold ia;rw[Xs]
   have bl:∀b:Bytes,(ia b).length=b.length:=λb=>by unfold ia;rw[Xs]
   have Qr:(ia t).map sg=tx t:=by
    unfold ia tx;rw[XX];rfl
   have no:∀(zs:List Int) (H1:Hp) (L:Addr),jZ t bs=.error zs->H1 L=none->∀F,(upd H1 L (.lst (zs.map V.int))) F=none->∀T,(upd (upd H1 L (.lst (zs.map V.int))) F (.lst [])) T=none->Q (.ref T) (upd (upd (upd H1 L (.lst (zs.map V.int))) F (.lst [])) T (.tup [.ref L,.ref F])):=λzs H1 L e hL F hF T hT=>by
    have nF:L≠F:=λz=>by rw[←z,ae] at hF;cases hF
    have nT:L≠T:=λz=>by rw[←z,aq nF,ae] at hT;cases hT
    have Xp:F≠T:=λz=>by rw[←z,ae] at hT;cases hT
    exact q0 zs e _ T L F ae (by rw[aq nT,aq nF];exact ae) (by rw[aq Xp];exact ae)
   unfold jZ at no q1;refine (jy (aU (ag rfl) (.inl hC)) aD) _ ?_;rw[aN,tl];refine gH (λh=>?_) (λh=>?_)
   · have h:65536 < t.length:=by have:=XQ h;omega
     rw[Xv (.inl h)] at no;exact pQ ⟨by show 1<=sizeLine;decide,λL hL=>⟨X1 _,λF hF=>⟨by show 2<=sizeLine;decide,λT hT=>no [-2] _ L rfl hL F hF T hT⟩⟩⟩
   have h1:¬65536 < t.length:=λz=>h (X9 (by omega));refine⟨_,rfl,d,rfl,⟨_,hD⟩,λD0 M7=>oE (K:=K) (a:=d) (xs:=ds.map V.ref) (λi y _=>∃b,bs[i]?=some b/\y=.bl (decide (4096 < b.length))) (λi y H H' _ z=>z) hD M7 (by rw[Xs,MM];omega) ?_ ?_⟩
   · rintro i v H' hi S _ R hR;obtain⟨ai,L5,rfl⟩:=jL hi;obtain⟨b,hb,hI⟩:=Paired.qR hP L5;refine⟨rfl,_,rfl,ai,_,rfl,.inl (S.seq hI),_,_,rfl,rfl,hR _ _ (au.refl _) ⟨b,hb,?_⟩⟩;rw[aN,bl];show V.bl (decide _)=V.bl (decide _);congr 1;rw[Zf];omega
   rintro ys H1 S1 e1 l1 f1;have ey:ys=(bs.map λb=>decide (4096 < b.length)).map V.bl:=by
    refine wQ (by rw[l1];simp[MM]) λi y hy=>?_;obtain⟨b,hb,rfl⟩:=f1 i y hy;rw[Xy,Xy,hb];rfl
   subst ey;refine⟨D0,_,rfl,aP.of e1,_,rfl,?_⟩;have ea:(bs.map λb=>decide (4096 < b.length)).any id=bs.any λb=>decide (4096 < b.length):=by rw[ZR];rfl
   rw[ea];refine gH (λh=>?_) (λh=>?_)
   · rw[Xv (.inr h)] at no;exact⟨by show 1<=sizeLine;decide,λL hL=>⟨X1 _,λF hF=>⟨by show 2<=sizeLine;decide,λT hT=>no [-2] _ L rfl hL F hF T hT⟩⟩⟩
   rw[Xu λz=>z.elim h1 h] at no q1;have small:∀b∈bs,b.length<=4096:=λb hb=>by
    have:¬4096 < b.length:=λz=>h (Y7.mpr ⟨b,hb,X9 z⟩);omega
   refine⟨_,rfl,c,ia t,rfl,S1.seq hC,by omega,λhn H2 S2=>?_,λps Nc H2 x S2 ME=>?_⟩
   · rw[Qr] at hn;rw[hn] at no;refine aS (aI (tX (ag rfl))) (λh=>?_) (λh=>absurd h (by decide));exact⟨by show 1<=sizeLine;decide,λL hL=>⟨X1 _,λF hF=>⟨by show 2<=sizeLine;decide,λT hT=>no [-8] _ L rfl hL F hF T hT⟩⟩⟩
   rw[Qr] at Nc;rw[Nc] at no q1;have no:∀(zs:List Int) (H1:Hp) (L:Addr),(match readAll ps bs with
    |.error f=>(Except.error [-6,((f.kind:Nat):Int),((f.place:Nat):Int)]:Except (List Int) (List bO))
    |.ok ys=>.ok ys)=.error zs->_:=no
   have q1:∀ys,(match readAll ps bs with
    |.error f=>(Except.error [-6,((f.kind:Nat):Int),((f.place:Nat):Int)]:Except (List Int) (List bO))
    |.ok ys=>.ok ys)=.ok ys->_:=q1
   refine aS (aI (tX (ag rfl))) (λh=>absurd (XQ h) (by intro z;cases z)) (λh=>?_);refine⟨X1 _,λfo PV=>?_⟩;have SH:au H H2:=S1.trans S2;have Sf:au H2 (upd H2 fo (.lst [])):=(au.refl H2).laid PV;refine⟨_,rfl,d,rfl,⟨_,(SH.trans Sf).seq hD⟩,df (K:=K) (a:=d) (xs:=ds.map V.ref) (λi σ H'=>∃(v2:Option V) (xs:List Addr) (ys:List bO),σ=[some (.ref c),some (.ref d),v2,some (.ref x),some (.ref fo),none]/\au H2 H'/\H' fo=some (.lst (xs.map V.ref))/\readAll ps (bs.take i)=.ok ys/\Paired (sX K CB CP CR ps H') xs ys)
    ⟨none,[],[],rfl,Sf,ae,rfl,.nil⟩ (λi σ H' _ ⟨_,_,_,_,S,_⟩=>(SH.trans S).seq hD) ?_ ?_⟩
   · rintro i v σ H3 hi ⟨v2,xs,ys,rfl,S3,e3,r3,Qs⟩;obtain⟨ai,L5,rfl⟩:=jL hi;obtain⟨b,hb,hI⟩:=Paired.qR hP L5;have LM:i < bs.length:=(XH.mp hb).1;have hs:=small b (XZ hb);have ed:bs=bs.take i++b::bs.drop (i+1):=by
      rw[←(XH.mp hb).2,List.getElem_cons_drop,List.take_append_drop]
     refine⟨?_,?_⟩
     · refine⟨_,rfl,.inl ⟨rfl,_,aP.of e3⟩,_,rfl,_,rfl,ai,x,ps,b,rfl,(SH.trans S3).seq hI,hs,ME.same S3,Sa t ps Nc,λy hy=>Js ⟨ps,y,Nc,?_,rfl,rfl⟩,λy hy H4 xb p S4 Xq N4=>?_⟩
       · rw[ed,jQ r3];show (match (match cZ ps b with
          |.error f=>(Except.error f:Except Fault (List bO))
          |.ok y=>match readAll ps (bs.drop (i+1)) with
           |.error f=>.error f
           |.ok ys=>.ok (y::ys)) with
          |.error f=>(Except.error f:Except Fault (List bO))
          |.ok zs=>.ok (ys++zs))=_
         rw[hy]
       · have lx:xs.length<=2:=by
          have z1:=Paired.length Qs;have z2:∀{l:List Bytes} {zs:List bO},readAll ps l=.ok zs->zs.length=l.length:=λ{l}=>by
           induction l with
           |nil=>intro zs h;injection h with h;subst h;rfl
           |cons b l ih =>
            intro zs h;have h:(match cZ ps b with
             |.error f=>(Except.error f:Except Fault (List bO))
             |.ok y=>match readAll ps l with
              |.error f=>.error f
              |.ok ys=>.ok (y::ys))=.ok zs:=h
            cases hb:cZ ps b with
            |error f=>rw[hb] at h;cases h
            |ok y =>
             rw[hb] at h;cases hl:readAll ps l with
             |error f=>rw[hl] at h;cases h
             |ok xs =>
              rw[hl] at h;injection h with h;subst h;rw[XE,XE,ih hl]
          have z3:=z2 r3;rw[XT] at z3;omega
         refine⟨fo,_,_,rfl,rfl,S4 _ _ e3,by rw[Xs,XY];omega,λhK=>⟨some (.ref ai),xs++[xb],ys++[y],rfl,?_,by rw[ae,XO];rfl,?_,?_⟩⟩
         · intro b' u z;rw[aq (ao z PV)];exact S4 b' u (S3 b' u z)
         · rw[take_snoc hb,jQ r3,nP,hy]
         · have old:Paired (sX K CB CP CR ps H4) xs ys:=Paired.d9 Qs λ_ _ ⟨p,z1,z2⟩=>⟨p,z1.same S4,z2⟩;have hi:Kt H4 xs:=gy (λ_ _ ⟨p,⟨dx,_,_,_,z,_⟩,_⟩=>⟨_,dx,_,z⟩) old;exact gi (Paired.d9 old λ_ _ ⟨p,z1,z2⟩=>⟨p,yq hK (S4 _ _ e3) hi z1,z2⟩) (.cons ⟨p,yq hK (S4 _ _ e3) hi Xq,N4⟩ .nil)
     · rintro σ' H' a dx k' p' ⟨ps',y,h1,h2,rfl,rfl⟩ hσ ha Mm;rw[Nc] at h1;injection h1 with h1;subst h1;rw[h2] at no;refine⟨_,hσ,a,dx,_,_,rfl,ha,Mm,bS,_,hσ,a,dx,_,_,rfl,ha,Mm,(a9 (by decide +kernel)).trans bS,by show 3<=sizeLine;decide,λL hL=>⟨X1 _,λF hF=>⟨by show 2<=sizeLine;decide,λT hT=>?_⟩⟩⟩;exact no [-6,((y.kind:Nat):Int),((y.place:Nat):Int)] _ L rfl hL F hF T hT
   · rintro σ H3 ⟨v2,xs,ys,rfl,S3,e3,r3,Qs⟩;rw[Xs,MM,Yr] at r3;rw[r3] at q1;refine⟨X1 _,λL hL=>⟨_,rfl,by show 2<=sizeLine;decide,λT hT=>?_⟩⟩;have S4:au H3 (upd H3 L (.lst [])):=(au.refl H3).laid hL;have S5:au (upd H3 L (.lst [])) (upd (upd H3 L (.lst [])) T (.tup [.ref L,.ref fo])):=(au.refl _).laid hT;exact q1 ys rfl _ T L fo xs ps ae (S5 _ _ ae) (S5 _ _ (S4 _ _ e3)) (Paired.d9 Qs λ_ _ ⟨p,z1,z2⟩=>⟨p,z1.same (S4.trans S5),z2⟩) rfl
def xy (K:aaf)(CB CP CR:Addr):Sp:=λvs H Q _=>∃(c d:Addr) (t b:Bytes),vs=[.ref c,.ref d]/\aP K H c (nV (ia t))/\aP K H d (nV (ia b)) /\
 (∀zs,fN t b=.error zs->∀H' T L,H' T=some (.tup [.ref L,.cb])->H' L=some (.lst (zs.map V.int))->Q (.ref T) H') /\
 (∀y,fN t b=.ok y->∀H' T L x p,H' T=some (.tup [.ref L,.ref x])->js K CB CP CR H' x p y->(∃ps,dF (tx t)=some ps/\ps[y.pool]?=some p)->Q (.ref T) H')
theorem ug:aG ["card","bet","refusal","found"] ["card","bet"] (aw ka):=fs
theorem Er {CB CP CR:Addr}(G:GW mg){k:Nat}(FA:Fn P w K mg base bC k "look_at_all" ["card","bets"] (sW K CB CP CR)){f:Addr}{fd:FuncData}(F:di K "look_at" "look_at" ka f fd):a8 P w K mg base bC (k+1) f fd ["card","bet"] (xy K CB CP CR):=by
 refine F.oa ug λLF A outer s H vs Q E hr h=>?_;obtain⟨c,d,t,b,rfl,hC,hB,q0,q1⟩:=h;refine⟨_,af (Cp (aR FA hr bb (aa (pv 0) (aa (bV (aa (pv 1) ah)) ah))) (k_ rfl (b9 (bo 2 ug.nd) (b9 (bo 3 ug.nd) i9))))
  (af (aO (aC cp (bh G.len (pv 3)) ax (aJ _)) (ak (az (dq (aa (pv 2) (aa cC ah))))) aB)
  (ak (az (dq (aa (pv 2) (aa (bp aM (pv 3) ax (λ_ _=>rfl)) ah)))))),?_⟩
 refine⟨_,rfl,_,rfl,by show 1<=sizeLine;decide,λl hl=>?_⟩;have Sl:au H (upd H l (.lst [V.ref d])):=(au.refl H).laid hl;have e1:=vH (t:=t) (b:=b);refine⟨c,l,[d],t,[b],rfl,Sl.seq hC,aP.of ae,.cons (Sl.seq hB) .nil,by show 1<=2;decide,λzs hz H' T L F hT hL hF=>?_,λys hy H' T L F xs ps hT hL hF hP Nc=>?_⟩
 · refine⟨T,_,rfl,bZ.of hT,rfl,_,_,rfl,_,_,rfl,rfl,?_⟩;refine aS (aI (cj (aU (ag rfl) (.inl (aP.of hF))) aD)) (λh=>?_) (λh=>absurd h (by decide));rw[e1] at hz;cases hm:fN t b with
   |ok y=>rw[hm] at hz;cases hz
   |error z =>
    rw[hm] at hz;injection hz with hz;subst hz;refine⟨_,rfl,by show 2<=sizeLine;decide,λT2 MC=>q0 z hm _ T2 L ae ?_⟩;rw[aq (ao hL MC)];exact hL
 · rw[e1] at hy;cases hm:fN t b with
   |error z=>rw[hm] at hy;cases hy
   |ok y =>
    rw[hm] at hy;injection hy with hy;subst hy;cases hP with
    |cons hx hn =>
     cases hn;rename_i x;obtain⟨p,Sb,N4⟩:=hx;refine⟨T,_,rfl,bZ.of hT,rfl,_,_,rfl,_,_,rfl,rfl,?_⟩;refine aS (aI (cj (aU (ag rfl) (.inl (aP.of hF))) aD)) (λh=>absurd h (by show ¬decide (V.int 1=V.int 0)=true;decide)) (λh=>?_);refine⟨_,rfl,(aZ (ag rfl) aD (aP.of hF) (v:=.ref x) rfl) _ ⟨by show 2<=sizeLine;decide,λT2 MC=>q1 y hm _ T2 L x p ae (Sb.same ((au.refl H').laid MC)) ⟨ps,Nc,N4⟩⟩⟩
end
section
variable {P:Program}{w:World}{K:aaf}{mg:aah}{base:Heap}
theorem pD.mono {CX:mH} {C:Addr} {m:Str} {ps:List Str} {j k:Nat} {sp:Sp} (F:pD P w K mg base CX j C m ps sp) (h:j<=k):pD P w K mg base CX k C m ps sp:=by
 obtain⟨f,fd,hm,hb,F⟩:=F;exact⟨f,fd,hm,hb,F.mono h⟩
structure TopW (K:aaf)(mg:aah):Prop where
 G:GW mg
 sign:gZ K mg "sign_of" j4
 text:gZ K mg "text_of" j8
 name:gZ K mg "is_name" ko
 num:gZ K mg "number_of" gI
section
variable (T:TopW K mg)
include T
theorem TopW.Ex:Fn P w K mg base bC 1 "number_of" ["word"] kO:=T.num.mk λ_ _ F=>Hv T.G F
theorem TopW.F8:Fn P w K mg base bC 1 "is_name" ["word"] lK:=T.name.mk λ_ _ F=>Au T.G F
theorem TopW.Fh:Fn P w K mg base bC 2 "text_of" ["codes"] (sI K):=T.text.mk λ_ _ F=>Eu (T.sign.mk λ_ _ F=>Dl T.G F) F
end
theorem Di.mk {CX:mH}{C:Addr}{qual:Str}{st:Stmt}{ps:List Str}{k:Nat}{sp:Sp}(D:Di K C qual st)
  (ok:∀f fd,di K "__init__" qual st f fd->a8 P w K mg base CX k f fd ps sp)(hb:∀(kV doc pm:Value) (an:Option Addr) (LF ct:Value) (us:aaj),us.length=ps.length->bindArgs (PySem.W.fnOf "__init__" qual (cX st) (b7 st) (aw st) .none kV doc pm an LF ct) ⟨us,[]⟩=pure (ps.zip us):=by intro _ _ _ _ _ _;first|exact JV (λ_=>rfl)|exact JN (λ_ _=>rfl)|exact Jn (λ_ _ _=>rfl)|exact JU (λ_ _ _ _=>rfl)|exact JW (λ_ _ _ _ _=>rfl)|exact KJ (λ_ _ _ _ _ _ _=>rfl)):xn P w K mg base CX k C ps sp:=by
 obtain⟨f,fd,hm,F⟩:=D;exact⟨f,fd,hm,F.binds hb,ok f fd F⟩
theorem xn.mono {CX:mH}{C:Addr}{ps:List Str}{j k:Nat}{sp:Sp}(F:xn P w K mg base CX j C ps sp)(h:j<=k):xn P w K mg base CX k C ps sp:=by
 obtain⟨f,fd,hm,hb,F⟩:=F;exact⟨f,fd,hm,hb,F.mono h⟩
theorem Dm.mk {CX:mH}{C:Addr}{m qual:Str}{st:Stmt}{ps:List Str}{k:Nat}{sp:Sp}(D:Dm K C m qual st)
  (ok:∀f fd,di K m qual st f fd->a8 P w K mg base CX k f fd ps sp)(hb:∀(kV doc pm:Value) (an:Option Addr) (LF ct:Value) (us:aaj),us.length=ps.length->bindArgs (PySem.W.fnOf m qual (cX st) (b7 st) (aw st) .none kV doc pm an LF ct) ⟨us,[]⟩=pure (ps.zip us):=by intro _ _ _ _ _ _;first|exact JV (λ_=>rfl)|exact JN (λ_ _=>rfl)|exact Jn (λ_ _ _=>rfl)|exact JU (λ_ _ _ _=>rfl)|exact JW (λ_ _ _ _ _=>rfl)|exact KJ (λ_ _ _ _ _ _ _=>rfl)):pD P w K mg base CX k C m ps sp:=by
 obtain⟨f,fd,hm,F⟩:=D;exact⟨f,fd,hm,F.binds hb,ok f fd F⟩
structure TopC (P:Program)(w:World)(K:aaf)(mg:aah)(dS aF CP:Addr):Prop where
 W:TopW K mg
 GC:GC P w K mg dS aF
 TP:CK K mg "Pool" hX CP
 Ck:Di K CP "Pool.__init__" gU
 day:gZ K mg "is_day" lL
 Hf:gZ K mg "has_pool_form" dU
 CM:gZ K mg "are_terms_good" dC
 fields:gZ K mg "fields_of" gS
 pool:gZ K mg "read_pool" gY
 race:gZ K mg "read_race" fF
 pools:gZ K mg "read_pools" fQ
 G6:gZ K mg "read_card" gJ
theorem TopC.JG {dS aF CP:Addr}(T:TopC P w K mg dS aF CP):Fn P w K mg base bC 6 "read_card" ["codes"] (wc K CP):=by
 have num:Fn P w K mg base bC 2 "number_of" ["word"] kO:=T.W.Ex.mono (by decide);have day:Fn P w K mg base bC 2 "is_day" ["words"] (Ct K):=T.day.mk λ_ _ F=>Hz T.W.G T.W.F8 F;have Hf:Fn P w K mg base bC 2 "has_pool_form" ["words"] (wK K):=T.Hf.mk λ_ _ F=>EH T.W.G T.GC T.W.F8 F;have CM:Fn P w K mg base bC 2 "are_terms_good" ["words"] (sM K):=T.CM.mk λ_ _ F=>CA T.W.Ex F;have fields:Fn P w K mg base bC 1 "fields_of" ["kind","size","race","races"] (qh K):=T.fields.mk λ_ _ F=>Ar T.W.G T.GC F;have Ck:xn P w K mg base bC 1 CP ["self","name","kind","fields","unit"] (uf CP):=T.Ck.mk λ_ _ F=>AS T.TP F;have pool:Fn P w K mg base bC 4 "read_pool" ["words","races"] (xf K CP):=T.pool.mk λ_ _ F=>Eo T.W.G T.GC T.TP Hf CM num (fields.mono (by decide)) (Ck.mono (by decide)) F;have race:Fn P w K mg base bC 2 "read_race" ["words"] (xD K):=T.race.mk λ_ _ F=>C5 T.W.G T.GC T.W.Ex F;have pools:Fn P w K mg base bC 5 "read_pools" ["lines","races"] (uh K CP):=T.pools.mk λ_ _ F=>CZ T.W.G T.GC T.TP pool F;exact T.G6.mk λ_ _ F=>E5 T.W.G T.GC (T.W.Fh.mono (by decide)) (day.mono (by decide)) (race.mono (by decide)) pools F
structure xZ (K:aaf)(mg:aah)(aW CR:Addr):Prop where
 G:GW mg
 B:GB K mg aW
 N:GN mg
 TR:CK K mg "Rows" jI CR
 prod:gZ K mg "product_of" fY
 Kw:gZ K mg "without" j3
 legs:gZ K mg "count_legs" fR
 Hg:gZ K mg "count_orders" eh
 D7:gZ K mg "is_of" oK
 Ll:gZ K mg "count_different" cW
 Li:gZ K mg "picks_of" iN
 cst:gZ K mg "count_starts" eU
 Jq:Di K CR "Rows.__init__" gR
 start:Dm K CR "starting" "Rows.starting" dQ
 LB:gZ K mg "rows_on" jY
 Kr:gZ K mg "rows_box" iX
 Kl:gZ K mg "rows_key" iQ
 He:gZ K mg "seatings" gj
 Kn:gZ K mg "rows_of" kg
section
variable {aW CR:Addr}(T:xZ K mg aW CR)
include T
theorem xZ.Jh:Fn P w K mg base bC 1 "without" ["numbers","taken"] (tG K):=T.Kw.mk λ_ _ F=>D1 F
theorem xZ.Hh:pD P w K mg base bC 3 CR "starting" ["self","start"] (tW K CR):=by
 have D7:Fn P w K mg base bC 1 "is_of" ["sets","start"] (sU K):=T.D7.mk λ_ _ F=>DM T.G T.N F;have legs:Fn P w K mg base bC 2 "count_legs" ["sets","start"] (je K kM):=T.legs.mk λ_ _ F=>DS T.G D7 (T.prod.mk λ_ _ F=>Dq F) F;have Hg:Fn P w K mg base bC 2 "count_orders" ["sets","start"] (je K tO):=T.Hg.mk λ_ _ F=>Fb T.G T.N D7 (T.Ll.mk λ_ _ F=>GA T.G T.B T.N F) T.Jh F;exact T.start.mk λ_ _ F=>A7 T.N T.TR Hg legs F
theorem xZ.wH:xn P w K mg base bC 2 CR ["self","kind","grids"] (j2 K CR):=T.Jq.mk λ_ _ F=>Cw T.TR (T.cst.mk λ_ _ F=>G0 T.G T.N F) (T.Li.mk λ_ _ F=>HP T.N F) F
theorem xZ.KZ:Fn P w K mg base bC 4 "rows_on" ["kind","sets"] (oX K CR):=T.LB.mk λ_ _ F=>HM T.TR T.wH F
theorem xZ.Kj {CP:Addr}(TP:CK K mg "Pool" hX CP):Fn P w K mg base bC 5 "rows_of" ["pool","how","sets"] (zf K CP CR):=by
 have He:Fn P w K mg base bC 1 "seatings" ["size","bankers","others"] (wY K):=T.He.mk λ_ _ F=>EV T.N F;exact T.Kn.mk λ_ _ F=>Gn T.G T.B TP T.KZ (T.Kr.mk λ_ _ F=>Ez T.N T.TR T.wH F) (T.Kl.mk λ_ _ F=>DI T.TR (He.mono (by decide)) T.wH F) F
end
structure C_ (P:Program)(w:World)(K:aaf)(mg:aah)(dS aF CP CW CB CF nF fI aW CR:Addr):Prop where
 C:TopC P w K mg dS aF CP
 N:xZ K mg aW CR
 D:GD mg
 TW:CK K mg "Words" cw CW
 TB:CK K mg "Bet" sq CB
 Z:pW K CF nF fI
 mF:mg "Fault"=some (.ref CF)
 Hq:∃fd,di K "__init__" "Fault.__init__" fO fI fd
 Gp:Di K CB "Bet.__init__" iO
 cost:Dm K CB "cost" "Bet.cost" iT
 xM:Di K CW "Words.__init__" fS
 take:Dm K CW "take" "Words.take" gc
 one:Dm K CW "take_one_of" "Words.take_one_of" cv
 fin:Dm K CW "finish" "Words.finish" ej
 stake:gZ K mg "take_stake" fX
 set:gZ K mg "take_set" i_
 box:gZ K mg "take_box" jg
 key:gZ K mg "take_key" iZ
 on:gZ K mg "take_on" j_
 sets:gZ K mg "take_sets" gW
 how:gZ K mg "take_how" jh
 pool:gZ K mg "take_pool" gT
 line:gZ K mg "check_line" fT
 words:gZ K mg "read_words" fV
 Ko:gZ K mg "read_bet" iS
 IT:gZ K mg "look_at_all" fq
 look:gZ K mg "look_at" ka
section
variable {dS aF CP CW CB CF nF fI aW CR:Addr}(T:C_ P w K mg dS aF CP CW CB CF nF fI aW CR)
include T
theorem C_.Gu:Fn P w K mg base bC 9 "look_at_all" ["card","bets"] (sW K CB CP CR):=by
 have G:=T.C.W.G;have B:=T.N.B;have FL:Flt P w K mg base CF:=by
  obtain⟨fd,F⟩:=T.Hq;exact⟨nF,fI,fd,T.Z,F.binds (λ_ _ _ _ _ _=>Jn λ_ _ _=>rfl),Aq T.Z F,T.mF⟩
 have num:∀k,1<=k->Fn P w K mg base bC k "number_of" ["word"] kO:=λk hk=>T.C.W.Ex.mono hk;have take:pD P w K mg base (eW P w CF) 3 CW "take" ["self"] (mX K CW CF):=T.take.mk λ_ _ F=>DQ G B T.TW FL F;have one:pD P w K mg base (eW P w CF) 4 CW "take_one_of" ["self","known"] (qf K CW CF):=T.one.mk λ_ _ F=>GV B T.TW FL (by decide) take F;have fin:pD P w K mg base (eW P w CF) 3 CW "finish" ["self"] (BI K CW CF):=T.fin.mk λ_ _ F=>HE G B T.TW FL F;have stake:Fn P w K mg base (eW P w CF) 4 "take_stake" ["words","unit"] (uj K CW CF):=T.stake.mk λ_ _ F=>AK B T.TW FL (by decide) take (num 3 (by decide)) F;have set:Fn P w K mg base (eW P w CF) 4 "take_set" ["words","field"] (uW K CW CF):=T.set.mk λ_ _ F=>Ho G B T.TW FL (by decide) take (num 3 (by decide)) F;have box:Fn P w K mg base (eW P w CF) 5 "take_box" ["words","field","size"] (Bi K CW CF):=T.box.mk λ_ _ F=>HF G B T.TW FL (by decide) set F;have key:Fn P w K mg base (eW P w CF) 5 "take_key" ["words","field","size"] (A2 K CW CF):=T.key.mk λ_ _ F=>HB G B T.TW FL (by decide) set one F;have on:Fn P w K mg base (eW P w CF) 5 "take_on" ["words","fields"] (Hy K CW CF):=T.on.mk λ_ _ F=>IH G B T.TW FL (by decide) set one F;have sets:Fn P w K mg base (eW P w CF) 6 "take_sets" ["words","pool","how"] (xI K CW CF CP):=T.sets.mk λ_ _ F=>DB G B T.C.TP on box key F;have how:Fn P w K mg base (eW P w CF) 5 "take_how" ["words","pool"] (Bf K CW CF CP):=T.how.mk λ_ _ F=>Gg B T.TW T.C.TP one F;have pool:Fn P w K mg base (eW P w CF) 4 "take_pool" ["pools","words"] (ui K CW CF CP):=T.pool.mk λ_ _ F=>BU B T.TW T.C.TP FL (by decide) take F;have line:Fn P w K mg base (eW P w CF) 3 "check_line" ["line"] (xS K CF):=T.line.mk λ_ _ F=>Fd G B FL F;have Gp:xn P w K mg base bC 4 CB ["self","pool","pool_number","how","stake","sets","rows"] (w9 K CB CR):=T.Gp.mk λ_ _ F=>C9 T.TB T.N.TR T.N.Hh F;have xM:xn P w K mg base bC 1 CW ["self","line"] (oW K CW):=T.xM.mk λ_ _ F=>zI G T.TW F;have Kn:Fn P w K mg base bC 6 "rows_of" ["pool","how","sets"] (zf K CP CR):=(T.N.Kj T.C.TP).mono (by decide);have cost:pD P w K mg base bC 6 CB "cost" ["self"] (qy K CB CP CR):=(T.cost.mk λ_ _ F=>DG T.TB F:pD P w K mg base bC 1 CB "cost" ["self"] (qy K CB CP CR)).mono (by decide);have words:Fn P w K mg base (eW P w CF) 7 "read_words" ["pools","words"] (wJ K CW CF CB CP CR):=T.words.mk λ_ _ F=>Ea B T.TW T.C.TP T.TB FL (k:=6) (by decide) (one.mono (by decide)) (pool.mono (by decide)) (stake.mono (by decide)) (how.mono (by decide)) sets Gp (fin.mono (by decide)) Kn cost F;have Ko:Fn P w K mg base (eW P w CF) 8 "read_bet" ["pools","codes"] (Cj K CF CB CP CR):=T.Ko.mk λ_ _ F=>Ga G B T.TW FL (k:=7) (by decide) (line.mono (by decide)) words (T.C.W.Fh.mono (by decide)) xM F;exact T.IT.mk λ_ _ F=>By BF G B T.D T.Z T.mF (k:=8) (T.C.JG.mono (by decide)) Ko F
theorem C_.Jk:Fn P w K mg base bC 10 "look_at" ["card","bet"] (xy K CB CP CR):=T.look.mk λ_ _ F=>Er T.C.W.G T.Gu F
end
end
theorem B4 {u:Value}{v:V}(r:A6 u=some v):RelV v u:=by
 cases u <;> cases r <;> first|rfl|exact⟨_,rfl⟩
theorem zk:∀{us:aaj} {vs:List V},us.map A6=vs.map some->Vals vs us
 |[],[],_=>.nil
 |[],_::_,h=>by cases h
 |_::_,[],h=>by cases h
 |u::us,v::vs,h=>by
  rw[XM,XM] at h;injection h with h1 h2;exact .cons (B4 h1) (zk h2)
section
variable {P:Program}{w:World}{K:aaf}{mg:aah}{h:Heap}{x m qual:Str}{st:Stmt}{f C:Addr}{u:Value}{v:V}{fs:List Str}
 {oc kV dc pm cd ct:Value}{od an:Option Addr}{sl:Array (Option Value)}
theorem dz (X:K.In h) (G:h.Ns mainGlobals mg) (e:PySem.W.nsIn K mainGlobals x=some none:=by k_is):mg x=none:=by
 obtain⟨o,es,ep,ho,hd,_,hf⟩:=G;rw[←hf x];have z:=tE e;unfold C1 at z;cases q:K.lookup mainGlobals with
 |none =>
  unfold PySem.W.nsIn at e;rw[q] at e;cases e
 |some o' =>
  have:=X _ _ q;rw[ho] at this;cases this;obtain⟨c,d,dt,sl⟩:=o;cases hd;rw[q] at z;exact z
theorem gv (X:K.In h)(G:h.Ns mainGlobals mg)(e:PySem.W.nsIn K mainGlobals x=some (some u):=by k_is)(r:A6 u=some v:=by first|rfl|decide +kernel):Gv mg x v:=⟨u,PySem.W.mg_of X G e,B4 r⟩
theorem a6 (X:K.In h)(G:h.Ns mainGlobals mg)(a:PySem.W.nsIn K mainGlobals x=some (some (.ref f)):=by k_is)(l:K.lookup f=some ⟨oc,od,.func (PySem.W.fnOf x x (cX st) (b7 st) (aw st) .none kV dc pm an cd ct),sl⟩:=by k_is)
  (c:PySem.W.codeIn K cd x=true:=by k_is)(k:PySem.W.keepIn K (.ref f)=true:=by k_is):gZ K mg x st:=⟨f,_,PySem.W.mg_of X G a,ur l c k⟩
theorem u9 (a:PySem.W.findIn K (.ref C) m=some (some (.ref f)):=by k_is)(i:PySem.W.isFn K (.ref f)=true:=by k_is)(l:K.lookup f=some ⟨oc,od,.func (PySem.W.fnOf m qual (cX st) (b7 st) (aw st) .none kV dc pm an cd ct),sl⟩:=by k_is)
  (c:PySem.W.codeIn K cd qual=true:=by k_is)(k:PySem.W.keepIn K (.ref f)=true:=by k_is):Dm K C m qual st:=⟨f,_,⟨a,i,k⟩,ur l c k⟩
theorem zg (mk:PySem.W.makesIn K C=true:=by k_is)(kc:PySem.W.keepIn K (.ref C)=true:=by k_is)(a:PySem.W.findIn K (.ref C) "__init__"=some (some (.ref f)):=by k_is)(i:PySem.W.isFn K (.ref f)=true:=by k_is)(l:K.lookup f=some ⟨oc,od,.func (PySem.W.fnOf "__init__" qual (cX st) (b7 st) (aw st) .none kV dc pm an cd ct),sl⟩:=by k_is)
  (c:PySem.W.codeIn K cd qual=true:=by k_is)(k:PySem.W.keepIn K (.ref f)=true:=by k_is):Di K C qual st:=⟨f,_,⟨mk,a,i,kc⟩,ur l c k⟩
theorem IY (l:K.lookup f=some ⟨oc,od,.func (PySem.W.fnOf "__init__" qual (cX st) (b7 st) (aw st) .none kV dc pm an cd ct),sl⟩:=by k_is)
  (c:PySem.W.codeIn K cd qual=true:=by k_is)(k:PySem.W.keepIn K (.ref f)=true:=by k_is):∃fd,di K "__init__" qual st f fd:=⟨_,ur l c k⟩
def nI (K:aaf)(C:Addr)(fs:List Str):Prop:=∀f∈fs,g_ K C f
theorem nI.nil:nI K C []:=λ_ h=>by cases h
theorem nI.cons {g:Str}(n:PySem.W.findIn K (.ref C) g=some none)(r:nI K C fs):nI K C (g::fs):=λf h=>by
 cases h with
 |head=>exact n
 |tail _ h=>exact r f h
theorem yP (X:K.In h)(G:h.Ns mainGlobals mg)(a:PySem.W.nsIn K mainGlobals x=some (some (.ref C)):=by k_is)(pg:PySem.W.plainGet K C Str.empty=true:=by k_is)(hd:PySem.W.hasDictIn K C=true:=by k_is)(po:PySem.W.plainOver K C=true:=by k_is)
  (sa:PySem.W.findIn K (.ref C) "__setattr__"=some (some (.builtin "object.__setattr__")):=by k_is)(no:nI K C fs:=by (repeat refine Bw.nI.cons (by k_is) ?_);exact Bw.nI.nil):CK K mg x fs C:=⟨⟨pg,hd,po,sa⟩,no,PySem.W.mg_of X G a⟩
theorem e_ {a:Addr}{LD:Array Value}{n:Nat}{xs:List V}(l:K.lookup a=some ⟨.type "tuple",od,.seq LD n,sl⟩:=by k_is)(hs:LD.size<=sizeLine:=by decide)(r:LD.toList.map A6=xs.map some:=by first|rfl|decide +kernel):∀H:Hp,bZ K H a xs:=λ_ =>
 .inr ⟨_,LD,n,l,rfl,rfl,hs,zk r⟩
theorem DH {a:Addr}{o:Obj}(l:K.lookup a=some o:=by k_is)(c:o.cls=.type "tuple":=by rfl)(d:o.dict=none:=by rfl):∃o,K.lookup a=some o/\o.cls=.type "tuple"/\o.dict=none:=⟨o,l,c,d⟩
theorem key_is {s:String}{t:Tok}:oR (.inr (Bw.st (Bw.cd s))) (.str (Str.ofString s) t)=true:=by rw[←kW];exact sG _ _
theorem yU {s:String}:PyData.keyHash w.params (Str.ofString s)=IP w (.inr (Bw.st (Bw.cd s))):=by rw[←kW];rfl
theorem AE {dS d1 d2 d3 d4:Addr}{t1 t2 t3 t4:Tok}{ep:Nat}(l:K.lookup dS=some ⟨.type "dict",none,.dict #[⟨PyData.keyHash w.params (Str.ofString "place"),.str (Str.ofString "place") t1,.ref d1⟩,⟨PyData.keyHash w.params (Str.ofString "order"),.str (Str.ofString "order") t2,.ref d2⟩,
      ⟨PyData.keyHash w.params (Str.ofString "any"),.str (Str.ofString "any") t3,.ref d3⟩,⟨PyData.keyHash w.params (Str.ofString "legs"),.str (Str.ofString "legs") t4,.ref d4⟩] ep,#[]⟩:=by k_is) (ne:(dS==sysModules)=false:=by decide)
  (h1:∀H,bZ K H d1 [.int 1,.int 4]:=by exact Bw.e_) (h2:∀H,bZ K H d2 [.int 2,.int 4]:=by exact Bw.e_) (h3:∀H,bZ K H d3 [.int 2,.int 3]:=by exact Bw.e_) (h4:∀H,bZ K H d4 [.int 2,.int 6]:=by exact Bw.e_) :
  ∃ts:Tote.Kind->Addr,yS P w K dS [(.inr (Bw.st (Bw.cd "place")),.ref (ts .place)),(.inr (Bw.st (Bw.cd "order")),.ref (ts .order)),(.inr (Bw.st (Bw.cd "any")),.ref (ts .any)),(.inr (Bw.st (Bw.cd "legs")),.ref (ts .legs))]/\∀(k:Tote.Kind) (H:Hp),bZ K H (ts k) [.int (sizeOf k).1,.int (sizeOf k).2]:=by
 have nd:([.inr (Bw.st (Bw.cd "place")),.inr (Bw.st (Bw.cd "order")),.inr (Bw.st (Bw.cd "any")),.inr (Bw.st (Bw.cd "legs"))]:List Key).Nodup:=by decide +kernel
 refine⟨fun|.place=>d1|.order=>d2|.any=>d3|.legs=>d4,⟨λh X=>⟨_,_,ep,X _ _ l,⟨rfl,rfl,rfl⟩,rfl,λe he=>?_,.cons (key_is (t:=t1)) rfl (.cons (key_is (t:=t2)) rfl (.cons (key_is (t:=t3)) rfl (.cons (key_is (t:=t4)) rfl .nil))),nd⟩,ne⟩,λk=>?_⟩
 · simp only[List.mem_toArray,Xx,Zg,or_false] at he;rcases he with rfl|rfl|rfl|rfl
   · exact⟨.inr (Bw.st (Bw.cd "place")),key_is (s:="place") (t:=t1),yU (w:=w) (s:="place")⟩
   · exact⟨.inr (Bw.st (Bw.cd "order")),key_is (s:="order") (t:=t2),yU (w:=w) (s:="order")⟩
   · exact⟨.inr (Bw.st (Bw.cd "any")),key_is (s:="any") (t:=t3),yU (w:=w) (s:="any")⟩
   · exact⟨.inr (Bw.st (Bw.cd "legs")),key_is (s:="legs") (t:=t4),yU (w:=w) (s:="legs")⟩
 · cases k
   · exact h1
   · exact h2
   · exact h3
   · exact h4
theorem Cu {aF t0 t1 t2 t3 t4 t5 t6:Addr}(l:∀H,bZ K H aF [.ref t0,.ref t1,.ref t2,.ref t3,.ref t4,.ref t5,.ref t6]:=by exact Bw.e_)(h0:∀H,bZ K H t0 [.int 0,.str (Str.ofString "pool")]:=by exact Bw.e_)(h1:∀H,bZ K H t1 [.int 4,.str (Str.ofString "from")]:=by exact Bw.e_)
  (h2:∀H,bZ K H t2 [.int 6,.str (Str.ofString "take")]:=by exact Bw.e_)(h3:∀H,bZ K H t3 [.int 8,.str (Str.ofString "break")]:=by exact Bw.e_)(h4:∀H,bZ K H t4 [.int 10,.str (Str.ofString "least")]:=by exact Bw.e_)(h5:∀H,bZ K H t5 [.int 12,.str (Str.ofString "unit")]:=by exact Bw.e_)(h6:∀H,bZ K H t6 [.int 14,.str (Str.ofString "none")]:=by exact Bw.e_) :
  ∃ts:List Addr,(∀H,bZ K H aF (ts.map V.ref))/\Paired (λt (p:Nat×W)=>∀H,bZ K H t [.int (p.1:Nat),.str (Bw.st p.2)]) ts fh:=by
 rw[kW] at h0 h1 h2 h3 h4 h5 h6;exact⟨[t0,t1,t2,t3,t4,t5,t6],l,.cons h0 (.cons h1 (.cons h2 (.cons h3 (.cons h4 (.cons h5 (.cons h6 .nil))))))⟩
theorem ER {N:Addr}{es:Array DictEntry}{ep:Nat}(l:K.lookup N=some ⟨oc,od,.dict es ep,sl⟩:=by k_is)(e:(es.toList.all λe=>match e.key with
  |.str _ _=>true
  |_=>false)=true:=by rfl):il K N=true:=by
 unfold il;rw[l];exact e
theorem Gj {N fI:Addr}{nm q:Str}{bs:aaj}{sn:List Str}{sub:aaj}{ab:Bool}{col:Option Bool}{dd:Option Addr}{k0 k1 k2 k3 k5:Option Value}(l:K.lookup C=some (excClassObj nm q C N bs BwX.sh true sn sub ab col dd k0 k1 k2 k3 k5 "Exception.__new__"):=by k_is)
  (keys:il K N=true:=by exact Bw.ER)(init:PySem.W.nsIn K N "__init__"=some (some (.ref fI)):=by k_is)(fn:PySem.W.isFn K (.ref fI)=true:=by k_is)(kp:PySem.W.keepIn K (.ref C)=true:=by k_is)(AV:PySem.W.nsIn K N "__setattr__"=some none:=by k_is)(KS:PySem.W.nsIn K N "kind"=some none:=by k_is)(K1:PySem.W.nsIn K N "place"=some none:=by k_is)
  (sa:PySem.W.findIn K (.ref C) "__setattr__"=some (some (.builtin "object.__setattr__")):=by k_is)(ga:PySem.W.findIn K (.ref C) "__getattribute__"=some (some (.builtin "BaseException.__getattribute__")):=by k_is)(gt:PySem.W.findIn K (.ref C) "__getattr__"=some none:=by k_is)(fK:PySem.W.findIn K (.ref C) "kind"=some none:=by k_is)(fP:PySem.W.findIn K (.ref C) "place"=some none:=by k_is):pW K C N fI :=
 ⟨⟨_,l,nm,q,bs,sn,sub,ab,col,dd,k0,k1,k2,k3,k5,rfl⟩,keys,init,fn,kp,AV,KS,K1,sa,ga,gt,fK,fP⟩
end
theorem vF {l:List Int}(h:∀i∈l,0<=i/\i<=255):nV (ia (BetNeutral.text l))=l.map V.int:=by
 unfold nV ia BetNeutral.text BetNeutral.nats;rw[XX,XX,XX];refine Yn λi hi=>?_;obtain⟨h1,h2⟩:=h i hi;show V.int (((UInt8.ofNat i.toNat).toNat:Nat):Int)=V.int i;have e:(UInt8.ofNat i.toNat).toNat=i.toNat:=by
  rw[UInt8.toNat_ofNat'];omega
 rw[e];congr 1;omega
theorem u7 {l:List Int}(h:l.all (PySem.W.Codec.inInt (Int.ofNat 0) (Int.ofNat 255))=true):∀i∈l,0<=i/\i<=255:=λi hi=>by
 have z:=X0.mp h i hi;unfold PySem.W.Codec.inInt at z;simp only[XA,XB] at z;exact⟨z.1,z.2⟩
section
variable {K:aaf}{H:Hp}{xs:List V}{a b:List Int}
theorem Kk {lo hi Sd Se:Nat} (hx:iy K H xs (PySem.W.Codec.encAll [.list lo hi (.int (Int.ofNat 0) (Int.ofNat 255)),.list Sd Se (.int (Int.ofNat 0) (Int.ofNat 255))] ((a,b,()):List Int×List Int×Unit)))
  (Od:PySem.W.Codec.withinAll [.list lo hi (.int (Int.ofNat 0) (Int.ofNat 255)),.list Sd Se (.int (Int.ofNat 0) (Int.ofNat 255))] ((a,b,()):List Int×List Int×Unit)=true) :
  ∃c d,xs=[.ref c,.ref d]/\aP K H c (nV (ia (BetNeutral.text a)))/\aP K H d (nV (ia (BetNeutral.text b))):=by
 have w:((PySem.W.Codec.inLen lo hi a&&a.all (PySem.W.Codec.inInt (Int.ofNat 0) (Int.ofNat 255)))&&((PySem.W.Codec.inLen Sd Se b&&b.all (PySem.W.Codec.inInt (Int.ofNat 0) (Int.ofNat 255)))&&true))=true:=Od;simp only[XA] at w;cases hx with
 |cons h1 h2 =>
  cases h2 with
  |cons h2 h3 =>
   cases h3;cases h1 with
   |lst hs ha =>
    cases h2 with
    |lst NJ Pk =>
     have e:=L2.tH a _ ha;have e2:=L2.tH b _ Pk;subst e e2;exact⟨_,_,rfl,by rw[vF (u7 w.1.2)];exact hs,by rw[vF (u7 w.2.1.2)];exact NJ⟩
end
def Ki (P:Program)(w:World)(mg:aah){K:aaf}{h:Heap}(_:K.In h):Prop:=∃dS aF CP CW CB CF nF fI aW CR,C_ P w K mg dS aF CP CW CB CF nF fI aW CR
def KN (mg:aah){K:aaf}{h:Heap}(_:K.In h)(x:Str)(st:Stmt):Prop:=gZ K mg x st
section
variable {P:Program}{w:World}{K:aaf}{mg:aah}{fa:Addr}{x:Str}{st:Stmt}{ps:List Str}{k:Nat}{sp:Sp}
theorem HL (D:gZ K mg x st) (OW:mg x=some (.ref fa))
  (hb:∀(kV doc pm:Value) (an:Option Addr) (LF ct:Value) (us:aaj),us.length=ps.length->bindArgs (PySem.W.fnOf x x (cX st) (b7 st) (aw st) .none kV doc pm an LF ct) ⟨us,[]⟩=pure (ps.zip us))
  (ok:∀(base:Heap) (f:Addr) (fd:FuncData),di K x x st f fd->a8 P w K mg base bC k f fd ps sp) :
  ∃fd:FuncData,(∀(s:Shared) (us:aaj),us.length=ps.length->BindsTo s fd ⟨us,[]⟩ (ps.zip us))/\∀base:Heap,K.In base->base.Ns mainGlobals mg->a8 P w K mg base bC k fa fd ps sp:=by
 obtain⟨f,fd,hm,F⟩:=D;rw[OW] at hm;cases hm;obtain⟨oc,od,kV,doc,pm,an,LF,ct,Mx,rfl,lk,Mf⟩:=id F.ex;exact⟨_,λs us hu=>.of_eq (hb _ _ _ _ _ _ us hu),λbase _ _=>ok base _ _ F⟩
end
section
variable {P:Program}{w:World}{K:aaf}{mg:aah}{base:Heap}
def Iv (K:aaf) (g:bO->aK->List Int):Sp:=λvs H Q _=>∃(c d:Addr) (t b:Bytes),vs=[.ref c,.ref d]/\aP K H c (nV (ia t))/\aP K H d (nV (ia b))/\∀zs,Rs t b g zs->∀H' L,H' L=some (.lst (zs.map V.int))->Q (.ref L) H'
theorem ub:aG ["card","bet","refusal","found"] ["card","bet"] (aw ju):=fs
theorem Bx {CB CP CR:Addr}(TB:CK K mg "Bet" sq CB){k:Nat}(FL:Fn P w K mg base bC k "look_at" ["card","bet"] (xy K CB CP CR)){f:Addr}{fd:FuncData}(F:di K "many" "many" ju f fd):a8 P w K mg base bC (k+1) f fd ["card","bet"] (Iv K CQ):=by
 refine F.oa ub λLF A outer s H vs Q E hr h=>?_;obtain⟨c,d,t,b,rfl,hC,hB,q⟩:=h;refine⟨_,af (Cp (aR FL hr bb (aa (pv 0) (aa (pv 1) ah))) (k_ rfl (b9 (bo 2 ub.nd) (b9 (bo 3 ub.nd) i9))))
  (af (aO (aC tJ (pv 3) cC (aJ _)) (ak (az (cN fw (pv 2) fk (cY ax)))) aB)
  (ak (az (bV (aa ax (aa (aV (pv 3) rfl) ah)))))),?_⟩
 refine⟨_,rfl,_,rfl,c,d,t,b,rfl,hC,hB,λzs hz H' T L hT hL=>?_,λy hy H' T L x p hT Sb hp=>?_⟩
 · refine⟨T,_,rfl,bZ.of hT,rfl,_,_,rfl,_,_,rfl,rfl,?_⟩;refine aS (aI (tX (ag rfl))) (λh=>?_) (λh=>absurd h (by decide));refine⟨_,rfl,_,rfl,L,_,rfl,aP.of hL,λp hp=>?_⟩;rw[show ((1:Int))=((1:Nat):Int) from rfl,Dv];exact q _ (.inl ⟨zs,hz,rfl⟩) _ p ae
 · refine⟨T,_,rfl,bZ.of hT,rfl,_,_,rfl,_,_,rfl,rfl,?_⟩;refine aS (aI (tX (ag rfl))) (λh=>absurd (XQ h) (by intro z;cases z)) (λh=>?_);obtain⟨ps,Nc,N4⟩:=hp;obtain⟨dx,pa,sa,ra,h1,h2,h3,_,h4,m⟩:=Sb;refine (bf (ag rfl) h1 TB.cl (TB.no _ (by simp)) ni) _ ⟨by show 2<=sizeLine;decide,λL' hL'=>?_⟩;exact q _ (.inr ⟨y,ps,p,hy,Nc,N4,m,rfl⟩) _ L' ae
end
end Bw
end
set_option Elab.async false
set_option linter.all false
set_option maxRecDepth 100000
open PySem PySem.W PyProof.Rows
def gL0:OpenLaw:=⟨PySem.Challenge.pw_betwords_s03_many,"",[],0,none,none,false⟩
set_option maxHeartbeats 0 in
theorem PySem.Challenge.cw_betwords_s03_many_holds : PySem.Challenge.rw_betwords_s03_many.Holds := by
 refine holds_os (r:=PySem.Challenge.rw_betwords_s03_many) (q:=Bw.qV) (loose:=Bw.lV) (Xt:=Bw.xV) (XP:=XL Bw.qV []) (Yf:=(PySem.W.kHook Bw.om Bw.Ay Bw.Co).obs) (Ya:=(PySem.W.kHook Bw.om Bw.Ay Bw.Co).val) (YP:=(PySem.W.kHook Bw.om Bw.Ay Bw.Co).says) (d:=Bw.dV) (kwd:=[]) (N:=5200) Bw.hl (PySem.W.kHook Bw.om Bw.Ay Bw.Co).of (PySem.W.kHook Bw.om Bw.Ay Bw.Co).keeps (λs e=>xl_of s (Z1.mp e).1) XL.keeps (by kernel_rfl) (by kernel_rfl) (by kernel_rfl) (λs e=>recFacts_of (Z1.mp e).2) os_shapes (by decide +kernel) (by decide +kernel) ⟨rfl,rfl,rfl,rfl,rfl,by decide +kernel⟩ ⟨[.list [],.list []],by decide +kernel,by decide +kernel⟩ ?_
 have:(gL0,Bw.om)=(gL0,Bw.om):=by k_fill;rfl
 refine L2.xP (r:=PySem.Challenge.rw_betwords_s03_many) (k:=11) (CX:=L2.bC) (ps:=["card","bet"]) (sp:=(λK=>Bw.Iv K Bw.CQ)) (by decide +kernel) rfl rfl ⟨rfl,by decide,by decide⟩ (λw h Y=>kIn_of Y) ?F ?S (λ_ _ _ _ z=>z)
 case F =>
  intro w mg fa h Y KX G OW;have gw:Bw.GW mg:=⟨Bw.gv KX G,Bw.gv KX G,Bw.gv KX G,Bw.gv KX G,Bw.dz KX G,Bw.dz KX G,Bw.dz KX G⟩;have T:Bw.Ki PySem.Challenge.rw_betwords_s03_many.prog w mg KX:=⟨46,58,75,324,282,255,254,252,238,209,⟨⟨⟨gw,Bw.a6 KX G,Bw.a6 KX G,Bw.a6 KX G,Bw.a6 KX G⟩,⟨Bw.gv KX G,Bw.gv KX G,Bw.gv KX G,Bw.gv KX G,Bw.gv KX G,Bw.gv KX G,Bw.gv KX G,Bw.AE,Bw.Cu,Bw.dz KX G⟩,Bw.yP KX G,Bw.zg,Bw.a6 KX G,Bw.a6 KX G,Bw.a6 KX G,Bw.a6 KX G,Bw.a6 KX G,Bw.a6 KX G,Bw.a6 KX G,Bw.a6 KX G⟩,
    ⟨gw,⟨Bw.gv KX G,Bw.gv KX G,Bw.gv KX G,Bw.gv KX G,Bw.gv KX G,Bw.gv KX G,Bw.gv KX G,Bw.gv KX G,Bw.gv KX G,Bw.gv KX G,Bw.gv KX G,Bw.gv KX G,Bw.gv KX G,Bw.gv KX G,Bw.gv KX G,Bw.e_,Bw.DH,Bw.dz KX G,Bw.dz KX G⟩,⟨Bw.dz KX G,Bw.dz KX G,Bw.dz KX G,Bw.dz KX G,Bw.dz KX G,Bw.gv KX G,Bw.dz KX G,Bw.dz KX G⟩,Bw.yP KX G,Bw.a6 KX G,Bw.a6 KX G,Bw.a6 KX G,Bw.a6 KX G,Bw.a6 KX G,Bw.a6 KX G,Bw.a6 KX G,Bw.a6 KX G,Bw.zg,Bw.u9,Bw.a6 KX G,Bw.a6 KX G,Bw.a6 KX G,Bw.a6 KX G,Bw.a6 KX G⟩,
    ⟨Bw.gv KX G,Bw.gv KX G,Bw.gv KX G,Bw.gv KX G,Bw.gv KX G⟩,Bw.yP KX G,Bw.yP KX G,Bw.Gj,mg_of KX G (by k_is),Bw.IY,Bw.zg,Bw.u9,Bw.zg,Bw.u9,Bw.u9,Bw.u9,Bw.a6 KX G,Bw.a6 KX G,Bw.a6 KX G,Bw.a6 KX G,Bw.a6 KX G,Bw.a6 KX G,Bw.a6 KX G,Bw.a6 KX G,Bw.a6 KX G,Bw.a6 KX G,Bw.a6 KX G,Bw.a6 KX G,Bw.a6 KX G⟩⟩
  have J:Bw.KN mg KX "many" Bw.ju:=Bw.a6 KX G;obtain⟨dS,aF,CP,CW,CB,CF,nF,fI,aW,CR,T⟩:=T;exact Bw.HL J OW (λ_ _ _ _ _ _=>Bw.JN λ_ _=>rfl) (λbase f fd F=>Bw.Bx T.TB T.Jk F)
 case S =>
  intro K H xs a hO Od hask hx;obtain⟨c,d,rfl,hc,hd⟩:=Bw.Kk (a:=a.1) (b:=a.2.1) hx Od;refine⟨c,d,_,_,rfl,hc,hd,λzs hz H' L hL=>?_⟩;rw[Bw.AR hz] at hL;exact .lst (L2.aP.of hL) (L2.yE _)
